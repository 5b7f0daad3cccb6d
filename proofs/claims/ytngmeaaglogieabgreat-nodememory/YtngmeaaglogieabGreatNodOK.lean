/- What the seven functions of a computer are held to, whoever wrote them; rows of numbers made. -/
import Derived.Test.YtngmeaaglogieabGreatNear48
import Derived.Test.YtngmeaaglogieabGreatNodUpd
namespace Go.Proofs.YtngmeaaglogieabGreat
open Go.RowKit

/-- All its numbers have 64 bits. -/
structure NdOK (n : Nd) : Prop where
  id : R64 n.id
  fr : R64 n.fr
  tn : n.tn.Ok
  ax : ∀ a, (n.ax a).Ok
  rM : ∀ i, R64 (n.rl.M i)
  rJ : ∀ i, R64 (n.rl.J i)
  di : ∀ s a, R64 (n.di s a)
  he : ∀ s, R64 (n.he s)
  ag : ∀ s a, R64 (n.ag s a)
  us : ∀ a, R64 (n.us a)
  dg : R64 n.dg
  vX : R64 n.vX
  vA : n.vA.length ≤ 140737488351232
/-- A computer that is handed in; one that is handed back. -/
def AgRd (w : World) (n : Nd) (ao : Option Addr) (c : Nat) : Prop := Sr w ao n.vA.length c (tF (bA n))
def AgNew (B : Nat) (w : World) (n : Nd) (ao : Option Addr) (c : Nat) : Prop := w.ownsRow B 4 1 (.slice ao n.vA.length c) n.vA.length (rowV (tF (bA n)) n.vA.length)
/-- A message as a value; its numbers handed back. -/
def lsV (m : Ms) (v : Value) : Value := agV (msF m.K m.F m.R v) 0 4
def VaNew (B : Nat) (w : World) (m : Ms) (ao : Option Addr) (c : Nat) : Prop := w.ownsRow B 3 1 (.slice ao m.L.length c) m.L.length (rowV (iF (gL m.L)) m.L.length)
/-- Sense; the phases that hear. -/
def SnOK (fn : Nat) : Prop := ∀ (n : Nd) (ao : Option Addr) (c : Nat) (frame : Int) (rd : Nat → Int) (w : World), NdOK n → AgRd w n ao c → R64 frame → (∀ a, R64 (rd a)) →
  Calls Tryz.prog fn #[ndV n (.slice ao n.vA.length c), .int .i64 frame, agV (fun a => iV (rd a)) 0 3] w fun e w' => ∃ a' c' a2 c2, e = .returned (.tuple #[ndV (senN n frame rd) (.slice a' n.vA.length c'), lsV (senM n frame rd) (.slice a2 (senM n frame rd).L.length c2)]) ∧ AgNew w.heap.size w' n a' c' ∧ VaNew w.heap.size w' (senM n frame rd) a2 c2 ∧ Below w.heap.size w w'
def PhOK (N : Nd → List Ms → Nd) (M : Nd → List Ms → Ms) (fn : Nat) : Prop := ∀ (n : Nd) (ao : Option Addr) (c : Nat) (mo : Option Addr) (mc : Nat) (L : List Lm) (w : World), NdOK n → AgRd w n ao c → MRd w mo L → L.length ≤ 140737488351232 → L.length ≤ mc → (∀ m, m ∈ L → ∀ i, R64 (gL m.m.L i)) →
  Calls Tryz.prog fn #[ndV n (.slice ao n.vA.length c), .slice mo L.length mc] w fun e w' => ∃ a' c' a2 c2, e = .returned (.tuple #[ndV (N n (L.map Lm.m)) (.slice a' (N n (L.map Lm.m)).vA.length c'), lsV (M n (L.map Lm.m)) (.slice a2 (M n (L.map Lm.m)).L.length c2)]) ∧ AgNew w.heap.size w' (N n (L.map Lm.m)) a' c' ∧ VaNew w.heap.size w' (M n (L.map Lm.m)) a2 c2 ∧ Below w.heap.size w w'

theorem zero43 (w : World) : (zeroValue 32).run Tryz.prog w = .ok (agV (fun _ => iV 0) 0 12) w := by kernel_rfl
section
variable {f : Operand → Value} {o : Oper}
theorem run_bld0 (ho : o.op = .build 41 #[]) (w : World) : (execOp f o).run Tryz.prog w = .ok (.value (agV (msF 0 0 0 (.slice none 0 0)) 0 4)) w := by
  unfold execOp
  rw [ho]
  go_simp
  rfl
theorem run_bldM (a b c d : Operand) (ho : o.op = .build 41 #[(0, a), (1, b), (2, c), (3, d)]) {K F R : Int} {ao : Option Addr} {n q : Nat} (h0 : f a = .int .i64 K) (h1 : f b = .int .i64 F) (h2 : f c = .int .i64 R) (h3 : f d = .slice ao n q) (w : World) :
    (execOp f o).run Tryz.prog w = .ok (.value (agV (msF K F R (.slice ao n q)) 0 4)) w := by
  unfold execOp
  rw [ho]
  go_simp
  rfl
theorem run_bldM3 (a b c : Operand) (ho : o.op = .build 41 #[(0, a), (1, b), (2, c)]) {K F R : Int} (h0 : f a = .int .i64 K) (h1 : f b = .int .i64 F) (h2 : f c = .int .i64 R) (w : World) :
    (execOp f o).run Tryz.prog w = .ok (.value (agV (msF K F R (.slice none 0 0)) 0 4)) w := by
  unfold execOp
  rw [ho]
  go_simp
  rfl
theorem run_bld4 (ho : o.op = .build 28 #[]) (w : World) : (execOp f o).run Tryz.prog w = .ok (.value (agV (fun _ => iV 0) 0 4)) w := by
  unfold execOp
  rw [ho]
  go_simp
  rfl
theorem run_bld3 (a b c : Operand) (ho : o.op = .build 31 #[(0, a), (1, b), (2, c)]) {g : Nat → Int} (h0 : f a = .int .i64 (g 0)) (h1 : f b = .int .i64 (g 1)) (h2 : f c = .int .i64 (g 2)) (w : World) : (execOp f o).run Tryz.prog w = .ok (.value (agV (fun i => iV (g i)) 0 3)) w := by
  unfold execOp
  rw [ho]
  go_simp
  rfl
end
/-- A row of three numbers; of one. -/
theorem wp_row3 (w : World) {o : Oper} {a : Act} {K : Act → World → Prop} {Q : Exit → Act → World → Prop} (x y z : Operand) (ho : o.op = .buildSlice 39 3 #[(0, x), (1, y), (2, z)]) {g : Nat → Int} (hx : a.eval x = .int .i64 (g 0)) (hy : a.eval y = .int .i64 (g 1)) (hz : a.eval z = .int .i64 (g 2))
    (h : ∀ w', Vh 3 w' w.heap.size 3 3 (fun i => iV (g i)) → Below w.heap.size w w' → w'.heap.size = w.heap.size + 1 → K (a.put o.dst (.slice (some ⟨w.heap.size, 0, none⟩) 3 3)) w') : WpI Tryz.prog o a w K Q := by
  have hh := h (w.alloc (.cells #[.int .i64 (g 0), .int .i64 (g 1), .int .i64 (g 2)] 3)) (Vh.of_row (fun i => iV (g i)) 3 (by decide) (by show (w.heap.push _)[w.heap.size]? = _; rw [Array.getElem?_push_size]; rfl)) (al_below _ _) (al_size _ _)
  have e : (execOp a.eval o).run Tryz.prog w = .ok (.value (.slice (some ⟨w.heap.size, 0, none⟩) 3 3)) (w.alloc (.cells #[.int .i64 (g 0), .int .i64 (g 1), .int .i64 (g 2)] 3)) := by
    generalize a.eval = f at hx hy hz
    unfold execOp
    rw [ho]
    simp only [List.map_toArray, List.map_cons, List.map_nil]
    rw [hx, hy, hz]
    go_simp
  refine ⟨?_⟩
  unfold Oper.wp
  rw [e]
  exact hh
theorem wp_row1 (w : World) {o : Oper} {a : Act} {K : Act → World → Prop} {Q : Exit → Act → World → Prop} (x : Operand) (ho : o.op = .buildSlice 39 1 #[(0, x)]) {g : Int} (hx : a.eval x = .int .i64 g)
    (h : ∀ w', Vh 3 w' w.heap.size 1 1 (fun _ => iV g) → Below w.heap.size w w' → w'.heap.size = w.heap.size + 1 → K (a.put o.dst (.slice (some ⟨w.heap.size, 0, none⟩) 1 1)) w') : WpI Tryz.prog o a w K Q := by
  have hh := h (w.alloc (.cells #[.int .i64 g] 3)) (Vh.of_row (fun _ => iV g) 1 (by decide) (by show (w.heap.push _)[w.heap.size]? = _; rw [Array.getElem?_push_size]; rfl)) (al_below _ _) (al_size _ _)
  have e : (execOp a.eval o).run Tryz.prog w = .ok (.value (.slice (some ⟨w.heap.size, 0, none⟩) 1 1)) (w.alloc (.cells #[.int .i64 g] 3)) := by
    generalize a.eval = f at hx
    unfold execOp
    rw [ho]
    simp only [List.map_toArray, List.map_cons, List.map_nil]
    rw [hx]
    go_simp
  refine ⟨?_⟩
  unfold Oper.wp
  rw [e]
  exact hh
theorem msF_one (K F R : Int) (ao : Option Addr) (n c : Nat) : ∀ j, j < 4 → (msF K F R (.slice ao n c) j).oneCell' = true := by
  intro j _
  unfold msF iV
  repeat' split
  all_goals rfl
theorem noN_in {x : Int} (h : noN x = false) : 0 ≤ x ∧ x ≤ 3 := by
  unfold noN at h
  simp at h
  omega

end Go.Proofs.YtngmeaaglogieabGreat
