/- Operations on parcels and buses, their frame a variable. -/
import Derived.Test.YthjeedlhlkggkabBusMem
import Derived.Test.YthjeedlhlkggkabStrByte
namespace Go.Proofs.Ythjeedlhlkggkab
open Go.RowKit

/-- A parcel as a value. -/
def pcV (p : Pc) (v : Value) : Value := .agg #[.int .i64 p.fr, .int .i64 p.to, .int .i64 p.du, .int .i64 p.se, v]
theorem run_ixP {f : Operand → Value} {o : Oper} (x y : Operand) (ho : o.op = .indexAddr 23 x y) {b off n cap i : Nat} (hx : f x = .slice (some ⟨b, off, none⟩) n cap) (hy : f y = .int .i64 (i : Int)) (hi : i < n) (w : World) :
    (execOp f o).run Try.prog w = .ok (.value (.pointer (some ⟨b, off + i * 5, none⟩))) w := by
  have hi2 : (i : Int) < n := by omega
  unfold execOp
  rw [ho]
  dsimp only
  rw [hx, hy]
  go_simp
theorem run_fldP {f : Operand → Value} {o : Oper} (x : Operand) (k : Nat) (ho : o.op = .fieldAddr 32 x k) {b off : Nat} (hx : f x = .pointer (some ⟨b, off, none⟩)) (hk : k < 5) (w : World) :
    (execOp f o).run Try.prog w = .ok (.value (.pointer (some ⟨b, off + k, none⟩))) w := by
  have : k = 0 ∨ k = 1 ∨ k = 2 ∨ k = 3 ∨ k = 4 := by omega
  unfold execOp
  rw [ho]
  dsimp only
  rw [hx]
  rcases this with rfl | rfl | rfl | rfl | rfl <;> go_simp
theorem run_fldU {f : Operand → Value} {o : Oper} (x : Operand) (k : Nat) (ho : o.op = .fieldAddr 25 x k) {b : Nat} (hx : f x = .pointer (some ⟨b, 0, none⟩)) (hk : k < 3) (w : World) :
    (execOp f o).run Try.prog w = .ok (.value (.pointer (some ⟨b, k, none⟩))) w := by
  have : k = 0 ∨ k = 1 ∨ k = 2 := by omega
  unfold execOp
  rw [ho]
  dsimp only
  rw [hx]
  rcases this with rfl | rfl | rfl <;> go_simp
theorem run_lodN {f : Operand → Value} {o : Oper} (x : Operand) (ho : o.op = .load 3 x) {a : Addr} {v : Int} (hx : f x = .pointer (some a)) {w : World} (hc : w.cell? a = some (.int .i64 v)) :
    (execOp f o).run Try.prog w = .ok (.value (.int .i64 v)) w := by
  unfold execOp
  rw [ho]
  dsimp only
  rw [hx]
  go_simp
theorem run_lodQ {f : Operand → Value} {o : Oper} (x : Operand) (ho : o.op = .load 23 x) {a : Addr} {ao : Option Addr} {n c : Nat} (hx : f x = .pointer (some a)) {w : World} (hc : w.cell? a = some (.slice ao n c)) :
    (execOp f o).run Try.prog w = .ok (.value (.slice ao n c)) w := by
  unfold execOp
  rw [ho]
  dsimp only
  rw [hx]
  go_simp
theorem run_lodS {f : Operand → Value} {o : Oper} (x : Operand) (ho : o.op = .load 30 x) {a : Addr} {ao : Option Addr} {n c : Nat} (hx : f x = .pointer (some a)) {w : World} (hc : w.cell? a = some (.slice ao n c)) :
    (execOp f o).run Try.prog w = .ok (.value (.slice ao n c)) w := by
  unfold execOp
  rw [ho]
  dsimp only
  rw [hx]
  go_simp
theorem run_lodP {f : Operand → Value} {o : Oper} (x : Operand) (ho : o.op = .load 32 x) {b off : Nat} {p : Pc} {ao : Option Addr} {n c : Nat} (hx : f x = .pointer (some ⟨b, off, none⟩)) {w : World} (hc : PcAt w b off p (.slice ao n c)) :
    (execOp f o).run Try.prog w = .ok (.value (pcV p (.slice ao n c))) w := by
  obtain ⟨c0, c1, c2, c3, c4⟩ := hc
  unfold execOp
  rw [ho]
  dsimp only
  rw [hx]
  unfold pcV
  go_simp
def pc0 : Pc := ⟨0, 0, 0, 0, []⟩
theorem wp_allocP (w : World) {o : Oper} {a : Act} {K : Act → World → Prop} {Q : Exit → Act → World → Prop} (ho : o.op = .alloc 32)
    (h : ∀ w', PvAt w' w.heap.size pc0 (.slice none 0 0) → Below w.heap.size w w' → w'.heap.size = w.heap.size + 1 → K (a.put o.dst (.pointer (some ⟨w.heap.size, 0, none⟩))) w') : WpI Try.prog o a w K Q := by
  refine ⟨?_⟩
  have hh := h _ (PvAt.new w pc0 (.slice none 0 0)) (al_below _ _) (al_size _ _)
  unfold pc0 at hh
  dsimp only at hh
  unfold Oper.wp execOp
  rw [ho]
  go_simp
  exact hh
theorem PvAt.put {w : World} {b : Nat} {p : Pc} {r : Value} (h : PvAt w b p r) (q : Pc) (u : Value) : ∃ w', w' = ((((w.setCell ⟨b, 0, none⟩ (.int .i64 q.fr)).setCell ⟨b, 1, none⟩ (.int .i64 q.to)).setCell ⟨b, 2, none⟩ (.int .i64 q.du)).setCell ⟨b, 3, none⟩ (.int .i64 q.se)).setCell ⟨b, 4, none⟩ u ∧ PvAt w' b q u ∧ Kept b w w' ∧ w'.heap.size = w.heap.size := by
  refine ⟨_, rfl, ?_, ((((kept_set w b 0 _).trans (kept_set _ b 1 _) (Or.inl rfl)).trans (kept_set _ b 2 _) (Or.inl rfl)).trans (kept_set _ b 3 _) (Or.inl rfl)).trans (kept_set _ b 4 _) (Or.inl rfl), by simp⟩
  unfold PvAt at h ⊢
  have h1 := heap_setCell_same w b 0 _ _ (.int .i64 q.fr) h
  have h2 := heap_setCell_same _ b 1 _ _ (.int .i64 q.to) h1
  have h3 := heap_setCell_same _ b 2 _ _ (.int .i64 q.du) h2
  have h4 := heap_setCell_same _ b 3 _ _ (.int .i64 q.se) h3
  exact heap_setCell_same _ b 4 _ _ u h4
theorem wp_storeP (w : World) {o : Oper} {a : Act} {K : Act → World → Prop} {Q : Exit → Act → World → Prop} (x y : Operand) (ho : o.op = .store 32 x y) {b : Nat} {p q : Pc} {r : Value} {ao : Option Addr} {n c : Nat} (hx : a.eval x = .pointer (some ⟨b, 0, none⟩)) (hy : a.eval y = pcV q (.slice ao n c)) (hm : PvAt w b p r) (hd : o.dst = none)
    (h : ∀ w', PvAt w' b q (.slice ao n c) → Kept b w w' → w'.heap.size = w.heap.size → K a w') : WpI Try.prog o a w K Q := by
  refine ⟨?_⟩
  obtain ⟨c0, c1, c2, c3, c4⟩ := hm.pc
  have f0 := hm.free 0; have f1 := hm.free 1; have f2 := hm.free 2; have f3 := hm.free 3; have f4 := hm.free 4
  obtain ⟨w', e, m, kp, sz⟩ := hm.put q (.slice ao n c)
  have hh := h w' m kp sz
  rw [e] at hh
  clear hm m kp h e sz
  unfold pcV at hy
  unfold Oper.wp execOp
  rw [ho]
  dsimp only
  rw [hx, hy]
  go_simp
  exact hh
/-- One of the bus's own numbers or lists written. -/
theorem wp_storeN (w : World) {o : Oper} {a : Act} {K : Act → World → Prop} {Q : Exit → Act → World → Prop} (x y : Operand) (ho : o.op = .store 23 x y) {b : Nat} {N S : Int} {r : Value} {ao : Option Addr} {n c : Nat} (hx : a.eval x = .pointer (some ⟨b, 2, none⟩)) (hy : a.eval y = .slice ao n c) (hm : BuAt w b N S r) (hd : o.dst = none)
    (h : ∀ w', BuAt w' b N S (.slice ao n c) → Kept b w w' → w'.heap.size = w.heap.size → K a w') : WpI Try.prog o a w K Q := by
  refine ⟨?_⟩
  have c2 := hm.cell2; have f2 := hm.free 2
  obtain ⟨w', e, m, kp, sz⟩ := hm.put2 (.slice ao n c)
  have hh := h w' m kp sz
  rw [e] at hh
  clear hm m kp h e sz
  unfold Oper.wp execOp
  rw [ho]
  dsimp only
  rw [hx, hy]
  go_simp
  exact hh
theorem run_addP {f : Operand → Value} {o : Oper} (x y : Operand) (ho : o.op = .binOp .add 3 x y 3) {u v : Int} (hx : f x = .int .i64 u) (hy : f y = .int .i64 v) (h1 : -9223372036854775808 ≤ u + v) (h2 : u + v ≤ 9223372036854775807) (w : World) : (execOp f o).run Try.prog w = .ok (.value (.int .i64 (u + v))) w := by
  unfold execOp
  rw [ho]
  dsimp only
  rw [hx, hy]
  go_simp
  rw [IntKind.wrap_i64]
  omega
theorem run_buildPc {f : Operand → Value} {o : Oper} (x0 x1 x2 x3 x4 : Operand) (ho : o.op = .build 32 #[(0, x0), (1, x1), (2, x2), (3, x3), (4, x4)]) {fr to du se : Int} {ao : Option Addr} {n c : Nat} (ds : List Nat) (h0 : f x0 = .int .i64 fr) (h1 : f x1 = .int .i64 to) (h2 : f x2 = .int .i64 du) (h3 : f x3 = .int .i64 se) (h4 : f x4 = .slice ao n c) (w : World) :
    (execOp f o).run Try.prog w = .ok (.value (pcV ⟨fr, to, du, se, ds⟩ (.slice ao n c))) w := by
  unfold execOp
  rw [ho]
  unfold pcV
  go_simp
/-- A row of one parcel. -/
theorem wp_onePc (w : World) {o : Oper} {a : Act} {K : Act → World → Prop} {Q : Exit → Act → World → Prop} (x : Operand) (ho : o.op = .buildSlice 23 1 #[(0, x)]) {p : Pc} {ao : Option Addr} {n c : Nat} (hx : a.eval x = pcV p (.slice ao n c))
    (h : ∀ w', PvAt w' w.heap.size p (.slice ao n c) → Below w.heap.size w w' → w'.heap.size = w.heap.size + 1 → K (a.put o.dst (.slice (some ⟨w.heap.size, 0, none⟩) 1 1)) w') : WpI Try.prog o a w K Q := by
  have hh := h _ (PvAt.new w p (.slice ao n c)) (al_below _ _) (al_size _ _)
  have e : (execOp a.eval o).run Try.prog w = .ok (.value (.slice (some ⟨w.heap.size, 0, none⟩) 1 1)) (w.alloc (.cells #[.int .i64 p.fr, .int .i64 p.to, .int .i64 p.du, .int .i64 p.se, .slice ao n c] 32)) := by
    generalize a.eval = f at hx
    unfold execOp
    rw [ho]
    simp only [List.map_toArray, List.map_cons, List.map_nil]
    rw [hx]
    unfold pcV
    go_simp
  refine ⟨?_⟩
  unfold Oper.wp
  rw [e]
  exact hh
/-- A bus's variable stays while parcels are appended. -/
theorem BuAt.grown {w w' : World} {g B n : Nat} {N S : Int} {r v : Value} {xs : List Value} (h : BuAt w g N S r) (o : w.ownsRow B 32 5 v n xs) (k : w.grownBy w' v.ownBlock) : BuAt w' g N S r :=
  h.same (k.block g h.lt (fun e => by
    obtain ⟨cur, hc⟩ := ownS_type o e.symm
    unfold BuAt at h
    rw [hc] at h
    cases h))
theorem OwnQ.bus {w w' : World} {g B : Nat} {N S : Int} {r v : Value} {L : List Lp} (h : OwnQ w B v L) (m : BuAt w g N S r) (k : Kept g w w') : OwnQ w' B v L := h.keptT k m (by decide) (by decide)

end Go.Proofs.Ythjeedlhlkggkab
