/- Operations on four numbers and on grids, their frame a variable; what the reference's Vectors keeps. -/
import Derived.Test.YtomlpcbccfmejaaVecMem
namespace Go.Proofs.Ytomlpcbccfmejaa
open Go.RowKit

theorem run_at4 {f : Operand → Value} {o : Oper} (x y : Operand) (ho : o.op = .indexAddr 27 x y) {b off i : Nat} (hx : f x = .pointer (some ⟨b, off, none⟩)) (hy : f y = .int .i64 (i : Int)) (hi : i < 4) (w : World) :
    (execOp f o).run Try.prog w = .ok (.value (.pointer (some ⟨b, off + i, none⟩))) w := by
  have hi2 : (i : Int) < 4 := by omega
  unfold execOp
  rw [ho]
  dsimp only
  rw [hx, hy]
  go_simp
theorem run_at4z {f : Operand → Value} {o : Oper} (x y : Operand) (ho : o.op = .indexAddr 27 x y) {b i : Nat} (hx : f x = .pointer (some ⟨b, 0, none⟩)) (hy : f y = .int .i64 (i : Int)) (hi : i < 4) (w : World) :
    (execOp f o).run Try.prog w = .ok (.value (.pointer (some ⟨b, i, none⟩))) w := by
  rw [run_at4 x y ho hx hy hi w, Nat.zero_add]
theorem run_at16 {f : Operand → Value} {o : Oper} (x y : Operand) (ho : o.op = .indexAddr 28 x y) {b i : Nat} (hx : f x = .pointer (some ⟨b, 0, none⟩)) (hy : f y = .int .i64 (i : Int)) (hi : i < 4) (w : World) :
    (execOp f o).run Try.prog w = .ok (.value (.pointer (some ⟨b, i * 4, none⟩))) w := by
  have hi2 : (i : Int) < 4 := by omega
  unfold execOp
  rw [ho]
  dsimp only
  rw [hx, hy]
  go_simp
theorem run_ldI {f : Operand → Value} {o : Oper} (x : Operand) (ho : o.op = .load 3 x) {a : Addr} {v : Int} (hx : f x = .pointer (some a)) {w : World} (hc : w.cell? a = some (.int .i64 v)) :
    (execOp f o).run Try.prog w = .ok (.value (.int .i64 v)) w := by
  unfold execOp
  rw [ho]
  dsimp only
  rw [hx]
  go_simp
theorem run_build4 {f : Operand → Value} {o : Oper} (x y z u : Operand) (ho : o.op = .build 27 #[(0, x), (1, y), (2, z), (3, u)]) {a b c d : Int} (hx : f x = .int .i64 a) (hy : f y = .int .i64 b) (hz : f z = .int .i64 c) (hu : f u = .int .i64 d) (w : World) :
    (execOp f o).run Try.prog w = .ok (.value (.agg #[.int .i64 a, .int .i64 b, .int .i64 c, .int .i64 d])) w := by
  unfold execOp
  rw [ho]
  go_simp
theorem wp_alloc4 (w : World) {o : Oper} {a : Act} {K : Act → World → Prop} {Q : Exit → Act → World → Prop} (ho : o.op = .alloc 27)
    (h : ∀ w', F4 w' w.heap.size (fun _ => 0) → Below w.heap.size w w' → w'.heap.size = w.heap.size + 1 → K (a.put o.dst (.pointer (some ⟨w.heap.size, 0, none⟩))) w') : WpI Try.prog o a w K Q := by
  refine ⟨?_⟩
  have hh := h _ (F4.new w (fun _ => 0)) (al_below _ _) (al_size _ _)
  unfold Oper.wp execOp
  rw [ho]
  go_simp
  exact hh
theorem wp_store4 (w : World) {o : Oper} {a : Act} {K : Act → World → Prop} {Q : Exit → Act → World → Prop} (x y : Operand) (ho : o.op = .store 27 x y) {b : Nat} {u v : Nat → Int} (hx : a.eval x = .pointer (some ⟨b, 0, none⟩)) (hy : a.eval y = fourV v) (hm : F4 w b u) (hd : o.dst = none)
    (h : ∀ w', F4 w' b v → Kept b w w' → K a w') : WpI Try.prog o a w K Q := by
  refine ⟨?_⟩
  have c0 := hm.cell (show 0 < 4 by omega); have c1 := hm.cell (show 1 < 4 by omega); have c2 := hm.cell (show 2 < 4 by omega); have c3 := hm.cell (show 3 < 4 by omega)
  have f0 := hm.free 0; have f1 := hm.free 1; have f2 := hm.free 2; have f3 := hm.free 3
  obtain ⟨w', e, m, kp⟩ := hm.put v
  have hh := h w' m kp
  rw [e] at hh
  clear hm m kp h e
  unfold fourV at hy
  unfold Oper.wp execOp
  rw [ho]
  dsimp only
  rw [hx, hy]
  go_simp
  exact hh
theorem wp_stI (w : World) {o : Oper} {a : Act} {K : Act → World → Prop} {Q : Exit → Act → World → Prop} (x y : Operand) (ho : o.op = .store 3 x y) {ad : Addr} {v : Int} (hx : a.eval x = .pointer (some ad)) (hy : a.eval y = .int .i64 v) {u : Value} (hc : w.cell? ad = some u) (hf : w.frozen? ad = false) (hd : o.dst = none)
    (h : K a (w.setCell ad (.int .i64 v))) : WpI Try.prog o a w K Q := by
  refine ⟨?_⟩
  unfold Oper.wp execOp
  rw [ho]
  dsimp only
  rw [hx, hy]
  go_simp
  exact h
theorem wp_callC (w : World) {o : Oper} {a : Act} {K : Act → World → Prop} {Q : Exit → Act → World → Prop} (x : Operand) (ho : o.op = .call { callee := .value x, args := #[], argTypes := #[] }) {p q : Value} (hx : a.eval x = .func (.func 19) #[] #[p, q]) {R : Ending → World → Prop} (hc : Calls Try.prog 19 #[p, q] w R)
    (h : ∀ e w', R e w' → ∃ r, e = .returned r ∧ K (a.put o.dst r) w') : WpI Try.prog o a w K Q := by
  refine ⟨?_⟩
  have e : (execOp a.eval o).run Try.prog w = .ok (.enter 19 #[p, q]) w := by
    unfold execOp
    rw [ho]
    simp only [resolve, invoke, Sem.run_bind, List.map_toArray, List.map_nil, hx]
    go_simp
  unfold Oper.wp
  rw [e, Oper.upon_enter]
  refine hc.mono ?_
  intro e w' hr
  obtain ⟨r, rfl, hk⟩ := h e w' hr
  exact hk

/-- One number of a grid set. -/
def upG (x : Nat → Nat → Int) (i j : Nat) (y : Int) (a c : Nat) : Int := if a = i ∧ c = j then y else x a c
theorem G16.set {w : World} {b : Nat} {x : Nat → Nat → Int} (h : G16 w b x) {i j : Nat} (hi : i < 4) (hj : j < 4) (y : Int) : G16 (w.setCell ⟨b, i * 4 + j, none⟩ (.int .i64 y)) b (upG x i j y) := by
  unfold G16 at h ⊢
  rw [heap_setCell_same w b (i * 4 + j) _ _ (.int .i64 y) h]
  have : i = 0 ∨ i = 1 ∨ i = 2 ∨ i = 3 := by omega
  have : j = 0 ∨ j = 1 ∨ j = 2 ∨ j = 3 := by omega
  rcases ‹i = 0 ∨ _› with rfl | rfl | rfl | rfl <;> rcases ‹j = 0 ∨ _› with rfl | rfl | rfl | rfl <;> rfl
theorem G16.free {w : World} {b : Nat} {x : Nat → Nat → Int} (h : G16 w b x) (i : Nat) : w.frozen? ⟨b, i, none⟩ = false := by unfold G16 at h; simp [World.frozen?, h]

/-- What Vectors keeps: the values, the lies, the result, how many lies were told, the grid. -/
structure VJ (w : World) (v : Nat → Int) (sl : Value) (c : Nat) (O : Nat → Nat → Int) (wr : World) : Prop where
  a : F4 wr w.heap.size v
  l : C1 22 wr (w.heap.size + 1) sl
  r : G16 wr (w.heap.size + 1 + 1) (fun _ _ => 0)
  n : C1 3 wr (w.heap.size + 1 + 1 + 1) (.int .i64 (c : Nat))
  o : G16 wr (w.heap.size + 1 + 1 + 1 + 1) O
  z : w.heap.size + 5 ≤ wr.heap.size
  k : Below w.heap.size w wr
section
variable {w wr w' : World} {v : Nat → Int} {sl : Value} {c : Nat} {O : Nat → Nat → Int}
theorem VJ.below (h : VJ w v sl c O wr) (k : Below wr.heap.size wr w') : VJ w v sl c O w' :=
  ⟨h.a.below k, h.l.below k, h.r.below k, h.n.below k, h.o.below k, Nat.le_trans h.z k.size, h.k.trans (k.mono h.k.size)⟩
theorem VJ.keep {b : Nat} (h : VJ w v sl c O wr) (k : Kept b wr w') (hb : w.heap.size + 5 ≤ b) : VJ w v sl c O w' :=
  ⟨h.a.kept k (by omega), h.l.kept k (by omega), h.r.kept k (by omega), h.n.kept k (by omega), h.o.kept k (by omega), Nat.le_trans h.z k.size, below_of_kept h.k k (by omega) h.k.size⟩
theorem VJ.told (h : VJ w v sl c O wr) (k : Kept (w.heap.size + 1 + 1 + 1) wr w') (n : C1 3 w' (w.heap.size + 1 + 1 + 1) (.int .i64 ((c + 1 : Nat) : Int))) : VJ w v sl (c + 1) O w' :=
  ⟨h.a.kept k (by omega), h.l.kept k (by omega), h.r.kept k (by omega), n, h.o.kept k (by omega), Nat.le_trans h.z k.size, below_of_kept h.k k (by omega) h.k.size⟩
theorem VJ.put {O' : Nat → Nat → Int} (h : VJ w v sl c O wr) (k : Kept (w.heap.size + 1 + 1 + 1 + 1) wr w') (o : G16 w' (w.heap.size + 1 + 1 + 1 + 1) O') : VJ w v sl c O' w' :=
  ⟨h.a.kept k (by omega), h.l.kept k (by omega), h.r.kept k (by omega), h.n.kept k (by omega), o, Nat.le_trans h.z k.size, below_of_kept h.k k (by omega) h.k.size⟩
end

end Go.Proofs.Ytomlpcbccfmejaa
