/- Operations on messages, their frame a variable. -/
import Derived.Test.YtnbpkidjojgghaaFrameOps
import Derived.Test.YtnbpkidjojgghaaNear6
namespace Go.Proofs.Ytnbpkidjojgghaa
open Go.RowKit

theorem run_byteInt {f : Operand → Value} {o : Oper} (x : Operand) (ho : o.op = .convert 5 3 x) {v : Nat} (hx : f x = bV v) (hv : v < 256) (w : World) : (execOp f o).run Try.prog w = .ok (.value (.int .i64 (v : Nat))) w := by
  unfold bV at hx
  unfold execOp
  rw [ho]
  dsimp only
  rw [hx]
  go_simp
  rw [IntKind.wrap_i64]
  omega
theorem run_loadI {f : Operand → Value} {o : Oper} (x : Operand) (ho : o.op = .load 3 x) {a : Addr} {v : Int} (hx : f x = .pointer (some a)) {w : World} (hc : w.cell? a = some (.int .i64 v)) :
    (execOp f o).run Try.prog w = .ok (.value (.int .i64 v)) w := by
  unfold execOp
  rw [ho]
  dsimp only
  rw [hx]
  go_simp
theorem run_loadS {f : Operand → Value} {o : Oper} (x : Operand) (ho : o.op = .load 22 x) {a : Addr} {ao : Option Addr} {n c : Nat} (hx : f x = .pointer (some a)) {w : World} (hc : w.cell? a = some (.slice ao n c)) :
    (execOp f o).run Try.prog w = .ok (.value (.slice ao n c)) w := by
  unfold execOp
  rw [ho]
  dsimp only
  rw [hx]
  go_simp
theorem run_field {f : Operand → Value} {o : Oper} (x : Operand) (i : Nat) (ho : o.op = .fieldAddr 24 x i) {b : Nat} (hx : f x = .pointer (some ⟨b, 0, none⟩)) (hi : i < 4) (w : World) :
    (execOp f o).run Try.prog w = .ok (.value (.pointer (some ⟨b, i, none⟩))) w := by
  have : i = 0 ∨ i = 1 ∨ i = 2 ∨ i = 3 := by omega
  unfold execOp
  rw [ho]
  dsimp only
  rw [hx]
  rcases this with rfl | rfl | rfl | rfl <;> go_simp
theorem run_mulI {f : Operand → Value} {o : Oper} (x y : Operand) (ho : o.op = .binOp .mul 3 x y 3) {u v : Int} (hx : f x = .int .i64 u) (hy : f y = .int .i64 v) (h1 : -9223372036854775808 ≤ u * v) (h2 : u * v ≤ 9223372036854775807) (w : World) : (execOp f o).run Try.prog w = .ok (.value (.int .i64 (u * v))) w := by
  unfold execOp
  rw [ho]
  dsimp only
  rw [hx, hy]
  go_simp
  generalize u * v = q at *
  rw [IntKind.wrap_i64]
  omega
theorem run_addI {f : Operand → Value} {o : Oper} (x y : Operand) (ho : o.op = .binOp .add 3 x y 3) {u v : Int} (hx : f x = .int .i64 u) (hy : f y = .int .i64 v) (h1 : -9223372036854775808 ≤ u + v) (h2 : u + v ≤ 9223372036854775807) (w : World) : (execOp f o).run Try.prog w = .ok (.value (.int .i64 (u + v))) w := by
  unfold execOp
  rw [ho]
  dsimp only
  rw [hx, hy]
  go_simp
  rw [IntKind.wrap_i64]
  omega
theorem wp_storeI (w : World) {o : Oper} {a : Act} {K : Act → World → Prop} {Q : Exit → Act → World → Prop} (x y : Operand) (ho : o.op = .store 3 x y) {ad : Addr} {v : Int} (hx : a.eval x = .pointer (some ad)) (hy : a.eval y = .int .i64 v) {u : Value} (hc : w.cell? ad = some u) (hf : w.frozen? ad = false) (hd : o.dst = none)
    (h : K a (w.setCell ad (.int .i64 v))) : WpI Try.prog o a w K Q := by
  refine ⟨?_⟩
  unfold Oper.wp execOp
  rw [ho]
  dsimp only
  rw [hx, hy]
  go_simp
  exact h
theorem run_buildM2 {f : Operand → Value} {o : Oper} (x y : Operand) (ho : o.op = .build 24 #[(0, x), (1, y)]) {u v : Int} (hx : f x = .int .i64 u) (hy : f y = .int .i64 v) (w : World) : (execOp f o).run Try.prog w = .ok (.value (msV u v 0 (.slice none 0 0))) w := by
  unfold execOp
  rw [ho]
  go_simp
  rfl
theorem wp_allocM (w : World) {o : Oper} {a : Act} {K : Act → World → Prop} {Q : Exit → Act → World → Prop} (ho : o.op = .alloc 24)
    (h : ∀ w', MgAt w' w.heap.size 0 0 0 (.slice none 0 0) → Below w.heap.size w w' → w'.heap.size = w.heap.size + 1 → K (a.put o.dst (.pointer (some ⟨w.heap.size, 0, none⟩))) w') : WpI Try.prog o a w K Q := by
  refine ⟨?_⟩
  have hh := h _ (MgAt.new w 0 0 0 (.slice none 0 0)) (al_below _ _) (al_size _ _)
  unfold Oper.wp execOp
  rw [ho]
  go_simp
  exact hh
theorem wp_storeM (w : World) {o : Oper} {a : Act} {K : Act → World → Prop} {Q : Exit → Act → World → Prop} (x y : Operand) (ho : o.op = .store 24 x y) {b : Nat} {k1 f1 r1 k f r : Int} {v1 : Value} {vo : Option Addr} {vn vc : Nat} (hx : a.eval x = .pointer (some ⟨b, 0, none⟩)) (hy : a.eval y = msV k f r (.slice vo vn vc)) (hm : MgAt w b k1 f1 r1 v1) (hd : o.dst = none)
    (h : ∀ w', MgAt w' b k f r (.slice vo vn vc) → Kept b w w' → K a w') : WpI Try.prog o a w K Q := by
  refine ⟨?_⟩
  have c0 := hm.cell0; have c1 := hm.cell1; have c2 := hm.cell2; have c3 := hm.cell3
  have f0 := hm.free 0; have f1 := hm.free 1; have f2 := hm.free 2; have f3 := hm.free 3
  obtain ⟨w', e, m, kp⟩ := hm.put k f r (.slice vo vn vc)
  have hh := h w' m kp
  rw [e] at hh
  clear hm m kp h e
  unfold msV at hy
  unfold Oper.wp execOp
  rw [ho]
  dsimp only
  rw [hx, hy]
  go_simp
  exact hh

end Go.Proofs.Ytnbpkidjojgghaa
