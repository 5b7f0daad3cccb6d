/- Operations on rolls and verdicts, their frame a variable. -/
import Derived.Test.YtbgdjldmplkecaaMemEq
import Derived.Test.YtbgdjldmplkecaaMemChg
namespace Go.Proofs.Ytbgdjldmplkecaa
open Go.RowKit

theorem wp_allocRl (w : World) {o : Oper} {a : Act} {K : Act → World → Prop} {Q : Exit → Act → World → Prop} (ho : o.op = .alloc 25)
    (h : ∀ w', RAt w' w.heap.size zeroR → Below w.heap.size w w' → K (a.put o.dst (.pointer (some ⟨w.heap.size, 0, none⟩))) w') : WpI Try.prog o a w K Q := by
  refine ⟨?_⟩
  have hh := h _ (RAt.new w zeroR) (al_below _ _)
  unfold rollC zeroR at hh
  unfold Oper.wp execOp
  rw [ho]
  go_simp
  exact hh
theorem infoTruth : (Try.prog.info? 4).map (fun i => (i.zero, i.size, i.bytes)) = some (some (.bool false), 1, 1) := by kernel_rfl
theorem wp_makeT4 (w : World) {o : Oper} {a : Act} {K : Act → World → Prop} {Q : Exit → Act → World → Prop} (ho : o.op = .makeSlice 29 (.const (.int .i64 4)) (.const (.int .i64 4)))
    (h : ∀ w', Sr w' (some ⟨w.heap.size, 0, none⟩) 4 4 (tF (fun _ => false)) → Below w.heap.size w w' → K (a.put o.dst (.slice (some ⟨w.heap.size, 0, none⟩) 4 4)) w') : WpI Try.prog o a w K Q := by
  refine ⟨?_⟩
  obtain ⟨i0, hi, hz0, hz1, hz2⟩ := info_parts infoTruth
  have hrun := run_make (P := Try.prog) w 29 4 i0 (.bool false) Try.underlying29 hi hz0 .i64 .i64 (4 : Nat) (4 : Nat) (by omega) (by omega) (by rw [hz2]; omega) (by omega)
  rw [hz1] at hrun
  simp only [Int.toNat_natCast, Nat.mul_one] at hrun
  have V := Vh.made w 4 (.bool false) 4 (by unfold maxLen; omega)
  have hh := h _ (Or.inr ⟨⟨w.heap.size, 0, none⟩, rfl, fun i hi => by rw [Addr.add_lit, Nat.zero_add]; exact V.cell hi⟩) (al_below _ _)
  have e1 : a.eval (.const (.int .i64 4)) = .int .i64 ((4 : Nat) : Int) := rfl
  unfold Oper.wp execOp
  simp only [ho, e1, hrun, Sem.run_bind, Sem.run_pure, Result.andThen_ok]
  exact hh
theorem run_get {f : Operand → Value} {o : Oper} (x : Operand) (i : Nat) (ho : o.op = .extract x i) {a b c : Value} (hx : f x = .tuple #[a, b, c]) {v : Value} (hv : #[a, b, c][i]? = some v) (w : World) : (execOp f o).run Try.prog w = .ok (.value v) w := by
  unfold execOp
  rw [ho]
  dsimp only
  rw [hx]
  go_simp
theorem run_buildV2 {f : Operand → Value} {o : Oper} (x : Operand) (ho : o.op = .build 31 #[(2, x)]) {ao : Option Addr} {n c : Nat} (hx : f x = .slice ao n c) (w : World) : (execOp f o).run Try.prog w = .ok (.value (vdV 0 false (.slice ao n c))) w := by
  unfold execOp
  rw [ho]
  unfold vdV
  go_simp

end Go.Proofs.Ytbgdjldmplkecaa
