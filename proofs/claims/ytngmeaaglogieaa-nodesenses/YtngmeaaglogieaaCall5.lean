/- A call of five arguments by its contract. No program in sight. -/
import Derived.Test.YtngmeaaglogieaaFrames
namespace Go.Proofs.Ytngmeaaglogieaa
open Go

theorem wp_call5 (w : World) {P : Program} {Q : Exit → Act → World → Prop} {o : Oper} {a : Act} {K : Act → World → Prop} (n : Nat) (x y z u v : Operand) (T : Array TypeId) (ho : o.op = .call { callee := .value (.func n), args := #[x, y, z, u, v], argTypes := T }) {p q r s t : Value} (hx : a.eval x = p) (hy : a.eval y = q) (hz : a.eval z = r) (hu : a.eval u = s) (hv : a.eval v = t) (hf : (callFunc n #[p, q, r, s, t]).run P w = .ok (.enter n #[p, q, r, s, t]) w) {R : Ending → World → Prop} (hc : Calls P n #[p, q, r, s, t] w R)
    (h : ∀ e w', R e w' → ∃ r, e = .returned r ∧ K (a.put o.dst r) w') : WpI P o a w K Q := by
  refine ⟨?_⟩
  have e : (execOp a.eval o).run P w = .ok (.enter n #[p, q, r, s, t]) w := by
    unfold execOp
    rw [ho]
    have hv2 : a.eval (Operand.func n) = .func (.func n) #[] #[] := rfl
    simp only [resolve, invoke, Sem.run_bind, List.map_toArray, List.map_cons, List.map_nil, hx, hy, hz, hu, hv, hv2]
    go_simp
  unfold Oper.wp
  rw [e, Oper.upon_enter]
  refine hc.mono ?_
  intro e w' hr
  obtain ⟨r, rfl, hk⟩ := h e w' hr
  exact hk


end Go.Proofs.Ytngmeaaglogieaa
