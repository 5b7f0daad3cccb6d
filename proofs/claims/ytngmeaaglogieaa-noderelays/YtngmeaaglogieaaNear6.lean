/- Joined: NodCpy, Call4, Call6. -/
import Derived.Test.YtngmeaaglogieaaNear25
import Derived.Laws.IdiomCopy
import Derived.Test.YtngmeaaglogieaaFrames
namespace Go.Proofs.Ytngmeaaglogieaa
open Go.RowKit

theorem sizeI1 : (Try.prog.info? 3).map (·.size) = some 1 := by kernel_rfl
theorem wp_copyP (w : World) {o : Oper} {a : Act} {K : Act → World → Prop} {Q : Exit → Act → World → Prop} (d s : Operand)
    (ho : o.op = .call { callee := .builtin .copy, args := #[d, s], argTypes := #[43, 43] }) {b k m N cap cv l : Nat} {t : TypeId} {g f : Nat → Value} {y : Addr} (hd : a.eval d = .slice (some ⟨b, k, none⟩) m m) (hv : Vh t w b N cap g) (hn : k + m ≤ N)
    (hs : a.eval s = .slice (some y) l cv) (hl : l = m) (hc : ∀ i, i < m → w.cell? (y.add i) = some (f i)) (h1 : ∀ i, i < m → (f i).oneCell' = true)
    (h : ∀ w', Vh t w' b N cap (stP g k m f) → Kept b w w' → w'.heap.size = w.heap.size → K (a.put o.dst (goInt m)) w') : WpI Try.prog o a w K Q := by
  subst hl
  obtain ⟨w', e, hv', hk, hz⟩ := run_storeCellsP (P := Try.prog) b k t N cap f l 0 g w hv (by omega) (fun j hj => by rw [Nat.zero_add]; exact h1 j hj)
  have hh := h w' (hv'.congr (fun j _ => by rw [Nat.add_zero]; congr 1; funext i; rw [Nat.zero_add])) hk hz
  have hld := run_loadCells (P := Try.prog) w y l f hc
  have e2 : (storeCells ⟨b, k, none⟩ ((List.range l).map f)).run Try.prog w = .ok () w' := by
    refine Eq.trans ?_ e
    congr 2
    refine List.map_congr_left (fun j _ => ?_)
    rw [Nat.zero_add]
  have hrun : (Builtin.copy_ #[43, 43] o.type #[.slice (some ⟨b, k, none⟩) l l, .slice (some y) l cv]).run Try.prog w = .ok (goInt l) w' := by
    simp only [Builtin.copy_, run_underlying Try.underlying43, Builtin.lenOf, Builtin.firstCells, Nat.min_self, Sem.run_bind, Sem.run_pure, Result.andThen_ok, oneI.size, Nat.mul_one, hld, e2, List.getElem?_toArray, List.getElem?_cons_zero, List.getElem?_cons_succ]
  refine ⟨?_⟩
  unfold Oper.wp execOp
  simp only [ho, resolve, invoke, builtin, Sem.run_bind, Sem.run_pure, Result.andThen_ok, List.map_toArray, List.map_cons, List.map_nil, hd, hs, hrun]
  exact hh
theorem wp_copy0 (w : World) {o : Oper} {a : Act} {K : Act → World → Prop} {Q : Exit → Act → World → Prop} (d s : Operand)
    (ho : o.op = .call { callee := .builtin .copy, args := #[d, s], argTypes := #[43, 43] }) {ad : Option Addr} {m c : Nat} (hd : a.eval d = .slice ad m c) (hs : a.eval s = .slice none 0 0) (h : K (a.put o.dst (goInt 0)) w) : WpI Try.prog o a w K Q := by
  have hrun := run_copy_none (P := Try.prog) w 43 43 o.type 3 ad none m c 0 0 Try.underlying43 sizeI1 (by simp)
  refine ⟨?_⟩
  unfold Oper.wp execOp
  simp only [ho, resolve, invoke, builtin, Sem.run_bind, Sem.run_pure, Result.andThen_ok, List.map_toArray, List.map_cons, List.map_nil, hd, hs, hrun]
  exact h

end Go.Proofs.Ytngmeaaglogieaa

namespace Go.Proofs.Ytngmeaaglogieaa
open Go

theorem wp_call4n (w : World) {P : Program} {Q : Exit → Act → World → Prop} {o : Oper} {a : Act} {K : Act → World → Prop} (n : Nat) (x y z u : Operand) (T : Array TypeId) (ho : o.op = .call { callee := .value (.func n), args := #[x, y, z, u], argTypes := T }) {p q r s : Value} (hx : a.eval x = p) (hy : a.eval y = q) (hz : a.eval z = r) (hu : a.eval u = s) (hf : (callFunc n #[p, q, r, s]).run P w = .ok (.enter n #[p, q, r, s]) w) {R : Ending → World → Prop} (hc : Calls P n #[p, q, r, s] w R)
    (h : ∀ e w', R e w' → ∃ r, e = .returned r ∧ K (a.put o.dst r) w') : WpI P o a w K Q := by
  refine ⟨?_⟩
  have e : (execOp a.eval o).run P w = .ok (.enter n #[p, q, r, s]) w := by
    unfold execOp
    rw [ho]
    have hv2 : a.eval (Operand.func n) = .func (.func n) #[] #[] := rfl
    simp only [resolve, invoke, Sem.run_bind, List.map_toArray, List.map_cons, List.map_nil, hx, hy, hz, hu, hv2]
    go_simp
  unfold Oper.wp
  rw [e, Oper.upon_enter]
  refine hc.mono ?_
  intro e w' hr
  obtain ⟨r, rfl, hk⟩ := h e w' hr
  exact hk

end Go.Proofs.Ytngmeaaglogieaa

namespace Go.Proofs.Ytngmeaaglogieaa
open Go

theorem wp_call6 (w : World) {P : Program} {Q : Exit → Act → World → Prop} {o : Oper} {a : Act} {K : Act → World → Prop} (n : Nat) (x y z u v x6 : Operand) (T : Array TypeId) (ho : o.op = .call { callee := .value (.func n), args := #[x, y, z, u, v, x6], argTypes := T }) {p q r s t p6 : Value} (hx : a.eval x = p) (hy : a.eval y = q) (hz : a.eval z = r) (hu : a.eval u = s) (hv : a.eval v = t) (h6 : a.eval x6 = p6) (hf : (callFunc n #[p, q, r, s, t, p6]).run P w = .ok (.enter n #[p, q, r, s, t, p6]) w) {R : Ending → World → Prop} (hc : Calls P n #[p, q, r, s, t, p6] w R)
    (h : ∀ e w', R e w' → ∃ r, e = .returned r ∧ K (a.put o.dst r) w') : WpI P o a w K Q := by
  refine ⟨?_⟩
  have e : (execOp a.eval o).run P w = .ok (.enter n #[p, q, r, s, t, p6]) w := by
    unfold execOp
    rw [ho]
    have hv2 : a.eval (Operand.func n) = .func (.func n) #[] #[] := rfl
    simp only [resolve, invoke, Sem.run_bind, List.map_toArray, List.map_cons, List.map_nil, hx, hy, hz, hu, hv, h6, hv2]
    go_simp
  unfold Oper.wp
  rw [e, Oper.upon_enter]
  refine hc.mono ?_
  intro e w' hr
  obtain ⟨r, rfl, hk⟩ := h e w' hr
  exact hk

theorem wp_call3n (w : World) {P : Program} {Q : Exit → Act → World → Prop} {o : Oper} {a : Act} {K : Act → World → Prop} (n : Nat) (x y z : Operand) (T : Array TypeId) (ho : o.op = .call { callee := .value (.func n), args := #[x, y, z], argTypes := T }) {p q r : Value} (hx : a.eval x = p) (hy : a.eval y = q) (hz : a.eval z = r) (hf : (callFunc n #[p, q, r]).run P w = .ok (.enter n #[p, q, r]) w) {R : Ending → World → Prop} (hc : Calls P n #[p, q, r] w R)
    (h : ∀ e w', R e w' → ∃ r, e = .returned r ∧ K (a.put o.dst r) w') : WpI P o a w K Q := by
  refine ⟨?_⟩
  have e : (execOp a.eval o).run P w = .ok (.enter n #[p, q, r]) w := by
    unfold execOp
    rw [ho]
    have hv2 : a.eval (Operand.func n) = .func (.func n) #[] #[] := rfl
    simp only [resolve, invoke, Sem.run_bind, List.map_toArray, List.map_cons, List.map_nil, hx, hy, hz, hv2]
    go_simp
  unfold Oper.wp
  rw [e, Oper.upon_enter]
  refine hc.mono ?_
  intro e w' hr
  obtain ⟨r, rfl, hk⟩ := h e w' hr
  exact hk


end Go.Proofs.Ytngmeaaglogieaa
