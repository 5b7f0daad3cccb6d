import Derived.Test.YtdhblehhgpdpdaaNear54
namespace Go.Proofs.Ytdhblehhgpdpdaa
open Go
theorem sz_put (a : Act) (d : Nat) (v : Value) : (a.put (some d) v).tmps.size = a.tmps.size := by
 show (a.tmps.setIfInBounds d v).size = _
 simp
theorem ev_put (a : Act) (d e : Nat) (v : Value) (h : d < a.tmps.size) : (a.put (some d) v).eval (.tmp e) = if d = e then v else a.eval (.tmp e) := by
 show (a.tmps.setIfInBounds d v).getD e undef = if d = e then v else a.tmps.getD e undef
 by_cases he : d = e
 ·subst he; rw [if_pos rfl]; simp [h]
 ·rw [if_neg he]; simp [he]
theorem ev_same (a : Act) (d : Nat) (v : Value) (h : d < a.tmps.size) : (a.put (some d) v).eval (.tmp d) = v := by rw [ev_put a d d v h, if_pos rfl]
theorem ev_other (a : Act) {d e : Nat} (v : Value) (h : d ≠ e) : (a.put (some d) v).eval (.tmp e) = a.eval (.tmp e) := by
 show (a.tmps.setIfInBounds d v).getD e undef = a.tmps.getD e undef
 simp [h]
theorem ev_const (a : Act) (v : Value) : a.eval (.const v) = v := rfl
theorem run_move {P : Program} {f : Operand → Value} {o : Oper} (x : Operand) (ho : o.op = .move x) {v : Value} (h : f x = v) (w : World) : (execOp f o).run P w = .ok (.value v) w := by
 subst h; unfold execOp; rw [ho]; rfl
theorem run_assign {P : Program} {f : Operand → Value} {o : Oper} (x : Operand) (ho : o.op = .assign x) {v : Value} (h : f x = v) (w : World) : (execOp f o).run P w = .ok (.value v) w := by
 subst h; unfold execOp; rw [ho]; rfl
theorem run_pickT' {P : Program} {f : Operand → Value} {o : Oper} (c x y : Operand) (ho : o.op = .pick c x y) {v : Value} (hc : f c = .bool true) (hx : f x = v) (w : World) : (execOp f o).run P w = .ok (.value v) w := by
 unfold execOp
 rw [ho]
 dsimp only
 rw [hc, hx]
 go_simp
theorem run_pickF {P : Program} {f : Operand → Value} {o : Oper} (c x y : Operand) (ho : o.op = .pick c x y) {v : Value} (hc : f c = .bool false) (hy : f y = v) (w : World) : (execOp f o).run P w = .ok (.value v) w := by
 unfold execOp
 rw [ho]
 dsimp only
 rw [hc, hy]
 go_simp
theorem run_notB {P : Program} {f : Operand → Value} {o : Oper} (x : Operand) (t : TypeId) (ho : o.op = .unOp .not t x) {b : Bool} (hx : f x = .bool b) (w : World) : (execOp f o).run P w = .ok (.value (.bool (!b))) w := by
 unfold execOp
 rw [ho]
 dsimp only
 rw [hx]
 go_simp
theorem wanted_rd {o : Oper} {ys : Nat → Option Bool} (hg : o.guard = none) : Region.wanted o ys = true := by simp [Region.wanted, hg]
theorem wanted_g {o oj : Oper} {ops : Array Oper} {a : Act} {j d : Nat} {b : Bool} (hg : o.guard = some (j, b)) (hj : ops[j]? = some oj) (hd : oj.dst = some d) (hv : a.eval (.tmp d) = .bool b) : Region.wanted o (yielded ops a.tmps) = true := by
 have e : a.tmps[d]? = some (.bool b) := by
  have h2 : a.tmps.getD d undef = .bool b := hv
  rcases Nat.lt_or_ge d a.tmps.size with h | h
  ·simp [h] at h2 ⊢; exact h2
  ·simp [Array.getElem?_eq_none h] at h2; cases h2
 simp [Region.wanted, hg, yielded, hj, hd, e]
theorem wanted_n {o oj : Oper} {ops : Array Oper} {a : Act} {j d : Nat} {b c : Bool} (hg : o.guard = some (j, b)) (hj : ops[j]? = some oj) (hd : oj.dst = some d) (hv : a.eval (.tmp d) = .bool c) (hb : c ≠ b) : Region.wanted o (yielded ops a.tmps) = false := by
 have e : a.tmps[d]? = some (.bool c) := by
  have h2 : a.tmps.getD d undef = .bool c := hv
  rcases Nat.lt_or_ge d a.tmps.size with h | h
  ·simp [h] at h2 ⊢; exact h2
  ·simp [Array.getElem?_eq_none h] at h2; cases h2
 simp [Region.wanted, hg, yielded, hj, hd, e, hb]
structure WpI (P : Program) (o : Oper) (a : Act) (w : World) (K : Act → World → Prop) (Q : Exit → Act → World → Prop) : Prop where
 out : Oper.wp P o a w K Q
section
variable {P : Program} {ops : Array Oper} {Q : Exit → Act → World → Prop} {S : World → Prop} {late : Nat → Bool}
structure SeqI (P : Program) (ops : Array Oper) (Q : Exit → Act → World → Prop) (S : World → Prop) (late : Nat → Bool) (l : Plan) (a : Act) (w : World) : Prop where
 out : SeqP P ops Q S late l a w
theorem wp_call1 (w : World) {o : Oper} {a : Act} {K : Act → World → Prop} (n : Nat) (x : Operand) (T : Array TypeId) (ho : o.op = .call { callee := .value (.func n), args := #[x], argTypes := T }) {v : Value} (hx : a.eval x = v) (hf : (callFunc n #[v]).run P w = .ok (.enter n #[v]) w) {R : Ending → World → Prop} (hc : Calls P n #[v] w R)
  (h : ∀ e w', R e w' → ∃ r, e = .returned r ∧ K (a.put o.dst r) w') : WpI P o a w K Q := by
 refine ⟨?_⟩
 have e : (execOp a.eval o).run P w = .ok (.enter n #[v]) w := by
  unfold execOp
  rw [ho]
  simp only [resolve, invoke, Sem.run_bind, List.map_toArray, List.map_cons, List.map_nil, hx]
  go_simp
 unfold Oper.wp
 rw [e, Oper.upon_enter]
 refine hc.mono ?_
 intro e w' hr
 obtain ⟨r, rfl, hk⟩ := h e w' hr
 exact hk
theorem wp_call2 (w : World) {o : Oper} {a : Act} {K : Act → World → Prop} (n : Nat) (x y : Operand) (T : Array TypeId) (ho : o.op = .call { callee := .value (.func n), args := #[x, y], argTypes := T }) {v u : Value} (hx : a.eval x = v) (hy : a.eval y = u) (hf : (callFunc n #[v, u]).run P w = .ok (.enter n #[v, u]) w) {R : Ending → World → Prop} (hc : Calls P n #[v, u] w R)
  (h : ∀ e w', R e w' → ∃ r, e = .returned r ∧ K (a.put o.dst r) w') : WpI P o a w K Q := by
 refine ⟨?_⟩
 have e : (execOp a.eval o).run P w = .ok (.enter n #[v, u]) w := by
  unfold execOp
  rw [ho]
  simp only [resolve, invoke, Sem.run_bind, List.map_toArray, List.map_cons, List.map_nil, hx, hy]
  go_simp
 unfold Oper.wp
 rw [e, Oper.upon_enter]
 refine hc.mono ?_
 intro e w' hr
 obtain ⟨r, rfl, hk⟩ := h e w' hr
 exact hk
theorem wp_call0 (w : World) {o : Oper} {a : Act} {K : Act → World → Prop} (n : Nat) (T : Array TypeId) (ho : o.op = .call { callee := .value (.func n), args := #[], argTypes := T }) (hf : (callFunc n #[]).run P w = .ok (.enter n #[]) w) {R : Ending → World → Prop} (hc : Calls P n #[] w R)
  (h : ∀ e w', R e w' → ∃ r, e = .returned r ∧ K (a.put o.dst r) w') : WpI P o a w K Q := by
 refine ⟨?_⟩
 have e : (execOp a.eval o).run P w = .ok (.enter n #[]) w := by
  unfold execOp
  rw [ho]
  simp only [resolve, invoke, Sem.run_bind, List.map_toArray, List.map_nil]
  go_simp
 unfold Oper.wp
 rw [e, Oper.upon_enter]
 refine hc.mono ?_
 intro e w' hr
 obtain ⟨r, rfl, hk⟩ := h e w' hr
 exact hk
end
end Go.Proofs.Ytdhblehhgpdpdaa
