/- Frames as they stand: what a slot holds behind a write, so that a region is walked without its frame written out. No program in sight. -/
import Derived.Test.YtngmeaaglogieabNear29
namespace Go.Proofs.Ytngmeaaglogieab
open Go

theorem sz_put (a : Act) (d : Nat) (v : Value) : (a.put (some d) v).tmps.size = a.tmps.size := by
  show (a.tmps.setIfInBounds d v).size = _
  simp
theorem ev_put (a : Act) (d e : Nat) (v : Value) (h : d < a.tmps.size) : (a.put (some d) v).eval (.tmp e) = if d = e then v else a.eval (.tmp e) := by
  show (a.tmps.setIfInBounds d v).getD e undef = if d = e then v else a.tmps.getD e undef
  by_cases he : d = e
  · subst he; rw [if_pos rfl]; simp [h]
  · rw [if_neg he]; simp [he]
theorem ev_same (a : Act) (d : Nat) (v : Value) (h : d < a.tmps.size) : (a.put (some d) v).eval (.tmp d) = v := by rw [ev_put a d d v h, if_pos rfl]
theorem ev_other (a : Act) {d e : Nat} (v : Value) (h : d ≠ e) : (a.put (some d) v).eval (.tmp e) = a.eval (.tmp e) := by
  show (a.tmps.setIfInBounds d v).getD e undef = a.tmps.getD e undef
  simp [h]
theorem ev_const (a : Act) (v : Value) : a.eval (.const v) = v := rfl
theorem put_swap (a : Act) (d e : Nat) (v u : Value) (h : e < d) : (a.put (some d) v).put (some e) u = (a.put (some e) u).put (some d) v :=
  Act.put_comm a v u (fun x hx hy => by cases hx; cases hy; omega)
theorem put_def (a : Act) (d : Nat) (v : Value) : (a.put (some d) v).defers = a.defers := rfl
theorem put_none (a : Act) (v : Value) : a.put none v = a := rfl
theorem run_move {P : Program} {f : Operand → Value} {o : Oper} (x : Operand) (ho : o.op = .move x) {v : Value} (h : f x = v) (w : World) : (execOp f o).run P w = .ok (.value v) w := by
  subst h; unfold execOp; rw [ho]; rfl
theorem run_assign {P : Program} {f : Operand → Value} {o : Oper} (x : Operand) (ho : o.op = .assign x) {v : Value} (h : f x = v) (w : World) : (execOp f o).run P w = .ok (.value v) w := by
  subst h; unfold execOp; rw [ho]; rfl
theorem run_pickT' {P : Program} {f : Operand → Value} {o : Oper} (c x y : Operand) (ho : o.op = .pick c x y) {v : Value} (hc : f c = .bool true) (hx : f x = v) (w : World) : (execOp f o).run P w = .ok (.value v) w := by
  unfold execOp
  rw [ho]
  dsimp only
  rw [hc, hx]
  go_simp
theorem run_pickF {P : Program} {f : Operand → Value} {o : Oper} (c x y : Operand) (ho : o.op = .pick c x y) {v : Value} (hc : f c = .bool false) (hy : f y = v) (w : World) : (execOp f o).run P w = .ok (.value v) w := by
  unfold execOp
  rw [ho]
  dsimp only
  rw [hc, hy]
  go_simp
theorem run_notB {P : Program} {f : Operand → Value} {o : Oper} (x : Operand) (t : TypeId) (ho : o.op = .unOp .not t x) {b : Bool} (hx : f x = .bool b) (w : World) : (execOp f o).run P w = .ok (.value (.bool (!b))) w := by
  unfold execOp
  rw [ho]
  dsimp only
  rw [hx]
  go_simp
/-- A piece of code by what it leaves, its frame a variable. -/
theorem wp_leaves {P : Program} {c : Code} {Q : Exit → Act → World → Prop} {a : Act} {w : World} (R : Act → Act → World → Prop) (h : ∀ a0, a0 = a → c.wp P (fun e a' w' => e = .normal ∧ R a0 a' w') a0 w) (k : ∀ a' w', R a a' w' → Q .normal a' w') : c.wp P Q a w :=
  Code.wp_mono (fun e a' w' ⟨he, hr⟩ => by rw [he]; exact k a' w' hr) (h a rfl)
theorem no_panic {R : Act → World → Prop} {a a' : Act} : ∀ c (w : World), (Exit.panic c = .normal ∧ R a w) → (Exit.panic c = .normal ∧ R a' w) := fun _ _ h => absurd h.1 (fun e => nomatch e)

/-- An operation without a guard is carried out. -/
theorem wanted_do {P : Program} {o : Oper} {ys : Nat → Option Bool} {a : Act} {w : World} {K : Act → World → Prop} {Q : Exit → Act → World → Prop} {E : Prop} (hg : o.guard = none) (h : Oper.wp P o a w K Q) :
    if Region.wanted o ys = true then Oper.wp P o a w K Q else E := by
  have hw : Region.wanted o ys = true := by simp [Region.wanted, hg]
  rw [if_pos hw]; exact h
theorem wanted_rd {o : Oper} {ys : Nat → Option Bool} (hg : o.guard = none) : Region.wanted o ys = true := by simp [Region.wanted, hg]

theorem wanted_g {o oj : Oper} {ops : Array Oper} {a : Act} {j d : Nat} {b : Bool} (hg : o.guard = some (j, b)) (hj : ops[j]? = some oj) (hd : oj.dst = some d) (hv : a.eval (.tmp d) = .bool b) : Region.wanted o (yielded ops a.tmps) = true := by
  have e : a.tmps[d]? = some (.bool b) := by
    have h2 : a.tmps.getD d undef = .bool b := hv
    rcases Nat.lt_or_ge d a.tmps.size with h | h
    · simp [h] at h2 ⊢; exact h2
    · simp [Array.getElem?_eq_none h] at h2; cases h2
  simp [Region.wanted, hg, yielded, hj, hd, e]

theorem wanted_n {o oj : Oper} {ops : Array Oper} {a : Act} {j d : Nat} {b c : Bool} (hg : o.guard = some (j, b)) (hj : ops[j]? = some oj) (hd : oj.dst = some d) (hv : a.eval (.tmp d) = .bool c) (hb : c ≠ b) : Region.wanted o (yielded ops a.tmps) = false := by
  have e : a.tmps[d]? = some (.bool c) := by
    have h2 : a.tmps.getD d undef = .bool c := hv
    rcases Nat.lt_or_ge d a.tmps.size with h | h
    · simp [h] at h2 ⊢; exact h2
    · simp [Array.getElem?_eq_none h] at h2; cases h2
  simp [Region.wanted, hg, yielded, hj, hd, e, hb]

/-- One operation's work, not to be opened. -/
structure WpI (P : Program) (o : Oper) (a : Act) (w : World) (K : Act → World → Prop) (Q : Exit → Act → World → Prop) : Prop where
  out : Oper.wp P o a w K Q
section
variable {P : Program} {ops : Array Oper} {Q : Exit → Act → World → Prop} {S : World → Prop} {late : Nat → Bool}
/-- What is left of a plan, not to be opened. -/
structure SeqI (P : Program) (ops : Array Oper) (Q : Exit → Act → World → Prop) (S : World → Prop) (late : Nat → Bool) (l : Plan) (a : Act) (w : World) : Prop where
  out : SeqP P ops Q S late l a w
theorem region_I {id : Nat} {a : Act} {w : World} (l : Plan) (lt : List Nat) (hm : P.follows .mixedOrders = true)
    (hb : (Region.noSelect ops && lt.all (fun j => decide (j < ops.size)) && decide (l.len = ops.size) && planB .any ops (lateOf lt) l (Array.replicate ops.size false)) = true)
    (h : SeqI P ops Q S (lateOf lt) l a w.drew) : (Code.region id ops true).wp P Q a w := region_plan l lt hm hb h.out
theorem sI_end {a : Act} {w : World} (h : Q .normal a w) : SeqI P ops Q S late .fin a w := ⟨h⟩
theorem sI_read {i : Nat} {o : Oper} {v : Value} {r : Plan} {a : Act} {w : World} (ho : ops[i]? = some o) (hQ : ∀ c a w, Q (.panic c) (a.put o.dst v) w → Q (.panic c) a w) (hw : Region.wanted o (yielded ops a.tmps) = true) (hS : S w)
    (hy : ∀ w, S w → (execOp a.eval o).run P w = .ok (.value v) w) (h : SeqI P ops Q S late r (a.put o.dst v) w) : SeqI P ops Q S late (.rd i r) a w := ⟨plan_read ho hQ hw hS hy h.out⟩
/-- One that is not wanted. -/
theorem sI_skip {i : Nat} {o : Oper} {r : Plan} {a : Act} {w : World} (ho : ops[i]? = some o) (hQ : ∀ c a w, Q (.panic c) (a.put o.dst undef) w → Q (.panic c) a w) (hw : Region.wanted o (yielded ops a.tmps) = false) (hS : S w)
    (h : SeqI P ops Q S late r (a.put o.dst undef) w) : SeqI P ops Q S late (.rd i r) a w := ⟨⟨o, undef, ho, Or.inr ⟨hw, rfl⟩, hS, hQ, h.out⟩⟩
theorem sI_do {i : Nat} {o : Oper} {r : Plan} {a : Act} {w : World} (ho : ops[i]? = some o) (hw : Region.wanted o (yielded ops a.tmps) = true)
    (h : ∀ K : Act → World → Prop, (∀ a w, (late i = false → S w) → SeqI P ops Q S late r a w → K a w) → WpI P o a w K Q) : SeqI P ops Q S late (.go i r) a w :=
  ⟨plan_do ho (fun K hK => by rw [if_pos hw]; exact (h K (fun a w h1 h2 => hK a w h1 h2.out)).out)⟩
theorem sI_two {i j : Nat} {oi oj : Oper} {ri rj : Plan} {a : Act} {w : World} (hoi : ops[i]? = some oi) (hoj : ops[j]? = some oj) (hwi : Region.wanted oi (yielded ops a.tmps) = true) (hwj : Region.wanted oj (yielded ops a.tmps) = true)
    (h : ∀ K : Act → World → Prop, (∀ a w, (late i = false → S w) → SeqI P ops Q S late ri a w → K a w) → WpI P oi a w K Q)
    (k : ∀ K : Act → World → Prop, (∀ a w, (late j = false → S w) → SeqI P ops Q S late rj a w → K a w) → WpI P oj a w K Q) : SeqI P ops Q S late (.two i j ri rj) a w :=
  ⟨plan_two hoi hoj (fun K hK => by rw [if_pos hwi]; exact (h K (fun a w h1 h2 => hK a w h1 h2.out)).out) (fun K hK => by rw [if_pos hwj]; exact (k K (fun a w h1 h2 => hK a w h1 h2.out)).out)⟩
theorem sI_three {i j k : Nat} {oi oj ok : Oper} {ri rj rk : Plan} {a : Act} {w : World} (hoi : ops[i]? = some oi) (hoj : ops[j]? = some oj) (hok : ops[k]? = some ok) (hwi : Region.wanted oi (yielded ops a.tmps) = true) (hwj : Region.wanted oj (yielded ops a.tmps) = true) (hwk : Region.wanted ok (yielded ops a.tmps) = true)
    (h : ∀ K : Act → World → Prop, (∀ a w, (late i = false → S w) → SeqI P ops Q S late ri a w → K a w) → WpI P oi a w K Q)
    (h2 : ∀ K : Act → World → Prop, (∀ a w, (late j = false → S w) → SeqI P ops Q S late rj a w → K a w) → WpI P oj a w K Q)
    (h3 : ∀ K : Act → World → Prop, (∀ a w, (late k = false → S w) → SeqI P ops Q S late rk a w → K a w) → WpI P ok a w K Q) : SeqI P ops Q S late (.three i j k ri rj rk) a w :=
  ⟨plan_three hoi hoj hok (fun K hK => by rw [if_pos hwi]; exact (h K (fun a w h1 h2 => hK a w h1 h2.out)).out) (fun K hK => by rw [if_pos hwj]; exact (h2 K (fun a w h1 h2 => hK a w h1 h2.out)).out) (fun K hK => by rw [if_pos hwk]; exact (h3 K (fun a w h1 h2 => hK a w h1 h2.out)).out)⟩
/-- One that yields a value. -/
theorem wp_val {w : World} {o : Oper} {a : Act} {K : Act → World → Prop} {v : Value} (hr : (execOp a.eval o).run P w = .ok (.value v) w) (h : K (a.put o.dst v) w) : WpI P o a w K Q := by
  refine ⟨?_⟩
  unfold Oper.wp
  rw [hr]
  exact h
/-- A call by its contract. -/
theorem wp_call1 (w : World) {o : Oper} {a : Act} {K : Act → World → Prop} (n : Nat) (x : Operand) (T : Array TypeId) (ho : o.op = .call { callee := .value (.func n), args := #[x], argTypes := T }) {v : Value} (hx : a.eval x = v) (hf : (callFunc n #[v]).run P w = .ok (.enter n #[v]) w) {R : Ending → World → Prop} (hc : Calls P n #[v] w R)
    (h : ∀ e w', R e w' → ∃ r, e = .returned r ∧ K (a.put o.dst r) w') : WpI P o a w K Q := by
  refine ⟨?_⟩
  have e : (execOp a.eval o).run P w = .ok (.enter n #[v]) w := by
    unfold execOp
    rw [ho]
    simp only [resolve, invoke, Sem.run_bind, List.map_toArray, List.map_cons, List.map_nil, hx]
    go_simp
  unfold Oper.wp
  rw [e, Oper.upon_enter]
  refine hc.mono ?_
  intro e w' hr
  obtain ⟨r, rfl, hk⟩ := h e w' hr
  exact hk
theorem wp_call2 (w : World) {o : Oper} {a : Act} {K : Act → World → Prop} (n : Nat) (x y : Operand) (T : Array TypeId) (ho : o.op = .call { callee := .value (.func n), args := #[x, y], argTypes := T }) {v u : Value} (hx : a.eval x = v) (hy : a.eval y = u) (hf : (callFunc n #[v, u]).run P w = .ok (.enter n #[v, u]) w) {R : Ending → World → Prop} (hc : Calls P n #[v, u] w R)
    (h : ∀ e w', R e w' → ∃ r, e = .returned r ∧ K (a.put o.dst r) w') : WpI P o a w K Q := by
  refine ⟨?_⟩
  have e : (execOp a.eval o).run P w = .ok (.enter n #[v, u]) w := by
    unfold execOp
    rw [ho]
    simp only [resolve, invoke, Sem.run_bind, List.map_toArray, List.map_cons, List.map_nil, hx, hy]
    go_simp
  unfold Oper.wp
  rw [e, Oper.upon_enter]
  refine hc.mono ?_
  intro e w' hr
  obtain ⟨r, rfl, hk⟩ := h e w' hr
  exact hk
theorem wp_call0 (w : World) {o : Oper} {a : Act} {K : Act → World → Prop} (n : Nat) (T : Array TypeId) (ho : o.op = .call { callee := .value (.func n), args := #[], argTypes := T }) (hf : (callFunc n #[]).run P w = .ok (.enter n #[]) w) {R : Ending → World → Prop} (hc : Calls P n #[] w R)
    (h : ∀ e w', R e w' → ∃ r, e = .returned r ∧ K (a.put o.dst r) w') : WpI P o a w K Q := by
  refine ⟨?_⟩
  have e : (execOp a.eval o).run P w = .ok (.enter n #[]) w := by
    unfold execOp
    rw [ho]
    simp only [resolve, invoke, Sem.run_bind, List.map_toArray, List.map_nil]
    go_simp
  unfold Oper.wp
  rw [e, Oper.upon_enter]
  refine hc.mono ?_
  intro e w' hr
  obtain ⟨r, rfl, hk⟩ := h e w' hr
  exact hk
end

end Go.Proofs.Ytngmeaaglogieab
