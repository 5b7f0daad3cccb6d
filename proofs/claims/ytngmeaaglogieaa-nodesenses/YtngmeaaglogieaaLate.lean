/- A statement whose order Go leaves open, walked in one order: what only reads cells that stay as they are may come first, and what comes last may write them. No program in sight. -/
import Derived.OrdersHeld
import Derived.RegionTactic
import Derived.WalkKit
import Derived.KernelRfl
namespace Go.Proofs.Ytngmeaaglogieaa
open Go

section
variable {P : Program} {ops : Array Oper} {Q : Exit → Act → World → Prop} {md : Region.Mode} {S : World → Prop} {late : Nat → Bool}

/-- Whatever order is picked from here on; S holds behind each operation but the late ones. -/
def AnyL (P : Program) (md : Region.Mode) (ops : Array Oper) (Q : Exit → Act → World → Prop) (S : World → Prop) (late : Nat → Bool) : Nat → Array Bool → Act → World → Prop
  | 0, listed, a, w => Region.ready md ops listed = [] ∧ Q .normal a w
  | fuel + 1, listed, a, w =>
    (Region.ready md ops listed = [] → Q .normal a w) ∧
    ∀ i ∈ Region.ready md ops listed, wpOp P ops Q i (fun a' w' => (late i = false → S w') ∧ AnyL P md ops Q S late fuel (listed.setIfInBounds i true) a' w') a w

theorem any_of_anyL : ∀ (fuel : Nat) (listed : Array Bool) (a : Act) (w : World), AnyL P md ops Q S late fuel listed a w → wpAny P md ops Q fuel listed a w
  | 0, _, _, _, h => h
  | fuel + 1, _, _, _, h => ⟨h.1, fun i hi => wpOp_mono (fun a' w' k => any_of_anyL fuel _ a' w' k.2) (h.2 i hi)⟩

/-- What has come up has all that it waits for behind it. -/
def ShutDown (md : Region.Mode) (ops : Array Oper) (listed : Array Bool) : Prop :=
  ∀ j oj, ops[j]? = some oj → listed.getD j false = true → ∀ e ∈ oj.after, Region.binds md e = true → listed.getD e.on false = true
theorem ShutDown.set {i : Nat} {listed : Array Bool} (h : ShutDown md ops listed) (hi : i ∈ Region.ready md ops listed) : ShutDown md ops (listed.setIfInBounds i true) := by
  obtain ⟨_, oi, hoi, hall⟩ := mem_ready.1 hi
  intro j oj hj hl e he hb
  by_cases hij : i = j
  · subst hij
    obtain rfl : oj = oi := Option.some.inj (hj.symm.trans hoi)
    exact getD_set_true (hall e he hb)
  · rw [getD_set_ne false hij] at hl
    exact getD_set_true (h j oj hj hl e he hb)
theorem shutDown_start (n : Nat) : ShutDown md ops (Array.replicate n false) := by
  intro j oj _ hl
  rcases Nat.lt_or_ge j n with h | h
  · simp [h] at hl
  · simp [h] at hl

/-- Does j wait for i, over others too? -/
def reachB (md : Region.Mode) (ops : Array Oper) : Nat → Nat → Nat → Bool
  | 0, _, _ => false
  | f + 1, j, i => match ops[j]? with
    | some oj => oj.after.any fun e => Region.binds md e && (e.on == i || reachB md ops f e.on i)
    | none => false
theorem reach_listed {listed : Array Bool} (h : ShutDown md ops listed) : ∀ (f j i : Nat), reachB md ops f j i = true →
    (∀ oj, ops[j]? = some oj → ∀ e ∈ oj.after, Region.binds md e = true → listed.getD e.on false = true) → listed.getD i false = true
  | 0, _, _, hr, _ => by cases hr
  | f + 1, j, i, hr, hp => by
    unfold reachB at hr
    split at hr
    · rename_i oj hj
      obtain ⟨e, he, hb⟩ := Array.any_eq_true'.1 hr
      simp only [Bool.and_eq_true, Bool.or_eq_true, beq_iff_eq] at hb
      have hl := hp oj hj e he hb.1
      rcases hb.2 with h1 | h1
      · rw [h1] at hl; exact hl
      · exact reach_listed h f e.on i h1 (fun oe hoe e' he' hb' => h e.on oe hoe hl e' he' hb')
    · cases hr

theorem unlisted {listed : Array Bool} {i : Nat} (h : listed.getD i true = false) : listed.getD i false = false := by
  rcases Nat.lt_or_ge i listed.size with h' | h'
  · simp [h'] at h ⊢; exact h
  · simp [Array.getElem?_eq_none h'] at h

theorem anyL_first {i N : Nat} {oi : Oper} {v : Value} (hi : ops[i]? = some oi) (hsel : ∀ (j : Nat) (o : Oper) cs b, ops[j]? = some o → o.op ≠ .select cs b)
    (hQ : ∀ c a w, Q (.panic c) (a.put oi.dst v) w → Q (.panic c) a w) (hli : late i = false) (hlate : ∀ j, late j = true → reachB md ops N j i = true) :
    ∀ (fuel : Nat) (listed : Array Bool) (a : Act) (w : World), ShutDown md ops listed →
      (∀ j oj, ops[j]? = some oj → j ≠ i → listed.getD j true = false → (∀ e ∈ oj.after, Region.binds md e = true → e.on ≠ i) → oi.apart ops oj = true) →
      i ∈ Region.ready md ops listed → YieldsIf P ops S oi v a → S w →
      AnyL P md ops Q S late fuel (listed.setIfInBounds i true) (a.put oi.dst v) w → AnyL P md ops Q S late (fuel + 1) listed a w := by
  intro fuel
  induction fuel with
  | zero =>
    intro listed a w _ _ hr hy hS H
    refine ⟨fun h => (by rw [h] at hr; cases hr), fun j hj => ?_⟩
    by_cases hji : j = i
    · subst hji; exact hy.wpOp hi hS ⟨fun _ => hS, H⟩
    · have := ready_mono hj hji
      rw [H.1] at this
      cases this
  | succ fuel ih =>
    intro listed a w hsd hfree hr hy hS H
    refine ⟨fun h => (by rw [h] at hr; cases hr), fun j hj => ?_⟩
    have hun := (mem_ready.1 hr).1
    by_cases hji : j = i
    · subst hji; exact hy.wpOp hi hS ⟨fun _ => hS, H⟩
    · have h1 := H.2 j (ready_mono hj hji)
      obtain ⟨hjun, oj, hoj, hall⟩ := mem_ready.1 hj
      have hlj : late j = false := by
        cases h : late j
        · rfl
        · have := reach_listed hsd N j i (hlate j h) (fun o ho e he hb => by
            obtain rfl : o = oj := Option.some.inj (ho.symm.trans hoj)
            exact hall e he hb)
          rw [unlisted hun] at this
          cases this
      have hnot : ∀ e ∈ oj.after, Region.binds md e = true → e.on ≠ i := fun e he hb heq => by
        have h2 := hall e he hb
        rw [heq, unlisted hun] at h2
        cases h2
      have h2 := wpOp_putIf hoj (hfree j oj hoj hji hjun hnot) (fun cs b => hsel i oi cs b hi) (fun cs b => hsel j oj cs b hoj) hQ hy h1
      have hfree' : ∀ k ok, ops[k]? = some ok → k ≠ i → (listed.setIfInBounds j true).getD k true = false →
          (∀ e ∈ ok.after, Region.binds md e = true → e.on ≠ i) → oi.apart ops ok = true := fun k ok hk hki hun hno => by
        refine hfree k ok hk hki ?_ hno
        by_cases hjk : j = k
        · subst hjk; exact hjun
        · rw [getD_set_ne true hjk] at hun; exact hun
      refine wpOp_mono (fun a' w' h3 => ⟨h3.2.1, ih (listed.setIfInBounds j true) a' w' (hsd.set hj) hfree' (ready_mono hr (Ne.symm hji)) h3.1 (h3.2.1 hlj) ?_⟩) h2
      rw [Array.setIfInBounds_comm _ _ hji]
      exact h3.2.2

/-- One order: each operation with its number; 'true': it is carried out where it stands. -/
def SeqL (P : Program) (ops : Array Oper) (Q : Exit → Act → World → Prop) (S : World → Prop) (late : Nat → Bool) : List (Nat × Bool) → Act → World → Prop
  | [], a, w => Q .normal a w
  | (i, false) :: r, a, w => ∃ o v, ops[i]? = some o ∧ YieldsIf P ops S o v a ∧ S w ∧ (∀ c a w, Q (.panic c) (a.put o.dst v) w → Q (.panic c) a w) ∧ SeqL P ops Q S late r (a.put o.dst v) w
  | (i, true) :: r, a, w => wpOp P ops Q i (fun a' w' => (late i = false → S w') ∧ SeqL P ops Q S late r a' w') a w
/-- Does one order serve for all? -/
def seqB (md : Region.Mode) (ops : Array Oper) (late : Nat → Bool) : List (Nat × Bool) → Array Bool → Bool
  | [], listed => (Region.ready md ops listed).isEmpty
  | (i, false) :: r, listed => (Region.ready md ops listed).contains i && Region.free md ops listed i && !late i && (List.range ops.size).all (fun j => !late j || reachB md ops ops.size j i) && seqB md ops late r (listed.setIfInBounds i true)
  | (i, true) :: r, listed => decide (Region.ready md ops listed = [i]) && seqB md ops late r (listed.setIfInBounds i true)

theorem anyL_of_seq (hs : Region.noSelect ops = true) (hlt : ∀ j, late j = true → j < ops.size) : ∀ (l : List (Nat × Bool)) (listed : Array Bool) (a : Act) (w : World),
    seqB md ops late l listed = true → ShutDown md ops listed → SeqL P ops Q S late l a w → AnyL P md ops Q S late l.length listed a w
  | [], listed, a, w, hb, _, h => ⟨by simpa [seqB] using hb, h⟩
  | (i, false) :: r, listed, a, w, hb, hd, h => by
    simp only [seqB, Bool.and_eq_true, Bool.not_eq_true', List.all_eq_true, List.mem_range, Bool.or_eq_true] at hb
    obtain ⟨⟨⟨⟨h1, h2⟩, h3⟩, h4⟩, h5⟩ := hb
    obtain ⟨o, v, ho, hy, hS, hQ, hr⟩ := h
    have hri : i ∈ Region.ready md ops listed := by simpa using h1
    exact anyL_first ho (Region.noSelect_spec hs) hQ h3 (N := ops.size) (fun j hj => by
      rcases h4 j (hlt j hj) with h | h
      · rw [hj] at h; cases h
      · exact h) r.length listed a w hd (Region.free_spec ho h2) hri hy hS (anyL_of_seq hs hlt r _ _ _ h5 (hd.set hri) hr)
  | (i, true) :: r, listed, a, w, hb, hd, h => by
    simp only [seqB, Bool.and_eq_true, decide_eq_true_eq] at hb
    obtain ⟨h1, h2⟩ := hb
    have hri : i ∈ Region.ready md ops listed := by rw [h1]; simp
    refine ⟨fun h0 => (by rw [h1] at h0; cases h0), fun j hj => ?_⟩
    rw [h1] at hj
    obtain rfl : j = i := by simpa using hj
    exact wpOp_mono (fun a' w' k => ⟨k.1, anyL_of_seq hs hlt r _ _ _ h2 (hd.set hri) k.2⟩) h

/-- The numbers that are late. -/
def lateOf (l : List Nat) : Nat → Bool := fun j => l.contains j

/-- A region that asks the tape, by one order. -/
theorem region_by {id : Nat} {a : Act} {w : World} (l : List (Nat × Bool)) (lt : List Nat) (hm : P.follows .mixedOrders = true)
    (hb : (Region.noSelect ops && lt.all (fun j => decide (j < ops.size)) && decide (l.length = ops.size) && seqB .any ops (lateOf lt) l (Array.replicate ops.size false)) = true)
    (h : SeqL P ops Q S (lateOf lt) l a w.drew) : (Code.region id ops true).wp P Q a w := by
  simp only [Bool.and_eq_true, decide_eq_true_eq] at hb
  obtain ⟨⟨⟨h1, h2⟩, h3⟩, h4⟩ := hb
  have h5 := anyL_of_seq (P := P) (Q := Q) (S := S) h1 (fun j hj => by
    have := List.all_eq_true.1 h2 j (by simpa [lateOf] using hj)
    simpa using this) l _ a w.drew h4 (shutDown_start ops.size) h
  rw [h3] at h5
  exact wp_region_any hm (any_of_anyL _ _ _ _ h5)

/-- The order's end. -/
theorem seq_end {a : Act} {w : World} (h : Q .normal a w) : SeqL P ops Q S late [] a w := h
/-- One that only reads. -/
theorem seq_read {i : Nat} {o : Oper} {v : Value} {r : List (Nat × Bool)} {a : Act} {w : World} (ho : ops[i]? = some o) (hQ : ∀ c a w, Q (.panic c) (a.put o.dst v) w → Q (.panic c) a w) (hw : Region.wanted o (yielded ops a.tmps) = true) (hS : S w)
    (hy : ∀ w, S w → (execOp a.eval o).run P w = .ok (.value v) w) (h : SeqL P ops Q S late r (a.put o.dst v) w) : SeqL P ops Q S late ((i, false) :: r) a w :=
  ⟨o, v, ho, Or.inl ⟨hw, hy⟩, hS, hQ, h⟩
/-- One that is carried out. -/
theorem seq_do {i : Nat} {o : Oper} {r : List (Nat × Bool)} {a : Act} {w : World} (ho : ops[i]? = some o)
    (h : ∀ K : Act → World → Prop, (∀ a w, (late i = false → S w) → SeqL P ops Q S late r a w → K a w) → if Region.wanted o (yielded ops a.tmps) = true then Oper.wp P o a w K Q else K (a.put o.dst undef) w) : SeqL P ops Q S late ((i, true) :: r) a w :=
  wpOp_step ho (fun K' hK => h K' (fun a w h1 h2 => hK a w ⟨h1, h2⟩))
end

end Go.Proofs.Ytngmeaaglogieaa
