/- Joined: Late, Fork, Frames. -/
import Derived.OrdersHeld
import Derived.RegionTactic
import Derived.WalkKit
import Derived.KernelRfl
namespace Go.Proofs.YthimcecbgpamdaaGreat
open Go

section
variable {P : Program} {ops : Array Oper} {Q : Exit → Act → World → Prop} {md : Region.Mode} {S : World → Prop} {late : Nat → Bool}

/-- Whatever order is picked from here on; S holds behind each operation but the late ones. -/
def AnyL (P : Program) (md : Region.Mode) (ops : Array Oper) (Q : Exit → Act → World → Prop) (S : World → Prop) (late : Nat → Bool) : Nat → Array Bool → Act → World → Prop
  | 0, listed, a, w => Region.ready md ops listed = [] ∧ Q .normal a w
  | fuel + 1, listed, a, w =>
    (Region.ready md ops listed = [] → Q .normal a w) ∧
    ∀ i ∈ Region.ready md ops listed, wpOp P ops Q i (fun a' w' => (late i = false → S w') ∧ AnyL P md ops Q S late fuel (listed.setIfInBounds i true) a' w') a w

theorem any_of_anyL : ∀ (fuel : Nat) (listed : Array Bool) (a : Act) (w : World), AnyL P md ops Q S late fuel listed a w → wpAny P md ops Q fuel listed a w
  | 0, _, _, _, h => h
  | fuel + 1, _, _, _, h => ⟨h.1, fun i hi => wpOp_mono (fun a' w' k => any_of_anyL fuel _ a' w' k.2) (h.2 i hi)⟩

/-- What has come up has all that it waits for behind it. -/
def ShutDown (md : Region.Mode) (ops : Array Oper) (listed : Array Bool) : Prop :=
  ∀ j oj, ops[j]? = some oj → listed.getD j false = true → ∀ e ∈ oj.after, Region.binds md e = true → listed.getD e.on false = true
theorem ShutDown.set {i : Nat} {listed : Array Bool} (h : ShutDown md ops listed) (hi : i ∈ Region.ready md ops listed) : ShutDown md ops (listed.setIfInBounds i true) := by
  obtain ⟨_, oi, hoi, hall⟩ := mem_ready.1 hi
  intro j oj hj hl e he hb
  by_cases hij : i = j
  · subst hij
    obtain rfl : oj = oi := Option.some.inj (hj.symm.trans hoi)
    exact getD_set_true (hall e he hb)
  · rw [getD_set_ne false hij] at hl
    exact getD_set_true (h j oj hj hl e he hb)
theorem shutDown_start (n : Nat) : ShutDown md ops (Array.replicate n false) := by
  intro j oj _ hl
  rcases Nat.lt_or_ge j n with h | h
  · simp [h] at hl
  · simp [h] at hl

/-- Does j wait for i, over others too? -/
def reachB (md : Region.Mode) (ops : Array Oper) : Nat → Nat → Nat → Bool
  | 0, _, _ => false
  | f + 1, j, i => match ops[j]? with
    | some oj => oj.after.any fun e => Region.binds md e && (e.on == i || reachB md ops f e.on i)
    | none => false
theorem reach_listed {listed : Array Bool} (h : ShutDown md ops listed) : ∀ (f j i : Nat), reachB md ops f j i = true →
    (∀ oj, ops[j]? = some oj → ∀ e ∈ oj.after, Region.binds md e = true → listed.getD e.on false = true) → listed.getD i false = true
  | 0, _, _, hr, _ => by cases hr
  | f + 1, j, i, hr, hp => by
    unfold reachB at hr
    split at hr
    · rename_i oj hj
      obtain ⟨e, he, hb⟩ := Array.any_eq_true'.1 hr
      simp only [Bool.and_eq_true, Bool.or_eq_true, beq_iff_eq] at hb
      have hl := hp oj hj e he hb.1
      rcases hb.2 with h1 | h1
      · rw [h1] at hl; exact hl
      · exact reach_listed h f e.on i h1 (fun oe hoe e' he' hb' => h e.on oe hoe hl e' he' hb')
    · cases hr

theorem unlisted {listed : Array Bool} {i : Nat} (h : listed.getD i true = false) : listed.getD i false = false := by grind

theorem anyL_first {i N : Nat} {oi : Oper} {v : Value} (hi : ops[i]? = some oi) (hsel : ∀ (j : Nat) (o : Oper) cs b, ops[j]? = some o → o.op ≠ .select cs b)
    (hQ : ∀ c a w, Q (.panic c) (a.put oi.dst v) w → Q (.panic c) a w) (hli : late i = false) (hlate : ∀ j, late j = true → reachB md ops N j i = true) :
    ∀ (fuel : Nat) (listed : Array Bool) (a : Act) (w : World), ShutDown md ops listed →
      (∀ j oj, ops[j]? = some oj → j ≠ i → listed.getD j true = false → (∀ e ∈ oj.after, Region.binds md e = true → e.on ≠ i) → oi.apart ops oj = true) →
      i ∈ Region.ready md ops listed → YieldsIf P ops S oi v a → S w →
      AnyL P md ops Q S late fuel (listed.setIfInBounds i true) (a.put oi.dst v) w → AnyL P md ops Q S late (fuel + 1) listed a w := by
  intro fuel
  induction fuel with
  | zero =>
    intro listed a w _ _ hr hy hS H
    refine ⟨fun h => (by rw [h] at hr; cases hr), fun j hj => ?_⟩
    by_cases hji : j = i
    · subst hji; exact hy.wpOp hi hS ⟨fun _ => hS, H⟩
    · have := ready_mono hj hji
      rw [H.1] at this
      cases this
  | succ fuel ih =>
    intro listed a w hsd hfree hr hy hS H
    refine ⟨fun h => (by rw [h] at hr; cases hr), fun j hj => ?_⟩
    have hun := (mem_ready.1 hr).1
    by_cases hji : j = i
    · subst hji; exact hy.wpOp hi hS ⟨fun _ => hS, H⟩
    · have h1 := H.2 j (ready_mono hj hji)
      obtain ⟨hjun, oj, hoj, hall⟩ := mem_ready.1 hj
      have hlj : late j = false := by
        cases h : late j
        · rfl
        · have := reach_listed hsd N j i (hlate j h) (fun o ho e he hb => by
            obtain rfl : o = oj := Option.some.inj (ho.symm.trans hoj)
            exact hall e he hb)
          rw [unlisted hun] at this
          cases this
      have hnot : ∀ e ∈ oj.after, Region.binds md e = true → e.on ≠ i := fun e he hb heq => by
        have h2 := hall e he hb
        rw [heq, unlisted hun] at h2
        cases h2
      have h2 := wpOp_putIf hoj (hfree j oj hoj hji hjun hnot) (fun cs b => hsel i oi cs b hi) (fun cs b => hsel j oj cs b hoj) hQ hy h1
      have hfree' : ∀ k ok, ops[k]? = some ok → k ≠ i → (listed.setIfInBounds j true).getD k true = false →
          (∀ e ∈ ok.after, Region.binds md e = true → e.on ≠ i) → oi.apart ops ok = true := fun k ok hk hki hun hno => by
        refine hfree k ok hk hki ?_ hno
        by_cases hjk : j = k
        · subst hjk; exact hjun
        · rw [getD_set_ne true hjk] at hun; exact hun
      refine wpOp_mono (fun a' w' h3 => ⟨h3.2.1, ih (listed.setIfInBounds j true) a' w' (hsd.set hj) hfree' (ready_mono hr (Ne.symm hji)) h3.1 (h3.2.1 hlj) ?_⟩) h2
      rw [Array.setIfInBounds_comm _ _ hji]
      exact h3.2.2

/-- One order: each operation with its number; 'true': it is carried out where it stands. -/
def SeqL (P : Program) (ops : Array Oper) (Q : Exit → Act → World → Prop) (S : World → Prop) (late : Nat → Bool) : List (Nat × Bool) → Act → World → Prop
  | [], a, w => Q .normal a w
  | (i, false) :: r, a, w => ∃ o v, ops[i]? = some o ∧ YieldsIf P ops S o v a ∧ S w ∧ (∀ c a w, Q (.panic c) (a.put o.dst v) w → Q (.panic c) a w) ∧ SeqL P ops Q S late r (a.put o.dst v) w
  | (i, true) :: r, a, w => wpOp P ops Q i (fun a' w' => (late i = false → S w') ∧ SeqL P ops Q S late r a' w') a w
/-- Does one order serve for all? -/
def seqB (md : Region.Mode) (ops : Array Oper) (late : Nat → Bool) : List (Nat × Bool) → Array Bool → Bool
  | [], listed => (Region.ready md ops listed).isEmpty
  | (i, false) :: r, listed => (Region.ready md ops listed).contains i && Region.free md ops listed i && !late i && (List.range ops.size).all (fun j => !late j || reachB md ops ops.size j i) && seqB md ops late r (listed.setIfInBounds i true)
  | (i, true) :: r, listed => decide (Region.ready md ops listed = [i]) && seqB md ops late r (listed.setIfInBounds i true)

theorem anyL_of_seq (hs : Region.noSelect ops = true) (hlt : ∀ j, late j = true → j < ops.size) : ∀ (l : List (Nat × Bool)) (listed : Array Bool) (a : Act) (w : World),
    seqB md ops late l listed = true → ShutDown md ops listed → SeqL P ops Q S late l a w → AnyL P md ops Q S late l.length listed a w
  | [], listed, a, w, hb, _, h => ⟨by simpa [seqB] using hb, h⟩
  | (i, false) :: r, listed, a, w, hb, hd, h => by
    simp only [seqB, Bool.and_eq_true, Bool.not_eq_true', List.all_eq_true, List.mem_range, Bool.or_eq_true] at hb
    obtain ⟨⟨⟨⟨h1, h2⟩, h3⟩, h4⟩, h5⟩ := hb
    obtain ⟨o, v, ho, hy, hS, hQ, hr⟩ := h
    have hri : i ∈ Region.ready md ops listed := by simpa using h1
    exact anyL_first ho (Region.noSelect_spec hs) hQ h3 (N := ops.size) (fun j hj => by
      rcases h4 j (hlt j hj) with h | h
      · rw [hj] at h; cases h
      · exact h) r.length listed a w hd (Region.free_spec ho h2) hri hy hS (anyL_of_seq hs hlt r _ _ _ h5 (hd.set hri) hr)
  | (i, true) :: r, listed, a, w, hb, hd, h => by
    simp only [seqB, Bool.and_eq_true, decide_eq_true_eq] at hb
    obtain ⟨h1, h2⟩ := hb
    have hri : i ∈ Region.ready md ops listed := by rw [h1]; simp
    refine ⟨fun h0 => (by rw [h1] at h0; cases h0), fun j hj => ?_⟩
    rw [h1] at hj
    obtain rfl : j = i := by simpa using hj
    exact wpOp_mono (fun a' w' k => ⟨k.1, anyL_of_seq hs hlt r _ _ _ h2 (hd.set hri) k.2⟩) h

/-- The numbers that are late. -/
def lateOf (l : List Nat) : Nat → Bool := fun j => l.contains j

/-- A region that asks the tape, by one order. -/
theorem region_by {id : Nat} {a : Act} {w : World} (l : List (Nat × Bool)) (lt : List Nat) (hm : P.follows .mixedOrders = true)
    (hb : (Region.noSelect ops && lt.all (fun j => decide (j < ops.size)) && decide (l.length = ops.size) && seqB .any ops (lateOf lt) l (Array.replicate ops.size false)) = true)
    (h : SeqL P ops Q S (lateOf lt) l a w.drew) : (Code.region id ops true).wp P Q a w := by
  simp only [Bool.and_eq_true, decide_eq_true_eq] at hb
  obtain ⟨⟨⟨h1, h2⟩, h3⟩, h4⟩ := hb
  have h5 := anyL_of_seq (P := P) (Q := Q) (S := S) h1 (fun j hj => by
    have := List.all_eq_true.1 h2 j (by simpa [lateOf] using hj)
    simpa using this) l _ a w.drew h4 (shutDown_start ops.size) h
  rw [h3] at h5
  exact wp_region_any hm (any_of_anyL _ _ _ _ h5)

/-- The order's end. -/
theorem seq_end {a : Act} {w : World} (h : Q .normal a w) : SeqL P ops Q S late [] a w := h
/-- One that only reads. -/
theorem seq_read {i : Nat} {o : Oper} {v : Value} {r : List (Nat × Bool)} {a : Act} {w : World} (ho : ops[i]? = some o) (hQ : ∀ c a w, Q (.panic c) (a.put o.dst v) w → Q (.panic c) a w) (hw : Region.wanted o (yielded ops a.tmps) = true) (hS : S w)
    (hy : ∀ w, S w → (execOp a.eval o).run P w = .ok (.value v) w) (h : SeqL P ops Q S late r (a.put o.dst v) w) : SeqL P ops Q S late ((i, false) :: r) a w :=
  ⟨o, v, ho, Or.inl ⟨hw, hy⟩, hS, hQ, h⟩
/-- One that is carried out. -/
theorem seq_do {i : Nat} {o : Oper} {r : List (Nat × Bool)} {a : Act} {w : World} (ho : ops[i]? = some o)
    (h : ∀ K : Act → World → Prop, (∀ a w, (late i = false → S w) → SeqL P ops Q S late r a w → K a w) → if Region.wanted o (yielded ops a.tmps) = true then Oper.wp P o a w K Q else K (a.put o.dst undef) w) : SeqL P ops Q S late ((i, true) :: r) a w :=
  wpOp_step ho (fun K' hK => h K' (fun a w h1 h2 => hK a w ⟨h1, h2⟩))
end

end Go.Proofs.YthimcecbgpamdaaGreat

namespace Go.Proofs.YthimcecbgpamdaaGreat
open Go

/-- A plan: an operation that only reads; one that is carried out where it stands; two that may come next. -/
inductive Plan where
  | fin
  | rd (i : Nat) (r : Plan)
  | go (i : Nat) (r : Plan)
  | two (i j : Nat) (ri rj : Plan)
  | three (i j k : Nat) (ri rj rk : Plan)

def Plan.len : Plan → Nat
  | .fin => 0
  | .rd _ r => r.len + 1
  | .go _ r => r.len + 1
  | .two _ _ r _ => r.len + 1
  | .three _ _ _ r _ _ => r.len + 1

section
variable {P : Program} {ops : Array Oper} {Q : Exit → Act → World → Prop} {md : Region.Mode} {S : World → Prop} {late : Nat → Bool}

def SeqP (P : Program) (ops : Array Oper) (Q : Exit → Act → World → Prop) (S : World → Prop) (late : Nat → Bool) : Plan → Act → World → Prop
  | .fin, a, w => Q .normal a w
  | .rd i r, a, w => ∃ o v, ops[i]? = some o ∧ YieldsIf P ops S o v a ∧ S w ∧ (∀ c a w, Q (.panic c) (a.put o.dst v) w → Q (.panic c) a w) ∧ SeqP P ops Q S late r (a.put o.dst v) w
  | .go i r, a, w => wpOp P ops Q i (fun a' w' => (late i = false → S w') ∧ SeqP P ops Q S late r a' w') a w
  | .two i j ri rj, a, w => wpOp P ops Q i (fun a' w' => (late i = false → S w') ∧ SeqP P ops Q S late ri a' w') a w ∧
      wpOp P ops Q j (fun a' w' => (late j = false → S w') ∧ SeqP P ops Q S late rj a' w') a w
  | .three i j k ri rj rk, a, w => wpOp P ops Q i (fun a' w' => (late i = false → S w') ∧ SeqP P ops Q S late ri a' w') a w ∧
      wpOp P ops Q j (fun a' w' => (late j = false → S w') ∧ SeqP P ops Q S late rj a' w') a w ∧
      wpOp P ops Q k (fun a' w' => (late k = false → S w') ∧ SeqP P ops Q S late rk a' w') a w

def planB (md : Region.Mode) (ops : Array Oper) (late : Nat → Bool) : Plan → Array Bool → Bool
  | .fin, listed => (Region.ready md ops listed).isEmpty
  | .rd i r, listed => (Region.ready md ops listed).contains i && Region.free md ops listed i && !late i && (List.range ops.size).all (fun j => !late j || reachB md ops ops.size j i) && planB md ops late r (listed.setIfInBounds i true)
  | .go i r, listed => decide (Region.ready md ops listed = [i]) && planB md ops late r (listed.setIfInBounds i true)
  | .two i j ri rj, listed => decide (Region.ready md ops listed = [i, j]) && decide (ri.len = rj.len) && planB md ops late ri (listed.setIfInBounds i true) && planB md ops late rj (listed.setIfInBounds j true)
  | .three i j k ri rj rk, listed => decide (Region.ready md ops listed = [i, j, k]) && decide (ri.len = rj.len) && decide (ri.len = rk.len) && planB md ops late ri (listed.setIfInBounds i true) && planB md ops late rj (listed.setIfInBounds j true) && planB md ops late rk (listed.setIfInBounds k true)

theorem anyL_of_plan (hs : Region.noSelect ops = true) (hlt : ∀ j, late j = true → j < ops.size) : ∀ (l : Plan) (listed : Array Bool) (a : Act) (w : World),
    planB md ops late l listed = true → ShutDown md ops listed → SeqP P ops Q S late l a w → AnyL P md ops Q S late l.len listed a w
  | .fin, listed, a, w, hb, _, h => ⟨by simpa [planB] using hb, h⟩
  | .rd i r, listed, a, w, hb, hd, h => by
    simp only [planB, Bool.and_eq_true, Bool.not_eq_true', List.all_eq_true, List.mem_range, Bool.or_eq_true] at hb
    obtain ⟨⟨⟨⟨h1, h2⟩, h3⟩, h4⟩, h5⟩ := hb
    obtain ⟨o, v, ho, hy, hS, hQ, hr⟩ := h
    have hri : i ∈ Region.ready md ops listed := by simpa using h1
    exact anyL_first ho (Region.noSelect_spec hs) hQ h3 (N := ops.size) (fun j hj => by
      rcases h4 j (hlt j hj) with h | h
      · rw [hj] at h; cases h
      · exact h) r.len listed a w hd (Region.free_spec ho h2) hri hy hS (anyL_of_plan hs hlt r _ _ _ h5 (hd.set hri) hr)
  | .go i r, listed, a, w, hb, hd, h => by
    simp only [planB, Bool.and_eq_true, decide_eq_true_eq] at hb
    obtain ⟨h1, h2⟩ := hb
    have hri : i ∈ Region.ready md ops listed := by rw [h1]; simp
    refine ⟨fun h0 => (by rw [h1] at h0; cases h0), fun j hj => ?_⟩
    rw [h1] at hj
    obtain rfl : j = i := by simpa using hj
    exact wpOp_mono (fun a' w' k => ⟨k.1, anyL_of_plan hs hlt r _ _ _ h2 (hd.set hri) k.2⟩) h
  | .two i j ri rj, listed, a, w, hb, hd, h => by
    simp only [planB, Bool.and_eq_true, decide_eq_true_eq] at hb
    obtain ⟨⟨⟨h1, h2⟩, h3⟩, h4⟩ := hb
    have hi : i ∈ Region.ready md ops listed := by rw [h1]; simp
    have hj : j ∈ Region.ready md ops listed := by rw [h1]; simp
    refine ⟨fun h0 => (by rw [h1] at h0; cases h0), fun k hk => ?_⟩
    rw [h1] at hk
    have hk2 : k = i ∨ k = j := by simpa using hk
    rcases hk2 with rfl | rfl
    · exact wpOp_mono (fun a' w' q => ⟨q.1, anyL_of_plan hs hlt ri _ _ _ h3 (hd.set hi) q.2⟩) h.1
    · refine wpOp_mono (fun a' w' q => ⟨q.1, ?_⟩) h.2
      have := anyL_of_plan hs hlt rj _ a' w' h4 (hd.set hj) q.2
      show AnyL P md ops Q S late ri.len _ a' w'
      rw [h2]
      exact this
  | .three i j k ri rj rk, listed, a, w, hb, hd, h => by
    simp only [planB, Bool.and_eq_true, decide_eq_true_eq] at hb
    obtain ⟨⟨⟨⟨⟨h1, h2⟩, h3⟩, h4⟩, h5⟩, h6⟩ := hb
    have hi : i ∈ Region.ready md ops listed := by rw [h1]; simp
    have hj : j ∈ Region.ready md ops listed := by rw [h1]; simp
    have hk : k ∈ Region.ready md ops listed := by rw [h1]; simp
    refine ⟨fun h0 => (by rw [h1] at h0; cases h0), fun m hm => ?_⟩
    rw [h1] at hm
    have hm2 : m = i ∨ m = j ∨ m = k := by simpa using hm
    rcases hm2 with rfl | rfl | rfl
    · exact wpOp_mono (fun a' w' q => ⟨q.1, anyL_of_plan hs hlt ri _ _ _ h4 (hd.set hi) q.2⟩) h.1
    · refine wpOp_mono (fun a' w' q => ⟨q.1, ?_⟩) h.2.1
      have := anyL_of_plan hs hlt rj _ a' w' h5 (hd.set hj) q.2
      show AnyL P md ops Q S late ri.len _ a' w'
      rw [h2]
      exact this
    · refine wpOp_mono (fun a' w' q => ⟨q.1, ?_⟩) h.2.2
      have := anyL_of_plan hs hlt rk _ a' w' h6 (hd.set hk) q.2
      show AnyL P md ops Q S late ri.len _ a' w'
      rw [h3]
      exact this

/-- A region that asks the tape, by a plan. -/
theorem region_plan {id : Nat} {a : Act} {w : World} (l : Plan) (lt : List Nat) (hm : P.follows .mixedOrders = true)
    (hb : (Region.noSelect ops && lt.all (fun j => decide (j < ops.size)) && decide (l.len = ops.size) && planB .any ops (lateOf lt) l (Array.replicate ops.size false)) = true)
    (h : SeqP P ops Q S (lateOf lt) l a w.drew) : (Code.region id ops true).wp P Q a w := by
  simp only [Bool.and_eq_true, decide_eq_true_eq] at hb
  obtain ⟨⟨⟨h1, h2⟩, h3⟩, h4⟩ := hb
  have h5 := anyL_of_plan (P := P) (Q := Q) (S := S) h1 (fun j hj => by
    have := List.all_eq_true.1 h2 j (by simpa [lateOf] using hj)
    simpa using this) l _ a w.drew h4 (shutDown_start ops.size) h
  rw [h3] at h5
  exact wp_region_any hm (any_of_anyL _ _ _ _ h5)

theorem plan_end {a : Act} {w : World} (h : Q .normal a w) : SeqP P ops Q S late .fin a w := h
/-- One that only reads. -/
theorem plan_read {i : Nat} {o : Oper} {v : Value} {r : Plan} {a : Act} {w : World} (ho : ops[i]? = some o) (hQ : ∀ c a w, Q (.panic c) (a.put o.dst v) w → Q (.panic c) a w) (hw : Region.wanted o (yielded ops a.tmps) = true) (hS : S w)
    (hy : ∀ w, S w → (execOp a.eval o).run P w = .ok (.value v) w) (h : SeqP P ops Q S late r (a.put o.dst v) w) : SeqP P ops Q S late (.rd i r) a w :=
  ⟨o, v, ho, Or.inl ⟨hw, hy⟩, hS, hQ, h⟩
/-- One that is carried out. -/
theorem plan_do {i : Nat} {o : Oper} {r : Plan} {a : Act} {w : World} (ho : ops[i]? = some o)
    (h : ∀ K : Act → World → Prop, (∀ a w, (late i = false → S w) → SeqP P ops Q S late r a w → K a w) → if Region.wanted o (yielded ops a.tmps) = true then Oper.wp P o a w K Q else K (a.put o.dst undef) w) : SeqP P ops Q S late (.go i r) a w :=
  wpOp_step ho (fun K' hK => h K' (fun a w h1 h2 => hK a w ⟨h1, h2⟩))
/-- Two that may come next. -/
theorem plan_two {i j : Nat} {oi oj : Oper} {ri rj : Plan} {a : Act} {w : World} (hoi : ops[i]? = some oi) (hoj : ops[j]? = some oj)
    (h : ∀ K : Act → World → Prop, (∀ a w, (late i = false → S w) → SeqP P ops Q S late ri a w → K a w) → if Region.wanted oi (yielded ops a.tmps) = true then Oper.wp P oi a w K Q else K (a.put oi.dst undef) w)
    (k : ∀ K : Act → World → Prop, (∀ a w, (late j = false → S w) → SeqP P ops Q S late rj a w → K a w) → if Region.wanted oj (yielded ops a.tmps) = true then Oper.wp P oj a w K Q else K (a.put oj.dst undef) w) : SeqP P ops Q S late (.two i j ri rj) a w :=
  ⟨wpOp_step hoi (fun K' hK => h K' (fun a w h1 h2 => hK a w ⟨h1, h2⟩)), wpOp_step hoj (fun K' hK => k K' (fun a w h1 h2 => hK a w ⟨h1, h2⟩))⟩
/-- Three that may come next. -/
theorem plan_three {i j k : Nat} {oi oj ok : Oper} {ri rj rk : Plan} {a : Act} {w : World} (hoi : ops[i]? = some oi) (hoj : ops[j]? = some oj) (hok : ops[k]? = some ok)
    (h : ∀ K : Act → World → Prop, (∀ a w, (late i = false → S w) → SeqP P ops Q S late ri a w → K a w) → if Region.wanted oi (yielded ops a.tmps) = true then Oper.wp P oi a w K Q else K (a.put oi.dst undef) w)
    (h2 : ∀ K : Act → World → Prop, (∀ a w, (late j = false → S w) → SeqP P ops Q S late rj a w → K a w) → if Region.wanted oj (yielded ops a.tmps) = true then Oper.wp P oj a w K Q else K (a.put oj.dst undef) w)
    (h3 : ∀ K : Act → World → Prop, (∀ a w, (late k = false → S w) → SeqP P ops Q S late rk a w → K a w) → if Region.wanted ok (yielded ops a.tmps) = true then Oper.wp P ok a w K Q else K (a.put ok.dst undef) w) : SeqP P ops Q S late (.three i j k ri rj rk) a w :=
  ⟨wpOp_step hoi (fun K' hK => h K' (fun a w h1 h2 => hK a w ⟨h1, h2⟩)), wpOp_step hoj (fun K' hK => h2 K' (fun a w h1 h2 => hK a w ⟨h1, h2⟩)), wpOp_step hok (fun K' hK => h3 K' (fun a w h1 h2 => hK a w ⟨h1, h2⟩))⟩
end

/-- One operation f that may come anywhere among others. -/
def floats (f : Nat) : List Nat → Plan → Plan
  | [], r => .go f r
  | i :: l, r => if i < f then .two i f (floats f l r) (chain (i :: l) r) else .two f i (chain (i :: l) r) (floats f l r)
where chain : List Nat → Plan → Plan
  | [], r => r
  | i :: l, r => .go i (chain l r)

end Go.Proofs.YthimcecbgpamdaaGreat

namespace Go.Proofs.YthimcecbgpamdaaGreat
open Go

theorem sz_put (a : Act) (d : Nat) (v : Value) : (a.put (some d) v).tmps.size = a.tmps.size := by
  show (a.tmps.setIfInBounds d v).size = _
  simp
theorem ev_put (a : Act) (d e : Nat) (v : Value) (h : d < a.tmps.size) : (a.put (some d) v).eval (.tmp e) = if d = e then v else a.eval (.tmp e) := by
  show (a.tmps.setIfInBounds d v).getD e undef = if d = e then v else a.tmps.getD e undef
  by_cases he : d = e
  · subst he; rw [if_pos rfl]; simp [h]
  · rw [if_neg he]; simp [he]
theorem ev_same (a : Act) (d : Nat) (v : Value) (h : d < a.tmps.size) : (a.put (some d) v).eval (.tmp d) = v := by rw [ev_put a d d v h, if_pos rfl]
theorem ev_other (a : Act) {d e : Nat} (v : Value) (h : d ≠ e) : (a.put (some d) v).eval (.tmp e) = a.eval (.tmp e) := by
  show (a.tmps.setIfInBounds d v).getD e undef = a.tmps.getD e undef
  simp [h]
theorem ev_const (a : Act) (v : Value) : a.eval (.const v) = v := rfl
theorem put_swap (a : Act) (d e : Nat) (v u : Value) (h : e < d) : (a.put (some d) v).put (some e) u = (a.put (some e) u).put (some d) v :=
  Act.put_comm a v u (fun x hx hy => by cases hx; cases hy; omega)
theorem put_def (a : Act) (d : Nat) (v : Value) : (a.put (some d) v).defers = a.defers := rfl
theorem put_none (a : Act) (v : Value) : a.put none v = a := rfl
theorem run_move {P : Program} {f : Operand → Value} {o : Oper} (x : Operand) (ho : o.op = .move x) {v : Value} (h : f x = v) (w : World) : (execOp f o).run P w = .ok (.value v) w := by
  subst h; unfold execOp; rw [ho]; rfl
theorem run_assign {P : Program} {f : Operand → Value} {o : Oper} (x : Operand) (ho : o.op = .assign x) {v : Value} (h : f x = v) (w : World) : (execOp f o).run P w = .ok (.value v) w := by
  subst h; unfold execOp; rw [ho]; rfl
theorem run_pickT' {P : Program} {f : Operand → Value} {o : Oper} (c x y : Operand) (ho : o.op = .pick c x y) {v : Value} (hc : f c = .bool true) (hx : f x = v) (w : World) : (execOp f o).run P w = .ok (.value v) w := by
  unfold execOp
  rw [ho]
  dsimp only
  rw [hc, hx]
  go_simp
theorem run_pickF {P : Program} {f : Operand → Value} {o : Oper} (c x y : Operand) (ho : o.op = .pick c x y) {v : Value} (hc : f c = .bool false) (hy : f y = v) (w : World) : (execOp f o).run P w = .ok (.value v) w := by
  unfold execOp
  rw [ho]
  dsimp only
  rw [hc, hy]
  go_simp
theorem run_notB {P : Program} {f : Operand → Value} {o : Oper} (x : Operand) (t : TypeId) (ho : o.op = .unOp .not t x) {b : Bool} (hx : f x = .bool b) (w : World) : (execOp f o).run P w = .ok (.value (.bool (!b))) w := by
  unfold execOp
  rw [ho]
  dsimp only
  rw [hx]
  go_simp
/-- A piece of code by what it leaves, its frame a variable. -/
theorem wp_leaves {P : Program} {c : Code} {Q : Exit → Act → World → Prop} {a : Act} {w : World} (R : Act → Act → World → Prop) (h : ∀ a0, a0 = a → c.wp P (fun e a' w' => e = .normal ∧ R a0 a' w') a0 w) (k : ∀ a' w', R a a' w' → Q .normal a' w') : c.wp P Q a w :=
  Code.wp_mono (fun e a' w' ⟨he, hr⟩ => by rw [he]; exact k a' w' hr) (h a rfl)
theorem no_panic {R : Act → World → Prop} {a a' : Act} : ∀ c (w : World), (Exit.panic c = .normal ∧ R a w) → (Exit.panic c = .normal ∧ R a' w) := fun _ _ h => absurd h.1 (fun e => nomatch e)

/-- An operation without a guard is carried out. -/
theorem wanted_do {P : Program} {o : Oper} {ys : Nat → Option Bool} {a : Act} {w : World} {K : Act → World → Prop} {Q : Exit → Act → World → Prop} {E : Prop} (hg : o.guard = none) (h : Oper.wp P o a w K Q) :
    if Region.wanted o ys = true then Oper.wp P o a w K Q else E := by
  have hw : Region.wanted o ys = true := by simp [Region.wanted, hg]
  rw [if_pos hw]; exact h
theorem wanted_rd {o : Oper} {ys : Nat → Option Bool} (hg : o.guard = none) : Region.wanted o ys = true := by simp [Region.wanted, hg]

theorem wanted_g {o oj : Oper} {ops : Array Oper} {a : Act} {j d : Nat} {b : Bool} (hg : o.guard = some (j, b)) (hj : ops[j]? = some oj) (hd : oj.dst = some d) (hv : a.eval (.tmp d) = .bool b) : Region.wanted o (yielded ops a.tmps) = true := by
  have e : a.tmps[d]? = some (.bool b) := by
    have h2 : a.tmps.getD d undef = .bool b := hv
    rcases Nat.lt_or_ge d a.tmps.size with h | h
    · simp [h] at h2 ⊢; exact h2
    · simp [Array.getElem?_eq_none h] at h2; cases h2
  simp [Region.wanted, hg, yielded, hj, hd, e]

theorem wanted_n {o oj : Oper} {ops : Array Oper} {a : Act} {j d : Nat} {b c : Bool} (hg : o.guard = some (j, b)) (hj : ops[j]? = some oj) (hd : oj.dst = some d) (hv : a.eval (.tmp d) = .bool c) (hb : c ≠ b) : Region.wanted o (yielded ops a.tmps) = false := by
  have e : a.tmps[d]? = some (.bool c) := by
    have h2 : a.tmps.getD d undef = .bool c := hv
    rcases Nat.lt_or_ge d a.tmps.size with h | h
    · simp [h] at h2 ⊢; exact h2
    · simp [Array.getElem?_eq_none h] at h2; cases h2
  simp [Region.wanted, hg, yielded, hj, hd, e, hb]

/-- One operation's work, not to be opened. -/
structure WpI (P : Program) (o : Oper) (a : Act) (w : World) (K : Act → World → Prop) (Q : Exit → Act → World → Prop) : Prop where
  out : Oper.wp P o a w K Q
section
variable {P : Program} {ops : Array Oper} {Q : Exit → Act → World → Prop} {S : World → Prop} {late : Nat → Bool}
/-- What is left of a plan, not to be opened. -/
structure SeqI (P : Program) (ops : Array Oper) (Q : Exit → Act → World → Prop) (S : World → Prop) (late : Nat → Bool) (l : Plan) (a : Act) (w : World) : Prop where
  out : SeqP P ops Q S late l a w
theorem region_I {id : Nat} {a : Act} {w : World} (l : Plan) (lt : List Nat) (hm : P.follows .mixedOrders = true)
    (hb : (Region.noSelect ops && lt.all (fun j => decide (j < ops.size)) && decide (l.len = ops.size) && planB .any ops (lateOf lt) l (Array.replicate ops.size false)) = true)
    (h : SeqI P ops Q S (lateOf lt) l a w.drew) : (Code.region id ops true).wp P Q a w := region_plan l lt hm hb h.out
theorem sI_end {a : Act} {w : World} (h : Q .normal a w) : SeqI P ops Q S late .fin a w := ⟨h⟩
theorem sI_read {i : Nat} {o : Oper} {v : Value} {r : Plan} {a : Act} {w : World} (ho : ops[i]? = some o) (hQ : ∀ c a w, Q (.panic c) (a.put o.dst v) w → Q (.panic c) a w) (hw : Region.wanted o (yielded ops a.tmps) = true) (hS : S w)
    (hy : ∀ w, S w → (execOp a.eval o).run P w = .ok (.value v) w) (h : SeqI P ops Q S late r (a.put o.dst v) w) : SeqI P ops Q S late (.rd i r) a w := ⟨plan_read ho hQ hw hS hy h.out⟩
/-- One that is not wanted. -/
theorem sI_skip {i : Nat} {o : Oper} {r : Plan} {a : Act} {w : World} (ho : ops[i]? = some o) (hQ : ∀ c a w, Q (.panic c) (a.put o.dst undef) w → Q (.panic c) a w) (hw : Region.wanted o (yielded ops a.tmps) = false) (hS : S w)
    (h : SeqI P ops Q S late r (a.put o.dst undef) w) : SeqI P ops Q S late (.rd i r) a w := ⟨⟨o, undef, ho, Or.inr ⟨hw, rfl⟩, hS, hQ, h.out⟩⟩
theorem sI_do {i : Nat} {o : Oper} {r : Plan} {a : Act} {w : World} (ho : ops[i]? = some o) (hw : Region.wanted o (yielded ops a.tmps) = true)
    (h : ∀ K : Act → World → Prop, (∀ a w, (late i = false → S w) → SeqI P ops Q S late r a w → K a w) → WpI P o a w K Q) : SeqI P ops Q S late (.go i r) a w :=
  ⟨plan_do ho (fun K hK => by rw [if_pos hw]; exact (h K (fun a w h1 h2 => hK a w h1 h2.out)).out)⟩
theorem sI_two {i j : Nat} {oi oj : Oper} {ri rj : Plan} {a : Act} {w : World} (hoi : ops[i]? = some oi) (hoj : ops[j]? = some oj) (hwi : Region.wanted oi (yielded ops a.tmps) = true) (hwj : Region.wanted oj (yielded ops a.tmps) = true)
    (h : ∀ K : Act → World → Prop, (∀ a w, (late i = false → S w) → SeqI P ops Q S late ri a w → K a w) → WpI P oi a w K Q)
    (k : ∀ K : Act → World → Prop, (∀ a w, (late j = false → S w) → SeqI P ops Q S late rj a w → K a w) → WpI P oj a w K Q) : SeqI P ops Q S late (.two i j ri rj) a w :=
  ⟨plan_two hoi hoj (fun K hK => by rw [if_pos hwi]; exact (h K (fun a w h1 h2 => hK a w h1 h2.out)).out) (fun K hK => by rw [if_pos hwj]; exact (k K (fun a w h1 h2 => hK a w h1 h2.out)).out)⟩
theorem sI_three {i j k : Nat} {oi oj ok : Oper} {ri rj rk : Plan} {a : Act} {w : World} (hoi : ops[i]? = some oi) (hoj : ops[j]? = some oj) (hok : ops[k]? = some ok) (hwi : Region.wanted oi (yielded ops a.tmps) = true) (hwj : Region.wanted oj (yielded ops a.tmps) = true) (hwk : Region.wanted ok (yielded ops a.tmps) = true)
    (h : ∀ K : Act → World → Prop, (∀ a w, (late i = false → S w) → SeqI P ops Q S late ri a w → K a w) → WpI P oi a w K Q)
    (h2 : ∀ K : Act → World → Prop, (∀ a w, (late j = false → S w) → SeqI P ops Q S late rj a w → K a w) → WpI P oj a w K Q)
    (h3 : ∀ K : Act → World → Prop, (∀ a w, (late k = false → S w) → SeqI P ops Q S late rk a w → K a w) → WpI P ok a w K Q) : SeqI P ops Q S late (.three i j k ri rj rk) a w :=
  ⟨plan_three hoi hoj hok (fun K hK => by rw [if_pos hwi]; exact (h K (fun a w h1 h2 => hK a w h1 h2.out)).out) (fun K hK => by rw [if_pos hwj]; exact (h2 K (fun a w h1 h2 => hK a w h1 h2.out)).out) (fun K hK => by rw [if_pos hwk]; exact (h3 K (fun a w h1 h2 => hK a w h1 h2.out)).out)⟩
/-- One that yields a value. -/
theorem wp_val {w : World} {o : Oper} {a : Act} {K : Act → World → Prop} {v : Value} (hr : (execOp a.eval o).run P w = .ok (.value v) w) (h : K (a.put o.dst v) w) : WpI P o a w K Q := by
  refine ⟨?_⟩
  unfold Oper.wp
  rw [hr]
  exact h
/-- A call by its contract. -/
theorem wp_call1 (w : World) {o : Oper} {a : Act} {K : Act → World → Prop} (n : Nat) (x : Operand) (T : Array TypeId) (ho : o.op = .call { callee := .value (.func n), args := #[x], argTypes := T }) {v : Value} (hx : a.eval x = v) (hf : (callFunc n #[v]).run P w = .ok (.enter n #[v]) w) {R : Ending → World → Prop} (hc : Calls P n #[v] w R)
    (h : ∀ e w', R e w' → ∃ r, e = .returned r ∧ K (a.put o.dst r) w') : WpI P o a w K Q := by
  refine ⟨?_⟩
  have e : (execOp a.eval o).run P w = .ok (.enter n #[v]) w := by
    unfold execOp
    rw [ho]
    simp only [resolve, invoke, Sem.run_bind, List.map_toArray, List.map_cons, List.map_nil, hx]
    go_simp
  unfold Oper.wp
  rw [e, Oper.upon_enter]
  refine hc.mono ?_
  intro e w' hr
  obtain ⟨r, rfl, hk⟩ := h e w' hr
  exact hk
theorem wp_call2 (w : World) {o : Oper} {a : Act} {K : Act → World → Prop} (n : Nat) (x y : Operand) (T : Array TypeId) (ho : o.op = .call { callee := .value (.func n), args := #[x, y], argTypes := T }) {v u : Value} (hx : a.eval x = v) (hy : a.eval y = u) (hf : (callFunc n #[v, u]).run P w = .ok (.enter n #[v, u]) w) {R : Ending → World → Prop} (hc : Calls P n #[v, u] w R)
    (h : ∀ e w', R e w' → ∃ r, e = .returned r ∧ K (a.put o.dst r) w') : WpI P o a w K Q := by
  refine ⟨?_⟩
  have e : (execOp a.eval o).run P w = .ok (.enter n #[v, u]) w := by
    unfold execOp
    rw [ho]
    simp only [resolve, invoke, Sem.run_bind, List.map_toArray, List.map_cons, List.map_nil, hx, hy]
    go_simp
  unfold Oper.wp
  rw [e, Oper.upon_enter]
  refine hc.mono ?_
  intro e w' hr
  obtain ⟨r, rfl, hk⟩ := h e w' hr
  exact hk
theorem wp_call0 (w : World) {o : Oper} {a : Act} {K : Act → World → Prop} (n : Nat) (T : Array TypeId) (ho : o.op = .call { callee := .value (.func n), args := #[], argTypes := T }) (hf : (callFunc n #[]).run P w = .ok (.enter n #[]) w) {R : Ending → World → Prop} (hc : Calls P n #[] w R)
    (h : ∀ e w', R e w' → ∃ r, e = .returned r ∧ K (a.put o.dst r) w') : WpI P o a w K Q := by
  refine ⟨?_⟩
  have e : (execOp a.eval o).run P w = .ok (.enter n #[]) w := by
    unfold execOp
    rw [ho]
    simp only [resolve, invoke, Sem.run_bind, List.map_toArray, List.map_nil]
    go_simp
  unfold Oper.wp
  rw [e, Oper.upon_enter]
  refine hc.mono ?_
  intro e w' hr
  obtain ⟨r, rfl, hk⟩ := h e w' hr
  exact hk
end

end Go.Proofs.YthimcecbgpamdaaGreat
