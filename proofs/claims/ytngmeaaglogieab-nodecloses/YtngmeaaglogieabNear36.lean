/- Joined: MemSpec, VotSpec, AgrSpec. -/
import Derived.Test.YtngmeaaglogieabClkSpec
import Derived.Test.YtngmeaaglogieabFixPlain
namespace Go.Proofs.Ytngmeaaglogieab

/-- A roll. -/
structure Rl where
  I : Nat → Bool
  M : Nat → Int
  J : Nat → Int
/-- A value in place of one. -/
def upM {α : Type} (f : Nat → α) (q : Nat) (x : α) (j : Nat) : α := if j = q then x else f j
theorem upM_same {α : Type} (f : Nat → α) (q : Nat) (x : α) : upM f q x q = x := if_pos rfl
theorem upM_other {α : Type} (f : Nat → α) {q j : Nat} (x : α) (h : j ≠ q) : upM f q x j = f j := if_neg h
def zeroR : Rl := ⟨fun _ => false, fun _ => 0, fun _ => 0⟩
def beginR : Rl := ⟨fun _ => true, fun _ => 0, fun _ => 0⟩
/-- Are the counts of a node within their bounds? -/
def gd (r : Rl) (j : Nat) : Bool := if r.I j then decide (0 ≤ r.M j) && decide (r.M j ≤ 2) && decide (r.J j = 0) else decide (r.M j = 0) && decide (0 ≤ r.J j) && decide (r.J j ≤ 2)
def gdA (r : Rl) : Bool := gd r 0 && gd r 1 && gd r 2 && gd r 3
theorem gd_in {r : Rl} {j : Nat} (h : r.I j = true) : gd r j = true ↔ 0 ≤ r.M j ∧ r.M j ≤ 2 ∧ r.J j = 0 := by unfold gd; rw [if_pos h]; simp [and_assoc]
theorem gd_out {r : Rl} {j : Nat} (h : r.I j = false) : gd r j = true ↔ r.M j = 0 ∧ 0 ≤ r.J j ∧ r.J j ≤ 2 := by unfold gd; rw [if_neg (by rw [h]; decide)]; simp [and_assoc]
theorem gdA_iff {r : Rl} : gdA r = true ↔ ∀ j, j < 4 → gd r j = true := by
  unfold gdA
  simp only [Bool.and_eq_true]
  constructor
  · rintro ⟨⟨⟨h0, h1⟩, h2⟩, h3⟩ j hj
    have : j = 0 ∨ j = 1 ∨ j = 2 ∨ j = 3 := by omega
    rcases this with rfl | rfl | rfl | rfl <;> assumption
  · intro h
    exact ⟨⟨⟨h 0 (by omega), h 1 (by omega)⟩, h 2 (by omega)⟩, h 3 (by omega)⟩
theorem gdA_no {r : Rl} {j : Nat} (hj : j < 4) (h : gd r j = false) : gdA r = false := by
  cases e : gdA r with
  | false => rfl
  | true => rw [gdA_iff.1 e j hj] at h; cases h
theorem gdA_begin : gdA beginR = true := rfl

/-- One node's part of a step. -/
def stN (A : Nat → Bool) (i : Nat) (r : Rl) : Rl :=
  if r.I i = true then (if A i = true then ⟨r.I, upM r.M i 0, r.J⟩ else if 2 ≤ r.M i + 1 ∧ 2 < cn r.I 4 then ⟨upM r.I i false, upM r.M i 0, r.J⟩ else ⟨r.I, upM r.M i (min (r.M i + 1) 2), r.J⟩)
  else if A i = true then (if 3 ≤ r.J i + 1 then ⟨upM r.I i true, r.M, upM r.J i 0⟩ else ⟨r.I, r.M, upM r.J i (r.J i + 1)⟩) else ⟨r.I, r.M, upM r.J i 0⟩
/-- What it tells. -/
def chN (A : Nat → Bool) (i : Nat) (r : Rl) : List (Int × Nat) :=
  if r.I i = true then (if A i = true then [] else if 2 ≤ r.M i + 1 ∧ 2 < cn r.I 4 then [(1, i)] else []) else if A i = true then (if 3 ≤ r.J i + 1 then [(2, i)] else []) else []
section
variable {A : Nat → Bool} {i : Nat} {r : Rl}
theorem st_agree (h : r.I i = true) (a : A i = true) : stN A i r = ⟨r.I, upM r.M i 0, r.J⟩ ∧ chN A i r = [] := by unfold stN chN; rw [if_pos h, if_pos a, if_pos h, if_pos a]; exact ⟨rfl, rfl⟩
theorem st_out (h : r.I i = true) (a : A i = false) (c : 2 ≤ r.M i + 1 ∧ 2 < cn r.I 4) : stN A i r = ⟨upM r.I i false, upM r.M i 0, r.J⟩ ∧ chN A i r = [(1, i)] := by
  have a' : ¬ A i = true := by rw [a]; decide
  unfold stN chN; rw [if_pos h, if_neg a', if_pos c, if_pos h, if_neg a', if_pos c]; exact ⟨rfl, rfl⟩
theorem st_miss (h : r.I i = true) (a : A i = false) (c : ¬ (2 ≤ r.M i + 1 ∧ 2 < cn r.I 4)) : stN A i r = ⟨r.I, upM r.M i (min (r.M i + 1) 2), r.J⟩ ∧ chN A i r = [] := by
  have a' : ¬ A i = true := by rw [a]; decide
  unfold stN chN; rw [if_pos h, if_neg a', if_neg c, if_pos h, if_neg a', if_neg c]; exact ⟨rfl, rfl⟩
theorem st_in (h : r.I i = false) (a : A i = true) (c : 3 ≤ r.J i + 1) : stN A i r = ⟨upM r.I i true, r.M, upM r.J i 0⟩ ∧ chN A i r = [(2, i)] := by
  have h' : ¬ r.I i = true := by rw [h]; decide
  unfold stN chN; rw [if_neg h', if_pos a, if_pos c, if_neg h', if_pos a, if_pos c]; exact ⟨rfl, rfl⟩
theorem st_join (h : r.I i = false) (a : A i = true) (c : ¬ 3 ≤ r.J i + 1) : stN A i r = ⟨r.I, r.M, upM r.J i (r.J i + 1)⟩ ∧ chN A i r = [] := by
  have h' : ¬ r.I i = true := by rw [h]; decide
  unfold stN chN; rw [if_neg h', if_pos a, if_neg c, if_neg h', if_pos a, if_neg c]; exact ⟨rfl, rfl⟩
theorem st_off (h : r.I i = false) (a : A i = false) : stN A i r = ⟨r.I, r.M, upM r.J i 0⟩ ∧ chN A i r = [] := by
  have h' : ¬ r.I i = true := by rw [h]; decide
  have a' : ¬ A i = true := by rw [a]; decide
  unfold stN chN; rw [if_neg h', if_neg a', if_neg h', if_neg a']; exact ⟨rfl, rfl⟩
/-- The six ways. -/
theorem st_cases (A : Nat → Bool) (i : Nat) (r : Rl) :
    (r.I i = true ∧ A i = true ∧ stN A i r = ⟨r.I, upM r.M i 0, r.J⟩ ∧ chN A i r = []) ∨
    (r.I i = true ∧ A i = false ∧ (2 ≤ r.M i + 1 ∧ 2 < cn r.I 4) ∧ stN A i r = ⟨upM r.I i false, upM r.M i 0, r.J⟩ ∧ chN A i r = [(1, i)]) ∨
    (r.I i = true ∧ A i = false ∧ ¬ (2 ≤ r.M i + 1 ∧ 2 < cn r.I 4) ∧ stN A i r = ⟨r.I, upM r.M i (min (r.M i + 1) 2), r.J⟩ ∧ chN A i r = []) ∨
    (r.I i = false ∧ A i = true ∧ 3 ≤ r.J i + 1 ∧ stN A i r = ⟨upM r.I i true, r.M, upM r.J i 0⟩ ∧ chN A i r = [(2, i)]) ∨
    (r.I i = false ∧ A i = true ∧ ¬ 3 ≤ r.J i + 1 ∧ stN A i r = ⟨r.I, r.M, upM r.J i (r.J i + 1)⟩ ∧ chN A i r = []) ∨
    (r.I i = false ∧ A i = false ∧ stN A i r = ⟨r.I, r.M, upM r.J i 0⟩ ∧ chN A i r = []) := by
  cases h : r.I i with
  | true =>
    cases a : A i with
    | true => exact Or.inl ⟨rfl, rfl, st_agree h a⟩
    | false =>
      by_cases c : 2 ≤ r.M i + 1 ∧ 2 < cn r.I 4
      · exact Or.inr (Or.inl ⟨rfl, rfl, c, st_out h a c⟩)
      · exact Or.inr (Or.inr (Or.inl ⟨rfl, rfl, c, st_miss h a c⟩))
  | false =>
    cases a : A i with
    | true =>
      by_cases c : 3 ≤ r.J i + 1
      · exact Or.inr (Or.inr (Or.inr (Or.inl ⟨rfl, rfl, c, st_in h a c⟩)))
      · exact Or.inr (Or.inr (Or.inr (Or.inr (Or.inl ⟨rfl, rfl, c, st_join h a c⟩))))
    | false => exact Or.inr (Or.inr (Or.inr (Or.inr (Or.inr ⟨rfl, rfl, st_off h a⟩))))
theorem st_other {j : Nat} (hj : j ≠ i) : (stN A i r).I j = r.I j ∧ (stN A i r).M j = r.M j ∧ (stN A i r).J j = r.J j := by
  rcases st_cases A i r with ⟨_, _, e, _⟩ | ⟨_, _, _, e, _⟩ | ⟨_, _, _, e, _⟩ | ⟨_, _, _, e, _⟩ | ⟨_, _, _, e, _⟩ | ⟨_, _, e, _⟩ <;> rw [e] <;> simp [upM_other _ _ hj]
theorem gd_congr {s : Rl} {j : Nat} (h1 : s.I j = r.I j) (h2 : s.M j = r.M j) (h3 : s.J j = r.J j) : gd s j = gd r j := by unfold gd; rw [h1, h2, h3]
theorem gd_step (h : gd r i = true) : gd (stN A i r) i = true := by
  rcases st_cases A i r with ⟨a, _, e, _⟩ | ⟨a, _, _, e, _⟩ | ⟨a, _, _, e, _⟩ | ⟨a, _, _, e, _⟩ | ⟨a, _, c, e, _⟩ | ⟨a, _, e, _⟩ <;> rw [e]
  · have := (gd_in a).1 h
    refine (gd_in (r := ⟨r.I, upM r.M i 0, r.J⟩) a).2 ?_
    show 0 ≤ upM r.M i 0 i ∧ upM r.M i 0 i ≤ 2 ∧ r.J i = 0
    rw [upM_same]; omega
  · have := (gd_in a).1 h
    refine (gd_out (upM_same _ _ _)).2 ?_
    show upM r.M i 0 i = 0 ∧ 0 ≤ r.J i ∧ r.J i ≤ 2
    rw [upM_same]; omega
  · have := (gd_in a).1 h
    refine (gd_in (r := ⟨r.I, upM r.M i (min (r.M i + 1) 2), r.J⟩) a).2 ?_
    show 0 ≤ upM r.M i (min (r.M i + 1) 2) i ∧ upM r.M i (min (r.M i + 1) 2) i ≤ 2 ∧ r.J i = 0
    rw [upM_same]; omega
  · have := (gd_out a).1 h
    refine (gd_in (upM_same _ _ _)).2 ?_
    show 0 ≤ r.M i ∧ r.M i ≤ 2 ∧ upM r.J i 0 i = 0
    rw [upM_same]; omega
  · have := (gd_out a).1 h
    refine (gd_out (r := ⟨r.I, r.M, upM r.J i (r.J i + 1)⟩) a).2 ?_
    show r.M i = 0 ∧ 0 ≤ upM r.J i (r.J i + 1) i ∧ upM r.J i (r.J i + 1) i ≤ 2
    rw [upM_same]; omega
  · have := (gd_out a).1 h
    refine (gd_out (r := ⟨r.I, r.M, upM r.J i 0⟩) a).2 ?_
    show r.M i = 0 ∧ 0 ≤ upM r.J i 0 i ∧ upM r.J i 0 i ≤ 2
    rw [upM_same]; omega
theorem gdA_step (h : gdA r = true) : gdA (stN A i r) = true := by
  rw [gdA_iff] at h ⊢
  intro j hj
  by_cases e : j = i
  · subst e; exact gd_step (h j hj)
  · obtain ⟨h1, h2, h3⟩ := st_other (A := A) (r := r) e
    rw [gd_congr h1 h2 h3]; exact h j hj
end
theorem cn_up {I : Nat → Bool} {i : Nat} (hi : i < 4) (b : Bool) : cn (upM I i b) 4 + (if I i = true then 1 else 0) = cn I 4 + (if b = true then 1 else 0) := by
  have e : ∀ f : Nat → Bool, cn f 4 = (if f 0 = true then 1 else 0) + (if f 1 = true then 1 else 0) + (if f 2 = true then 1 else 0) + (if f 3 = true then 1 else 0) := fun f => by simp [cn]
  rw [e, e]
  have : i = 0 ∨ i = 1 ∨ i = 2 ∨ i = 3 := by omega
  rcases this with rfl | rfl | rfl | rfl <;> simp [upM] <;> omega
/-- A whole step, node by node: the roll and what is told. -/
def rnN (A : Nat → Bool) (r : Rl) : Nat → Rl × List (Int × Nat)
  | 0 => (r, [])
  | i + 1 => (stN A i (rnN A r i).1, (rnN A r i).2 ++ chN A i (rnN A r i).1)
section
variable {A : Nat → Bool} {r : Rl}
theorem rn_good (h : gdA r = true) : ∀ i, gdA (rnN A r i).1 = true
  | 0 => h
  | i + 1 => gdA_step (rn_good h i)
theorem rn_rest : ∀ i {j}, i ≤ j → (rnN A r i).1.I j = r.I j ∧ (rnN A r i).1.M j = r.M j ∧ (rnN A r i).1.J j = r.J j
  | 0, _, _ => ⟨rfl, rfl, rfl⟩
  | i + 1, j, h => by
    obtain ⟨a, b, c⟩ := rn_rest i (j := j) (by omega)
    obtain ⟨d, e, f⟩ := st_other (A := A) (r := (rnN A r i).1) (i := i) (j := j) (by omega)
    exact ⟨d.trans a, e.trans b, f.trans c⟩
theorem ch_len (A : Nat → Bool) (i : Nat) (r : Rl) : (chN A i r).length ≤ 1 := by
  rcases st_cases A i r with ⟨_, _, _, e⟩ | ⟨_, _, _, _, e⟩ | ⟨_, _, _, _, e⟩ | ⟨_, _, _, _, e⟩ | ⟨_, _, _, _, e⟩ | ⟨_, _, _, e⟩ <;> rw [e] <;> simp
theorem rn_len (A : Nat → Bool) (r : Rl) : ∀ i, (rnN A r i).2.length ≤ i
  | 0 => Nat.le_refl _
  | i + 1 => by
    have := rn_len A r i
    have := ch_len A i (rnN A r i).1
    show ((rnN A r i).2 ++ chN A i (rnN A r i).1).length ≤ i + 1
    rw [List.length_append]; omega
/-- A node that is in and agrees stays in, and nothing is told of it. -/
theorem rn_stays {k : Nat} (hI : r.I k = true) (hM : r.M k = 0) (hA : A k = true) : ∀ i, (rnN A r i).1.I k = true ∧ (rnN A r i).1.M k = 0 ∧ ∀ c ∈ (rnN A r i).2, c.2 ≠ k
  | 0 => ⟨hI, hM, fun c hc => by cases hc⟩
  | i + 1 => by
    obtain ⟨a, b, c⟩ := rn_stays hI hM hA i
    by_cases e : k = i
    · subst e
      obtain ⟨e1, e2⟩ := st_agree (r := (rnN A r k).1) a hA
      show (stN A k (rnN A r k).1).I k = true ∧ (stN A k (rnN A r k).1).M k = 0 ∧ ∀ c ∈ (rnN A r k).2 ++ chN A k (rnN A r k).1, c.2 ≠ k
      rw [e1, e2, List.append_nil]
      exact ⟨a, upM_same _ _ _, c⟩
    · obtain ⟨d, f, _⟩ := st_other (A := A) (r := (rnN A r i).1) (i := i) (j := k) e
      refine ⟨d.trans a, f.trans b, fun x hx => ?_⟩
      have hx' : x ∈ (rnN A r i).2 ++ chN A i (rnN A r i).1 := hx
      rcases List.mem_append.1 hx' with hx | hx
      · exact c x hx
      · have : x.2 = i := by
          rcases st_cases A i (rnN A r i).1 with ⟨_, _, _, e⟩ | ⟨_, _, _, _, e⟩ | ⟨_, _, _, _, e⟩ | ⟨_, _, _, _, e⟩ | ⟨_, _, _, _, e⟩ | ⟨_, _, _, e⟩ <;> rw [e] at hx <;> simp at hx <;> rw [hx]
        omega
/-- What changes do to the number of those that are in. -/
def smL : List (Int × Nat) → Int
  | [] => 0
  | c :: l => (if c.1 = 2 then 1 else -1) + smL l
theorem smL_append (l m : List (Int × Nat)) : smL (l ++ m) = smL l + smL m := by
  induction l with
  | nil => show smL m = 0 + smL m; omega
  | cons c l ih => show (if c.1 = 2 then 1 else -1) + smL (l ++ m) = (if c.1 = 2 then 1 else -1) + smL l + smL m; rw [ih]; omega
/-- Changes are just those told, and at least two stay in. -/
theorem rn_right (h2 : 2 ≤ cn r.I 4) : ∀ i, i ≤ 4 → 2 ≤ cn (rnN A r i).1.I 4 ∧ ((cn (rnN A r i).1.I 4 : Nat) : Int) = ((cn r.I 4 : Nat) : Int) + smL (rnN A r i).2 ∧
    ∀ c ∈ (rnN A r i).2, c.2 < i ∧ (rnN A r i).1.I c.2 ≠ r.I c.2 ∧ ((rnN A r i).1.I c.2 = true ↔ c.1 = 2) ∧ (c.1 = 1 ∨ c.1 = 2)
  | 0, _ => ⟨h2, by show ((cn r.I 4 : Nat) : Int) = _ + (0 : Int); omega, fun c hc => by cases hc⟩
  | i + 1, hi => by
    obtain ⟨a, b, c⟩ := rn_right h2 i (by omega)
    have rest := (rn_rest (A := A) (r := r) i (Nat.le_refl i)).1
    show 2 ≤ cn (stN A i (rnN A r i).1).I 4 ∧ ((cn (stN A i (rnN A r i).1).I 4 : Nat) : Int) = ((cn r.I 4 : Nat) : Int) + smL ((rnN A r i).2 ++ chN A i (rnN A r i).1) ∧
      ∀ c ∈ (rnN A r i).2 ++ chN A i (rnN A r i).1, c.2 < i + 1 ∧ (stN A i (rnN A r i).1).I c.2 ≠ r.I c.2 ∧ ((stN A i (rnN A r i).1).I c.2 = true ↔ c.1 = 2) ∧ (c.1 = 1 ∨ c.1 = 2)
    have old : ∀ c ∈ (rnN A r i).2, c.2 < i + 1 ∧ (stN A i (rnN A r i).1).I c.2 ≠ r.I c.2 ∧ ((stN A i (rnN A r i).1).I c.2 = true ↔ c.1 = 2) ∧ (c.1 = 1 ∨ c.1 = 2) := fun x hx => by
      obtain ⟨p, q, s, t⟩ := c x hx
      rw [(st_other (A := A) (r := (rnN A r i).1) (i := i) (j := x.2) (by omega)).1]
      exact ⟨by omega, q, s, t⟩
    generalize (rnN A r i).1 = R at *
    generalize (rnN A r i).2 = L at *
    rw [smL_append]
    have u := fun b => cn_up (I := R.I) (i := i) (by omega) b
    rcases st_cases A i R with ⟨p, _, e, f⟩ | ⟨p, _, cc, e, f⟩ | ⟨p, _, _, e, f⟩ | ⟨p, _, _, e, f⟩ | ⟨p, _, _, e, f⟩ | ⟨p, _, e, f⟩ <;> rw [f]
    · rw [List.append_nil]; rw [e] at old ⊢; exact ⟨a, by show _ = _ + (smL L + 0); rw [b]; omega, old⟩
    · have u0 := u false
      rw [p] at u0
      simp at u0
      refine ⟨?_, ?_, fun x hx => ?_⟩
      · rw [e]; show 2 ≤ cn (upM R.I i false) 4; omega
      · rw [e]; show ((cn (upM R.I i false) 4 : Nat) : Int) = _ + (smL L + ((if (1 : Int) = 2 then 1 else -1) + 0)); rw [if_neg (by omega)]; omega
      · rcases List.mem_append.1 hx with hx | hx
        · exact old x hx
        · simp at hx; subst hx
          rw [e]
          show i < i + 1 ∧ upM R.I i false i ≠ r.I i ∧ (upM R.I i false i = true ↔ (1 : Int) = 2) ∧ ((1 : Int) = 1 ∨ (1 : Int) = 2)
          rw [upM_same, ← rest, p]
          exact ⟨by omega, by decide, by decide, Or.inl rfl⟩
    · rw [List.append_nil]; rw [e] at old ⊢; exact ⟨a, by show _ = _ + (smL L + 0); rw [b]; omega, old⟩
    · have u0 := u true
      rw [p] at u0
      simp at u0
      refine ⟨?_, ?_, fun x hx => ?_⟩
      · rw [e]; show 2 ≤ cn (upM R.I i true) 4; omega
      · rw [e]; show ((cn (upM R.I i true) 4 : Nat) : Int) = _ + (smL L + ((if (2 : Int) = 2 then 1 else -1) + 0)); rw [if_pos rfl]; omega
      · rcases List.mem_append.1 hx with hx | hx
        · exact old x hx
        · simp at hx; subst hx
          rw [e]
          show i < i + 1 ∧ upM R.I i true i ≠ r.I i ∧ (upM R.I i true i = true ↔ (2 : Int) = 2) ∧ ((2 : Int) = 1 ∨ (2 : Int) = 2)
          rw [upM_same, ← rest, p]
          exact ⟨by omega, by decide, by decide, Or.inr rfl⟩
    · rw [List.append_nil]; rw [e] at old ⊢; exact ⟨a, by show _ = _ + (smL L + 0); rw [b]; omega, old⟩
    · rw [List.append_nil]; rw [e] at old ⊢; exact ⟨a, by show _ = _ + (smL L + 0); rw [b]; omega, old⟩
end
/-- What Step answers: the roll, what is told, the error. -/
def stR (r : Rl) (st : Bool) (n : Nat) (A : Nat → Bool) : Rl × List (Int × Nat) × Int :=
  if n ≠ 4 then (zeroR, [], 8) else if gdA r = false then (zeroR, [], 3) else if st = true then ((rnN A r 4).1, (rnN A r 4).2, 0) else (r, [], 0)
section
variable {A : Nat → Bool} {r : Rl}
theorem stR_strong (h : gdA r = true) : stR r true 4 A = ((rnN A r 4).1, (rnN A r 4).2, 0) := by
  unfold stR; rw [if_neg (by omega), if_neg (by rw [h]; decide), if_pos rfl]
theorem stR_weak (h : gdA r = true) : stR r false 4 A = (r, [], 0) := by
  unfold stR; rw [if_neg (by omega), if_neg (by rw [h]; decide), if_neg (by decide)]
theorem stR_len (r : Rl) (st : Bool) (n : Nat) (A : Nat → Bool) : (stR r st n A).2.1.length ≤ 4 := by
  unfold stR
  split
  · exact Nat.zero_le _
  · split
    · exact Nat.zero_le _
    · split
      · exact rn_len A r 4
      · exact Nat.zero_le _
end

end Go.Proofs.Ytngmeaaglogieab

namespace Go.Proofs.Ytngmeaaglogieab

/-- How many of the first k nodes are in and say x; how many are in. -/
def vk (b : Nat → Bool) (v : Nat → Int) (x : Int) : Nat → Nat
  | 0 => 0
  | k + 1 => vk b v x k + if b k = true ∧ v k = x then 1 else 0
def ti (b : Nat → Bool) : Nat → Nat
  | 0 => 0
  | k + 1 => ti b k + if b k = true then 1 else 0
theorem vk_le_tt (b : Nat → Bool) (v : Nat → Int) (x : Int) (k : Nat) : vk b v x k ≤ ti b k := by
  induction k with
  | zero => exact Nat.le_refl _
  | succ k ih =>
    show vk b v x k + _ ≤ ti b k + _
    by_cases h : b k = true
    · by_cases h2 : v k = x
      · rw [if_pos ⟨h, h2⟩, if_pos h]; omega
      · rw [if_neg (fun h3 => h2 h3.2), if_pos h]; omega
    · rw [if_neg (fun h3 => h h3.1), if_neg h]; omega
theorem ti_le (b : Nat → Bool) (k : Nat) : ti b k ≤ k := by
  induction k with
  | zero => exact Nat.le_refl _
  | succ k ih => show ti b k + _ ≤ k + 1; split <;> omega
theorem vk_le (b : Nat → Bool) (v : Nat → Int) (x : Int) (k : Nat) : vk b v x k ≤ k := Nat.le_trans (vk_le_tt b v x k) (ti_le b k)
theorem ti_zero {b : Nat → Bool} {k : Nat} (h : ti b k = 0) : ∀ i, i < k → b i = false := by
  induction k with
  | zero => intro i hi; omega
  | succ k ih =>
    have h2 : ti b k + (if b k = true then 1 else 0) = 0 := h
    intro i hi
    by_cases hb : b k = true
    · rw [if_pos hb] at h2; omega
    · rw [if_neg hb] at h2
      by_cases e : i = k
      · subst e; simpa using hb
      · exact ih (by omega) i (by omega)
theorem ti_pos {b : Nat → Bool} {k i : Nat} (hi : i < k) (h : b i = true) : 0 < ti b k := by
  rcases Nat.eq_zero_or_pos (ti b k) with e | e
  · have := ti_zero e i hi; rw [h] at this; cases this
  · exact e
theorem vk_pos {b : Nat → Bool} {v : Nat → Int} {k i : Nat} (hi : i < k) (h : b i = true) : 0 < vk b v (v i) k := by
  induction k with
  | zero => omega
  | succ k ih =>
    show 0 < vk b v (v i) k + _
    by_cases e : i = k
    · subst e; rw [if_pos ⟨h, rfl⟩]; omega
    · have := ih (by omega); omega

/-- Of the first k nodes that are in: the vote that most have (of all four), the lowest node's of several. -/
def IsV (v : Nat → Int) (b : Nat → Bool) (k : Nat) (X : Int) : Prop :=
  (ti b k = 0 ∧ X = 0) ∨ ∃ m, m < k ∧ b m = true ∧ X = v m ∧ (∀ i, i < k → b i = true → vk b v (v i) 4 ≤ vk b v X 4) ∧ ∀ i, i < m → b i = true → vk b v (v i) 4 < vk b v X 4
theorem isV_start (v : Nat → Int) (b : Nat → Bool) : IsV v b 0 0 := Or.inl ⟨rfl, rfl⟩
theorem isV_out {v : Nat → Int} {b : Nat → Bool} {k : Nat} {X : Int} (h : IsV v b k X) (hb : b k = false) : IsV v b (k + 1) X := by
  rcases h with ⟨h1, h2⟩ | ⟨m, h1, h2, h3, h4, h5⟩
  · refine Or.inl ⟨?_, h2⟩
    show ti b k + _ = 0
    rw [if_neg (by rw [hb]; decide)]; omega
  · refine Or.inr ⟨m, by omega, h2, h3, fun i hi hbi => ?_, h5⟩
    by_cases e : i = k
    · subst e; rw [hb] at hbi; cases hbi
    · exact h4 i (by omega) hbi
theorem isV_take {v : Nat → Int} {b : Nat → Bool} {k : Nat} {X : Int} (h : IsV v b k X) (hb : b k = true) (hc : vk b v X 4 < vk b v (v k) 4 ∨ ti b k = 0) : IsV v b (k + 1) (v k) := by
  refine Or.inr ⟨k, by omega, hb, rfl, ?_⟩
  rcases h with ⟨h1, h2⟩ | ⟨m, h1, h2, h3, h4, h5⟩
  · refine ⟨fun i hi hbi => ?_, fun i hi hbi => ?_⟩
    · by_cases e : i = k
      · subst e; exact Nat.le_refl _
      · have := ti_zero h1 i (by omega); rw [this] at hbi; cases hbi
    · have := ti_zero h1 i hi; rw [this] at hbi; cases hbi
  · have hp : vk b v X 4 < vk b v (v k) 4 := by
      rcases hc with h | h
      · exact h
      · have := ti_zero h m h1; rw [this] at h2; cases h2
    refine ⟨fun i hi hbi => ?_, fun i hi hbi => ?_⟩
    · by_cases e : i = k
      · subst e; exact Nat.le_refl _
      · have := h4 i (by omega) hbi; omega
    · have := h4 i hi hbi; omega
theorem isV_leave {v : Nat → Int} {b : Nat → Bool} {k : Nat} {X : Int} (h : IsV v b k X) (hc : ¬ (vk b v X 4 < vk b v (v k) 4)) (ht : ti b k ≠ 0) : IsV v b (k + 1) X := by
  rcases h with ⟨h1, h2⟩ | ⟨m, h1, h2, h3, h4, h5⟩
  · omega
  · refine Or.inr ⟨m, by omega, h2, h3, fun i hi hbi => ?_, h5⟩
    by_cases e : i = k
    · subst e; omega
    · exact h4 i (by omega) hbi
theorem isV_one {v : Nat → Int} {b : Nat → Bool} {k : Nat} {X Y : Int} (h : IsV v b k X) (h' : IsV v b k Y) : X = Y := by
  rcases h with ⟨h1, h2⟩ | ⟨m, h1, h2, h3, h4, h5⟩ <;> rcases h' with ⟨g1, g2⟩ | ⟨m', g1, g2, g3, g4, g5⟩
  · rw [h2, g2]
  · have := ti_zero h1 m' g1; rw [this] at g2; cases g2
  · have := ti_zero g1 m h1; rw [this] at h2; cases h2
  · have e1 := h4 m' g1 g2; have e2 := g4 m h1 h2
    rw [← g3] at e1; rw [← h3] at e2
    rcases Nat.lt_trichotomy m m' with h | h | h
    · have := g5 m h h2; rw [← h3] at this; omega
    · rw [h3, g3, h]
    · have := h5 m' h g2; rw [← g3] at this; omega
/-- A verdict. -/
def vtS (v : Nat → Int) (b : Nat → Bool) (X : Int) : Bool := decide (0 < ti b 4 ∧ ti b 4 < 2 * vk b v X 4)
def vtA (v : Nat → Int) (b : Nat → Bool) (X : Int) (i : Nat) : Bool := decide (0 < ti b 4 ∧ v i = X)

end Go.Proofs.Ytngmeaaglogieab

namespace Go.Proofs.Ytngmeaaglogieab

/-- The number that more than half are, else another. -/
def IsMaj (f : Nat → Int) (n : Nat) (other m : Int) : Prop := (n < 2 * ce f n m) ∨ ((∀ v, ¬ n < 2 * ce f n v) ∧ m = other)
theorem ce_two {f : Nat → Int} {n : Nat} {u v : Int} (h : u ≠ v) : ce f n u + ce f n v ≤ n := by
  induction n with
  | zero => exact Nat.le_refl _
  | succ n ih =>
    show (cn _ n + if decide (f n = u) = true then 1 else 0) + (cn _ n + if decide (f n = v) = true then 1 else 0) ≤ n + 1
    have ih' : cn (fun i => decide (f i = u)) n + cn (fun i => decide (f i = v)) n ≤ n := ih
    by_cases h1 : f n = u
    · rw [if_pos (decide_eq_true h1), if_neg (by rw [decide_eq_false (by omega)]; decide)]; omega
    · rw [if_neg (by rw [decide_eq_false h1]; decide)]
      split <;> omega
theorem maj_one {f : Nat → Int} {n : Nat} {other m m' : Int} (h : IsMaj f n other m) (h' : IsMaj f n other m') : m = m' := by
  rcases h with h | ⟨h, e⟩ <;> rcases h' with h' | ⟨h', e'⟩
  · by_cases c : m = m'
    · exact c
    · have := ce_two (f := f) (n := n) c; omega
  · exact absurd h (h' m)
  · exact absurd h' (h m')
  · rw [e, e']
theorem maj_congr {f g : Nat → Int} {n : Nat} {other m : Int} (e : ∀ i, i < n → f i = g i) (h : IsMaj f n other m) : IsMaj g n other m := by
  have e2 : ∀ v, ce f n v = ce g n v := fun v => cn_congr (fun i hi => by rw [e i hi])
  unfold IsMaj at h ⊢
  rcases h with h | ⟨h, e'⟩
  · exact Or.inl (by rw [← e2]; exact h)
  · exact Or.inr ⟨fun v => by rw [← e2]; exact h v, e'⟩
theorem maj_round {f g : Nat → Int} {k l : Nat} {other m : Int} (h1 : ∀ i, i < l → g i = f (k + i)) (h2 : ∀ i, i < k → g (l + i) = f i) (h : IsMaj f (k + l) other m) : IsMaj g (l + k) other m := by
  have e2 : ∀ v, ce g (l + k) v = ce f (k + l) v := fun v => cn_round _ k l _ (fun i hi => by rw [h1 i hi]) (fun i hi => by rw [h2 i hi])
  unfold IsMaj at h ⊢
  rcases h with h | ⟨h, e'⟩
  · exact Or.inl (by rw [e2]; omega)
  · exact Or.inr ⟨fun v => by rw [e2, show l + k = k + l by omega]; exact h v, e'⟩
/-- Of three, the number that two are, else nought. -/
def dc3 (a b c : Int) : Int := if a = b then a else if a = c then a else if b = c then b else 0
theorem ce3 (f : Nat → Int) (v : Int) : ce f 3 v = ind (f 0 = v) + ind (f 1 = v) + ind (f 2 = v) := by
  have e : ∀ i, (if decide (f i = v) = true then 1 else 0) = ind (f i = v) := fun i => by unfold ind; by_cases h : f i = v <;> simp [h]
  show ((0 + (if decide (f 0 = v) = true then 1 else 0)) + (if decide (f 1 = v) = true then 1 else 0)) + (if decide (f 2 = v) = true then 1 else 0) = _
  rw [e, e, e]; omega
theorem dc3_maj (f : Nat → Int) : IsMaj f 3 0 (dc3 (f 0) (f 1) (f 2)) := by
  unfold dc3
  split
  · rename_i h
    refine Or.inl ?_
    rw [ce3, ind_yes (p := f 0 = f 0) rfl, ind_yes (p := f 1 = f 0) h.symm]; omega
  · split
    · rename_i h
      refine Or.inl ?_
      rw [ce3, ind_yes (p := f 0 = f 0) rfl, ind_yes (p := f 2 = f 0) h.symm]; omega
    · split
      · rename_i h
        refine Or.inl ?_
        rw [ce3, ind_yes (p := f 1 = f 1) rfl, ind_yes (p := f 2 = f 1) h.symm]; omega
      · rename_i h1 h2 h3
        refine Or.inr ⟨fun v => ?_, rfl⟩
        rw [ce3]
        by_cases a : f 0 = v
        · rw [ind_yes a, ind_no (p := f 1 = v) (by omega), ind_no (p := f 2 = v) (by omega)]; omega
        · rw [ind_no a]
          by_cases b : f 1 = v
          · rw [ind_yes b, ind_no (p := f 2 = v) (by omega)]; omega
          · rw [ind_no b]; have := ind_le (f 2 = v); omega

/-- How many lies were told ahead of s. -/
def bsN (bad : Int) (s : Nat) : Nat := if 0 ≤ bad ∧ bad < 4 then (if (s : Int) ≤ bad then 2 * s else 2 * s + 1) else 0
/-- What r hears from s. -/
def hdF (v : Nat → Int) (bad : Int) (L : Nat → Int) (s r : Nat) : Int := if (s : Int) = bad ∧ r ≠ s then L (bsN bad s + (if r < s then r else r - 1)) else v s
/-- What r tells q that it heard from s. -/
def psF (v : Nat → Int) (bad : Int) (L : Nat → Int) (s r q : Nat) : Int := if (r : Int) = bad then L (bsN bad s + (q - (if s < q then 1 else 0) - (if r < q then 1 else 0))) else hdF v bad L s r
/-- The other two. -/
def o1 (q s : Nat) : Nat := if 0 ≠ q ∧ 0 ≠ s then 0 else if 1 ≠ q ∧ 1 ≠ s then 1 else 2
def o2 (q s : Nat) : Nat := if 3 ≠ q ∧ 3 ≠ s then 3 else if 2 ≠ q ∧ 2 ≠ s then 2 else 1
/-- What q takes for said by s. -/
def vcF (v : Nat → Int) (bad : Int) (L : Nat → Int) (q s : Nat) : Int := if q = s then v s else dc3 (hdF v bad L s q) (psF v bad L s (o1 q s) q) (psF v bad L s (o2 q s) q)
theorem dc3_ab (a b c : Int) : dc3 a b c = dc3 b a c := by unfold dc3; split <;> split <;> (try split) <;> (try split) <;> (try split) <;> omega
theorem dc3_bc (a b c : Int) : dc3 a b c = dc3 a c b := by unfold dc3; split <;> split <;> (try split) <;> (try split) <;> (try split) <;> omega
theorem dc3_two (a c : Int) : dc3 a a c = a := by unfold dc3; rw [if_pos rfl]
theorem oth {q s : Nat} (hq : q < 4) (hs : s < 4) (h : q ≠ s) : o1 q s ≠ o2 q s ∧ o1 q s ≠ s ∧ o2 q s ≠ s ∧ o1 q s ≠ q ∧ o2 q s ≠ q ∧ o1 q s < 4 ∧ o2 q s < 4 := by
  have : q = 0 ∨ q = 1 ∨ q = 2 ∨ q = 3 := by omega
  have : s = 0 ∨ s = 1 ∨ s = 2 ∨ s = 3 := by omega
  rcases ‹q = 0 ∨ _› with rfl | rfl | rfl | rfl <;> rcases ‹s = 0 ∨ _› with rfl | rfl | rfl | rfl <;> first | omega | (exact absurd rfl h) | decide
theorem vc_true {v : Nat → Int} {bad : Int} {L : Nat → Int} {p s : Nat} (hp : p < 4) (hs : s < 4) (bs : (s : Int) ≠ bad) : vcF v bad L p s = v s := by
  unfold vcF
  by_cases e : p = s
  · rw [if_pos e]
  · rw [if_neg e]
    obtain ⟨h1, h2, h3, _⟩ := oth hp hs e
    have hh : ∀ r, hdF v bad L s r = v s := fun r => by unfold hdF; rw [if_neg (fun h => bs h.1)]
    by_cases c : ((o1 p s : Nat) : Int) = bad
    · have e2 : psF v bad L s (o2 p s) p = v s := by unfold psF; rw [if_neg (by omega), hh]
      rw [hh, e2, dc3_bc, dc3_two]
    · have e1 : psF v bad L s (o1 p s) p = v s := by unfold psF; rw [if_neg c, hh]
      rw [hh, e1, dc3_two]
theorem vc_same {v : Nat → Int} {bad : Int} {L : Nat → Int} {p q s : Nat} (hp : p < 4) (hq : q < 4) (hs : s < 4) (bp : (p : Int) ≠ bad) (bq : (q : Int) ≠ bad) : vcF v bad L p s = vcF v bad L q s := by
  by_cases bs : (s : Int) = bad
  · have key : ∀ t, t < 4 → t ≠ s → vcF v bad L t s = dc3 (hdF v bad L s t) (hdF v bad L s (o1 t s)) (hdF v bad L s (o2 t s)) := fun t ht hn => by
      obtain ⟨_, h2, h3, _⟩ := oth ht hs hn
      unfold vcF
      rw [if_neg hn]
      unfold psF
      rw [if_neg (by omega), if_neg (by omega)]
    rw [key p hp (by omega), key q hq (by omega)]
    generalize hdF v bad L s = h
    have sp : s = 0 ∨ s = 1 ∨ s = 2 ∨ s = 3 := by omega
    have pp : p = 0 ∨ p = 1 ∨ p = 2 ∨ p = 3 := by omega
    have qq : q = 0 ∨ q = 1 ∨ q = 2 ∨ q = 3 := by omega
    have np : p ≠ s := by omega
    have nq : q ≠ s := by omega
    clear bs bp bq hp hq hs key
    have perm : ∀ a b c : Int, dc3 a b c = dc3 b a c ∧ dc3 a b c = dc3 c a b ∧ dc3 a b c = dc3 b c a ∧ dc3 a b c = dc3 c b a := fun a b c => ⟨dc3_ab a b c, by rw [dc3_bc, dc3_ab], by rw [dc3_ab, dc3_bc], by rw [dc3_ab, dc3_bc, dc3_ab]⟩
    rcases sp with rfl | rfl | rfl | rfl <;> rcases pp with rfl | rfl | rfl | rfl <;> rcases qq with rfl | rfl | rfl | rfl <;> first | omega | rfl | exact (perm _ _ _).1 | exact (perm _ _ _).2.1 | exact (perm _ _ _).2.2.1 | exact (perm _ _ _).2.2.2
  · rw [vc_true hp hs bs, vc_true hq hs bs]

end Go.Proofs.Ytngmeaaglogieab
