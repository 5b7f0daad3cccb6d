/- Who is in and who is out: plain facts. -/
import Derived.Test.YtngmeaaglogieaaClkSpec
namespace Go.Proofs.Ytngmeaaglogieaa

/-- A roll. -/
structure Rl where
  I : Nat → Bool
  M : Nat → Int
  J : Nat → Int
/-- A value in place of one. -/
def upM {α : Type} (f : Nat → α) (q : Nat) (x : α) (j : Nat) : α := if j = q then x else f j
theorem upM_same {α : Type} (f : Nat → α) (q : Nat) (x : α) : upM f q x q = x := if_pos rfl
theorem upM_other {α : Type} (f : Nat → α) {q j : Nat} (x : α) (h : j ≠ q) : upM f q x j = f j := if_neg h
def zeroR : Rl := ⟨fun _ => false, fun _ => 0, fun _ => 0⟩
def beginR : Rl := ⟨fun _ => true, fun _ => 0, fun _ => 0⟩
/-- Are the counts of a node within their bounds? -/
def gd (r : Rl) (j : Nat) : Bool := if r.I j then decide (0 ≤ r.M j) && decide (r.M j ≤ 2) && decide (r.J j = 0) else decide (r.M j = 0) && decide (0 ≤ r.J j) && decide (r.J j ≤ 2)
def gdA (r : Rl) : Bool := gd r 0 && gd r 1 && gd r 2 && gd r 3
theorem gd_in {r : Rl} {j : Nat} (h : r.I j = true) : gd r j = true ↔ 0 ≤ r.M j ∧ r.M j ≤ 2 ∧ r.J j = 0 := by unfold gd; rw [if_pos h]; simp [and_assoc]
theorem gd_out {r : Rl} {j : Nat} (h : r.I j = false) : gd r j = true ↔ r.M j = 0 ∧ 0 ≤ r.J j ∧ r.J j ≤ 2 := by unfold gd; rw [if_neg (by rw [h]; decide)]; simp [and_assoc]
theorem gdA_iff {r : Rl} : gdA r = true ↔ ∀ j, j < 4 → gd r j = true := by
  unfold gdA
  simp only [Bool.and_eq_true]
  constructor
  · rintro ⟨⟨⟨h0, h1⟩, h2⟩, h3⟩ j hj
    have : j = 0 ∨ j = 1 ∨ j = 2 ∨ j = 3 := by omega
    rcases this with rfl | rfl | rfl | rfl <;> assumption
  · intro h
    exact ⟨⟨⟨h 0 (by omega), h 1 (by omega)⟩, h 2 (by omega)⟩, h 3 (by omega)⟩
theorem gdA_no {r : Rl} {j : Nat} (hj : j < 4) (h : gd r j = false) : gdA r = false := by
  cases e : gdA r with
  | false => rfl
  | true => rw [gdA_iff.1 e j hj] at h; cases h
theorem gdA_begin : gdA beginR = true := rfl

/-- One node's part of a step. -/
def stN (A : Nat → Bool) (i : Nat) (r : Rl) : Rl :=
  if r.I i = true then (if A i = true then ⟨r.I, upM r.M i 0, r.J⟩ else if 2 ≤ r.M i + 1 ∧ 2 < cn r.I 4 then ⟨upM r.I i false, upM r.M i 0, r.J⟩ else ⟨r.I, upM r.M i (min (r.M i + 1) 2), r.J⟩)
  else if A i = true then (if 3 ≤ r.J i + 1 then ⟨upM r.I i true, r.M, upM r.J i 0⟩ else ⟨r.I, r.M, upM r.J i (r.J i + 1)⟩) else ⟨r.I, r.M, upM r.J i 0⟩
/-- What it tells. -/
def chN (A : Nat → Bool) (i : Nat) (r : Rl) : List (Int × Nat) :=
  if r.I i = true then (if A i = true then [] else if 2 ≤ r.M i + 1 ∧ 2 < cn r.I 4 then [(1, i)] else []) else if A i = true then (if 3 ≤ r.J i + 1 then [(2, i)] else []) else []
section
variable {A : Nat → Bool} {i : Nat} {r : Rl}
theorem st_agree (h : r.I i = true) (a : A i = true) : stN A i r = ⟨r.I, upM r.M i 0, r.J⟩ ∧ chN A i r = [] := by unfold stN chN; rw [if_pos h, if_pos a, if_pos h, if_pos a]; exact ⟨rfl, rfl⟩
theorem st_out (h : r.I i = true) (a : A i = false) (c : 2 ≤ r.M i + 1 ∧ 2 < cn r.I 4) : stN A i r = ⟨upM r.I i false, upM r.M i 0, r.J⟩ ∧ chN A i r = [(1, i)] := by
  have a' : ¬ A i = true := by rw [a]; decide
  unfold stN chN; rw [if_pos h, if_neg a', if_pos c, if_pos h, if_neg a', if_pos c]; exact ⟨rfl, rfl⟩
theorem st_miss (h : r.I i = true) (a : A i = false) (c : ¬ (2 ≤ r.M i + 1 ∧ 2 < cn r.I 4)) : stN A i r = ⟨r.I, upM r.M i (min (r.M i + 1) 2), r.J⟩ ∧ chN A i r = [] := by
  have a' : ¬ A i = true := by rw [a]; decide
  unfold stN chN; rw [if_pos h, if_neg a', if_neg c, if_pos h, if_neg a', if_neg c]; exact ⟨rfl, rfl⟩
theorem st_in (h : r.I i = false) (a : A i = true) (c : 3 ≤ r.J i + 1) : stN A i r = ⟨upM r.I i true, r.M, upM r.J i 0⟩ ∧ chN A i r = [(2, i)] := by
  have h' : ¬ r.I i = true := by rw [h]; decide
  unfold stN chN; rw [if_neg h', if_pos a, if_pos c, if_neg h', if_pos a, if_pos c]; exact ⟨rfl, rfl⟩
theorem st_join (h : r.I i = false) (a : A i = true) (c : ¬ 3 ≤ r.J i + 1) : stN A i r = ⟨r.I, r.M, upM r.J i (r.J i + 1)⟩ ∧ chN A i r = [] := by
  have h' : ¬ r.I i = true := by rw [h]; decide
  unfold stN chN; rw [if_neg h', if_pos a, if_neg c, if_neg h', if_pos a, if_neg c]; exact ⟨rfl, rfl⟩
theorem st_off (h : r.I i = false) (a : A i = false) : stN A i r = ⟨r.I, r.M, upM r.J i 0⟩ ∧ chN A i r = [] := by
  have h' : ¬ r.I i = true := by rw [h]; decide
  have a' : ¬ A i = true := by rw [a]; decide
  unfold stN chN; rw [if_neg h', if_neg a', if_neg h', if_neg a']; exact ⟨rfl, rfl⟩
/-- The six ways. -/
theorem st_cases (A : Nat → Bool) (i : Nat) (r : Rl) :
    (r.I i = true ∧ A i = true ∧ stN A i r = ⟨r.I, upM r.M i 0, r.J⟩ ∧ chN A i r = []) ∨
    (r.I i = true ∧ A i = false ∧ (2 ≤ r.M i + 1 ∧ 2 < cn r.I 4) ∧ stN A i r = ⟨upM r.I i false, upM r.M i 0, r.J⟩ ∧ chN A i r = [(1, i)]) ∨
    (r.I i = true ∧ A i = false ∧ ¬ (2 ≤ r.M i + 1 ∧ 2 < cn r.I 4) ∧ stN A i r = ⟨r.I, upM r.M i (min (r.M i + 1) 2), r.J⟩ ∧ chN A i r = []) ∨
    (r.I i = false ∧ A i = true ∧ 3 ≤ r.J i + 1 ∧ stN A i r = ⟨upM r.I i true, r.M, upM r.J i 0⟩ ∧ chN A i r = [(2, i)]) ∨
    (r.I i = false ∧ A i = true ∧ ¬ 3 ≤ r.J i + 1 ∧ stN A i r = ⟨r.I, r.M, upM r.J i (r.J i + 1)⟩ ∧ chN A i r = []) ∨
    (r.I i = false ∧ A i = false ∧ stN A i r = ⟨r.I, r.M, upM r.J i 0⟩ ∧ chN A i r = []) := by
  cases h : r.I i with
  | true =>
    cases a : A i with
    | true => exact Or.inl ⟨rfl, rfl, st_agree h a⟩
    | false =>
      by_cases c : 2 ≤ r.M i + 1 ∧ 2 < cn r.I 4
      · exact Or.inr (Or.inl ⟨rfl, rfl, c, st_out h a c⟩)
      · exact Or.inr (Or.inr (Or.inl ⟨rfl, rfl, c, st_miss h a c⟩))
  | false =>
    cases a : A i with
    | true =>
      by_cases c : 3 ≤ r.J i + 1
      · exact Or.inr (Or.inr (Or.inr (Or.inl ⟨rfl, rfl, c, st_in h a c⟩)))
      · exact Or.inr (Or.inr (Or.inr (Or.inr (Or.inl ⟨rfl, rfl, c, st_join h a c⟩))))
    | false => exact Or.inr (Or.inr (Or.inr (Or.inr (Or.inr ⟨rfl, rfl, st_off h a⟩))))
theorem st_other {j : Nat} (hj : j ≠ i) : (stN A i r).I j = r.I j ∧ (stN A i r).M j = r.M j ∧ (stN A i r).J j = r.J j := by
  rcases st_cases A i r with ⟨_, _, e, _⟩ | ⟨_, _, _, e, _⟩ | ⟨_, _, _, e, _⟩ | ⟨_, _, _, e, _⟩ | ⟨_, _, _, e, _⟩ | ⟨_, _, e, _⟩ <;> rw [e] <;> simp [upM_other _ _ hj]
theorem gd_congr {s : Rl} {j : Nat} (h1 : s.I j = r.I j) (h2 : s.M j = r.M j) (h3 : s.J j = r.J j) : gd s j = gd r j := by unfold gd; rw [h1, h2, h3]
theorem gd_step (h : gd r i = true) : gd (stN A i r) i = true := by
  rcases st_cases A i r with ⟨a, _, e, _⟩ | ⟨a, _, _, e, _⟩ | ⟨a, _, _, e, _⟩ | ⟨a, _, _, e, _⟩ | ⟨a, _, c, e, _⟩ | ⟨a, _, e, _⟩ <;> rw [e]
  · have := (gd_in a).1 h
    refine (gd_in (r := ⟨r.I, upM r.M i 0, r.J⟩) a).2 ?_
    show 0 ≤ upM r.M i 0 i ∧ upM r.M i 0 i ≤ 2 ∧ r.J i = 0
    rw [upM_same]; omega
  · have := (gd_in a).1 h
    refine (gd_out (upM_same _ _ _)).2 ?_
    show upM r.M i 0 i = 0 ∧ 0 ≤ r.J i ∧ r.J i ≤ 2
    rw [upM_same]; omega
  · have := (gd_in a).1 h
    refine (gd_in (r := ⟨r.I, upM r.M i (min (r.M i + 1) 2), r.J⟩) a).2 ?_
    show 0 ≤ upM r.M i (min (r.M i + 1) 2) i ∧ upM r.M i (min (r.M i + 1) 2) i ≤ 2 ∧ r.J i = 0
    rw [upM_same]; omega
  · have := (gd_out a).1 h
    refine (gd_in (upM_same _ _ _)).2 ?_
    show 0 ≤ r.M i ∧ r.M i ≤ 2 ∧ upM r.J i 0 i = 0
    rw [upM_same]; omega
  · have := (gd_out a).1 h
    refine (gd_out (r := ⟨r.I, r.M, upM r.J i (r.J i + 1)⟩) a).2 ?_
    show r.M i = 0 ∧ 0 ≤ upM r.J i (r.J i + 1) i ∧ upM r.J i (r.J i + 1) i ≤ 2
    rw [upM_same]; omega
  · have := (gd_out a).1 h
    refine (gd_out (r := ⟨r.I, r.M, upM r.J i 0⟩) a).2 ?_
    show r.M i = 0 ∧ 0 ≤ upM r.J i 0 i ∧ upM r.J i 0 i ≤ 2
    rw [upM_same]; omega
theorem gdA_step (h : gdA r = true) : gdA (stN A i r) = true := by
  rw [gdA_iff] at h ⊢
  intro j hj
  by_cases e : j = i
  · subst e; exact gd_step (h j hj)
  · obtain ⟨h1, h2, h3⟩ := st_other (A := A) (r := r) e
    rw [gd_congr h1 h2 h3]; exact h j hj
end
theorem cn_up {I : Nat → Bool} {i : Nat} (hi : i < 4) (b : Bool) : cn (upM I i b) 4 + (if I i = true then 1 else 0) = cn I 4 + (if b = true then 1 else 0) := by
  have e : ∀ f : Nat → Bool, cn f 4 = (if f 0 = true then 1 else 0) + (if f 1 = true then 1 else 0) + (if f 2 = true then 1 else 0) + (if f 3 = true then 1 else 0) := fun f => by simp [cn]
  rw [e, e]
  have : i = 0 ∨ i = 1 ∨ i = 2 ∨ i = 3 := by omega
  rcases this with rfl | rfl | rfl | rfl <;> simp [upM] <;> omega
/-- A whole step, node by node: the roll and what is told. -/
def rnN (A : Nat → Bool) (r : Rl) : Nat → Rl × List (Int × Nat)
  | 0 => (r, [])
  | i + 1 => (stN A i (rnN A r i).1, (rnN A r i).2 ++ chN A i (rnN A r i).1)
section
variable {A : Nat → Bool} {r : Rl}
theorem rn_good (h : gdA r = true) : ∀ i, gdA (rnN A r i).1 = true
  | 0 => h
  | i + 1 => gdA_step (rn_good h i)
theorem rn_rest : ∀ i {j}, i ≤ j → (rnN A r i).1.I j = r.I j ∧ (rnN A r i).1.M j = r.M j ∧ (rnN A r i).1.J j = r.J j
  | 0, _, _ => ⟨rfl, rfl, rfl⟩
  | i + 1, j, h => by
    obtain ⟨a, b, c⟩ := rn_rest i (j := j) (by omega)
    obtain ⟨d, e, f⟩ := st_other (A := A) (r := (rnN A r i).1) (i := i) (j := j) (by omega)
    exact ⟨d.trans a, e.trans b, f.trans c⟩
theorem ch_len (A : Nat → Bool) (i : Nat) (r : Rl) : (chN A i r).length ≤ 1 := by
  rcases st_cases A i r with ⟨_, _, _, e⟩ | ⟨_, _, _, _, e⟩ | ⟨_, _, _, _, e⟩ | ⟨_, _, _, _, e⟩ | ⟨_, _, _, _, e⟩ | ⟨_, _, _, e⟩ <;> rw [e] <;> simp
theorem rn_len (A : Nat → Bool) (r : Rl) : ∀ i, (rnN A r i).2.length ≤ i
  | 0 => Nat.le_refl _
  | i + 1 => by
    have := rn_len A r i
    have := ch_len A i (rnN A r i).1
    show ((rnN A r i).2 ++ chN A i (rnN A r i).1).length ≤ i + 1
    rw [List.length_append]; omega
/-- A node that is in and agrees stays in, and nothing is told of it. -/
theorem rn_stays {k : Nat} (hI : r.I k = true) (hM : r.M k = 0) (hA : A k = true) : ∀ i, (rnN A r i).1.I k = true ∧ (rnN A r i).1.M k = 0 ∧ ∀ c ∈ (rnN A r i).2, c.2 ≠ k
  | 0 => ⟨hI, hM, fun c hc => by cases hc⟩
  | i + 1 => by
    obtain ⟨a, b, c⟩ := rn_stays hI hM hA i
    by_cases e : k = i
    · subst e
      obtain ⟨e1, e2⟩ := st_agree (r := (rnN A r k).1) a hA
      show (stN A k (rnN A r k).1).I k = true ∧ (stN A k (rnN A r k).1).M k = 0 ∧ ∀ c ∈ (rnN A r k).2 ++ chN A k (rnN A r k).1, c.2 ≠ k
      rw [e1, e2, List.append_nil]
      exact ⟨a, upM_same _ _ _, c⟩
    · obtain ⟨d, f, _⟩ := st_other (A := A) (r := (rnN A r i).1) (i := i) (j := k) e
      refine ⟨d.trans a, f.trans b, fun x hx => ?_⟩
      have hx' : x ∈ (rnN A r i).2 ++ chN A i (rnN A r i).1 := hx
      rcases List.mem_append.1 hx' with hx | hx
      · exact c x hx
      · have : x.2 = i := by
          rcases st_cases A i (rnN A r i).1 with ⟨_, _, _, e⟩ | ⟨_, _, _, _, e⟩ | ⟨_, _, _, _, e⟩ | ⟨_, _, _, _, e⟩ | ⟨_, _, _, _, e⟩ | ⟨_, _, _, e⟩ <;> rw [e] at hx <;> simp at hx <;> rw [hx]
        omega
/-- What changes do to the number of those that are in. -/
def smL : List (Int × Nat) → Int
  | [] => 0
  | c :: l => (if c.1 = 2 then 1 else -1) + smL l
theorem smL_append (l m : List (Int × Nat)) : smL (l ++ m) = smL l + smL m := by
  induction l with
  | nil => show smL m = 0 + smL m; omega
  | cons c l ih => show (if c.1 = 2 then 1 else -1) + smL (l ++ m) = (if c.1 = 2 then 1 else -1) + smL l + smL m; rw [ih]; omega
/-- Changes are just those told, and at least two stay in. -/
theorem rn_right (h2 : 2 ≤ cn r.I 4) : ∀ i, i ≤ 4 → 2 ≤ cn (rnN A r i).1.I 4 ∧ ((cn (rnN A r i).1.I 4 : Nat) : Int) = ((cn r.I 4 : Nat) : Int) + smL (rnN A r i).2 ∧
    ∀ c ∈ (rnN A r i).2, c.2 < i ∧ (rnN A r i).1.I c.2 ≠ r.I c.2 ∧ ((rnN A r i).1.I c.2 = true ↔ c.1 = 2) ∧ (c.1 = 1 ∨ c.1 = 2)
  | 0, _ => ⟨h2, by show ((cn r.I 4 : Nat) : Int) = _ + (0 : Int); omega, fun c hc => by cases hc⟩
  | i + 1, hi => by
    obtain ⟨a, b, c⟩ := rn_right h2 i (by omega)
    have rest := (rn_rest (A := A) (r := r) i (Nat.le_refl i)).1
    show 2 ≤ cn (stN A i (rnN A r i).1).I 4 ∧ ((cn (stN A i (rnN A r i).1).I 4 : Nat) : Int) = ((cn r.I 4 : Nat) : Int) + smL ((rnN A r i).2 ++ chN A i (rnN A r i).1) ∧
      ∀ c ∈ (rnN A r i).2 ++ chN A i (rnN A r i).1, c.2 < i + 1 ∧ (stN A i (rnN A r i).1).I c.2 ≠ r.I c.2 ∧ ((stN A i (rnN A r i).1).I c.2 = true ↔ c.1 = 2) ∧ (c.1 = 1 ∨ c.1 = 2)
    have old : ∀ c ∈ (rnN A r i).2, c.2 < i + 1 ∧ (stN A i (rnN A r i).1).I c.2 ≠ r.I c.2 ∧ ((stN A i (rnN A r i).1).I c.2 = true ↔ c.1 = 2) ∧ (c.1 = 1 ∨ c.1 = 2) := fun x hx => by
      obtain ⟨p, q, s, t⟩ := c x hx
      rw [(st_other (A := A) (r := (rnN A r i).1) (i := i) (j := x.2) (by omega)).1]
      exact ⟨by omega, q, s, t⟩
    generalize (rnN A r i).1 = R at *
    generalize (rnN A r i).2 = L at *
    rw [smL_append]
    have u := fun b => cn_up (I := R.I) (i := i) (by omega) b
    rcases st_cases A i R with ⟨p, _, e, f⟩ | ⟨p, _, cc, e, f⟩ | ⟨p, _, _, e, f⟩ | ⟨p, _, _, e, f⟩ | ⟨p, _, _, e, f⟩ | ⟨p, _, e, f⟩ <;> rw [f]
    · rw [List.append_nil]; rw [e] at old ⊢; exact ⟨a, by show _ = _ + (smL L + 0); rw [b]; omega, old⟩
    · have u0 := u false
      rw [p] at u0
      simp at u0
      refine ⟨?_, ?_, fun x hx => ?_⟩
      · rw [e]; show 2 ≤ cn (upM R.I i false) 4; omega
      · rw [e]; show ((cn (upM R.I i false) 4 : Nat) : Int) = _ + (smL L + ((if (1 : Int) = 2 then 1 else -1) + 0)); rw [if_neg (by omega)]; omega
      · rcases List.mem_append.1 hx with hx | hx
        · exact old x hx
        · simp at hx; subst hx
          rw [e]
          show i < i + 1 ∧ upM R.I i false i ≠ r.I i ∧ (upM R.I i false i = true ↔ (1 : Int) = 2) ∧ ((1 : Int) = 1 ∨ (1 : Int) = 2)
          rw [upM_same, ← rest, p]
          exact ⟨by omega, by decide, by decide, Or.inl rfl⟩
    · rw [List.append_nil]; rw [e] at old ⊢; exact ⟨a, by show _ = _ + (smL L + 0); rw [b]; omega, old⟩
    · have u0 := u true
      rw [p] at u0
      simp at u0
      refine ⟨?_, ?_, fun x hx => ?_⟩
      · rw [e]; show 2 ≤ cn (upM R.I i true) 4; omega
      · rw [e]; show ((cn (upM R.I i true) 4 : Nat) : Int) = _ + (smL L + ((if (2 : Int) = 2 then 1 else -1) + 0)); rw [if_pos rfl]; omega
      · rcases List.mem_append.1 hx with hx | hx
        · exact old x hx
        · simp at hx; subst hx
          rw [e]
          show i < i + 1 ∧ upM R.I i true i ≠ r.I i ∧ (upM R.I i true i = true ↔ (2 : Int) = 2) ∧ ((2 : Int) = 1 ∨ (2 : Int) = 2)
          rw [upM_same, ← rest, p]
          exact ⟨by omega, by decide, by decide, Or.inr rfl⟩
    · rw [List.append_nil]; rw [e] at old ⊢; exact ⟨a, by show _ = _ + (smL L + 0); rw [b]; omega, old⟩
    · rw [List.append_nil]; rw [e] at old ⊢; exact ⟨a, by show _ = _ + (smL L + 0); rw [b]; omega, old⟩
end
/-- What Step answers: the roll, what is told, the error. -/
def stR (r : Rl) (st : Bool) (n : Nat) (A : Nat → Bool) : Rl × List (Int × Nat) × Int :=
  if n ≠ 4 then (zeroR, [], 8) else if gdA r = false then (zeroR, [], 3) else if st = true then ((rnN A r 4).1, (rnN A r 4).2, 0) else (r, [], 0)
section
variable {A : Nat → Bool} {r : Rl}
theorem stR_strong (h : gdA r = true) : stR r true 4 A = ((rnN A r 4).1, (rnN A r 4).2, 0) := by
  unfold stR; rw [if_neg (by omega), if_neg (by rw [h]; decide), if_pos rfl]
theorem stR_weak (h : gdA r = true) : stR r false 4 A = (r, [], 0) := by
  unfold stR; rw [if_neg (by omega), if_neg (by rw [h]; decide), if_neg (by decide)]
theorem stR_len (r : Rl) (st : Bool) (n : Nat) (A : Nat → Bool) : (stR r st n A).2.1.length ≤ 4 := by
  unfold stR
  split
  · exact Nat.zero_le _
  · split
    · exact Nat.zero_le _
    · split
      · exact rn_len A r 4
      · exact Nat.zero_le _
end

end Go.Proofs.Ytngmeaaglogieaa
