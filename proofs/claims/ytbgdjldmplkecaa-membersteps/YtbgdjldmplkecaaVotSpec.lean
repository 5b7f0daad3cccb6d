/- Votes: plain facts. -/
import Derived.Test.YtbgdjldmplkecaaFixPlain
namespace Go.Proofs.Ytbgdjldmplkecaa

/-- How many of the first k nodes are in and say x; how many are in. -/
def vk (b : Nat → Bool) (v : Nat → Int) (x : Int) : Nat → Nat
  | 0 => 0
  | k + 1 => vk b v x k + if b k = true ∧ v k = x then 1 else 0
def ti (b : Nat → Bool) : Nat → Nat
  | 0 => 0
  | k + 1 => ti b k + if b k = true then 1 else 0
theorem vk_le_tt (b : Nat → Bool) (v : Nat → Int) (x : Int) (k : Nat) : vk b v x k ≤ ti b k := by
  induction k with
  | zero => exact Nat.le_refl _
  | succ k ih =>
    show vk b v x k + _ ≤ ti b k + _
    by_cases h : b k = true
    · by_cases h2 : v k = x
      · rw [if_pos ⟨h, h2⟩, if_pos h]; omega
      · rw [if_neg (fun h3 => h2 h3.2), if_pos h]; omega
    · rw [if_neg (fun h3 => h h3.1), if_neg h]; omega
theorem ti_le (b : Nat → Bool) (k : Nat) : ti b k ≤ k := by
  induction k with
  | zero => exact Nat.le_refl _
  | succ k ih => show ti b k + _ ≤ k + 1; split <;> omega
theorem vk_le (b : Nat → Bool) (v : Nat → Int) (x : Int) (k : Nat) : vk b v x k ≤ k := Nat.le_trans (vk_le_tt b v x k) (ti_le b k)
theorem ti_zero {b : Nat → Bool} {k : Nat} (h : ti b k = 0) : ∀ i, i < k → b i = false := by
  induction k with
  | zero => intro i hi; omega
  | succ k ih =>
    have h2 : ti b k + (if b k = true then 1 else 0) = 0 := h
    intro i hi
    by_cases hb : b k = true
    · rw [if_pos hb] at h2; omega
    · rw [if_neg hb] at h2
      by_cases e : i = k
      · subst e; simpa using hb
      · exact ih (by omega) i (by omega)
theorem ti_pos {b : Nat → Bool} {k i : Nat} (hi : i < k) (h : b i = true) : 0 < ti b k := by
  rcases Nat.eq_zero_or_pos (ti b k) with e | e
  · have := ti_zero e i hi; rw [h] at this; cases this
  · exact e
theorem vk_pos {b : Nat → Bool} {v : Nat → Int} {k i : Nat} (hi : i < k) (h : b i = true) : 0 < vk b v (v i) k := by
  induction k with
  | zero => omega
  | succ k ih =>
    show 0 < vk b v (v i) k + _
    by_cases e : i = k
    · subst e; rw [if_pos ⟨h, rfl⟩]; omega
    · have := ih (by omega); omega

/-- Of the first k nodes that are in: the vote that most have (of all four), the lowest node's of several. -/
def IsV (v : Nat → Int) (b : Nat → Bool) (k : Nat) (X : Int) : Prop :=
  (ti b k = 0 ∧ X = 0) ∨ ∃ m, m < k ∧ b m = true ∧ X = v m ∧ (∀ i, i < k → b i = true → vk b v (v i) 4 ≤ vk b v X 4) ∧ ∀ i, i < m → b i = true → vk b v (v i) 4 < vk b v X 4
theorem isV_start (v : Nat → Int) (b : Nat → Bool) : IsV v b 0 0 := Or.inl ⟨rfl, rfl⟩
theorem isV_out {v : Nat → Int} {b : Nat → Bool} {k : Nat} {X : Int} (h : IsV v b k X) (hb : b k = false) : IsV v b (k + 1) X := by
  rcases h with ⟨h1, h2⟩ | ⟨m, h1, h2, h3, h4, h5⟩
  · refine Or.inl ⟨?_, h2⟩
    show ti b k + _ = 0
    rw [if_neg (by rw [hb]; decide)]; omega
  · refine Or.inr ⟨m, by omega, h2, h3, fun i hi hbi => ?_, h5⟩
    by_cases e : i = k
    · subst e; rw [hb] at hbi; cases hbi
    · exact h4 i (by omega) hbi
theorem isV_take {v : Nat → Int} {b : Nat → Bool} {k : Nat} {X : Int} (h : IsV v b k X) (hb : b k = true) (hc : vk b v X 4 < vk b v (v k) 4 ∨ ti b k = 0) : IsV v b (k + 1) (v k) := by
  refine Or.inr ⟨k, by omega, hb, rfl, ?_⟩
  rcases h with ⟨h1, h2⟩ | ⟨m, h1, h2, h3, h4, h5⟩
  · refine ⟨fun i hi hbi => ?_, fun i hi hbi => ?_⟩
    · by_cases e : i = k
      · subst e; exact Nat.le_refl _
      · have := ti_zero h1 i (by omega); rw [this] at hbi; cases hbi
    · have := ti_zero h1 i hi; rw [this] at hbi; cases hbi
  · have hp : vk b v X 4 < vk b v (v k) 4 := by
      rcases hc with h | h
      · exact h
      · have := ti_zero h m h1; rw [this] at h2; cases h2
    refine ⟨fun i hi hbi => ?_, fun i hi hbi => ?_⟩
    · by_cases e : i = k
      · subst e; exact Nat.le_refl _
      · have := h4 i (by omega) hbi; omega
    · have := h4 i hi hbi; omega
theorem isV_leave {v : Nat → Int} {b : Nat → Bool} {k : Nat} {X : Int} (h : IsV v b k X) (hc : ¬ (vk b v X 4 < vk b v (v k) 4)) (ht : ti b k ≠ 0) : IsV v b (k + 1) X := by
  rcases h with ⟨h1, h2⟩ | ⟨m, h1, h2, h3, h4, h5⟩
  · omega
  · refine Or.inr ⟨m, by omega, h2, h3, fun i hi hbi => ?_, h5⟩
    by_cases e : i = k
    · subst e; omega
    · exact h4 i (by omega) hbi
theorem isV_one {v : Nat → Int} {b : Nat → Bool} {k : Nat} {X Y : Int} (h : IsV v b k X) (h' : IsV v b k Y) : X = Y := by
  rcases h with ⟨h1, h2⟩ | ⟨m, h1, h2, h3, h4, h5⟩ <;> rcases h' with ⟨g1, g2⟩ | ⟨m', g1, g2, g3, g4, g5⟩
  · rw [h2, g2]
  · have := ti_zero h1 m' g1; rw [this] at g2; cases g2
  · have := ti_zero g1 m h1; rw [this] at h2; cases h2
  · have e1 := h4 m' g1 g2; have e2 := g4 m h1 h2
    rw [← g3] at e1; rw [← h3] at e2
    rcases Nat.lt_trichotomy m m' with h | h | h
    · have := g5 m h h2; rw [← h3] at this; omega
    · rw [h3, g3, h]
    · have := h5 m' h g2; rw [← g3] at this; omega
/-- A verdict. -/
def vtS (v : Nat → Int) (b : Nat → Bool) (X : Int) : Bool := decide (0 < ti b 4 ∧ ti b 4 < 2 * vk b v X 4)
def vtA (v : Nat → Int) (b : Nat → Bool) (X : Int) (i : Nat) : Bool := decide (0 < ti b 4 ∧ v i = X)

end Go.Proofs.Ytbgdjldmplkecaa
