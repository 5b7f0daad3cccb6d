/- Plain words on the parts of a text: the first point, what stands ahead of it and behind. -/
import Derived.Test.YtbgljhjimcoiiabDoorStrRead5
namespace Go.Proofs.YtbgljhjimcoiiabDoor
open Go.RowKit Go.Lib

theorem ix_none : ∀ l : List UInt8, (∀ c ∈ l, c ≠ 46) → Lib.index l [46] = -1
  | [], _ => rfl
  | c :: l, h => by
    unfold Lib.index
    have h1 : List.isPrefixOf [46] (c :: l) = false := by
      have := h c (by simp)
      simp [List.isPrefixOf]
      exact fun e => this e.symm
    rw [h1, ix_none l (fun d hd => h d (by simp [hd]))]
    rfl
theorem ix_dot (r : List UInt8) : ∀ l : List UInt8, (∀ c ∈ l, c ≠ 46) → Lib.index (l ++ 46 :: r) [46] = (l.length : Int)
  | [], _ => by
    show Lib.index (46 :: r) [46] = 0
    unfold Lib.index
    have h1 : List.isPrefixOf [46] (46 :: r) = true := by simp [List.isPrefixOf]
    rw [h1]
    rfl
  | c :: l, h => by
    show Lib.index (c :: (l ++ 46 :: r)) [46] = _
    unfold Lib.index
    have h1 : List.isPrefixOf [46] (c :: (l ++ 46 :: r)) = false := by
      have := h c (by simp)
      simp [List.isPrefixOf]
      exact fun e => this e.symm
    rw [h1, ix_dot r l (fun d hd => h d (by simp [hd]))]
    have h2 : ((l.length : Int) == -1) = false := beq_eq_false_iff_ne.2 (by omega)
    simp only [h2, Bool.false_eq_true, if_false]
    simp
/-- A text has no point, or one that comes first. -/
theorem first_dot : ∀ l : List UInt8, (∀ c ∈ l, c ≠ 46) ∨ ∃ a r, l = a ++ 46 :: r ∧ ∀ c ∈ a, c ≠ 46
  | [] => Or.inl (fun c hc => by cases hc)
  | c :: l => by
    by_cases h : c = 46
    · subst h
      exact Or.inr ⟨[], l, rfl, fun d hd => by cases hd⟩
    · rcases first_dot l with h1 | ⟨a, r, e, h1⟩
      · left
        intro d hd
        rcases List.mem_cons.1 hd with rfl | h2
        · exact h
        · exact h1 d h2
      · right
        refine ⟨c :: a, r, by rw [e]; rfl, ?_⟩
        intro d hd
        rcases List.mem_cons.1 hd with rfl | h2
        · exact h
        · exact h1 d h2
theorem cut_spec {t wh fr : List UInt8} {pt : Bool} (h : Lib.cut t [46] = (wh, fr, pt)) :
    (pt = false ∧ wh = t ∧ fr = [] ∧ ∀ c ∈ t, c ≠ 46) ∨ (pt = true ∧ t = wh ++ 46 :: fr ∧ ∀ c ∈ wh, c ≠ 46) := by
  unfold Lib.cut at h
  rcases first_dot t with h1 | ⟨a, r, e, h1⟩
  · rw [ix_none t h1] at h
    cases h
    exact Or.inl ⟨rfl, rfl, rfl, h1⟩
  · subst e
    rw [ix_dot r a h1, if_pos (by omega), Int.toNat_natCast] at h
    cases h
    refine Or.inr ⟨rfl, ?_, ?_⟩
    · simp [List.drop_append]
    · simp
      exact h1

/-- Digits and at most one point, in its right place: what has been gone through. -/
def keepD (t : List UInt8) (i : Nat) : List UInt8 := (t.take i).filter (· != 46)
theorem keepD_more {t : List UInt8} {i : Nat} (hi : i < t.length) : keepD t (i + 1) = if t[i] = 46 then keepD t i else keepD t i ++ [t[i]] := by
  unfold keepD
  rw [take_more hi, List.filter_append]
  by_cases h : t[i] = 46
  · rw [if_pos h, h]; simp
  · rw [if_neg h]
    simp [h]
theorem keep_all {t : List UInt8} (h : ∀ c ∈ t, c ≠ 46) : t.filter (· != 46) = t := by
  rw [List.filter_eq_self]
  intro c hc
  simp [h c hc]

end Go.Proofs.YtbgljhjimcoiiabDoor
