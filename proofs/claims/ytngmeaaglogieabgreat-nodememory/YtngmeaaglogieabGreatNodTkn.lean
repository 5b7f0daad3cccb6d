/- What is taken for said: its numbers have 64 bits. -/
import Derived.Test.YtngmeaaglogieabGreatNear72
import Derived.Test.YtngmeaaglogieabGreatNear79
namespace Go.Proofs.YtngmeaaglogieabGreat
open Go.RowKit

theorem R64_zero : R64 0 := ⟨by decide, by decide⟩
theorem gL_R {l : List Int} (h : ∀ x, x ∈ l → R64 x) (i : Nat) : R64 (gL l i) := by
  unfold gL
  rw [List.getD_eq_getElem?_getD]
  rcases Nat.lt_or_ge i l.length with c | c
  · rw [List.getElem?_eq_getElem c]
    exact h _ (List.getElem_mem c)
  · rw [List.getElem?_eq_none c]
    exact R64_zero
theorem dc3_R {a b c : Int} (ha : R64 a) (hb : R64 b) : R64 (dc3 a b c) := by
  unfold dc3
  split
  · exact ha
  · split
    · exact ha
    · split
      · exact hb
      · exact R64_zero
theorem frst_mem {n : Nd} {L : List Lm} {s : Nat} {kind : Int} {many : Nat} {v : List Int} (h : frst n (L.map Lm.m) s kind many = some v) : ∃ c, c ∈ L ∧ c.m.L = v := by
  rw [← fL_frst] at h
  obtain ⟨c, h1, h2⟩ := Option.map_eq_some_iff.1 h
  exact ⟨c, List.mem_of_find?_eq_some h1, h2⟩
theorem tld_R {n : Nd} {L : List Lm} (hRL : ∀ m, m ∈ L → ∀ i, R64 (gL m.m.L i)) (i k many : Nat) : R64 (tldN n (L.map Lm.m) i k many) := by
  unfold tldN
  cases e : frst n (L.map Lm.m) i 2 many with
  | none => exact R64_zero
  | some v =>
    obtain ⟨c, h1, rfl⟩ := frst_mem e
    exact hRL c h1 k
theorem tkn_R {n : Nd} {L : List Lm} (hRL : ∀ m, m ∈ L → ∀ i, R64 (gL m.m.L i)) {s : Nat} {h : Int} {k many : Nat} (hh : R64 h) : R64 (tkn n (L.map Lm.m) s h k many) := by
  unfold tkn
  split
  · exact hh
  · exact dc3_R hh (tld_R hRL _ _ _)
end Go.Proofs.YtngmeaaglogieabGreat
