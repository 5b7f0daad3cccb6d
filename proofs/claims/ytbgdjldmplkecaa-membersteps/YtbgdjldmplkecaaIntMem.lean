/- Rows of numbers in memory, as rows of values. -/
import Derived.Test.YtbgdjldmplkecaaRowPlain
import Derived.Test.YtbgdjldmplkecaaByteMem
namespace Go.Proofs.Ytbgdjldmplkecaa
open Go.RowKit

/-- Numbers as values. -/
def iF (f : Nat → Int) (i : Nat) : Value := .int .i64 (f i)
theorem iF_one (f : Nat → Int) (i : Nat) : (iF f i).oneCell' = true := rfl

theorem own_base {t : TypeId} {B C : Nat} {w : World} {v : Value} {n : Nat} {xs : List Value} (h : w.ownsRow B t 1 v n xs) (e : C ≤ B) : w.ownsRow C t 1 v n xs := by
  refine ⟨h.1, ?_⟩
  rcases h.2 with hn | ⟨g, cap, cur, rfl, hb, rest⟩
  · exact .inl hn
  · exact .inr ⟨g, cap, cur, rfl, Nat.le_trans e hb, rest⟩

theorem own_keptz {t : TypeId} {B z : Nat} {w w' : World} {v : Value} {n : Nat} {xs : List Value} (h : w.ownsRow B t 1 v n xs) (k : Kept z w w') (hz : z < B) : w'.ownsRow B t 1 v n xs := by
  refine ⟨h.1, ?_⟩
  rcases h.2 with hn | ⟨g, cap, cur, rfl, hb, hgg, rest⟩
  · exact .inl hn
  · exact .inr ⟨g, cap, cur, rfl, hb, (k.block g (lt_of_block hgg) (by omega)).trans hgg, rest⟩
theorem rowV_snoc {g u : Nat → Value} {i : Nat} (h : g i = u 0) : rowV g i ++ rowV u 1 = rowV g (i + 1) := by
  rw [rowV_append]
  refine rowV_congr (fun j hj => ?_)
  by_cases c : j < i
  · rw [if_pos c]
  · rw [if_neg c]
    have : j = i := by omega
    subst this
    rw [Nat.sub_self, h]

end Go.Proofs.Ytbgdjldmplkecaa
