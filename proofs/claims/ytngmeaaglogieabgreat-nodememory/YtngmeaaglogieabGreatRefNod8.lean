/- Contracts of the reference: Digest. -/
import Derived.Test.YtngmeaaglogieabGreatNear80
import Derived.Test.YtngmeaaglogieabGreatNear40
import Derived.Test.YtngmeaaglogieabGreatRefSum
namespace Go.Proofs.YtngmeaaglogieabGreat
open Go.RowKit

theorem ctN8_R (f : Nat → Int) (k : Nat) : R64 (ctN8 f k) := by
  cases k with
  | zero => exact (⟨by decide, by decide⟩ : R64 0)
  | succ k => exact wrap64_R _
/-- What a digest is reckoned of has 64 bits. -/
structure PkOK (ax : Nat → St) : Prop where
  ax : ∀ a, (ax a).Ok
theorem pck_R {ax : Nat → St} {r : Rl} (h : PkOK ax) (i : Nat) : R64 (gL (pck ax r) i) := by
  have z : ∀ x : Int, (x = 0 ∨ x = 1) → R64 x := fun x h => by rcases h with rfl | rfl <;> exact ⟨by decide, by decide⟩
  have hb : ∀ b : Bool, R64 (if b then 1 else 0) := fun b => by cases b <;> exact ⟨by decide, by decide⟩
  have hin : R64 (inN r.I) := by
    unfold inN
    cases r.I 0 <;> cases r.I 1 <;> cases r.I 2 <;> cases r.I 3 <;> exact ⟨by decide, by decide⟩
  rcases Nat.lt_or_ge i 24 with hi | hi
  · match i, hi with
    | 0, _ => exact (h.ax 0).X
    | 1, _ => exact (h.ax 0).V
    | 2, _ => exact (h.ax 0).P00
    | 3, _ => exact (h.ax 0).P01
    | 4, _ => exact (h.ax 0).P11
    | 5, _ => exact hb _
    | 6, _ => exact (h.ax 0).M
    | 7, _ => exact (h.ax 1).X
    | 8, _ => exact (h.ax 1).V
    | 9, _ => exact (h.ax 1).P00
    | 10, _ => exact (h.ax 1).P01
    | 11, _ => exact (h.ax 1).P11
    | 12, _ => exact hb _
    | 13, _ => exact (h.ax 1).M
    | 14, _ => exact (h.ax 2).X
    | 15, _ => exact (h.ax 2).V
    | 16, _ => exact (h.ax 2).P00
    | 17, _ => exact (h.ax 2).P01
    | 18, _ => exact (h.ax 2).P11
    | 19, _ => exact hb _
    | 20, _ => exact (h.ax 2).M
    | 21, _ => exact hin
    | 22, _ => exact ctN8_R _ _
    | 23, _ => exact ctN8_R _ _
    | k + 24, h => exact absurd h (by omega)
  · have : gL (pck ax r) i = 0 := by
      unfold gL
      rw [List.getD_eq_getElem?_getD, List.getElem?_eq_none (by rw [pck_len]; exact hi)]
      rfl
    rw [this]
    exact z 0 (Or.inl rfl)
theorem pckB_lt (ax : Nat → St) (r : Rl) : ∀ i, pckB ax r i < 256 := fun i => by unfold pckB bt; omega
theorem pckB_next {ax : Nat → St} {r : Rl} {x : Nat} : rowV (bF (pckB ax r)) (8 * x) ++ rowV (bF (bt (gL (pck ax r) x) 8)) 8 = rowV (bF (pckB ax r)) (8 * (x + 1)) := by
  rw [rowV_append]
  refine rowV_congr (fun j hj => ?_)
  by_cases c : j < 8 * x
  · rw [if_pos c]
  · rw [if_neg c]
    show bV (bt _ 8 (j - 8 * x)) = bV (bt ((pck ax r).getD (j / 8) 0) 8 (j % 8))
    rw [show j / 8 = x by omega, show j % 8 = j - 8 * x by omega]
    rfl
end Go.Proofs.YtngmeaaglogieabGreat
