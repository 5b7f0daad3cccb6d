/- Contracts of the reference: More, Sum. -/
import Derived.Test.YtngmeaaglogieabGreatNear28
import Derived.Test.YtngmeaaglogieabGreatNear65
namespace Go.Proofs.YtngmeaaglogieabGreat
open Go.RowKit

/-- The register at the loop's place k while it is filled. -/
def filF (s : Int) (k j : Nat) : Value := if j < k then rB (bgS s) j else .int .i64 0
theorem filF_step (s : Int) (k : Nat) : stW (filF s k) k (rB (bgS s) k) = filF s (k + 1) := by
  funext j
  by_cases e : j = k
  · subst e; rw [stW_same]; unfold filF; rw [if_pos (by omega)]
  · rw [stW_other _ _ e]; unfold filF
    by_cases h : j < k
    · rw [if_pos h, if_pos (by omega)]
    · rw [if_neg h, if_neg (by omega)]
def nil32 : Array Value := Array.replicate 32 (.int .i64 0)
/-- While the register is combined. -/
def mixF (r k j : Nat) : Value := if j < k then rB (r ^^^ 3988292384) j else rB r j
theorem mixF_step (r k : Nat) : stW (mixF r k) k (rB (r ^^^ 3988292384) k) = mixF r (k + 1) := by
  funext j
  by_cases e : j = k
  · subst e; rw [stW_same]; unfold mixF; rw [if_pos (by omega)]
  · rw [stW_other _ _ e]; unfold mixF
    by_cases h : j < k
    · rw [if_pos h, if_pos (by omega)]
    · rw [if_neg h, if_neg (by omega)]

theorem infoI : (Tryz.prog.info? 3).map (·.size) = some 1 := by kernel_rfl
/-- The register moved down by one. -/
def dwF (x i : Nat) : Value := if i < 31 then rB x (i + 1) else rB x i
end Go.Proofs.YtngmeaaglogieabGreat
