/- The contract of spot: a number counted round. -/
import Derived.Test.YtbgdjldmplkecaaRowBase
namespace Go.Proofs.Ytbgdjldmplkecaa
open Go.RowKit

set_option maxHeartbeats 400000 in
theorem spotS_any (a n : Int) (hn : 0 < n) (hn2 : n ≤ 2000000000000000) (w : World) :
    Calls Try.prog 16 #[.int .i64 a, .int .i64 n] w fun e w' => ∃ j : Nat, (j : Int) < n ∧ e = .returned (.int .i64 (j : Int)) ∧ w' = w := by
  have b1 := Int.tmod_lt_of_pos a hn
  have b2 : -n < a.tmod n := by
    have := Int.tmod_lt_of_pos (-a) hn
    rw [Int.neg_tmod] at this
    omega
  have h0 : ¬ n = 0 := by omega
  by_cases h : a.tmod n < 0
  · go_enter Try.func16, Try.ntmps16
    go_wp2
    go_ret
    exact ⟨(a.tmod n + n).toNat, by omega, by rw [Int.toNat_of_nonneg (by omega)]; rfl, rfl⟩
  · go_enter Try.func16, Try.ntmps16
    go_wp2
    go_ret
    exact ⟨(a.tmod n).toNat, by omega, by rw [Int.toNat_of_nonneg (by omega)]; rfl, rfl⟩

end Go.Proofs.Ytbgdjldmplkecaa
