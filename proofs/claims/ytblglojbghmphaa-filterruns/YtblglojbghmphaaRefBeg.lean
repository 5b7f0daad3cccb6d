/- Contract of the reference: BeginState. -/
import Derived.Test.YtblglojbghmphaaFilEql
namespace Go.Proofs.Ytblglojbghmphaa
open Go.RowKit

set_option maxHeartbeats 400000 in
theorem refBegin_any (x : Int) (w : World) :
    Calls Try.prog 10 #[.int .i64 x] w fun e w' => e = .returned (stV (begS x)) ∧ Below w.heap.size w w' := by
  go_enter Try.func10, Try.ntmps10
  go_wp2_with fail
  refine bodyPost_ret (v := stV (begS x)) (by simp [results, Try.results10, go_sem, begS]) rfl ⟨rfl, ?_⟩
  exact ((Below.refl _ _).alloc (Nat.le_refl _) _).alloc (by rw [al_size]; omega) _

end Go.Proofs.Ytblglojbghmphaa
