/- Walk of the statement FilterBegins. -/
import Derived.Test.YtblglojbghmphaaRefBeg
namespace Go.Proofs.Ytblglojbghmphaa
open Go.RowKit

set_option maxHeartbeats 1000000 in
theorem filterBegins_walk {w : World} (x : Int) (_hx : R64 x) : Calls Try.prog 3 #[.int .i64 x] w fun e w' => e = .returned (.bool true) ∧ Below w.heap.size w w' := by
  have Kw := hide (Below.refl w.heap.size w)
  go_enter Try.func3, Try.ntmps3
  go_wp2_with fail
  refine (begin_any x _).mono ?_
  rintro e v1 ⟨rfl, kk⟩
  have Kv1 := hide ((unhide Kw).trans (kk.mono (unhide Kw).size))
  clear kk Kw
  go_wp2_with fail
  refine (refBegin_any x _).mono ?_
  rintro e v2 ⟨rfl, kk⟩
  have Kv2 := hide ((unhide Kv1).trans (kk.mono (unhide Kv1).size))
  clear kk Kv1
  go_wp2_with fail
  go_ret
  exact ⟨rfl, (unhide Kv2)⟩

end Go.Proofs.Ytblglojbghmphaa
