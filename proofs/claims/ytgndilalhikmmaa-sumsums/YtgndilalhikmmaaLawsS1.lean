/- The walks of SumMores and SumSums. -/
import Derived.Test.YtgndilalhikmmaaRefSum
import Derived.Test.YtgndilalhikmmaaSumBytes
import Derived.Test.YtgndilalhikmmaaOpenByte
namespace Go.Proofs.Ytgndilalhikmmaa
open Go.RowKit

theorem more_one : moreN 1 (fun _ => 0) 0 = 1 := by decide

set_option maxHeartbeats 1000000 in
theorem sumMores_walk {w : World} (s : Int) (ao : Option Addr) (len cap : Nat) (g : Nat → Nat) (hs : R64 s) (ha : ArgB w ao len cap g) :
    Calls Try.prog 4 #[.int .i64 s, .slice ao len cap] w fun e w' => e = .returned (.bool true) ∧ Below w.heap.size w w' := by
  obtain ⟨hr, hl, hg, hc⟩ := ha
  have HS := hide hs; have HR := hide hr; have HG := hide hg
  clear hs hr hg
  go_enter Try.func4, Try.ntmps4
  go_wp2_with fail
  refine (bytesL_any ao len cap (bF g) _ (by omega) (bF_one g) (unhide HR)).mono ?_
  rintro e w1 ⟨v, rfl, o1, k1⟩
  obtain ⟨a1, c1, rfl, r1, n1⟩ := owns_sr o1
  have R1 := hide r1; have K1 := hide k1
  clear o1 r1 k1 n1
  go_wp2_with fail
  refine (more_any s a1 len c1 g _ (unhide HG) (by omega) (unhide R1).rd).mono ?_
  rintro e w2 ⟨rfl, k2⟩
  have K2 := hide ((unhide K1).trans (k2.mono (unhide K1).size))
  clear k2 K1
  go_wp2_with fail
  refine (refMore_any s (unhide HS) ao len cap g _ (unhide HG) (by omega) ((unhide HR).rd.below (unhide K2))).mono ?_
  rintro e w3 ⟨rfl, k3⟩
  have K3 := hide ((unhide K2).trans (k3.mono (unhide K2).size))
  clear k3 K2
  go_wp2_with fail
  refine (more_any 1 none 0 0 (fun _ => 0) _ (fun _ => by show 0 < 256; omega) (by omega) (fun h => absurd h (by omega))).mono ?_
  rintro e w4 ⟨rfl, k4⟩
  rw [more_one]
  have K4 := hide ((unhide K3).trans (k4.mono (unhide K3).size))
  clear k4 K3
  go_wp2_with fail
  go_ret
  exact ⟨rfl, unhide K4⟩

set_option maxHeartbeats 1000000 in
theorem sumSums_walk {w : World} (ao : Option Addr) (len cap : Nat) (g : Nat → Nat) (ha : ArgB w ao len cap g) :
    Calls Try.prog 3 #[.slice ao len cap] w fun e w' => e = .returned (.bool true) ∧ Below w.heap.size w w' := by
  obtain ⟨hr, hl, hg, hc⟩ := ha
  have HR := hide hr; have HG := hide hg
  clear hr hg
  go_enter Try.func3, Try.ntmps3
  go_wp2_with fail
  refine (bytesL_any ao len cap (bF g) _ (by omega) (bF_one g) (unhide HR)).mono ?_
  rintro e w1 ⟨v, rfl, o1, k1⟩
  obtain ⟨a1, c1, rfl, r1, n1⟩ := owns_sr o1
  have R1 := hide r1; have K1 := hide k1
  clear o1 r1 k1 n1
  go_wp2_with fail
  refine (sum_any a1 len c1 g _ (unhide HG) (by omega) (unhide R1).rd).mono ?_
  rintro e w2 ⟨rfl, k2⟩
  have K2 := hide ((unhide K1).trans (k2.mono (unhide K1).size))
  clear k2 K1
  go_wp2_with fail
  refine (refSum_any ao len cap g _ (unhide HG) (by omega) ((unhide HR).rd.below (unhide K2))).mono ?_
  rintro e w3 ⟨rfl, k3⟩
  have K3 := hide ((unhide K2).trans (k3.mono (unhide K2).size))
  clear k3 K2
  have cv := Lib.run_convert_bytes_const (P := Try.prog) w3 22 5 digA 9 9 Try.underlying22 Try.underlying5
  have HV := hide (digA_rd w3)
  have K4 := hide ((unhide K3).trans ((al_below w3 (.cells digA 5 (9, 9 + 1))).mono (unhide K3).size))
  unfold digA at cv HV K4
  go_wp2_with fail
  refine (sum_any _ 9 9 digF _ digF_lt (by omega) (unhide HV)).mono ?_
  rintro e w5 ⟨rfl, k5⟩
  rw [digits]
  have K5 := hide ((unhide K4).trans (k5.mono (unhide K4).size))
  clear k5
  go_wp2_with fail
  go_ret
  exact ⟨rfl, unhide K5⟩

end Go.Proofs.Ytgndilalhikmmaa
