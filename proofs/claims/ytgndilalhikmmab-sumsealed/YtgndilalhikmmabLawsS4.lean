/- The walk of SumSealed. -/
import Derived.Test.YtgndilalhikmmabSumTurn
import Derived.Test.YtgndilalhikmmabSumBytes
import Derived.Test.YtgndilalhikmmabSumOpen
import Derived.Test.YtgndilalhikmmabStrByte
import Derived.Test.YtgndilalhikmmabOpenByte
namespace Go.Proofs.Ytgndilalhikmmab
open Go.RowKit

set_option maxHeartbeats 1000000 in
theorem sumSealed_walk {w : World} (ao : Option Addr) (len cap : Nat) (g : Nat → Nat) (ha : ArgB w ao len cap g) :
    Calls Try.prog 4 #[.slice ao len cap] w fun e w' => e = .returned (.bool true) ∧ Below w.heap.size w w' := by
  obtain ⟨hr, hl, hg, hc⟩ := ha
  have HR := hide hr; have HG := hide hg
  clear hr hg hc
  go_enter Try.func4, Try.ntmps4
  go_wp2_with fail
  refine (bytesK_any ao len cap (bF g) _ (by omega) (bF_one g) (unhide HR)).mono ?_
  rintro e w1 ⟨v, rfl, o1, k1⟩
  obtain ⟨a1, c1, rfl, r1, n1⟩ := owns_sr o1
  have R1 := hide r1; have K1 := hide k1
  clear o1 r1 n1 k1
  go_wp2_with fail
  refine (seal_any a1 len c1 g _ (unhide HG) (by omega) (unhide R1).rd).mono ?_
  rintro e w2 ⟨v, rfl, o2, k2⟩
  obtain ⟨a2, c2, rfl, r2, n2⟩ := owns_sr o2
  have R2 := hide r2; have N2 := hide n2; have K2 := hide ((unhide K1).trans (k2.mono (unhide K1).size))
  clear o2 r2 n2 k2 K1 R1
  go_wp2_with fail
  refine (open_any a2 (len + 4) c2 (slF g len) _ (slF_lt (unhide HG) len) (by omega) (unhide N2) (unhide R2).rd).mono ?_
  rintro e w3 ⟨v, ok, rfl, hok, hown, _, k3⟩
  have hf : ok = true := hok.2 ⟨by omega, by rw [show len + 4 - 4 = len by omega]; exact slF_right g len⟩
  subst hf
  have o3 := hown rfl
  rw [show len + 4 - 4 = len by omega] at o3
  obtain ⟨a3, c3, rfl, r3, n3⟩ := owns_sr o3
  have R3 := hide r3; have K3 := hide ((unhide K2).trans (k3.mono (unhide K2).size))
  clear hok hown o3 r3 n3 k3 K2
  go_wp2_with fail
  refine (sums_any w3).mono ?_
  rintro e w4 ⟨rfl, k4⟩
  have b4 := (unhide K3).trans (k4.mono (unhide K3).size)
  obtain ⟨S, eS⟩ : ∃ S, S = sB g len := ⟨_, rfl⟩
  have cv1 := run_convB w4 a3 len c3 (slF g len) ((unhide R3).below k4).rd
  have cv2 := run_convB w4 ao len cap g ((unhide HR).below b4).rd
  rw [sB_congr (f := g) (fun i hi => by unfold slF; rw [if_pos hi]), ← eS] at cv1
  rw [← eS] at cv2
  have K4 := hide b4
  clear k4 K3 eS b4
  go_wp2_with fail
  go_ret
  exact ⟨rfl, unhide K4⟩

end Go.Proofs.Ytgndilalhikmmab
