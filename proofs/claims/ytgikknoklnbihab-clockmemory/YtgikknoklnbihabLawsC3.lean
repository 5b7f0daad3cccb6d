/- The walk of ClockMemory, whatever Middle is made of. -/
import Derived.Test.YtgikknoklnbihabClkTell
import Derived.Test.YtgikknoklnbihabRowRoom
namespace Go.Proofs.Ytgikknoklnbihab
open Go.RowKit

theorem room_R64 {f : Nat → Int} {l : Nat} (h : ∀ i, R64 (f i)) (i : Nat) : R64 (rmF f l i) := by
  unfold rmF
  split
  · exact h i
  · split
    · unfold R64; omega
    · unfold R64; omega

set_option maxHeartbeats 2000000 in
theorem clockMemory_by (hMd : MdOK 10) {w : World} (ao : Option Addr) (n cap : Nat) (f : Nat → Int) (ar : ArgS w ao n cap f) (_rc : n ≤ cap) :
    Calls Try.prog 8 #[.slice ao n cap] w fun e w' => e = .returned (.bool true) ∧ Below w.heap.size w w' := by
  have hl := ar.2.1
  have AR := hide ar; have HM := hide hMd
  clear ar hMd
  go_enter Try.func8, Try.ntmps8
  go_wp2_with fail
  refine (roomy_any ao n cap f _ (unhide AR)).mono ?_
  rintro e w1 ⟨rfl, n1, k1⟩
  have N1 := hide n1; have K1 := hide k1
  have S1 := hide (show Sr w1 (some ⟨w.heap.size, 0, none⟩) n (n + 2) (iF (rmF f n)) from Or.inr ⟨_, rfl, fun i hi => by rw [Addr.add_lit, Nat.zero_add]; exact n1.cell (show i < n + 2 by omega)⟩)
  clear n1 k1
  go_wp2_with fail
  refine (unhide HM (some ⟨w.heap.size, 0, none⟩) n (n + 2) (rmF f n) _ (room_R64 (unhide AR).2.2) hl (by omega) (unhide S1)).mono ?_
  rintro e w2 ⟨m, E, _, rfl, k2⟩
  have N2 := hide ((unhide N1).below k2); have K2 := hide (show Below w.heap.size w w2 from (unhide K1).trans (k2.mono (unhide K1).size))
  clear k2
  go_wp2_with fail
  refine (middles_ok (unhide HM) _).mono ?_
  rintro e w3 ⟨rfl, k3⟩
  have N3 := hide ((unhide N2).below k3); have K3 := hide (show Below w.heap.size w w3 from (unhide K2).trans (k3.mono (unhide K2).size))
  clear k3
  go_wp2_with fail
  refine (stayed_any w.heap.size n cap ao f _ (by omega) (unhide N3) (ArgS.below (unhide AR) (unhide K3)).rds).mono ?_
  rintro e w4 ⟨rfl, k4⟩
  have K4 := hide (show Below w.heap.size w w4 from (unhide K3).trans (k4.mono (unhide K3).size))
  clear k4
  go_wp2_with fail
  go_ret
  exact ⟨rfl, unhide K4⟩

end Go.Proofs.Ytgikknoklnbihab
