/- The walks of SumBursts and SumBroken. -/
import Derived.Test.YtgndilalhikmmabSumBurst
import Derived.Test.YtgndilalhikmmabSumOpen
import Derived.Test.YtgndilalhikmmabOpenByte
namespace Go.Proofs.Ytgndilalhikmmab
open Go.RowKit

set_option maxHeartbeats 1000000 in
theorem sumBursts_walk {w : World} (ao : Option Addr) (len cap : Nat) (g : Nat → Nat) (at_ mask : Int) (ha : ArgB w ao len cap g) (_h1 : R64 at_) (hm : R64 mask) :
    Calls Try.prog 3 #[.slice ao len cap, .int .i64 at_, .int .i64 mask] w fun e w' => e = .returned (.bool true) ∧ Below w.heap.size w w' := by
  obtain ⟨hr, hl, hg, hc⟩ := ha
  have HR := hide hr; have HG := hide hg; have HM := hide hm
  clear hr hg hm hc
  by_cases h0 : len = 0
  · subst h0
    go_enter Try.func3, Try.ntmps3
    go_wp2_with fail
    refine (sums_any w).mono ?_
    rintro e w1 ⟨rfl, k1⟩
    have K1 := hide k1
    clear k1
    go_wp2_with fail
    go_ret
    exact ⟨rfl, unhide K1⟩
  · have h02 : ¬ ((len : Int) = 0) := by omega
    go_enter Try.func3, Try.ntmps3
    go_wp2_with fail
    refine (sums_any w).mono ?_
    rintro e w1 ⟨rfl, k1⟩
    have K1 := hide k1
    clear k1
    go_wp2_with fail
    refine (burst_any ao len cap g at_ mask _ (unhide HM) (unhide HG) (by omega) ((unhide HR).below (unhide K1))).mono ?_
    rintro e w2 ⟨v, h, rfl, o2, hh, hd, k2⟩
    obtain ⟨a2, c2, rfl, r2, n2⟩ := owns_sr o2
    have R2 := hide r2; have HH := hide hh; have HD := hide (hd (by omega)); have K2 := hide ((unhide K1).trans (k2.mono (unhide K1).size))
    clear o2 r2 n2 hh hd k2 K1
    go_wp2_with fail
    refine (sum_any a2 len c2 h _ (unhide HH) (by omega) (unhide R2).rd).mono ?_
    rintro e w3 ⟨rfl, k3⟩
    have K3 := hide ((unhide K2).trans (k3.mono (unhide K2).size))
    clear k3 K2
    go_wp2_with fail
    refine (bytesK_any ao len cap (bF g) _ (by omega) (bF_one g) ((unhide HR).below (unhide K3))).mono ?_
    rintro e w4 ⟨v, rfl, o4, k4⟩
    obtain ⟨a4, c4, rfl, r4, n4⟩ := owns_sr o4
    have R4 := hide r4; have K4 := hide ((unhide K3).trans (k4.mono (unhide K3).size))
    clear o4 r4 n4 k4 K3
    go_wp2_with fail
    refine (sum_any a4 len c4 g _ (unhide HG) (by omega) (unhide R4).rd).mono ?_
    rintro e w5 ⟨rfl, k5⟩
    have K5 := hide ((unhide K4).trans (k5.mono (unhide K4).size))
    have ne : Hid (moreN 0 h len ≠ moreN 0 g len) := by
      obtain ⟨p, m, hp, h1, h2, he⟩ := unhide HD
      exact more_ne (unhide HG) (unhide HH) hp h1 h2 he
    clear k5 K4
    go_wp2_with fail
    go_ret
    have nb : (((moreN 0 h len : Nat) : Int) != ((moreN 0 g len : Nat) : Int)) = true := by
      have := unhide ne
      rw [bne_iff_ne]; omega
    refine ⟨congrArg (fun b => Ending.returned (Value.bool b)) (?_ : ((len : Int) == 0 || ((moreN 0 h len : Nat) : Int) != ((moreN 0 g len : Nat) : Int)) = true), unhide K5⟩
    rw [nb, Bool.or_true]

set_option maxHeartbeats 1000000 in
theorem sumBroken_walk {w : World} (ao : Option Addr) (len cap : Nat) (g : Nat → Nat) (at_ mask : Int) (ha : ArgB w ao len cap g) (_h1 : R64 at_) (hm : R64 mask) :
    Calls Try.prog 5 #[.slice ao len cap, .int .i64 at_, .int .i64 mask] w fun e w' => e = .returned (.bool true) ∧ Below w.heap.size w w' := by
  obtain ⟨hr, hl, hg, hc⟩ := ha
  have HR := hide hr; have HG := hide hg; have HM := hide hm
  clear hr hg hm hc
  go_enter Try.func5, Try.ntmps5
  go_wp2_with fail
  refine (bytesK_any ao len cap (bF g) _ (by omega) (bF_one g) (unhide HR)).mono ?_
  rintro e w1 ⟨v, rfl, o1, k1⟩
  obtain ⟨a1, c1, rfl, r1, n1⟩ := owns_sr o1
  have R1 := hide r1; have K1 := hide k1
  clear o1 r1 n1 k1
  go_wp2_with fail
  refine (seal_any a1 len c1 g _ (unhide HG) (by omega) (unhide R1).rd).mono ?_
  rintro e w2 ⟨v, rfl, o2, k2⟩
  obtain ⟨a2, c2, rfl, r2, n2⟩ := owns_sr o2
  have R2 := hide r2; have K2 := hide ((unhide K1).trans (k2.mono (unhide K1).size))
  clear o2 r2 n2 k2 K1 R1
  go_wp2_with fail
  refine (burst_any a2 (len + 4) c2 (slF g len) at_ mask _ (unhide HM) (slF_lt (unhide HG) len) (by omega) (unhide R2)).mono ?_
  rintro e w3 ⟨v, h, rfl, o3, hh, hd, k3⟩
  obtain ⟨a3, c3, rfl, r3, n3⟩ := owns_sr o3
  have R3 := hide r3; have N3 := hide n3; have HH := hide hh; have HD := hide (hd (by omega)); have K3 := hide ((unhide K2).trans (k3.mono (unhide K2).size))
  clear o3 r3 n3 hh hd k3 K2 R2
  go_wp2_with fail
  refine (open_any a3 (len + 4) c3 h _ (unhide HH) (by omega) (unhide N3) (unhide R3).rd).mono ?_
  rintro e w4 ⟨v, ok, rfl, hok, _, hno, k4⟩
  have hf : ok = false := by
    cases ok
    · rfl
    · exfalso
      have h1 := (hok.1 rfl).2
      rw [show len + 4 - 4 = len by omega] at h1
      obtain ⟨p, m, hp, h2, h3, he⟩ := unhide HD
      have h4 := right_left (unhide HH) len h1
      have h5 := right_left (slF_lt (unhide HG) len) len (slF_right g len)
      exact cF_burst (begS 0) (slF_lt (unhide HG) len) (unhide HH) (len + 4) p m hp h2 h3 he (h4.trans h5.symm)
  obtain rfl := hno hf
  subst hf
  have K4 := hide ((unhide K3).trans (k4.mono (unhide K3).size))
  clear hok hno k4 K3
  go_wp2_with fail
  refine (sums_any w4).mono ?_
  rintro e w5 ⟨rfl, k5⟩
  have K5 := hide ((unhide K4).trans (k5.mono (unhide K4).size))
  clear k5 K4
  go_wp2_with fail
  go_ret
  exact ⟨rfl, unhide K5⟩

end Go.Proofs.Ytgndilalhikmmab
