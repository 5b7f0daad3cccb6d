/- Contracts of the reference: Middle. -/
import Derived.Test.YtgikknoklnbihaaRefClk1
namespace Go.Proofs.Ytgikknoklnbihaa
open Go.RowKit

set_option maxHeartbeats 1000000 in
theorem refMiddle_bad (ao : Option Addr) (n cap : Nat) (w : World) (h : n < 1 ∨ 64 < n) :
    Calls Try.prog 12 #[.slice ao n cap] w fun e w' => e = .returned (.tuple #[.int .i64 0, .int .i64 8]) ∧ Below w.heap.size w w' := by
  by_cases h1 : n < 1
  · have h1' : (n : Int) < 1 := by omega
    clear h
    go_enter Try.func12, Try.ntmps12
    go_wp2_with fail
    go_ret2
    exact ⟨rfl, Below.refl _ _⟩
  · have h2 : (64 : Int) < (n : Int) := by omega
    clear h
    go_enter Try.func12, Try.ntmps12
    go_wp2_with fail
    go_ret2
    exact ⟨rfl, Below.refl _ _⟩

theorem div_half (x y : Int) (hx : R64 x) (hy : R64 y) : DivOK (absZ (x + y)) (absZ 2) := by
  have h1 := absZ_bd hx; have h2 := absZ_bd hy
  by_cases h : absZ (x + y) < 18446744073709551616
  · exact div_small _ _ (by unfold absZ; split <;> omega) (by decide) h
  · exact div_one _ _ (by decide) (by omega) (by decide)
theorem rk_R64 {f : Nat → Int} {n k : Nat} {v : Int} (hf : ∀ i, R64 (f i)) (h : IsRk f n k v) : R64 v := by
  obtain ⟨i, _, rfl⟩ := rk_mem h
  exact hf i

set_option maxHeartbeats 2000000 in
theorem refMiddle_good (ao : Option Addr) (n cap : Nat) (f : Nat → Int) (w : World) (h1 : 1 ≤ n) (h2 : n ≤ 64) (hf : ∀ i, R64 (f i)) (hr : Rd w ao n (iF f)) :
    Calls Try.prog 12 #[.slice ao n cap] w fun e w' => ∃ m, IsMid f n m ∧ e = .returned (.tuple #[.int .i64 m, .int .i64 0]) ∧ Below w.heap.size w w' := by
  obtain ⟨k, ek⟩ : ∃ k, (n - 1) / 3 = k := ⟨_, rfl⟩
  have hk : 3 * k + 1 ≤ n := by omega
  have td : ((n : Int) - 1).tdiv 3 = (k : Int) := by
    rw [show (n : Int) - 1 = ((n - 1 : Nat) : Int) by omega, ← ek]; rfl
  have EK := hide ek; have HF := hide hf; have HR := hide hr
  clear ek hf hr
  go_enter Try.func12, Try.ntmps12
  go_wp2_with fail
  refine (rank_any ao n cap k f _ h2 (by omega) (unhide HR)).mono ?_
  rintro e w1 ⟨a, ra, rfl, rfl⟩
  have RA := hide ra; have AR := hide (rk_R64 (unhide HF) ra)
  clear ra
  go_wp2_with fail
  refine (whole_any a (unhide AR) _).mono ?_
  rintro e w2 ⟨b2, rfl, g2, n2, k2⟩
  have N2 := hide n2; have K2 := hide k2; have G2 := hide g2; have R2 := hide ((unhide HR).below k2)
  clear n2 k2 g2
  have eq : (n : Int) - 1 - (k : Int) = ((n - 1 - k : Nat) : Int) := by omega
  go_wp2_with fail
  refine (rank_any ao n cap (n - 1 - k) f _ h2 (by omega) (unhide R2)).mono ?_
  rintro e w3 ⟨c, rc, rfl, rfl⟩
  have RC := hide rc; have CR := hide (rk_R64 (unhide HF) rc)
  clear rc
  go_wp2_with fail
  refine (whole_any c (unhide CR) _).mono ?_
  rintro e w4 ⟨b4, rfl, g4, n4, k4⟩
  have N4 := hide n4; have M4 := hide ((unhide N2).below k4); have K4 := hide (show Below w1.heap.size w1 w4 from (unhide K2).trans (k4.mono (unhide K2).size))
  clear n4 k4 g4
  go_wp2_with fail
  obtain ⟨s, v, ia⟩ := (unhide M4).intAt
  refine (intAdd_any b2 b2 b4 a c s v _ ia (unhide M4) (unhide N4) (bd64 (unhide AR)) (bd64 (unhide CR))).mono ?_
  rintro e w5 ⟨rfl, n5, k5⟩
  have N5 := hide n5; have K5 := hide (below_of_kept (unhide K4) k5 (unhide G2) (unhide K4).size)
  clear n5 k5 ia
  go_wp2_with fail
  refine (whole_any 2 (by unfold R64; omega) _).mono ?_
  rintro e w6 ⟨b6, rfl, g6, n6, k6⟩
  have N6 := hide n6; have M6 := hide ((unhide N5).below k6); have K6 := hide (show Below w1.heap.size w1 w6 from (unhide K5).trans (k6.mono (unhide K5).size))
  clear n6 k6 g6
  have DS := hide (show Bd (a + c) from bd_of (k := 3) (by have h1 := absZ_bd (unhide AR); have h2 := absZ_bd (unhide CR); have h3 := absZ_add a c; show _ < (79228162514264337593543950336 : Int); omega) (by decide))
  go_wp2_with fail
  refine (down_any b2 b6 (a + c) 2 _ (unhide M6) (unhide N6) (unhide DS) (bd64 (by unfold R64; omega)) (by decide) (div_half a c (unhide AR) (unhide CR))).mono ?_
  rintro e w7 ⟨b7, rfl, n7, k7⟩
  have N7 := hide n7; have K7 := hide (show Below w1.heap.size w1 w7 from (unhide K6).trans (k7.mono (unhide K6).size))
  clear n7 k7
  have RM := hide (show R64 ((a + c) / 2) by have h1 := unhide AR; have h2 := unhide CR; unfold R64 at *; omega)
  go_wp2_with fail
  refine (int64_any b7 _ _ (unhide N7) (unhide RM)).mono ?_
  rintro e w8 ⟨rfl, rfl⟩
  go_wp2_with fail
  go_ret2
  exact ⟨(a + c) / 2, ⟨a, c, by rw [unhide EK]; exact unhide RA, by rw [unhide EK]; exact unhide RC, rfl⟩, rfl, unhide K7⟩

theorem refMiddle_ok : MdOK 12 := by
  intro ao n cap f w hf _ _ hs
  by_cases h : n < 1 ∨ 64 < n
  · refine (refMiddle_bad ao n cap w h).mono ?_
    rintro e w' ⟨rfl, k⟩
    exact ⟨0, 8, Or.inr ⟨h, rfl, rfl⟩, rfl, k⟩
  · refine (refMiddle_good ao n cap f w (by omega) (by omega) hf hs.rd).mono ?_
    rintro e w' ⟨m, hm, rfl, k⟩
    exact ⟨m, 0, Or.inl ⟨by omega, by omega, rfl, hm⟩, rfl, k⟩

end Go.Proofs.Ytgikknoklnbihaa
