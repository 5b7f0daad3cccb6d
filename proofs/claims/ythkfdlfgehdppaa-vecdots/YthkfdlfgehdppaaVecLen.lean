/- Contract of package vec's Length. -/
import Derived.Test.YthkfdlfgehdppaaVecDot
import Derived.Test.YthkfdlfgehdppaaFixSqrt
namespace Go.Proofs.Ythkfdlfgehdppaa
open Go.RowKit

theorem clampZ_nonneg {z : Int} (h : 0 ≤ z) : 0 ≤ clampZ z := by unfold clampZ; split <;> (try split) <;> omega
theorem mulQ_self (a : Int) : 0 ≤ mulQ a a := by
  unfold mulQ
  have h : 0 ≤ a * a := by
    rcases Int.le_total 0 a with h | h
    · exact Int.mul_nonneg h h
    · exact Int.mul_nonneg_of_nonpos_of_nonpos h h
  omega
theorem dotZ_self (a0 a1 a2 : Int) : 0 ≤ dotZ a0 a1 a2 a0 a1 a2 := by
  unfold dotZ
  have h0 := clampZ_nonneg (mulQ_self a0); have h1 := clampZ_nonneg (mulQ_self a1); have h2 := clampZ_nonneg (mulQ_self a2)
  have h3 := clampZ_nonneg (Int.add_nonneg h0 h1)
  exact clampZ_nonneg (Int.add_nonneg h3 h2)

set_option maxHeartbeats 400000 in
theorem vecLength_any (a0 a1 a2 : Int) (w : World) (ha0 : R64 a0) (ha1 : R64 a1) (ha2 : R64 a2) :
    Calls Try.prog 19 #[.agg #[.int .i64 a0, .int .i64 a1, .int .i64 a2]] w fun e w' => ∃ r : Int,
      e = .returned (.tuple #[.int .i64 r, .bool (dotB a0 a1 a2 a0 a1 a2)]) ∧ 0 ≤ r ∧ r < 281474976710656 ∧ r * r ≤ dotZ a0 a1 a2 a0 a1 a2 * 4294967296 ∧ dotZ a0 a1 a2 a0 a1 a2 * 4294967296 < (r + 1) * (r + 1) ∧ Below w.heap.size w w' := by
  have A0 := hide ha0; have A1 := hide ha1; have A2 := hide ha2
  obtain ⟨d, ed⟩ : ∃ d, dotZ a0 a1 a2 a0 a1 a2 = d := ⟨_, rfl⟩
  obtain ⟨db, eb⟩ : ∃ d, dotB a0 a1 a2 a0 a1 a2 = d := ⟨_, rfl⟩
  have D0 := hide (dotZ_self a0 a1 a2); have D1 := hide (dotZ_R a0 a1 a2 a0 a1 a2).2
  have B1 := hide (show Below w.heap.size w (w.alloc (.cells #[.int .i64 a0, .int .i64 a1, .int .i64 a2] 23)) from (Below.refl _ _).alloc (Nat.le_refl _) _)
  rw [ed] at D0 D1
  rw [ed, eb]
  have ED := hide ed; have EB := hide eb
  clear ha0 ha1 ha2 ed eb
  go_enter Try.func19, Try.ntmps19
  go_wp2_with fail
  refine (vecDot_any a0 a1 a2 a0 a1 a2 _ (unhide A0) (unhide A1) (unhide A2) (unhide A0) (unhide A1) (unhide A2)).mono ?_
  rintro e w2 ⟨rfl, k2⟩
  have B2 := hide ((unhide B1).trans (k2.mono (unhide B1).size))
  clear k2
  rw [unhide ED, unhide EB]
  go_wp2_with fail
  refine (sqrt_pos d (unhide D0) (unhide D1) _).mono ?_
  rintro e w3 ⟨r, rfl, r0, r1, r2, r3, rfl⟩
  have F := hide (show 0 ≤ r ∧ r < 281474976710656 ∧ r * r ≤ d * 4294967296 ∧ d * 4294967296 < (r + 1) * (r + 1) from ⟨r0, r1, r2, r3⟩)
  clear r0 r1 r2 r3
  cases db
  · go_wp2_with fail
    go_ret2
    exact ⟨r, rfl, (unhide F).1, (unhide F).2.1, (unhide F).2.2.1, (unhide F).2.2.2, unhide B2⟩
  · go_wp2_with fail
    go_ret2
    exact ⟨r, rfl, (unhide F).1, (unhide F).2.1, (unhide F).2.2.1, (unhide F).2.2.2, unhide B2⟩

end Go.Proofs.Ythkfdlfgehdppaa
