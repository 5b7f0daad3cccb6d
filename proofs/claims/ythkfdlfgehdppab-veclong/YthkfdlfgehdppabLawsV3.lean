/- Walk of the statement VecLong: for every input it returns true, and nothing that was in memory turns. -/
import Derived.Test.YthkfdlfgehdppabVecLaws
import Derived.Test.YthkfdlfgehdppabVecLen
namespace Go.Proofs.Ythkfdlfgehdppab
open Go.RowKit

theorem five_root {r : Int} (r0 : 0 ≤ r) (r1 : r * r ≤ dotZ 12884901888 17179869184 0 12884901888 17179869184 0 * 4294967296) (r2 : dotZ 12884901888 17179869184 0 12884901888 17179869184 0 * 4294967296 < (r + 1) * (r + 1)) : r = 21474836480 :=
  root_unique r0 (by decide) r1 r2 (by decide) (by decide)
theorem long_le {n d : Int} (_n0 : 0 ≤ n) (_n1 : n < 281474976710656) (h : n * n ≤ d * 4294967296) (hd : R64 d) : clampZ (mulQ n n) ≤ d := by
  have h1 : mulQ n n ≤ d := by unfold mulQ; omega
  have h2 := clampZ_mono h1
  rw [clampZ_in hd] at h2
  exact h2

set_option maxHeartbeats 1000000 in
theorem vecLong_walk (a0 a1 a2 : Int) (ha0 : R64 a0) (ha1 : R64 a1) (ha2 : R64 a2) (w : World) :
    Calls Try.prog 4 #[.agg #[.int .i64 a0, .int .i64 a1, .int .i64 a2]] w fun e w' => e = .returned (.bool true) ∧ Below w.heap.size w w' := by
  have A0 := hide ha0; have A1 := hide ha1; have A2 := hide ha2
  obtain ⟨v0, e0, p0, b0⟩ := one_start w a0 a1 a2
  have E0 := hide e0; have Av0 := hide p0; have Bv0 := hide b0
  clear ha0 ha1 ha2 e0 p0 b0
  go_enter Try.func4, Try.ntmps4
  go_wp2_with fail
  rw [← unhide E0]
  refine (vecLength_any a0 a1 a2 _ (unhide A0) (unhide A1) (unhide A2)).mono ?_
  rintro e t1 ⟨n, rfl, n0, n1, n2, n3, kk⟩
  have Fn := hide (And.intro n0 (And.intro n1 (And.intro n2 n3)))
  clear n0 n1 n2 n3
  have At1 := hide ((unhide Av0).below kk)
  have Bt1 := hide ((unhide Bv0).trans (kk.mono (unhide Bv0).size))
  clear kk Av0 Bv0
  have Ax := (unhide At1).vc.1; have Ay := (unhide At1).vc.2.1; have Az := (unhide At1).vc.2.2; have Al := (unhide At1).lt
  go_wp2_with fail
  refine (vecDot_any a0 a1 a2 a0 a1 a2 _ (unhide A0) (unhide A1) (unhide A2) (unhide A0) (unhide A1) (unhide A2)).mono ?_
  rintro e v2 ⟨rfl, kk⟩
  have Av2 := hide ((unhide At1).below kk)
  have Bv2 := hide ((unhide Bt1).trans (kk.mono (unhide Bt1).size))
  clear kk At1 Bt1
  clear Ax Ay Az Al
  go_wp2_with fail
  refine (vecLength_any 12884901888 17179869184 0 _ (by unfold R64; omega) (by unfold R64; omega) (by unfold R64; omega)).mono ?_
  rintro e t2 ⟨r, rfl, r0, r1, r2, r3, kk⟩
  have Fr := hide (And.intro r0 (And.intro r1 (And.intro r2 r3)))
  clear r0 r1 r2 r3
  have At2 := hide ((unhide Av2).below kk)
  have Bt2 := hide ((unhide Bv2).trans (kk.mono (unhide Bv2).size))
  clear kk Av2 Bv2
  have ER := hide (five_root (unhide Fr).1 (unhide Fr).2.2.1 (unhide Fr).2.2.2)
  rw [unhide ER]
  have P := hide (long_le (unhide Fn).1 (unhide Fn).2.1 (unhide Fn).2.2.1 (dotZ_R a0 a1 a2 a0 a1 a2))
  have RN := hide (show R64 n from ⟨Int.le_trans (by decide) (unhide Fn).1, Int.le_of_lt (Int.lt_trans (unhide Fn).2.1 (by decide))⟩)
  have N0 := (unhide Fn).1
  clear Fr Fn ER
  generalize dotB a0 a1 a2 a0 a1 a2 = db at *
  generalize dotZ a0 a1 a2 a0 a1 a2 = d at *
  cases db
  · go_wp2_with fail
    refine (mul_any n n (unhide RN) (unhide RN) _).mono ?_
    rintro e w5 ⟨rfl, rfl⟩
    have P1 := unhide P
    go_wp2_with fail
    go_ret
    exact ⟨rfl, unhide Bt2⟩
  · go_wp2_with fail
    go_ret
    exact ⟨rfl, unhide Bt2⟩


end Go.Proofs.Ythkfdlfgehdppab
