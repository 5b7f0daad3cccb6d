/- Walk of the statement VecLengths: for every input it returns true, and nothing that was in memory turns. -/
import Derived.Test.YthkfdlfgehdppaaVecLaws
import Derived.Test.YthkfdlfgehdppaaVecLen
import Derived.Test.YthkfdlfgehdppaaRefDot
namespace Go.Proofs.Ythkfdlfgehdppaa
open Go.RowKit

theorem five_root {r : Int} (r0 : 0 ≤ r) (r1 : r * r ≤ dotZ 12884901888 17179869184 0 12884901888 17179869184 0 * 4294967296) (r2 : dotZ 12884901888 17179869184 0 12884901888 17179869184 0 * 4294967296 < (r + 1) * (r + 1)) : r = 21474836480 :=
  root_unique r0 (by decide) r1 r2 (by decide) (by decide)

set_option maxHeartbeats 1000000 in
theorem vecLengths_walk (a0 a1 a2 : Int) (ha0 : R64 a0) (ha1 : R64 a1) (ha2 : R64 a2) (w : World) :
    Calls Try.prog 7 #[.agg #[.int .i64 a0, .int .i64 a1, .int .i64 a2]] w fun e w' => e = .returned (.bool true) ∧ Below w.heap.size w w' := by
  have A0 := hide ha0; have A1 := hide ha1; have A2 := hide ha2
  obtain ⟨v0, e0, p0, b0⟩ := one_start w a0 a1 a2
  have E0 := hide e0; have Av0 := hide p0; have Bv0 := hide b0
  clear ha0 ha1 ha2 e0 p0 b0
  go_enter Try.func7, Try.ntmps7
  go_wp2_with fail
  rw [← unhide E0]
  refine (vecLength_any a0 a1 a2 _ (unhide A0) (unhide A1) (unhide A2)).mono ?_
  rintro e t1 ⟨n, rfl, n0, n1, n2, n3, kk⟩
  have At1 := hide ((unhide Av0).below kk)
  have Bt1 := hide ((unhide Bv0).trans (kk.mono (unhide Bv0).size))
  clear kk Av0 Bv0
  have FN := hide (And.intro n0 (And.intro n2 n3))
  clear n0 n1 n2 n3
  have Ax := (unhide At1).vc.1; have Ay := (unhide At1).vc.2.1; have Az := (unhide At1).vc.2.2; have Al := (unhide At1).lt
  go_wp2_with fail
  clear Ax Ay Az Al
  refine (refLength_any a0 a1 a2 _ (unhide A0) (unhide A1) (unhide A2)).mono ?_
  rintro e t2 ⟨m, rfl, m0, m2, m3, kk⟩
  have At2 := hide ((unhide At1).below kk)
  have Bt2 := hide ((unhide Bt1).trans (kk.mono (unhide Bt1).size))
  clear kk At1 Bt1
  obtain rfl : n = m := root_unique (unhide FN).1 m0 (unhide FN).2.1 (unhide FN).2.2 m2 m3
  clear m0 m2 m3 FN
  have Ax := (unhide At2).vc.1; have Ay := (unhide At2).vc.2.1; have Az := (unhide At2).vc.2.2; have Al := (unhide At2).lt
  go_wp2_with fail
  clear Ax Ay Az Al
  refine (vecLength_any 12884901888 17179869184 0 _ (by unfold R64; omega) (by unfold R64; omega) (by unfold R64; omega)).mono ?_
  rintro e t3 ⟨r, rfl, r0, r1, r2, r3, kk⟩
  have At3 := hide ((unhide At2).below kk)
  have Bt3 := hide ((unhide Bt2).trans (kk.mono (unhide Bt2).size))
  clear kk At2 Bt2
  have ER := hide (five_root r0 r2 r3)
  clear r0 r1 r2 r3
  rw [unhide ER]
  go_wp2_with fail
  go_ret
  exact ⟨rfl, unhide Bt3⟩


end Go.Proofs.Ythkfdlfgehdppaa
