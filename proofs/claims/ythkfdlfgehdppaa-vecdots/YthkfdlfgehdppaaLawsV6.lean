/- Walk of the statement VecDots: for every input it returns true, and nothing that was in memory turns. -/
import Derived.Test.YthkfdlfgehdppaaVecLaws
import Derived.Test.YthkfdlfgehdppaaRefDot
namespace Go.Proofs.Ythkfdlfgehdppaa
open Go.RowKit

set_option maxHeartbeats 2000000 in
theorem vecDots_walk (a0 a1 a2 c0 c1 c2 : Int) (ha0 : R64 a0) (ha1 : R64 a1) (ha2 : R64 a2) (hc0 : R64 c0) (hc1 : R64 c1) (hc2 : R64 c2) (w : World) :
    Calls Try.prog 5 #[.agg #[.int .i64 a0, .int .i64 a1, .int .i64 a2], .agg #[.int .i64 c0, .int .i64 c1, .int .i64 c2]] w fun e w' => e = .returned (.bool true) ∧ Below w.heap.size w w' := by
  have S1 := hide (show dotZ 0 0 3 0 0 4294967296 = 3 by decide)
  have A0 := hide ha0; have A1 := hide ha1; have A2 := hide ha2; have C0 := hide hc0; have C1 := hide hc1; have C2 := hide hc2
  obtain ⟨v0, e0, p0, q0, b0⟩ := two_start w a0 a1 a2 c0 c1 c2
  have E0 := hide e0; have Av0 := hide p0; have Cv0 := hide q0; have Bv0 := hide b0
  clear ha0 ha1 ha2 hc0 hc1 hc2 e0 p0 q0 b0
  go_enter Try.func5, Try.ntmps5
  go_wp2_with fail
  rw [← unhide E0]
  refine (vecDot_any a0 a1 a2 c0 c1 c2 _ (unhide A0) (unhide A1) (unhide A2) (unhide C0) (unhide C1) (unhide C2)).mono ?_
  rintro e v1 ⟨rfl, kk⟩
  have Av1 := hide ((unhide Av0).below kk)
  have Cv1 := hide ((unhide Cv0).below kk)
  have Bv1 := hide ((unhide Bv0).trans (kk.mono (unhide Bv0).size))
  clear kk Av0 Cv0 Bv0
  have Ax := (unhide Av1).vc.1; have Ay := (unhide Av1).vc.2.1; have Az := (unhide Av1).vc.2.2; have Al := (unhide Av1).lt
  have Cx := (unhide Cv1).vc.1; have Cy := (unhide Cv1).vc.2.1; have Cz := (unhide Cv1).vc.2.2; have Cl := (unhide Cv1).lt
  go_wp2_with fail
  clear Ax Ay Az Al Cx Cy Cz Cl
  refine (refDot_any a0 a1 a2 c0 c1 c2 _ (unhide A0) (unhide A1) (unhide A2) (unhide C0) (unhide C1) (unhide C2)).mono ?_
  rintro e v2 ⟨rfl, kk⟩
  have Av2 := hide ((unhide Av1).below kk)
  have Cv2 := hide ((unhide Cv1).below kk)
  have Bv2 := hide ((unhide Bv1).trans (kk.mono (unhide Bv1).size))
  clear kk Av1 Cv1 Bv1
  have Ax := (unhide Av2).vc.1; have Ay := (unhide Av2).vc.2.1; have Az := (unhide Av2).vc.2.2; have Al := (unhide Av2).lt
  have Cx := (unhide Cv2).vc.1; have Cy := (unhide Cv2).vc.2.1; have Cz := (unhide Cv2).vc.2.2; have Cl := (unhide Cv2).lt
  go_wp2_with fail
  clear Ax Ay Az Al Cx Cy Cz Cl
  refine (vecDot_any 0 0 3 0 0 4294967296 _ (by unfold R64; omega) (by unfold R64; omega) (by unfold R64; omega) (by unfold R64; omega) (by unfold R64; omega) (by unfold R64; omega)).mono ?_
  rintro e v3 ⟨rfl, kk⟩
  rw [unhide S1]
  have Av3 := hide ((unhide Av2).below kk)
  have Cv3 := hide ((unhide Cv2).below kk)
  have Bv3 := hide ((unhide Bv2).trans (kk.mono (unhide Bv2).size))
  clear kk Av2 Cv2 Bv2
  have Ax := (unhide Av3).vc.1; have Ay := (unhide Av3).vc.2.1; have Az := (unhide Av3).vc.2.2; have Al := (unhide Av3).lt
  have Cx := (unhide Cv3).vc.1; have Cy := (unhide Cv3).vc.2.1; have Cz := (unhide Cv3).vc.2.2; have Cl := (unhide Cv3).lt
  go_wp2_with fail
  go_ret
  exact ⟨rfl, unhide Bv3⟩


end Go.Proofs.Ythkfdlfgehdppaa
