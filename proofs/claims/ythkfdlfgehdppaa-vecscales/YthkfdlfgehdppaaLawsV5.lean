/- Walk of the statement VecScales: for every input it returns true, and nothing that was in memory turns. -/
import Derived.Test.YthkfdlfgehdppaaVecLaws
import Derived.Test.YthkfdlfgehdppaaRefVecs
namespace Go.Proofs.Ythkfdlfgehdppaa
open Go.RowKit

set_option maxHeartbeats 2000000 in
theorem vecScales_walk (a0 a1 a2 k : Int) (ha0 : R64 a0) (ha1 : R64 a1) (ha2 : R64 a2) (hk : R64 k) (w : World) :
    Calls Try.prog 4 #[.agg #[.int .i64 a0, .int .i64 a1, .int .i64 a2], .int .i64 k] w fun e w' => e = .returned (.bool true) ∧ Below w.heap.size w w' := by
  have HK := hide hk
  have S1 := hide (show vecR mulQ 3 0 0 4294967296 4294967296 4294967296 = .tuple #[.agg #[.int .i64 3, .int .i64 0, .int .i64 0], .bool false] from rfl)
  have A0 := hide ha0; have A1 := hide ha1; have A2 := hide ha2
  obtain ⟨v0, e0, p0, b0⟩ := one_start w a0 a1 a2
  have E0 := hide e0; have Av0 := hide p0; have Bv0 := hide b0
  clear ha0 ha1 ha2 e0 p0 b0 hk
  go_enter Try.func4, Try.ntmps4
  go_wp2_with fail
  rw [← unhide E0]
  refine (vecScale_any a0 a1 a2 k _ (unhide A0) (unhide A1) (unhide A2) (unhide HK)).mono ?_
  rintro e v1 ⟨rfl, kk⟩
  unfold vecR
  have Av1 := hide ((unhide Av0).below kk)
  have Bv1 := hide ((unhide Bv0).trans (kk.mono (unhide Bv0).size))
  clear kk Av0 Bv0
  have Ax := (unhide Av1).vc.1; have Ay := (unhide Av1).vc.2.1; have Az := (unhide Av1).vc.2.2; have Al := (unhide Av1).lt
  go_wp2_with fail
  clear Ax Ay Az Al
  have kk : Below v1.heap.size v1 (v1.alloc (.cells #[.int .i64 (clampZ (mulQ a0 k)), .int .i64 (clampZ (mulQ a1 k)), .int .i64 (clampZ (mulQ a2 k))] 23)) := (Below.refl _ _).alloc (Nat.le_refl _) _
  have Av2 := hide ((unhide Av1).below kk)
  have Xv2 := hide (VbAt.new v1 (clampZ (mulQ a0 k)) (clampZ (mulQ a1 k)) (clampZ (mulQ a2 k)))
  have Bv2 := hide ((unhide Bv1).trans (kk.mono (unhide Bv1).size))
  generalize v1.heap.size = LX at *
  generalize v1.alloc (.cells #[.int .i64 (clampZ (mulQ a0 k)), .int .i64 (clampZ (mulQ a1 k)), .int .i64 (clampZ (mulQ a2 k))] 23) = v2 at *
  clear kk Av1 Bv1
  refine (refVecScale_any a0 a1 a2 k _ (unhide A0) (unhide A1) (unhide A2) (unhide HK)).mono ?_
  rintro e v3 ⟨rfl, kk⟩
  unfold vecR
  have Av3 := hide ((unhide Av2).below kk)
  have Xv3 := hide ((unhide Xv2).below kk)
  have Bv3 := hide ((unhide Bv2).trans (kk.mono (unhide Bv2).size))
  clear kk Av2 Xv2 Bv2
  have Ax := (unhide Av3).vc.1; have Ay := (unhide Av3).vc.2.1; have Az := (unhide Av3).vc.2.2; have Al := (unhide Av3).lt
  have Xx := (unhide Xv3).vc.1; have Xy := (unhide Xv3).vc.2.1; have Xz := (unhide Xv3).vc.2.2; have Xl := (unhide Xv3).lt
  go_wp2_with fail
  clear Ax Ay Az Al Xx Xy Xz Xl
  have kk : Below v3.heap.size v3 (v3.alloc (.cells #[.int .i64 (clampZ (mulQ a0 k)), .int .i64 (clampZ (mulQ a1 k)), .int .i64 (clampZ (mulQ a2 k))] 23)) := (Below.refl _ _).alloc (Nat.le_refl _) _
  have Av4 := hide ((unhide Av3).below kk)
  have Xv4 := hide ((unhide Xv3).below kk)
  have Yv4 := hide (VbAt.new v3 (clampZ (mulQ a0 k)) (clampZ (mulQ a1 k)) (clampZ (mulQ a2 k)))
  have Bv4 := hide ((unhide Bv3).trans (kk.mono (unhide Bv3).size))
  generalize v3.heap.size = LY at *
  generalize v3.alloc (.cells #[.int .i64 (clampZ (mulQ a0 k)), .int .i64 (clampZ (mulQ a1 k)), .int .i64 (clampZ (mulQ a2 k))] 23) = v4 at *
  clear kk Av3 Xv3 Bv3
  refine (vecScale_any 3 0 0 4294967296 _ (by unfold R64; omega) (by unfold R64; omega) (by unfold R64; omega) (by unfold R64; omega)).mono ?_
  rintro e v5 ⟨rfl, kk⟩
  rw [unhide S1]
  have Av5 := hide ((unhide Av4).below kk)
  have Xv5 := hide ((unhide Xv4).below kk)
  have Yv5 := hide ((unhide Yv4).below kk)
  have Bv5 := hide ((unhide Bv4).trans (kk.mono (unhide Bv4).size))
  clear kk Av4 Xv4 Yv4 Bv4
  have Ax := (unhide Av5).vc.1; have Ay := (unhide Av5).vc.2.1; have Az := (unhide Av5).vc.2.2; have Al := (unhide Av5).lt
  have Xx := (unhide Xv5).vc.1; have Xy := (unhide Xv5).vc.2.1; have Xz := (unhide Xv5).vc.2.2; have Xl := (unhide Xv5).lt
  have Yx := (unhide Yv5).vc.1; have Yy := (unhide Yv5).vc.2.1; have Yz := (unhide Yv5).vc.2.2; have Yl := (unhide Yv5).lt
  go_wp2_with fail
  go_ret
  exact ⟨rfl, (unhide Bv5).alloc (unhide Bv5).size _⟩


end Go.Proofs.Ythkfdlfgehdppaa
