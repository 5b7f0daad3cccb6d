/- Walk of the statement VecAdds: for every input it returns true, and nothing that was in memory turns. -/
import Derived.Test.YthkfdlfgehdppaaVecLaws
import Derived.Test.YthkfdlfgehdppaaRefVecs
namespace Go.Proofs.Ythkfdlfgehdppaa
open Go.RowKit

set_option maxHeartbeats 2000000 in
theorem vecAdds_walk (a0 a1 a2 c0 c1 c2 : Int) (ha0 : R64 a0) (ha1 : R64 a1) (ha2 : R64 a2) (hc0 : R64 c0) (hc1 : R64 c1) (hc2 : R64 c2) (w : World) :
    Calls Try.prog 3 #[.agg #[.int .i64 a0, .int .i64 a1, .int .i64 a2], .agg #[.int .i64 c0, .int .i64 c1, .int .i64 c2]] w fun e w' => e = .returned (.bool true) ∧ Below w.heap.size w w' := by
  have S1 := hide (show vecR (fun a c => a + c) 1 0 0 0 0 0 = .tuple #[.agg #[.int .i64 1, .int .i64 0, .int .i64 0], .bool false] from rfl)
  have A0 := hide ha0; have A1 := hide ha1; have A2 := hide ha2; have C0 := hide hc0; have C1 := hide hc1; have C2 := hide hc2
  obtain ⟨v0, e0, p0, q0, b0⟩ := two_start w a0 a1 a2 c0 c1 c2
  have E0 := hide e0; have Av0 := hide p0; have Cv0 := hide q0; have Bv0 := hide b0
  clear ha0 ha1 ha2 hc0 hc1 hc2 e0 p0 q0 b0
  go_enter Try.func3, Try.ntmps3
  go_wp2_with fail
  rw [← unhide E0]
  refine (vecAdd_any a0 a1 a2 c0 c1 c2 _ (unhide A0) (unhide A1) (unhide A2) (unhide C0) (unhide C1) (unhide C2)).mono ?_
  rintro e v1 ⟨rfl, kk⟩
  unfold vecR
  have Av1 := hide ((unhide Av0).below kk)
  have Cv1 := hide ((unhide Cv0).below kk)
  have Bv1 := hide ((unhide Bv0).trans (kk.mono (unhide Bv0).size))
  clear kk Av0 Cv0 Bv0
  have Ax := (unhide Av1).vc.1; have Ay := (unhide Av1).vc.2.1; have Az := (unhide Av1).vc.2.2; have Al := (unhide Av1).lt
  have Cx := (unhide Cv1).vc.1; have Cy := (unhide Cv1).vc.2.1; have Cz := (unhide Cv1).vc.2.2; have Cl := (unhide Cv1).lt
  go_wp2_with fail
  clear Ax Ay Az Al Cx Cy Cz Cl
  have kk : Below v1.heap.size v1 (v1.alloc (.cells #[.int .i64 (clampZ (a0 + c0)), .int .i64 (clampZ (a1 + c1)), .int .i64 (clampZ (a2 + c2))] 23)) := (Below.refl _ _).alloc (Nat.le_refl _) _
  have Av2 := hide ((unhide Av1).below kk)
  have Cv2 := hide ((unhide Cv1).below kk)
  have Xv2 := hide (VbAt.new v1 (clampZ (a0 + c0)) (clampZ (a1 + c1)) (clampZ (a2 + c2)))
  have Bv2 := hide ((unhide Bv1).trans (kk.mono (unhide Bv1).size))
  generalize v1.heap.size = LX at *
  generalize v1.alloc (.cells #[.int .i64 (clampZ (a0 + c0)), .int .i64 (clampZ (a1 + c1)), .int .i64 (clampZ (a2 + c2))] 23) = v2 at *
  clear kk Av1 Cv1 Bv1
  refine (refVecAdd_any a0 a1 a2 c0 c1 c2 _ (unhide A0) (unhide A1) (unhide A2) (unhide C0) (unhide C1) (unhide C2)).mono ?_
  rintro e v3 ⟨rfl, kk⟩
  unfold vecR
  have Av3 := hide ((unhide Av2).below kk)
  have Cv3 := hide ((unhide Cv2).below kk)
  have Xv3 := hide ((unhide Xv2).below kk)
  have Bv3 := hide ((unhide Bv2).trans (kk.mono (unhide Bv2).size))
  clear kk Av2 Cv2 Xv2 Bv2
  have Ax := (unhide Av3).vc.1; have Ay := (unhide Av3).vc.2.1; have Az := (unhide Av3).vc.2.2; have Al := (unhide Av3).lt
  have Cx := (unhide Cv3).vc.1; have Cy := (unhide Cv3).vc.2.1; have Cz := (unhide Cv3).vc.2.2; have Cl := (unhide Cv3).lt
  have Xx := (unhide Xv3).vc.1; have Xy := (unhide Xv3).vc.2.1; have Xz := (unhide Xv3).vc.2.2; have Xl := (unhide Xv3).lt
  go_wp2_with fail
  clear Ax Ay Az Al Cx Cy Cz Cl Xx Xy Xz Xl
  have kk : Below v3.heap.size v3 (v3.alloc (.cells #[.int .i64 (clampZ (a0 + c0)), .int .i64 (clampZ (a1 + c1)), .int .i64 (clampZ (a2 + c2))] 23)) := (Below.refl _ _).alloc (Nat.le_refl _) _
  have Av4 := hide ((unhide Av3).below kk)
  have Cv4 := hide ((unhide Cv3).below kk)
  have Xv4 := hide ((unhide Xv3).below kk)
  have Yv4 := hide (VbAt.new v3 (clampZ (a0 + c0)) (clampZ (a1 + c1)) (clampZ (a2 + c2)))
  have Bv4 := hide ((unhide Bv3).trans (kk.mono (unhide Bv3).size))
  generalize v3.heap.size = LY at *
  generalize v3.alloc (.cells #[.int .i64 (clampZ (a0 + c0)), .int .i64 (clampZ (a1 + c1)), .int .i64 (clampZ (a2 + c2))] 23) = v4 at *
  clear kk Av3 Cv3 Xv3 Bv3
  refine (vecSub_any a0 a1 a2 c0 c1 c2 _ (unhide A0) (unhide A1) (unhide A2) (unhide C0) (unhide C1) (unhide C2)).mono ?_
  rintro e v5 ⟨rfl, kk⟩
  unfold vecR
  have Av5 := hide ((unhide Av4).below kk)
  have Cv5 := hide ((unhide Cv4).below kk)
  have Xv5 := hide ((unhide Xv4).below kk)
  have Yv5 := hide ((unhide Yv4).below kk)
  have Bv5 := hide ((unhide Bv4).trans (kk.mono (unhide Bv4).size))
  clear kk Av4 Cv4 Xv4 Yv4 Bv4
  have Ax := (unhide Av5).vc.1; have Ay := (unhide Av5).vc.2.1; have Az := (unhide Av5).vc.2.2; have Al := (unhide Av5).lt
  have Cx := (unhide Cv5).vc.1; have Cy := (unhide Cv5).vc.2.1; have Cz := (unhide Cv5).vc.2.2; have Cl := (unhide Cv5).lt
  have Xx := (unhide Xv5).vc.1; have Xy := (unhide Xv5).vc.2.1; have Xz := (unhide Xv5).vc.2.2; have Xl := (unhide Xv5).lt
  have Yx := (unhide Yv5).vc.1; have Yy := (unhide Yv5).vc.2.1; have Yz := (unhide Yv5).vc.2.2; have Yl := (unhide Yv5).lt
  go_wp2_with fail
  clear Ax Ay Az Al Cx Cy Cz Cl Xx Xy Xz Xl Yx Yy Yz Yl
  have kk : Below v5.heap.size v5 (v5.alloc (.cells #[.int .i64 (clampZ (a0 - c0)), .int .i64 (clampZ (a1 - c1)), .int .i64 (clampZ (a2 - c2))] 23)) := (Below.refl _ _).alloc (Nat.le_refl _) _
  have Av6 := hide ((unhide Av5).below kk)
  have Cv6 := hide ((unhide Cv5).below kk)
  have Xv6 := hide ((unhide Xv5).below kk)
  have Yv6 := hide ((unhide Yv5).below kk)
  have Zv6 := hide (VbAt.new v5 (clampZ (a0 - c0)) (clampZ (a1 - c1)) (clampZ (a2 - c2)))
  have Bv6 := hide ((unhide Bv5).trans (kk.mono (unhide Bv5).size))
  generalize v5.heap.size = LZ at *
  generalize v5.alloc (.cells #[.int .i64 (clampZ (a0 - c0)), .int .i64 (clampZ (a1 - c1)), .int .i64 (clampZ (a2 - c2))] 23) = v6 at *
  clear kk Av5 Cv5 Xv5 Yv5 Bv5
  refine (refVecSub_any a0 a1 a2 c0 c1 c2 _ (unhide A0) (unhide A1) (unhide A2) (unhide C0) (unhide C1) (unhide C2)).mono ?_
  rintro e v7 ⟨rfl, kk⟩
  unfold vecR
  have Av7 := hide ((unhide Av6).below kk)
  have Cv7 := hide ((unhide Cv6).below kk)
  have Xv7 := hide ((unhide Xv6).below kk)
  have Yv7 := hide ((unhide Yv6).below kk)
  have Zv7 := hide ((unhide Zv6).below kk)
  have Bv7 := hide ((unhide Bv6).trans (kk.mono (unhide Bv6).size))
  clear kk Av6 Cv6 Xv6 Yv6 Zv6 Bv6
  have Ax := (unhide Av7).vc.1; have Ay := (unhide Av7).vc.2.1; have Az := (unhide Av7).vc.2.2; have Al := (unhide Av7).lt
  have Cx := (unhide Cv7).vc.1; have Cy := (unhide Cv7).vc.2.1; have Cz := (unhide Cv7).vc.2.2; have Cl := (unhide Cv7).lt
  have Xx := (unhide Xv7).vc.1; have Xy := (unhide Xv7).vc.2.1; have Xz := (unhide Xv7).vc.2.2; have Xl := (unhide Xv7).lt
  have Yx := (unhide Yv7).vc.1; have Yy := (unhide Yv7).vc.2.1; have Yz := (unhide Yv7).vc.2.2; have Yl := (unhide Yv7).lt
  have Zx := (unhide Zv7).vc.1; have Zy := (unhide Zv7).vc.2.1; have Zz := (unhide Zv7).vc.2.2; have Zl := (unhide Zv7).lt
  go_wp2_with fail
  clear Ax Ay Az Al Cx Cy Cz Cl Xx Xy Xz Xl Yx Yy Yz Yl Zx Zy Zz Zl
  have kk : Below v7.heap.size v7 (v7.alloc (.cells #[.int .i64 (clampZ (a0 - c0)), .int .i64 (clampZ (a1 - c1)), .int .i64 (clampZ (a2 - c2))] 23)) := (Below.refl _ _).alloc (Nat.le_refl _) _
  have Av8 := hide ((unhide Av7).below kk)
  have Cv8 := hide ((unhide Cv7).below kk)
  have Xv8 := hide ((unhide Xv7).below kk)
  have Yv8 := hide ((unhide Yv7).below kk)
  have Zv8 := hide ((unhide Zv7).below kk)
  have Dv8 := hide (VbAt.new v7 (clampZ (a0 - c0)) (clampZ (a1 - c1)) (clampZ (a2 - c2)))
  have Bv8 := hide ((unhide Bv7).trans (kk.mono (unhide Bv7).size))
  generalize v7.heap.size = LD at *
  generalize v7.alloc (.cells #[.int .i64 (clampZ (a0 - c0)), .int .i64 (clampZ (a1 - c1)), .int .i64 (clampZ (a2 - c2))] 23) = v8 at *
  clear kk Av7 Cv7 Xv7 Yv7 Zv7 Bv7
  refine (vecAdd_any 1 0 0 0 0 0 _ (by unfold R64; omega) (by unfold R64; omega) (by unfold R64; omega) (by unfold R64; omega) (by unfold R64; omega) (by unfold R64; omega)).mono ?_
  rintro e v9 ⟨rfl, kk⟩
  rw [unhide S1]
  have Av9 := hide ((unhide Av8).below kk)
  have Cv9 := hide ((unhide Cv8).below kk)
  have Xv9 := hide ((unhide Xv8).below kk)
  have Yv9 := hide ((unhide Yv8).below kk)
  have Zv9 := hide ((unhide Zv8).below kk)
  have Dv9 := hide ((unhide Dv8).below kk)
  have Bv9 := hide ((unhide Bv8).trans (kk.mono (unhide Bv8).size))
  clear kk Av8 Cv8 Xv8 Yv8 Zv8 Dv8 Bv8
  have Ax := (unhide Av9).vc.1; have Ay := (unhide Av9).vc.2.1; have Az := (unhide Av9).vc.2.2; have Al := (unhide Av9).lt
  have Cx := (unhide Cv9).vc.1; have Cy := (unhide Cv9).vc.2.1; have Cz := (unhide Cv9).vc.2.2; have Cl := (unhide Cv9).lt
  have Xx := (unhide Xv9).vc.1; have Xy := (unhide Xv9).vc.2.1; have Xz := (unhide Xv9).vc.2.2; have Xl := (unhide Xv9).lt
  have Yx := (unhide Yv9).vc.1; have Yy := (unhide Yv9).vc.2.1; have Yz := (unhide Yv9).vc.2.2; have Yl := (unhide Yv9).lt
  have Zx := (unhide Zv9).vc.1; have Zy := (unhide Zv9).vc.2.1; have Zz := (unhide Zv9).vc.2.2; have Zl := (unhide Zv9).lt
  have Dx := (unhide Dv9).vc.1; have Dy := (unhide Dv9).vc.2.1; have Dz := (unhide Dv9).vc.2.2; have Dl := (unhide Dv9).lt
  go_wp2_with fail
  go_ret
  exact ⟨rfl, (unhide Bv9).alloc (unhide Bv9).size _⟩


end Go.Proofs.Ythkfdlfgehdppaa
