/- Walk of the statement VecNoughts: for every input it returns true, and nothing that was in memory turns. -/
import Derived.Test.YthkfdlfgehdppabVecLaws
import Derived.Test.YthkfdlfgehdppabVecCross
namespace Go.Proofs.Ythkfdlfgehdppab
open Go.RowKit

theorem mulQ_0 (a : Int) : mulQ a 0 = 0 := by unfold mulQ; omega
theorem mulQ_0' (a : Int) : mulQ 0 a = 0 := by unfold mulQ; omega
theorem mulQ_1 (a : Int) : mulQ a 4294967296 = a := by unfold mulQ; omega
theorem dotZ_nought (a0 a1 a2 : Int) : dotZ a0 a1 a2 0 0 0 = 0 := by unfold dotZ; rw [mulQ_0, mulQ_0, mulQ_0]; decide
theorem dotB_nought (a0 a1 a2 : Int) : dotB a0 a1 a2 0 0 0 = false := by unfold dotB; rw [mulQ_0, mulQ_0, mulQ_0]; decide
theorem cross_self (a0 a1 a2 : Int) : crossV a0 a1 a2 a0 a1 a2 = .tuple #[.agg #[.int .i64 0, .int .i64 0, .int .i64 0], .bool (bentZ (mulQ a1 a2) || bentZ (mulQ a0 a2) || bentZ (mulQ a0 a1) || bentZ (mulQ a1 a2) || bentZ (mulQ a0 a2) || bentZ (mulQ a0 a1) || bentZ 0 || bentZ 0 || bentZ 0)] := by
  have e : clampZ 0 = 0 := rfl
  simp only [crossV, mulQ_swap a0 a1, mulQ_swap a0 a2, mulQ_swap a1 a2, Int.sub_self, e]
theorem scale_one {a0 a1 a2 : Int} (h0 : R64 a0) (h1 : R64 a1) (h2 : R64 a2) : vecR mulQ a0 a1 a2 4294967296 4294967296 4294967296 = .tuple #[.agg #[.int .i64 a0, .int .i64 a1, .int .i64 a2], .bool false] := by
  simp only [vecR, mulQ_1, clampZ_in h0, clampZ_in h1, clampZ_in h2, bentZ_in h0, bentZ_in h1, bentZ_in h2]; rfl
theorem scale_nought (k : Int) : vecR mulQ 0 0 0 k k k = .tuple #[.agg #[.int .i64 0, .int .i64 0, .int .i64 0], .bool false] := by
  simp only [vecR, mulQ_0']; rfl
theorem sub_self (a0 a1 a2 : Int) : vecR (fun a c => a - c) a0 a1 a2 a0 a1 a2 = .tuple #[.agg #[.int .i64 0, .int .i64 0, .int .i64 0], .bool false] := by
  simp only [vecR, Int.sub_self]; rfl

set_option maxHeartbeats 2000000 in
theorem vecNoughts_walk (a0 a1 a2 k : Int) (ha0 : R64 a0) (ha1 : R64 a1) (ha2 : R64 a2) (hk : R64 k) (w : World) :
    Calls Try.prog 3 #[.agg #[.int .i64 a0, .int .i64 a1, .int .i64 a2], .int .i64 k] w fun e w' => e = .returned (.bool true) ∧ Below w.heap.size w w' := by
  have HK := hide hk
  have S1 := hide (dotZ_nought a0 a1 a2); have S2 := hide (dotB_nought a0 a1 a2); obtain ⟨q, s3⟩ : ∃ q, crossV a0 a1 a2 a0 a1 a2 = .tuple #[.agg #[.int .i64 0, .int .i64 0, .int .i64 0], .bool q] := ⟨_, cross_self a0 a1 a2⟩
  have S3 := hide s3
  clear s3
  have S4 := hide (scale_one ha0 ha1 ha2); have S5 := hide (scale_nought k); have S6 := hide (sub_self a0 a1 a2)
  have S7 := hide (show dotZ 4294967296 0 0 3 0 0 = 3 by decide)
  have A0 := hide ha0; have A1 := hide ha1; have A2 := hide ha2
  obtain ⟨v0, e0, p0, b0⟩ := one_start w a0 a1 a2
  have E0 := hide e0; have Av0 := hide p0; have Bv0 := hide b0
  clear ha0 ha1 ha2 e0 p0 b0 hk
  go_enter Try.func3, Try.ntmps3
  go_wp2_with fail
  rw [← unhide E0]
  refine (vecDot_any a0 a1 a2 0 0 0 _ (unhide A0) (unhide A1) (unhide A2) (by unfold R64; omega) (by unfold R64; omega) (by unfold R64; omega)).mono ?_
  rintro e v1 ⟨rfl, kk⟩
  have Av1 := hide ((unhide Av0).below kk)
  have Bv1 := hide ((unhide Bv0).trans (kk.mono (unhide Bv0).size))
  clear kk Av0 Bv0
  rw [unhide S1, unhide S2]
  have Ax := (unhide Av1).vc.1; have Ay := (unhide Av1).vc.2.1; have Az := (unhide Av1).vc.2.2; have Al := (unhide Av1).lt
  go_wp2_with fail
  refine (vecCross_any a0 a1 a2 a0 a1 a2 _ (unhide A0) (unhide A1) (unhide A2) (unhide A0) (unhide A1) (unhide A2)).mono ?_
  rintro e v2 ⟨rfl, kk⟩
  have Av2 := hide ((unhide Av1).below kk)
  have Bv2 := hide ((unhide Bv1).trans (kk.mono (unhide Bv1).size))
  clear kk Av1 Bv1
  clear Ax Ay Az Al
  rw [unhide S3]
  have Ax := (unhide Av2).vc.1; have Ay := (unhide Av2).vc.2.1; have Az := (unhide Av2).vc.2.2; have Al := (unhide Av2).lt
  go_wp2_with fail
  clear Ax Ay Az Al
  have kk : Below v2.heap.size v2 (v2.alloc (.cells #[.int .i64 (0), .int .i64 (0), .int .i64 (0)] 23)) := (Below.refl _ _).alloc (Nat.le_refl _) _
  have Av3 := hide ((unhide Av2).below kk)
  have Xv3 := hide (VbAt.new v2 (0) (0) (0))
  have Bv3 := hide ((unhide Bv2).trans (kk.mono (unhide Bv2).size))
  generalize v2.heap.size = LX at *
  generalize v2.alloc (.cells #[.int .i64 (0), .int .i64 (0), .int .i64 (0)] 23) = v3 at *
  clear kk Av2 Bv2
  refine (vecScale_any a0 a1 a2 4294967296 _ (unhide A0) (unhide A1) (unhide A2) (by unfold R64; omega)).mono ?_
  rintro e v4 ⟨rfl, kk⟩
  have Av4 := hide ((unhide Av3).below kk)
  have Xv4 := hide ((unhide Xv3).below kk)
  have Bv4 := hide ((unhide Bv3).trans (kk.mono (unhide Bv3).size))
  clear kk Av3 Xv3 Bv3
  rw [unhide S4]
  have Ax := (unhide Av4).vc.1; have Ay := (unhide Av4).vc.2.1; have Az := (unhide Av4).vc.2.2; have Al := (unhide Av4).lt
  have Xx := (unhide Xv4).vc.1; have Xy := (unhide Xv4).vc.2.1; have Xz := (unhide Xv4).vc.2.2; have Xl := (unhide Xv4).lt
  go_wp2_with fail
  clear Ax Ay Az Al Xx Xy Xz Xl
  have kk : Below v4.heap.size v4 (v4.alloc (.cells #[.int .i64 (a0), .int .i64 (a1), .int .i64 (a2)] 23)) := (Below.refl _ _).alloc (Nat.le_refl _) _
  have Av5 := hide ((unhide Av4).below kk)
  have Xv5 := hide ((unhide Xv4).below kk)
  have Yv5 := hide (VbAt.new v4 (a0) (a1) (a2))
  have Bv5 := hide ((unhide Bv4).trans (kk.mono (unhide Bv4).size))
  generalize v4.heap.size = LY at *
  generalize v4.alloc (.cells #[.int .i64 (a0), .int .i64 (a1), .int .i64 (a2)] 23) = v5 at *
  clear kk Av4 Xv4 Bv4
  refine (vecScale_any 0 0 0 k _ (by unfold R64; omega) (by unfold R64; omega) (by unfold R64; omega) (unhide HK)).mono ?_
  rintro e v6 ⟨rfl, kk⟩
  have Av6 := hide ((unhide Av5).below kk)
  have Xv6 := hide ((unhide Xv5).below kk)
  have Yv6 := hide ((unhide Yv5).below kk)
  have Bv6 := hide ((unhide Bv5).trans (kk.mono (unhide Bv5).size))
  clear kk Av5 Xv5 Yv5 Bv5
  rw [unhide S5]
  have Ax := (unhide Av6).vc.1; have Ay := (unhide Av6).vc.2.1; have Az := (unhide Av6).vc.2.2; have Al := (unhide Av6).lt
  have Xx := (unhide Xv6).vc.1; have Xy := (unhide Xv6).vc.2.1; have Xz := (unhide Xv6).vc.2.2; have Xl := (unhide Xv6).lt
  have Yx := (unhide Yv6).vc.1; have Yy := (unhide Yv6).vc.2.1; have Yz := (unhide Yv6).vc.2.2; have Yl := (unhide Yv6).lt
  go_wp2_with fail
  clear Ax Ay Az Al Xx Xy Xz Xl Yx Yy Yz Yl
  have kk : Below v6.heap.size v6 (v6.alloc (.cells #[.int .i64 (0), .int .i64 (0), .int .i64 (0)] 23)) := (Below.refl _ _).alloc (Nat.le_refl _) _
  have Av7 := hide ((unhide Av6).below kk)
  have Xv7 := hide ((unhide Xv6).below kk)
  have Yv7 := hide ((unhide Yv6).below kk)
  have Zv7 := hide (VbAt.new v6 (0) (0) (0))
  have Bv7 := hide ((unhide Bv6).trans (kk.mono (unhide Bv6).size))
  generalize v6.heap.size = LZ at *
  generalize v6.alloc (.cells #[.int .i64 (0), .int .i64 (0), .int .i64 (0)] 23) = v7 at *
  clear kk Av6 Xv6 Yv6 Bv6
  refine (vecSub_any a0 a1 a2 a0 a1 a2 _ (unhide A0) (unhide A1) (unhide A2) (unhide A0) (unhide A1) (unhide A2)).mono ?_
  rintro e v8 ⟨rfl, kk⟩
  have Av8 := hide ((unhide Av7).below kk)
  have Xv8 := hide ((unhide Xv7).below kk)
  have Yv8 := hide ((unhide Yv7).below kk)
  have Zv8 := hide ((unhide Zv7).below kk)
  have Bv8 := hide ((unhide Bv7).trans (kk.mono (unhide Bv7).size))
  clear kk Av7 Xv7 Yv7 Zv7 Bv7
  rw [unhide S6]
  have Ax := (unhide Av8).vc.1; have Ay := (unhide Av8).vc.2.1; have Az := (unhide Av8).vc.2.2; have Al := (unhide Av8).lt
  have Xx := (unhide Xv8).vc.1; have Xy := (unhide Xv8).vc.2.1; have Xz := (unhide Xv8).vc.2.2; have Xl := (unhide Xv8).lt
  have Yx := (unhide Yv8).vc.1; have Yy := (unhide Yv8).vc.2.1; have Yz := (unhide Yv8).vc.2.2; have Yl := (unhide Yv8).lt
  have Zx := (unhide Zv8).vc.1; have Zy := (unhide Zv8).vc.2.1; have Zz := (unhide Zv8).vc.2.2; have Zl := (unhide Zv8).lt
  go_wp2_with fail
  clear Ax Ay Az Al Xx Xy Xz Xl Yx Yy Yz Yl Zx Zy Zz Zl
  have kk : Below v8.heap.size v8 (v8.alloc (.cells #[.int .i64 (0), .int .i64 (0), .int .i64 (0)] 23)) := (Below.refl _ _).alloc (Nat.le_refl _) _
  have Av9 := hide ((unhide Av8).below kk)
  have Xv9 := hide ((unhide Xv8).below kk)
  have Yv9 := hide ((unhide Yv8).below kk)
  have Zv9 := hide ((unhide Zv8).below kk)
  have Dv9 := hide (VbAt.new v8 (0) (0) (0))
  have Bv9 := hide ((unhide Bv8).trans (kk.mono (unhide Bv8).size))
  generalize v8.heap.size = LD at *
  generalize v8.alloc (.cells #[.int .i64 (0), .int .i64 (0), .int .i64 (0)] 23) = v9 at *
  clear kk Av8 Xv8 Yv8 Zv8 Bv8
  refine (vecDot_any 4294967296 0 0 3 0 0 _ (by unfold R64; omega) (by unfold R64; omega) (by unfold R64; omega) (by unfold R64; omega) (by unfold R64; omega) (by unfold R64; omega)).mono ?_
  rintro e v10 ⟨rfl, kk⟩
  have Av10 := hide ((unhide Av9).below kk)
  have Xv10 := hide ((unhide Xv9).below kk)
  have Yv10 := hide ((unhide Yv9).below kk)
  have Zv10 := hide ((unhide Zv9).below kk)
  have Dv10 := hide ((unhide Dv9).below kk)
  have Bv10 := hide ((unhide Bv9).trans (kk.mono (unhide Bv9).size))
  clear kk Av9 Xv9 Yv9 Zv9 Dv9 Bv9
  rw [unhide S7]
  clear S1 S2 S3 S4 S5 S6 S7
  cases q
  · have Xx := (unhide Xv10).vc.1; have Xy := (unhide Xv10).vc.2.1; have Xz := (unhide Xv10).vc.2.2
    have Ax := (unhide Av10).vc.1; have Ay := (unhide Av10).vc.2.1; have Az := (unhide Av10).vc.2.2; have Al := (unhide Av10).lt
    have Yx := (unhide Yv10).vc.1; have Yy := (unhide Yv10).vc.2.1; have Yz := (unhide Yv10).vc.2.2; have Yl := (unhide Yv10).lt
    have Zx := (unhide Zv10).vc.1; have Zy := (unhide Zv10).vc.2.1; have Zz := (unhide Zv10).vc.2.2; have Zl := (unhide Zv10).lt
    have Dx := (unhide Dv10).vc.1; have Dy := (unhide Dv10).vc.2.1; have Dz := (unhide Dv10).vc.2.2; have Dl := (unhide Dv10).lt
    go_wp2_with fail
    go_ret
    exact ⟨rfl, unhide Bv10⟩
  · have Xx := (unhide Xv10).vc.1; have Xy := (unhide Xv10).vc.2.1; have Xz := (unhide Xv10).vc.2.2
    have Ax := (unhide Av10).vc.1; have Ay := (unhide Av10).vc.2.1; have Az := (unhide Av10).vc.2.2; have Al := (unhide Av10).lt
    have Yx := (unhide Yv10).vc.1; have Yy := (unhide Yv10).vc.2.1; have Yz := (unhide Yv10).vc.2.2; have Yl := (unhide Yv10).lt
    have Zx := (unhide Zv10).vc.1; have Zy := (unhide Zv10).vc.2.1; have Zz := (unhide Zv10).vc.2.2; have Zl := (unhide Zv10).lt
    have Dx := (unhide Dv10).vc.1; have Dy := (unhide Dv10).vc.2.1; have Dz := (unhide Dv10).vc.2.2; have Dl := (unhide Dv10).lt
    go_wp2_with fail
    go_ret
    exact ⟨rfl, unhide Bv10⟩


end Go.Proofs.Ythkfdlfgehdppab
