/- Contracts of the reference: Dot, Length. -/
import Derived.Test.YthkfdlfgehdppaaRefVecs
import Derived.Test.YthkfdlfgehdppaaVecDot
import Derived.Test.YthkfdlfgehdppaaVecLen
import Derived.Test.YthkfdlfgehdppaaLawsF
namespace Go.Proofs.Ythkfdlfgehdppaa
open Go.RowKit

theorem rd_start (w : World) (a0 a1 a2 c0 c1 c2 : Int) : ∃ v0, v0 = ((w.alloc (.cells #[.int .i64 a0, .int .i64 a1, .int .i64 a2] 23)).alloc (.cells #[.int .i64 c0, .int .i64 c1, .int .i64 c2] 23)).alloc (.cells #[.bool false] 39) ∧
    VbAt v0 w.heap.size a0 a1 a2 ∧ VbAt v0 (w.heap.size + 1) c0 c1 c2 ∧ RfAt v0 (w.heap.size + 1 + 1) false ∧ Below w.heap.size w v0 := by
  obtain ⟨w3, e3, s3, -, k3⟩ := each_start w a0 a1 a2 c0 c1 c2
  have k1 : ∀ (u : World) (o : Obj), Below u.heap.size u (u.alloc o) := fun u o => (Below.refl _ _).alloc (Nat.le_refl _) _
  refine ⟨_, rfl, ((VbAt.new w a0 a1 a2).below (k1 _ _)).below (k1 _ _), ?_, ?_, ?_⟩
  · have h := VbAt.new (w.alloc (.cells #[.int .i64 a0, .int .i64 a1, .int .i64 a2] 23)) c0 c1 c2
    rw [size_alloc] at h
    exact h.below (k1 _ _)
  · have h := BlAt.new 39 ((w.alloc (.cells #[.int .i64 a0, .int .i64 a1, .int .i64 a2] 23)).alloc (.cells #[.int .i64 c0, .int .i64 c1, .int .i64 c2] 23)) false
    rw [size_alloc, size_alloc] at h
    exact h
  · exact (((Below.refl _ _).alloc (Nat.le_refl _) _).alloc (by rw [size_alloc]; omega) _).alloc (by rw [size_alloc, size_alloc]; omega) _

set_option maxHeartbeats 1000000 in
theorem refDot_any (a0 a1 a2 c0 c1 c2 : Int) (w : World) (ha0 : R64 a0) (ha1 : R64 a1) (ha2 : R64 a2) (hc0 : R64 c0) (hc1 : R64 c1) (hc2 : R64 c2) :
    Calls Try.prog 16 #[.agg #[.int .i64 a0, .int .i64 a1, .int .i64 a2], .agg #[.int .i64 c0, .int .i64 c1, .int .i64 c2]] w fun e w' =>
      e = .returned (.tuple #[.int .i64 (dotZ a0 a1 a2 c0 c1 c2), .bool (dotB a0 a1 a2 c0 c1 c2)]) ∧ Below w.heap.size w w' := by
  have A0 := hide ha0; have A1 := hide ha1; have A2 := hide ha2; have C0 := hide hc0; have C1 := hide hc1; have C2 := hide hc2
  obtain ⟨v0, e0, pa, pc, pk, b0⟩ := rd_start w a0 a1 a2 c0 c1 c2
  have E0 := hide e0; have AA0 := hide pa; have CC0 := hide pc; have KK0 := hide pk; have BB0 := hide b0
  clear ha0 ha1 ha2 hc0 hc1 hc2 e0 b0 pa pc pk
  go_enter Try.func16, Try.ntmps16
  go_wp2_with fail
  rw [← unhide E0]
  refine (rfMul_ok _ _ a0 c0 _ (unhide A0) (unhide C0) (unhide KK0)).mono ?_
  rintro e t1 ⟨rfl, hh, kk⟩
  have AA1 := hide ((unhide AA0).kept kk (by omega)); have CC1 := hide ((unhide CC0).kept kk (by omega)); have KK1 := hide hh; have BB1 := hide (below_of_kept (unhide BB0) kk (by omega) (unhide BB0).size)
  clear hh kk AA0 CC0 KK0 BB0
  have y0 := (unhide AA1).vc.1; have y1 := (unhide AA1).vc.2.1; have y2 := (unhide AA1).vc.2.2; have x0 := (unhide CC1).vc.1; have x1 := (unhide CC1).vc.2.1; have x2 := (unhide CC1).vc.2.2
  go_wp2_with fail
  clear y0 y1 y2 x0 x1 x2
  refine (rfMul_ok _ _ a1 c1 _ (unhide A1) (unhide C1) (unhide KK1)).mono ?_
  rintro e t2 ⟨rfl, hh, kk⟩
  have AA2 := hide ((unhide AA1).kept kk (by omega)); have CC2 := hide ((unhide CC1).kept kk (by omega)); have KK2 := hide hh; have BB2 := hide (below_of_kept (unhide BB1) kk (by omega) (unhide BB1).size)
  clear hh kk AA1 CC1 KK1 BB1
  have y0 := (unhide AA2).vc.1; have y1 := (unhide AA2).vc.2.1; have y2 := (unhide AA2).vc.2.2; have x0 := (unhide CC2).vc.1; have x1 := (unhide CC2).vc.2.1; have x2 := (unhide CC2).vc.2.2
  go_wp2_with fail
  clear y0 y1 y2 x0 x1 x2
  refine (rfMul_ok _ _ a2 c2 _ (unhide A2) (unhide C2) (unhide KK2)).mono ?_
  rintro e t3 ⟨rfl, hh, kk⟩
  have AA3 := hide ((unhide AA2).kept kk (by omega)); have CC3 := hide ((unhide CC2).kept kk (by omega)); have KK3 := hide hh; have BB3 := hide (below_of_kept (unhide BB2) kk (by omega) (unhide BB2).size)
  clear hh kk AA2 CC2 KK2 BB2
  go_wp2_with fail
  refine (rfAdd_ok _ _ _ _ _ (clampZ_R _) (clampZ_R _) (unhide KK3)).mono ?_
  rintro e t4 ⟨rfl, hh, kk⟩
  have AA4 := hide ((unhide AA3).kept kk (by omega)); have CC4 := hide ((unhide CC3).kept kk (by omega)); have KK4 := hide hh; have BB4 := hide (below_of_kept (unhide BB3) kk (by omega) (unhide BB3).size)
  clear hh kk AA3 CC3 KK3 BB3
  go_wp2_with fail
  refine (rfAdd_ok _ _ _ _ _ (clampZ_R _) (clampZ_R _) (unhide KK4)).mono ?_
  rintro e t5 ⟨rfl, hh, kk⟩
  have AA5 := hide ((unhide AA4).kept kk (by omega)); have CC5 := hide ((unhide CC4).kept kk (by omega)); have KK5 := hide hh; have BB5 := hide (below_of_kept (unhide BB4) kk (by omega) (unhide BB4).size)
  clear hh kk AA4 CC4 KK4 BB4
  have q0 := (unhide KK5).cell0
  rw [Bool.false_or] at q0
  go_wp2_with fail
  go_region
  go_wp2_with fail
  go_ret2
  exact ⟨rfl, below_drew (unhide BB5)⟩

set_option maxHeartbeats 400000 in
theorem refLength_any (a0 a1 a2 : Int) (w : World) (ha0 : R64 a0) (ha1 : R64 a1) (ha2 : R64 a2) :
    Calls Try.prog 20 #[.agg #[.int .i64 a0, .int .i64 a1, .int .i64 a2]] w fun e w' => ∃ r : Int,
      e = .returned (.tuple #[.int .i64 r, .bool (dotB a0 a1 a2 a0 a1 a2)]) ∧ 0 ≤ r ∧ r * r ≤ dotZ a0 a1 a2 a0 a1 a2 * 4294967296 ∧ dotZ a0 a1 a2 a0 a1 a2 * 4294967296 < (r + 1) * (r + 1) ∧ Below w.heap.size w w' := by
  have A0 := hide ha0; have A1 := hide ha1; have A2 := hide ha2
  obtain ⟨d, ed⟩ : ∃ d, dotZ a0 a1 a2 a0 a1 a2 = d := ⟨_, rfl⟩
  obtain ⟨db, eb⟩ : ∃ d, dotB a0 a1 a2 a0 a1 a2 = d := ⟨_, rfl⟩
  have D0 := hide (dotZ_self a0 a1 a2); have D1 := hide (dotZ_R a0 a1 a2 a0 a1 a2)
  have B1 := hide (show Below w.heap.size w (w.alloc (.cells #[.int .i64 a0, .int .i64 a1, .int .i64 a2] 23)) from (Below.refl _ _).alloc (Nat.le_refl _) _)
  rw [ed] at D0 D1
  rw [ed, eb]
  have ED := hide ed; have EB := hide eb
  clear ha0 ha1 ha2 ed eb
  go_enter Try.func20, Try.ntmps20
  go_wp2_with fail
  refine (refDot_any a0 a1 a2 a0 a1 a2 _ (unhide A0) (unhide A1) (unhide A2) (unhide A0) (unhide A1) (unhide A2)).mono ?_
  rintro e w2 ⟨rfl, k2⟩
  have B2 := hide ((unhide B1).trans (k2.mono (unhide B1).size))
  clear k2
  rw [unhide ED, unhide EB]
  go_wp2_with fail
  refine (refSqrt_any d (unhide D1) (unhide D0) _).mono ?_
  rintro e w3 ⟨r, rfl, r0, r2, r3, k3⟩
  have F := hide (show 0 ≤ r ∧ r * r ≤ d * 4294967296 ∧ d * 4294967296 < (r + 1) * (r + 1) from ⟨r0, r2, r3⟩)
  have B3 := hide ((unhide B2).trans (k3.mono (unhide B2).size))
  clear r0 r2 r3 k3
  cases db
  · go_wp2_with fail
    go_ret2
    exact ⟨r, rfl, (unhide F).1, (unhide F).2.1, (unhide F).2.2, unhide B3⟩
  · go_wp2_with fail
    go_ret2
    exact ⟨r, rfl, (unhide F).1, (unhide F).2.1, (unhide F).2.2, unhide B3⟩

end Go.Proofs.Ythkfdlfgehdppaa
