/- Contracts of the reference: VecAdd, VecSub, VecScale. -/
import Derived.Test.YthkfdlfgehdppaaRefVec
import Derived.Test.YthkfdlfgehdppaaVecFaces
namespace Go.Proofs.Ythkfdlfgehdppaa
open Go.RowKit

theorem rv_start (w : World) (a0 a1 a2 c0 c1 c2 : Int) : ∃ v0, v0 = (((((w.alloc (.cells #[.int .i64 a0, .int .i64 a1, .int .i64 a2] 23)).alloc (.cells #[.int .i64 c0, .int .i64 c1, .int .i64 c2] 23)).alloc (.cells #[.int .i64 0, .int .i64 0, .int .i64 0] 23)).alloc (.cells #[.bool false] 39)).alloc (.cells #[.int .i64 0, .int .i64 0, .int .i64 0] 23)) ∧
    VbAt v0 (w.heap.size) a0 a1 a2 ∧ VbAt v0 (w.heap.size + 1) c0 c1 c2 ∧ VbAt v0 (w.heap.size + 1 + 1) 0 0 0 ∧ RfAt v0 (w.heap.size + 1 + 1 + 1) false ∧ VbAt v0 (w.heap.size + 1 + 1 + 1 + 1) 0 0 0 ∧ Below w.heap.size w v0 := by
  refine ⟨_, rfl, ?_⟩
  have s0 : Below w.heap.size w w := Below.refl _ _
  have k1 : Below (w).heap.size (w) (w.alloc (.cells #[.int .i64 a0, .int .i64 a1, .int .i64 a2] 23)) := (Below.refl _ _).alloc (Nat.le_refl _) _
  have f1 := VbAt.new w a0 a1 a2
  have s1 := s0.trans (k1.mono s0.size)
  have n1 : (w.alloc (.cells #[.int .i64 a0, .int .i64 a1, .int .i64 a2] 23)).heap.size = w.heap.size + 1 := by rw [size_alloc]
  clear k1
  generalize w.alloc (.cells #[.int .i64 a0, .int .i64 a1, .int .i64 a2] 23) = u1 at *
  have k2 : Below (u1).heap.size (u1) (u1.alloc (.cells #[.int .i64 c0, .int .i64 c1, .int .i64 c2] 23)) := (Below.refl _ _).alloc (Nat.le_refl _) _
  have f2 := VbAt.new u1 c0 c1 c2
  rw [n1] at f2
  have f1 := f1.below k2
  have s2 := s1.trans (k2.mono s1.size)
  have n2 : (u1.alloc (.cells #[.int .i64 c0, .int .i64 c1, .int .i64 c2] 23)).heap.size = w.heap.size + 1 + 1 := by rw [size_alloc, n1]
  clear k2
  generalize u1.alloc (.cells #[.int .i64 c0, .int .i64 c1, .int .i64 c2] 23) = u2 at *
  have k3 : Below (u2).heap.size (u2) (u2.alloc (.cells #[.int .i64 0, .int .i64 0, .int .i64 0] 23)) := (Below.refl _ _).alloc (Nat.le_refl _) _
  have f3 := VbAt.new u2 0 0 0
  rw [n2] at f3
  have f1 := f1.below k3
  have f2 := f2.below k3
  have s3 := s2.trans (k3.mono s2.size)
  have n3 : (u2.alloc (.cells #[.int .i64 0, .int .i64 0, .int .i64 0] 23)).heap.size = w.heap.size + 1 + 1 + 1 := by rw [size_alloc, n2]
  clear k3
  generalize u2.alloc (.cells #[.int .i64 0, .int .i64 0, .int .i64 0] 23) = u3 at *
  have k4 : Below (u3).heap.size (u3) (u3.alloc (.cells #[.bool false] 39)) := (Below.refl _ _).alloc (Nat.le_refl _) _
  have f4 := BlAt.new 39 u3 false
  rw [n3] at f4
  have f1 := f1.below k4
  have f2 := f2.below k4
  have f3 := f3.below k4
  have s4 := s3.trans (k4.mono s3.size)
  have n4 : (u3.alloc (.cells #[.bool false] 39)).heap.size = w.heap.size + 1 + 1 + 1 + 1 := by rw [size_alloc, n3]
  clear k4
  generalize u3.alloc (.cells #[.bool false] 39) = u4 at *
  have k5 : Below (u4).heap.size (u4) (u4.alloc (.cells #[.int .i64 0, .int .i64 0, .int .i64 0] 23)) := (Below.refl _ _).alloc (Nat.le_refl _) _
  have f5 := VbAt.new u4 0 0 0
  rw [n4] at f5
  have f1 := f1.below k5
  have f2 := f2.below k5
  have f3 := f3.below k5
  have f4 := f4.below k5
  have s5 := s4.trans (k5.mono s4.size)
  have n5 : (u4.alloc (.cells #[.int .i64 0, .int .i64 0, .int .i64 0] 23)).heap.size = w.heap.size + 1 + 1 + 1 + 1 + 1 := by rw [size_alloc, n4]
  clear k5
  generalize u4.alloc (.cells #[.int .i64 0, .int .i64 0, .int .i64 0] 23) = u5 at *
  exact ⟨f1, f2, f3, f4, f5, s5⟩

theorem rs_start (w : World) (a0 a1 a2 : Int) : ∃ v0, v0 = ((((w.alloc (.cells #[.int .i64 a0, .int .i64 a1, .int .i64 a2] 23)).alloc (.cells #[.int .i64 0, .int .i64 0, .int .i64 0] 23)).alloc (.cells #[.bool false] 39)).alloc (.cells #[.int .i64 0, .int .i64 0, .int .i64 0] 23)) ∧
    VbAt v0 (w.heap.size) a0 a1 a2 ∧ VbAt v0 (w.heap.size + 1) 0 0 0 ∧ RfAt v0 (w.heap.size + 1 + 1) false ∧ VbAt v0 (w.heap.size + 1 + 1 + 1) 0 0 0 ∧ Below w.heap.size w v0 := by
  refine ⟨_, rfl, ?_⟩
  have s0 : Below w.heap.size w w := Below.refl _ _
  have k1 : Below (w).heap.size (w) (w.alloc (.cells #[.int .i64 a0, .int .i64 a1, .int .i64 a2] 23)) := (Below.refl _ _).alloc (Nat.le_refl _) _
  have f1 := VbAt.new w a0 a1 a2
  have s1 := s0.trans (k1.mono s0.size)
  have n1 : (w.alloc (.cells #[.int .i64 a0, .int .i64 a1, .int .i64 a2] 23)).heap.size = w.heap.size + 1 := by rw [size_alloc]
  clear k1
  generalize w.alloc (.cells #[.int .i64 a0, .int .i64 a1, .int .i64 a2] 23) = u1 at *
  have k2 : Below (u1).heap.size (u1) (u1.alloc (.cells #[.int .i64 0, .int .i64 0, .int .i64 0] 23)) := (Below.refl _ _).alloc (Nat.le_refl _) _
  have f2 := VbAt.new u1 0 0 0
  rw [n1] at f2
  have f1 := f1.below k2
  have s2 := s1.trans (k2.mono s1.size)
  have n2 : (u1.alloc (.cells #[.int .i64 0, .int .i64 0, .int .i64 0] 23)).heap.size = w.heap.size + 1 + 1 := by rw [size_alloc, n1]
  clear k2
  generalize u1.alloc (.cells #[.int .i64 0, .int .i64 0, .int .i64 0] 23) = u2 at *
  have k3 : Below (u2).heap.size (u2) (u2.alloc (.cells #[.bool false] 39)) := (Below.refl _ _).alloc (Nat.le_refl _) _
  have f3 := BlAt.new 39 u2 false
  rw [n2] at f3
  have f1 := f1.below k3
  have f2 := f2.below k3
  have s3 := s2.trans (k3.mono s2.size)
  have n3 : (u2.alloc (.cells #[.bool false] 39)).heap.size = w.heap.size + 1 + 1 + 1 := by rw [size_alloc, n2]
  clear k3
  generalize u2.alloc (.cells #[.bool false] 39) = u3 at *
  have k4 : Below (u3).heap.size (u3) (u3.alloc (.cells #[.int .i64 0, .int .i64 0, .int .i64 0] 23)) := (Below.refl _ _).alloc (Nat.le_refl _) _
  have f4 := VbAt.new u3 0 0 0
  rw [n3] at f4
  have f1 := f1.below k4
  have f2 := f2.below k4
  have f3 := f3.below k4
  have s4 := s3.trans (k4.mono s3.size)
  have n4 : (u3.alloc (.cells #[.int .i64 0, .int .i64 0, .int .i64 0] 23)).heap.size = w.heap.size + 1 + 1 + 1 + 1 := by rw [size_alloc, n3]
  clear k4
  generalize u3.alloc (.cells #[.int .i64 0, .int .i64 0, .int .i64 0] 23) = u4 at *
  exact ⟨f1, f2, f3, f4, s4⟩

set_option maxHeartbeats 1000000 in
theorem refVecAdd_any (a0 a1 a2 c0 c1 c2 : Int) (w : World) (ha0 : R64 a0) (ha1 : R64 a1) (ha2 : R64 a2) (hc0 : R64 c0) (hc1 : R64 c1) (hc2 : R64 c2) :
    Calls Try.prog 10 #[.agg #[.int .i64 a0, .int .i64 a1, .int .i64 a2], .agg #[.int .i64 c0, .int .i64 c1, .int .i64 c2]] w fun e w' => e = .returned (vecR (fun a c => a + c) a0 a1 a2 c0 c1 c2) ∧ Below w.heap.size w w' := by
  have A0 := hide ha0; have A1 := hide ha1; have A2 := hide ha2; have C0 := hide hc0; have C1 := hide hc1; have C2 := hide hc2
  obtain ⟨v0, e0, pa, pc, pr, pk, pv, b0⟩ := rv_start w a0 a1 a2 c0 c1 c2
  have E0 := hide e0; have AA0 := hide pa; have CC0 := hide pc; have RR0 := hide pr; have KK0 := hide pk; have VV0 := hide pv; have BB0 := hide b0
  clear ha0 ha1 ha2 hc0 hc1 hc2 e0 b0 pa pc pr pk pv
  go_enter Try.func10, Try.ntmps10
  go_wp2_with fail
  rw [← unhide E0]
  refine (rfAdd_ok _ _ a0 c0 _ (unhide A0) (unhide C0) (unhide KK0)).mono ?_
  rintro e t0 ⟨rfl, hh, kk⟩
  have AAc0 := hide ((unhide AA0).kept kk (by omega))
  have CCc0 := hide ((unhide CC0).kept kk (by omega))
  have RRc0 := hide ((unhide RR0).kept kk (by omega))
  have KKc0 := hide hh
  have VVc0 := hide ((unhide VV0).kept kk (by omega))
  have BBc0 := hide (below_of_kept (unhide BB0) kk (by omega) (unhide BB0).size)
  clear hh kk AA0 CC0 RR0 KK0 VV0 BB0
  have z := (unhide VVc0).vc; have zf := (unhide VVc0).free 0
  have z0 := z.1; have z1 := z.2.1; have z2 := z.2.2
  have ya := (unhide AAc0).vc; have y0 := ya.1; have y1 := ya.2.1; have y2 := ya.2.2
  clear z ya
  have xa := (unhide CCc0).vc; have x0 := xa.1; have x1 := xa.2.1; have x2 := xa.2.2
  clear xa
  go_wp2_with fail
  clear z0 z1 z2 zf y0 y1 y2 x0 x1 x2
  have kk := kept_set t0 (w.heap.size + 1 + 1 + 1 + 1) 0 (.int .i64 (clampZ ((fun a c => a + c) a0 c0)))
  have AAs0 := hide ((unhide AAc0).kept kk (by omega))
  have CCs0 := hide ((unhide CCc0).kept kk (by omega))
  have RRs0 := hide ((unhide RRc0).kept kk (by omega))
  have KKs0 := hide ((unhide KKc0).kept kk (by omega))
  have VVs0 := hide ((unhide VVc0).set0 (clampZ ((fun a c => a + c) a0 c0)))
  have BBs0 := hide (below_of_kept (unhide BBc0) kk (by omega) (unhide BBc0).size)
  clear kk AAc0 CCc0 RRc0 KKc0 VVc0 BBc0
  generalize t0.setCell ⟨w.heap.size + 1 + 1 + 1 + 1, 0, none⟩ (.int .i64 (clampZ ((fun a c => a + c) a0 c0))) = m0 at *
  refine (rfAdd_ok _ _ a1 c1 _ (unhide A1) (unhide C1) (unhide KKs0)).mono ?_
  rintro e t1 ⟨rfl, hh, kk⟩
  have AAc1 := hide ((unhide AAs0).kept kk (by omega))
  have CCc1 := hide ((unhide CCs0).kept kk (by omega))
  have RRc1 := hide ((unhide RRs0).kept kk (by omega))
  have KKc1 := hide hh
  have VVc1 := hide ((unhide VVs0).kept kk (by omega))
  have BBc1 := hide (below_of_kept (unhide BBs0) kk (by omega) (unhide BBs0).size)
  clear hh kk AAs0 CCs0 RRs0 KKs0 VVs0 BBs0
  have z := (unhide VVc1).vc; have zf := (unhide VVc1).free 1
  have z0 := z.1; have z1 := z.2.1; have z2 := z.2.2
  have ya := (unhide AAc1).vc; have y0 := ya.1; have y1 := ya.2.1; have y2 := ya.2.2
  clear z ya
  have xa := (unhide CCc1).vc; have x0 := xa.1; have x1 := xa.2.1; have x2 := xa.2.2
  clear xa
  go_wp2_with fail
  clear z0 z1 z2 zf y0 y1 y2 x0 x1 x2
  have kk := kept_set t1 (w.heap.size + 1 + 1 + 1 + 1) 1 (.int .i64 (clampZ ((fun a c => a + c) a1 c1)))
  have AAs1 := hide ((unhide AAc1).kept kk (by omega))
  have CCs1 := hide ((unhide CCc1).kept kk (by omega))
  have RRs1 := hide ((unhide RRc1).kept kk (by omega))
  have KKs1 := hide ((unhide KKc1).kept kk (by omega))
  have VVs1 := hide ((unhide VVc1).set1 (clampZ ((fun a c => a + c) a1 c1)))
  have BBs1 := hide (below_of_kept (unhide BBc1) kk (by omega) (unhide BBc1).size)
  clear kk AAc1 CCc1 RRc1 KKc1 VVc1 BBc1
  generalize t1.setCell ⟨w.heap.size + 1 + 1 + 1 + 1, 1, none⟩ (.int .i64 (clampZ ((fun a c => a + c) a1 c1))) = m1 at *
  refine (rfAdd_ok _ _ a2 c2 _ (unhide A2) (unhide C2) (unhide KKs1)).mono ?_
  rintro e t2 ⟨rfl, hh, kk⟩
  have AAc2 := hide ((unhide AAs1).kept kk (by omega))
  have CCc2 := hide ((unhide CCs1).kept kk (by omega))
  have RRc2 := hide ((unhide RRs1).kept kk (by omega))
  have KKc2 := hide hh
  have VVc2 := hide ((unhide VVs1).kept kk (by omega))
  have BBc2 := hide (below_of_kept (unhide BBs1) kk (by omega) (unhide BBs1).size)
  clear hh kk AAs1 CCs1 RRs1 KKs1 VVs1 BBs1
  have z := (unhide VVc2).vc; have zf := (unhide VVc2).free 2
  have z0 := z.1; have z1 := z.2.1; have z2 := z.2.2
  have ya := (unhide AAc2).vc; have y0 := ya.1; have y1 := ya.2.1; have y2 := ya.2.2
  clear z ya
  have xa := (unhide CCc2).vc; have x0 := xa.1; have x1 := xa.2.1; have x2 := xa.2.2
  clear xa
  have q0 := (unhide KKc2).cell0
  rw [Bool.false_or] at q0
  have r0 := (unhide RRc2).vc; have r1 := r0.1; have r2 := r0.2.1; have r3 := r0.2.2
  have g0 := (unhide RRc2).free 0; have g1 := (unhide RRc2).free 1; have g2 := (unhide RRc2).free 2
  clear r0
  go_wp2_with fail
  go_region
  go_wp2_with fail
  have kk := kept_set t2 (w.heap.size + 1 + 1 + 1 + 1) 2 (.int .i64 (clampZ ((fun a c => a + c) a2 c2)))
  have RR := (unhide RRc2).kept kk (by omega)
  have BB := below_of_kept (unhide BBc2) kk (by omega) (unhide BBc2).size
  obtain ⟨w6, e6, v6, k6⟩ := RR.set (clampZ ((fun a c => a + c) a0 c0)) (clampZ ((fun a c => a + c) a1 c1)) (clampZ ((fun a c => a + c) a2 c2))
  rw [show (((t2.setCell ⟨w.heap.size + 1 + 1 + 1 + 1, 2, none⟩ (.int .i64 (clampZ ((fun a c => a + c) a2 c2)))).setCell ⟨w.heap.size + 1 + 1, 0, none⟩ (.int .i64 (clampZ ((fun a c => a + c) a0 c0)))).setCell ⟨w.heap.size + 1 + 1, 1, none⟩ (.int .i64 (clampZ ((fun a c => a + c) a1 c1)))).setCell ⟨w.heap.size + 1 + 1, 2, none⟩ (.int .i64 (clampZ ((fun a c => a + c) a2 c2))) = w6 from e6.symm]
  have p0 := v6.vc.1; have p1 := v6.vc.2.1; have p2 := v6.vc.2.2
  refine bodyPost_ret (v := vecR (fun a c => a + c) a0 a1 a2 c0 c1 c2) (by simp [results, Try.results10, go_sem, p0, p1, p2, vecR]) rfl ⟨rfl, below_drew (below_of_kept BB k6 (by omega) BB.size)⟩

set_option maxHeartbeats 1000000 in
theorem refVecSub_any (a0 a1 a2 c0 c1 c2 : Int) (w : World) (ha0 : R64 a0) (ha1 : R64 a1) (ha2 : R64 a2) (hc0 : R64 c0) (hc1 : R64 c1) (hc2 : R64 c2) :
    Calls Try.prog 12 #[.agg #[.int .i64 a0, .int .i64 a1, .int .i64 a2], .agg #[.int .i64 c0, .int .i64 c1, .int .i64 c2]] w fun e w' => e = .returned (vecR (fun a c => a - c) a0 a1 a2 c0 c1 c2) ∧ Below w.heap.size w w' := by
  have A0 := hide ha0; have A1 := hide ha1; have A2 := hide ha2; have C0 := hide hc0; have C1 := hide hc1; have C2 := hide hc2
  obtain ⟨v0, e0, pa, pc, pr, pk, pv, b0⟩ := rv_start w a0 a1 a2 c0 c1 c2
  have E0 := hide e0; have AA0 := hide pa; have CC0 := hide pc; have RR0 := hide pr; have KK0 := hide pk; have VV0 := hide pv; have BB0 := hide b0
  clear ha0 ha1 ha2 hc0 hc1 hc2 e0 b0 pa pc pr pk pv
  go_enter Try.func12, Try.ntmps12
  go_wp2_with fail
  rw [← unhide E0]
  refine (rfSub_ok _ _ a0 c0 _ (unhide A0) (unhide C0) (unhide KK0)).mono ?_
  rintro e t0 ⟨rfl, hh, kk⟩
  have AAc0 := hide ((unhide AA0).kept kk (by omega))
  have CCc0 := hide ((unhide CC0).kept kk (by omega))
  have RRc0 := hide ((unhide RR0).kept kk (by omega))
  have KKc0 := hide hh
  have VVc0 := hide ((unhide VV0).kept kk (by omega))
  have BBc0 := hide (below_of_kept (unhide BB0) kk (by omega) (unhide BB0).size)
  clear hh kk AA0 CC0 RR0 KK0 VV0 BB0
  have z := (unhide VVc0).vc; have zf := (unhide VVc0).free 0
  have z0 := z.1; have z1 := z.2.1; have z2 := z.2.2
  have ya := (unhide AAc0).vc; have y0 := ya.1; have y1 := ya.2.1; have y2 := ya.2.2
  clear z ya
  have xa := (unhide CCc0).vc; have x0 := xa.1; have x1 := xa.2.1; have x2 := xa.2.2
  clear xa
  go_wp2_with fail
  clear z0 z1 z2 zf y0 y1 y2 x0 x1 x2
  have kk := kept_set t0 (w.heap.size + 1 + 1 + 1 + 1) 0 (.int .i64 (clampZ ((fun a c => a - c) a0 c0)))
  have AAs0 := hide ((unhide AAc0).kept kk (by omega))
  have CCs0 := hide ((unhide CCc0).kept kk (by omega))
  have RRs0 := hide ((unhide RRc0).kept kk (by omega))
  have KKs0 := hide ((unhide KKc0).kept kk (by omega))
  have VVs0 := hide ((unhide VVc0).set0 (clampZ ((fun a c => a - c) a0 c0)))
  have BBs0 := hide (below_of_kept (unhide BBc0) kk (by omega) (unhide BBc0).size)
  clear kk AAc0 CCc0 RRc0 KKc0 VVc0 BBc0
  generalize t0.setCell ⟨w.heap.size + 1 + 1 + 1 + 1, 0, none⟩ (.int .i64 (clampZ ((fun a c => a - c) a0 c0))) = m0 at *
  refine (rfSub_ok _ _ a1 c1 _ (unhide A1) (unhide C1) (unhide KKs0)).mono ?_
  rintro e t1 ⟨rfl, hh, kk⟩
  have AAc1 := hide ((unhide AAs0).kept kk (by omega))
  have CCc1 := hide ((unhide CCs0).kept kk (by omega))
  have RRc1 := hide ((unhide RRs0).kept kk (by omega))
  have KKc1 := hide hh
  have VVc1 := hide ((unhide VVs0).kept kk (by omega))
  have BBc1 := hide (below_of_kept (unhide BBs0) kk (by omega) (unhide BBs0).size)
  clear hh kk AAs0 CCs0 RRs0 KKs0 VVs0 BBs0
  have z := (unhide VVc1).vc; have zf := (unhide VVc1).free 1
  have z0 := z.1; have z1 := z.2.1; have z2 := z.2.2
  have ya := (unhide AAc1).vc; have y0 := ya.1; have y1 := ya.2.1; have y2 := ya.2.2
  clear z ya
  have xa := (unhide CCc1).vc; have x0 := xa.1; have x1 := xa.2.1; have x2 := xa.2.2
  clear xa
  go_wp2_with fail
  clear z0 z1 z2 zf y0 y1 y2 x0 x1 x2
  have kk := kept_set t1 (w.heap.size + 1 + 1 + 1 + 1) 1 (.int .i64 (clampZ ((fun a c => a - c) a1 c1)))
  have AAs1 := hide ((unhide AAc1).kept kk (by omega))
  have CCs1 := hide ((unhide CCc1).kept kk (by omega))
  have RRs1 := hide ((unhide RRc1).kept kk (by omega))
  have KKs1 := hide ((unhide KKc1).kept kk (by omega))
  have VVs1 := hide ((unhide VVc1).set1 (clampZ ((fun a c => a - c) a1 c1)))
  have BBs1 := hide (below_of_kept (unhide BBc1) kk (by omega) (unhide BBc1).size)
  clear kk AAc1 CCc1 RRc1 KKc1 VVc1 BBc1
  generalize t1.setCell ⟨w.heap.size + 1 + 1 + 1 + 1, 1, none⟩ (.int .i64 (clampZ ((fun a c => a - c) a1 c1))) = m1 at *
  refine (rfSub_ok _ _ a2 c2 _ (unhide A2) (unhide C2) (unhide KKs1)).mono ?_
  rintro e t2 ⟨rfl, hh, kk⟩
  have AAc2 := hide ((unhide AAs1).kept kk (by omega))
  have CCc2 := hide ((unhide CCs1).kept kk (by omega))
  have RRc2 := hide ((unhide RRs1).kept kk (by omega))
  have KKc2 := hide hh
  have VVc2 := hide ((unhide VVs1).kept kk (by omega))
  have BBc2 := hide (below_of_kept (unhide BBs1) kk (by omega) (unhide BBs1).size)
  clear hh kk AAs1 CCs1 RRs1 KKs1 VVs1 BBs1
  have z := (unhide VVc2).vc; have zf := (unhide VVc2).free 2
  have z0 := z.1; have z1 := z.2.1; have z2 := z.2.2
  have ya := (unhide AAc2).vc; have y0 := ya.1; have y1 := ya.2.1; have y2 := ya.2.2
  clear z ya
  have xa := (unhide CCc2).vc; have x0 := xa.1; have x1 := xa.2.1; have x2 := xa.2.2
  clear xa
  have q0 := (unhide KKc2).cell0
  rw [Bool.false_or] at q0
  have r0 := (unhide RRc2).vc; have r1 := r0.1; have r2 := r0.2.1; have r3 := r0.2.2
  have g0 := (unhide RRc2).free 0; have g1 := (unhide RRc2).free 1; have g2 := (unhide RRc2).free 2
  clear r0
  go_wp2_with fail
  go_region
  go_wp2_with fail
  have kk := kept_set t2 (w.heap.size + 1 + 1 + 1 + 1) 2 (.int .i64 (clampZ ((fun a c => a - c) a2 c2)))
  have RR := (unhide RRc2).kept kk (by omega)
  have BB := below_of_kept (unhide BBc2) kk (by omega) (unhide BBc2).size
  obtain ⟨w6, e6, v6, k6⟩ := RR.set (clampZ ((fun a c => a - c) a0 c0)) (clampZ ((fun a c => a - c) a1 c1)) (clampZ ((fun a c => a - c) a2 c2))
  rw [show (((t2.setCell ⟨w.heap.size + 1 + 1 + 1 + 1, 2, none⟩ (.int .i64 (clampZ ((fun a c => a - c) a2 c2)))).setCell ⟨w.heap.size + 1 + 1, 0, none⟩ (.int .i64 (clampZ ((fun a c => a - c) a0 c0)))).setCell ⟨w.heap.size + 1 + 1, 1, none⟩ (.int .i64 (clampZ ((fun a c => a - c) a1 c1)))).setCell ⟨w.heap.size + 1 + 1, 2, none⟩ (.int .i64 (clampZ ((fun a c => a - c) a2 c2))) = w6 from e6.symm]
  have p0 := v6.vc.1; have p1 := v6.vc.2.1; have p2 := v6.vc.2.2
  refine bodyPost_ret (v := vecR (fun a c => a - c) a0 a1 a2 c0 c1 c2) (by simp [results, Try.results12, go_sem, p0, p1, p2, vecR]) rfl ⟨rfl, below_drew (below_of_kept BB k6 (by omega) BB.size)⟩

set_option maxHeartbeats 1000000 in
theorem refVecScale_any (a0 a1 a2 c0 : Int) (w : World) (ha0 : R64 a0) (ha1 : R64 a1) (ha2 : R64 a2) (hc0 : R64 c0) :
    Calls Try.prog 14 #[.agg #[.int .i64 a0, .int .i64 a1, .int .i64 a2], .int .i64 c0] w fun e w' => e = .returned (vecR mulQ a0 a1 a2 c0 c0 c0) ∧ Below w.heap.size w w' := by
  have A0 := hide ha0; have A1 := hide ha1; have A2 := hide ha2; have C0 := hide hc0
  obtain ⟨v0, e0, pa, pr, pk, pv, b0⟩ := rs_start w a0 a1 a2
  have E0 := hide e0; have AA0 := hide pa; have RR0 := hide pr; have KK0 := hide pk; have VV0 := hide pv; have BB0 := hide b0
  clear ha0 ha1 ha2 hc0 e0 b0 pa pr pk pv
  go_enter Try.func14, Try.ntmps14
  go_wp2_with fail
  rw [← unhide E0]
  refine (rfMul_ok _ _ a0 c0 _ (unhide A0) (unhide C0) (unhide KK0)).mono ?_
  rintro e t0 ⟨rfl, hh, kk⟩
  have AAc0 := hide ((unhide AA0).kept kk (by omega))
  have RRc0 := hide ((unhide RR0).kept kk (by omega))
  have KKc0 := hide hh
  have VVc0 := hide ((unhide VV0).kept kk (by omega))
  have BBc0 := hide (below_of_kept (unhide BB0) kk (by omega) (unhide BB0).size)
  clear hh kk AA0 RR0 KK0 VV0 BB0
  have z := (unhide VVc0).vc; have zf := (unhide VVc0).free 0
  have z0 := z.1; have z1 := z.2.1; have z2 := z.2.2
  have ya := (unhide AAc0).vc; have y0 := ya.1; have y1 := ya.2.1; have y2 := ya.2.2
  clear z ya
  go_wp2_with fail
  clear z0 z1 z2 zf y0 y1 y2
  have kk := kept_set t0 (w.heap.size + 1 + 1 + 1) 0 (.int .i64 (clampZ (mulQ a0 c0)))
  have AAs0 := hide ((unhide AAc0).kept kk (by omega))
  have RRs0 := hide ((unhide RRc0).kept kk (by omega))
  have KKs0 := hide ((unhide KKc0).kept kk (by omega))
  have VVs0 := hide ((unhide VVc0).set0 (clampZ (mulQ a0 c0)))
  have BBs0 := hide (below_of_kept (unhide BBc0) kk (by omega) (unhide BBc0).size)
  clear kk AAc0 RRc0 KKc0 VVc0 BBc0
  generalize t0.setCell ⟨w.heap.size + 1 + 1 + 1, 0, none⟩ (.int .i64 (clampZ (mulQ a0 c0))) = m0 at *
  refine (rfMul_ok _ _ a1 c0 _ (unhide A1) (unhide C0) (unhide KKs0)).mono ?_
  rintro e t1 ⟨rfl, hh, kk⟩
  have AAc1 := hide ((unhide AAs0).kept kk (by omega))
  have RRc1 := hide ((unhide RRs0).kept kk (by omega))
  have KKc1 := hide hh
  have VVc1 := hide ((unhide VVs0).kept kk (by omega))
  have BBc1 := hide (below_of_kept (unhide BBs0) kk (by omega) (unhide BBs0).size)
  clear hh kk AAs0 RRs0 KKs0 VVs0 BBs0
  have z := (unhide VVc1).vc; have zf := (unhide VVc1).free 1
  have z0 := z.1; have z1 := z.2.1; have z2 := z.2.2
  have ya := (unhide AAc1).vc; have y0 := ya.1; have y1 := ya.2.1; have y2 := ya.2.2
  clear z ya
  go_wp2_with fail
  clear z0 z1 z2 zf y0 y1 y2
  have kk := kept_set t1 (w.heap.size + 1 + 1 + 1) 1 (.int .i64 (clampZ (mulQ a1 c0)))
  have AAs1 := hide ((unhide AAc1).kept kk (by omega))
  have RRs1 := hide ((unhide RRc1).kept kk (by omega))
  have KKs1 := hide ((unhide KKc1).kept kk (by omega))
  have VVs1 := hide ((unhide VVc1).set1 (clampZ (mulQ a1 c0)))
  have BBs1 := hide (below_of_kept (unhide BBc1) kk (by omega) (unhide BBc1).size)
  clear kk AAc1 RRc1 KKc1 VVc1 BBc1
  generalize t1.setCell ⟨w.heap.size + 1 + 1 + 1, 1, none⟩ (.int .i64 (clampZ (mulQ a1 c0))) = m1 at *
  refine (rfMul_ok _ _ a2 c0 _ (unhide A2) (unhide C0) (unhide KKs1)).mono ?_
  rintro e t2 ⟨rfl, hh, kk⟩
  have AAc2 := hide ((unhide AAs1).kept kk (by omega))
  have RRc2 := hide ((unhide RRs1).kept kk (by omega))
  have KKc2 := hide hh
  have VVc2 := hide ((unhide VVs1).kept kk (by omega))
  have BBc2 := hide (below_of_kept (unhide BBs1) kk (by omega) (unhide BBs1).size)
  clear hh kk AAs1 RRs1 KKs1 VVs1 BBs1
  have z := (unhide VVc2).vc; have zf := (unhide VVc2).free 2
  have z0 := z.1; have z1 := z.2.1; have z2 := z.2.2
  have ya := (unhide AAc2).vc; have y0 := ya.1; have y1 := ya.2.1; have y2 := ya.2.2
  clear z ya
  have q0 := (unhide KKc2).cell0
  rw [Bool.false_or] at q0
  have r0 := (unhide RRc2).vc; have r1 := r0.1; have r2 := r0.2.1; have r3 := r0.2.2
  have g0 := (unhide RRc2).free 0; have g1 := (unhide RRc2).free 1; have g2 := (unhide RRc2).free 2
  clear r0
  go_wp2_with fail
  go_region
  go_wp2_with fail
  have kk := kept_set t2 (w.heap.size + 1 + 1 + 1) 2 (.int .i64 (clampZ (mulQ a2 c0)))
  have RR := (unhide RRc2).kept kk (by omega)
  have BB := below_of_kept (unhide BBc2) kk (by omega) (unhide BBc2).size
  obtain ⟨w6, e6, v6, k6⟩ := RR.set (clampZ (mulQ a0 c0)) (clampZ (mulQ a1 c0)) (clampZ (mulQ a2 c0))
  rw [show (((t2.setCell ⟨w.heap.size + 1 + 1 + 1, 2, none⟩ (.int .i64 (clampZ (mulQ a2 c0)))).setCell ⟨w.heap.size + 1, 0, none⟩ (.int .i64 (clampZ (mulQ a0 c0)))).setCell ⟨w.heap.size + 1, 1, none⟩ (.int .i64 (clampZ (mulQ a1 c0)))).setCell ⟨w.heap.size + 1, 2, none⟩ (.int .i64 (clampZ (mulQ a2 c0))) = w6 from e6.symm]
  have p0 := v6.vc.1; have p1 := v6.vc.2.1; have p2 := v6.vc.2.2
  refine bodyPost_ret (v := vecR mulQ a0 a1 a2 c0 c0 c0) (by simp [results, Try.results14, go_sem, p0, p1, p2, vecR]) rfl ⟨rfl, below_drew (below_of_kept BB k6 (by omega) BB.size)⟩

end Go.Proofs.Ythkfdlfgehdppaa
