/- Contracts of package vec's face: turned, Cross. -/
import Derived.Test.YthkfdlfgehdppaaVecDot
import Derived.Test.YthkfdlfgehdppaaFork
import Derived.Deep.CutBlock
import Derived.Deep.DeepCutAuto
namespace Go.Proofs.Ythkfdlfgehdppaa
open Go.RowKit

set_option maxHeartbeats 400000 in
theorem turned_any (a0 a1 a2 : Int) (w : World) :
    Calls Try.prog 29 #[.agg #[.int .i64 a0, .int .i64 a1, .int .i64 a2]] w fun e w' =>
      e = .returned (.agg #[.int .i64 a1, .int .i64 a2, .int .i64 a0]) ∧ Below w.heap.size w w' := by
  obtain ⟨w3, e3, r3, k3⟩ := scale_start w a0 a1 a2
  have E3 := hide e3; have R3 := hide r3; have K3 := hide k3
  clear e3 r3 k3
  go_enter Try.func29, Try.ntmps29
  go_wp2_with fail
  refine bodyPost_ret (v := .agg #[.int .i64 a1, .int .i64 a2, .int .i64 a0]) (by simp [results, Try.results29, go_sem]) rfl ⟨rfl, ?_⟩
  exact ((Below.refl _ _).alloc (Nat.le_refl _) _).alloc (by rw [size_alloc]; omega) _

theorem Six.below {p q : Nat} {a0 a1 a2 c0 c1 c2 : Int} {w w' : World} (h : Six p q a0 a1 a2 c0 c1 c2 w) (k : Below w.heap.size w w') : Six p q a0 a1 a2 c0 c1 c2 w' := by
  have l1 : p < w.heap.size := World.block_lt_of_cell? w _ h.1
  have l2 : q < w.heap.size := World.block_lt_of_cell? w _ h.2.2.2.1
  exact h.kept (Kept.of_below (z := w.heap.size) k) (by omega) (by omega)

theorem cross_start (w : World) (a0 a1 a2 c0 c1 c2 : Int) : ∃ w4, w4 = (((w.alloc (.cells #[.int .i64 a0, .int .i64 a1, .int .i64 a2] 23)).alloc (.cells #[.int .i64 c0, .int .i64 c1, .int .i64 c2] 23)).alloc (.cells #[.int .i64 0, .int .i64 0, .int .i64 0] 23)).alloc (.cells #[.bool false] 41) ∧
    Six w.heap.size (w.heap.size + 1) a0 a1 a2 c0 c1 c2 w4 ∧ RkAt w4 (w.heap.size + 1 + 1 + 1) false ∧ VbAt w4 (w.heap.size + 1 + 1) 0 0 0 ∧ Below w.heap.size w w4 := by
  obtain ⟨w4, e4, q4, r4, k4, -⟩ := part_start w a0 a1 a2 c0 c1 c2
  obtain ⟨w3, e3, s3, -, -⟩ := each_start w a0 a1 a2 c0 c1 c2
  refine ⟨w4, e4, ?_, q4, r4, k4⟩
  rw [e4, ← e3]
  exact s3.below ((Below.refl _ _).alloc (Nat.le_refl _) _)

/-- The outer product's parts in the given order, and whether a step stopped. -/
def crossV (a0 a1 a2 c0 c1 c2 : Int) : Value :=
  .tuple #[.agg #[.int .i64 (clampZ (clampZ (mulQ a1 c2) - clampZ (mulQ a2 c1))), .int .i64 (clampZ (clampZ (mulQ a2 c0) - clampZ (mulQ a0 c2))), .int .i64 (clampZ (clampZ (mulQ a0 c1) - clampZ (mulQ a1 c0)))],
    .bool (bentZ (mulQ a1 c2) || bentZ (mulQ a2 c0) || bentZ (mulQ a0 c1) || bentZ (mulQ a2 c1) || bentZ (mulQ a0 c2) || bentZ (mulQ a1 c0) ||
      bentZ (clampZ (mulQ a1 c2) - clampZ (mulQ a2 c1)) || bentZ (clampZ (mulQ a2 c0) - clampZ (mulQ a0 c2)) || bentZ (clampZ (mulQ a0 c1) - clampZ (mulQ a1 c0)))]

/-- What Cross's variables hold, whatever else was made. -/
structure CrI (w : World) (a0 a1 a2 c0 c1 c2 : Int) (x : Bool) (u : World) : Prop where
  six : Six w.heap.size (w.heap.size + 1) a0 a1 a2 c0 c1 c2 u
  rk : RkAt u (w.heap.size + 1 + 1 + 1) x
  res : VbAt u (w.heap.size + 1 + 1) 0 0 0
  bel : Below w.heap.size w u
theorem CrI.below {w u v : World} {a0 a1 a2 c0 c1 c2 : Int} {x : Bool} (h : CrI w a0 a1 a2 c0 c1 c2 x u) (k : Below u.heap.size u v) : CrI w a0 a1 a2 c0 c1 c2 x v :=
  ⟨h.six.below k, h.rk.below k, h.res.below k, h.bel.trans (k.mono h.bel.size)⟩
theorem CrI.kept {w u v : World} {a0 a1 a2 c0 c1 c2 : Int} {x y : Bool} (h : CrI w a0 a1 a2 c0 c1 c2 x u) (k : Kept (w.heap.size + 1 + 1 + 1) u v) (r : RkAt v (w.heap.size + 1 + 1 + 1) y) : CrI w a0 a1 a2 c0 c1 c2 y v :=
  ⟨h.six.kept k (by omega) (by omega), r, h.res.kept k (by omega), below_of_kept h.bel k (by omega) h.bel.size⟩
theorem CrI.kept2 {w u v : World} {a0 a1 a2 c0 c1 c2 : Int} {x : Bool} {L : Nat} (h : CrI w a0 a1 a2 c0 c1 c2 x u) (k : Kept L u v) (hL : w.heap.size + 1 + 1 + 1 < L) : CrI w a0 a1 a2 c0 c1 c2 x v :=
  ⟨h.six.kept k (by omega) (by omega), h.rk.kept k (by omega), h.res.kept k (by omega), below_of_kept h.bel k (by omega) h.bel.size⟩
theorem CrI.drew {w u : World} {a0 a1 a2 c0 c1 c2 : Int} {x : Bool} (h : CrI w a0 a1 a2 c0 c1 c2 x u) : CrI w a0 a1 a2 c0 c1 c2 x u.drew :=
  ⟨h.six, h.rk, h.res, below_drew h.bel⟩

set_option maxHeartbeats 4000000 in
theorem vecCross_any (a0 a1 a2 c0 c1 c2 : Int) (w : World) (ha0 : R64 a0) (ha1 : R64 a1) (ha2 : R64 a2) (hc0 : R64 c0) (hc1 : R64 c1) (hc2 : R64 c2) :
    Calls Try.prog 17 #[.agg #[.int .i64 a0, .int .i64 a1, .int .i64 a2], .agg #[.int .i64 c0, .int .i64 c1, .int .i64 c2]] w fun e w' =>
      e = .returned (crossV a0 a1 a2 c0 c1 c2) ∧ Below w.heap.size w w' := by
  have A0 := hide ha0; have A1 := hide ha1; have A2 := hide ha2; have C0 := hide hc0; have C1 := hide hc1; have C2 := hide hc2
  obtain ⟨w4, e4, s4, q4, r4, k4⟩ := cross_start w a0 a1 a2 c0 c1 c2
  have E4 := hide e4; have I4 := hide (CrI.mk s4 q4 r4 k4)
  clear ha0 ha1 ha2 hc0 hc1 hc2 e4 s4 q4 r4 k4
  go_enter Try.func17, Try.ntmps17
  go_upto_region 2 with fail
  rw [← unhide E4]
  go_cut [7] (fun s wx => ∃ L : Nat, s = .pointer (some ⟨L, 0, none⟩) ∧ w.heap.size + 1 + 1 + 1 < L ∧ VbAt wx L (clampZ (mulQ a1 c2)) (clampZ (mulQ a2 c0)) (clampZ (mulQ a0 c1)) ∧ CrI w a0 a1 a2 c0 c1 c2 (bentZ (mulQ a1 c2) || bentZ (mulQ a2 c0) || bentZ (mulQ a0 c1)) wx)
  case first =>
    refine region_plan (S := Six w.heap.size (w.heap.size + 1) a0 a1 a2 c0 c1 c2) (.rd 0 (.rd 2 (.two 1 6 (.two 3 6 (.two 4 6 (.two 5 6 (.go 6 (.go 7 .fin)) (.go 5 (.go 7 .fin))) (.go 4 (.go 5 (.go 7 .fin)))) (.go 3 (.go 4 (.go 5 (.go 7 .fin))))) (.go 1 (.go 3 (.go 4 (.go 5 (.go 7 .fin)))))))) [] (by kernel_rfl) (by kernel_rfl) ?_
    have Iu0 := hide ((unhide I4).drew)
    clear I4 E4
    generalize w4.drew = u0 at *
    iterate 2
      refine plan_read (v := ?_) rfl (fun _ _ _ h => h) (by rfl) (unhide Iu0).six ?_ ?_
      rotate_left 1
      · intro wx hwx
        obtain ⟨k1, k2, k3, k4, k5, k6⟩ := hwx
        go_simp <;> exact rfl
      go_frame
    refine plan_two rfl rfl (fun K hK => ?_) (fun K hK => ?_)
    · go_simp
      refine (turned_any a0 a1 a2 _).mono ?_
      rintro e ua1 ⟨rfl, kk⟩
      have Iua1 := hide ((unhide Iu0).below kk)
      refine hK _ _ (fun _ => (unhide Iua1).six) ?_
      clear hK K kk
      refine plan_two rfl rfl (fun K hK => ?_) (fun K hK => ?_)
      · go_simp
        refine (turned_any c0 c1 c2 _).mono ?_
        rintro e ua2 ⟨rfl, kk⟩
        have Iua2 := hide ((unhide Iua1).below kk)
        refine hK _ _ (fun _ => (unhide Iua2).six) ?_
        clear hK K kk
        refine plan_two rfl rfl (fun K hK => ?_) (fun K hK => ?_)
        · go_simp
          refine (turned_any c1 c2 c0 _).mono ?_
          rintro e ua3 ⟨rfl, kk⟩
          have Iua3 := hide ((unhide Iua2).below kk)
          refine hK _ _ (fun _ => (unhide Iua3).six) ?_
          clear hK K kk
          refine plan_two rfl rfl (fun K hK => ?_) (fun K hK => ?_)
          · go_simp
            refine (each_any _ _ opMul_ok opMul_in _ _ a1 a2 a0 c2 c0 c1 _ (unhide A1) (unhide A2) (unhide A0) (unhide C2) (unhide C0) (unhide C1) (unhide Iua3).rk).mono ?_
            rintro e ua4 ⟨rfl, hh, kk⟩
            have Iua4 := hide ((unhide Iua3).kept kk hh)
            refine hK _ _ (fun _ => (unhide Iua4).six) ?_
            clear hK K kk hh
            refine plan_do rfl (fun K hK => ?_)
            go_simp
            have kk : Below ua4.heap.size ua4 (ua4.alloc (.cells #[.int .i64 0, .int .i64 0, .int .i64 0] 23)) := (Below.refl _ _).alloc (Nat.le_refl _) _
            have Iua5 := hide ((unhide Iua4).below kk)
            have Vua5 := hide (VbAt.new ua4 0 0 0)
            have LT := hide (show w.heap.size + 1 + 1 + 1 < ua4.heap.size from (unhide Iua4).rk.lt)
            refine hK _ _ (fun _ => (unhide Iua5).six) ?_
            clear hK K kk
            generalize ua4.heap.size = L at *
            generalize ua4.alloc (.cells #[.int .i64 0, .int .i64 0, .int .i64 0] 23) = ua5 at *
            refine plan_do rfl (fun K hK => ?_)
            have z0 := (unhide Vua5).vc.1; have z1 := (unhide Vua5).vc.2.1; have z2 := (unhide Vua5).vc.2.2
            have f0 := (unhide Vua5).free 0; have f1 := (unhide Vua5).free 1; have f2 := (unhide Vua5).free 2
            go_simp
            obtain ⟨ua6, ee, vv, kk⟩ := (unhide Vua5).set (clampZ (mulQ a1 c2)) (clampZ (mulQ a2 c0)) (clampZ (mulQ a0 c1))
            rw [← ee]
            have Iua6 := hide ((unhide Iua5).kept2 kk (unhide LT))
            refine hK _ _ (fun _ => (unhide Iua6).six) ?_
            clear hK K z0 z1 z2 f0 f1 f2
            refine plan_end ?_
            go_wp2_with fail
            go_meet
            exact ⟨_, rfl, unhide LT, vv, unhide Iua6⟩
          · go_simp
            have kk : Below ua3.heap.size ua3 (ua3.alloc (.cells #[.int .i64 0, .int .i64 0, .int .i64 0] 23)) := (Below.refl _ _).alloc (Nat.le_refl _) _
            have Iua7 := hide ((unhide Iua3).below kk)
            have Vua7 := hide (VbAt.new ua3 0 0 0)
            have LT := hide (show w.heap.size + 1 + 1 + 1 < ua3.heap.size from (unhide Iua3).rk.lt)
            refine hK _ _ (fun _ => (unhide Iua7).six) ?_
            clear hK K kk
            generalize ua3.heap.size = L at *
            generalize ua3.alloc (.cells #[.int .i64 0, .int .i64 0, .int .i64 0] 23) = ua7 at *
            refine plan_do rfl (fun K hK => ?_)
            go_simp
            refine (each_any _ _ opMul_ok opMul_in _ _ a1 a2 a0 c2 c0 c1 _ (unhide A1) (unhide A2) (unhide A0) (unhide C2) (unhide C0) (unhide C1) (unhide Iua7).rk).mono ?_
            rintro e ua8 ⟨rfl, hh, kk⟩
            have Iua8 := hide ((unhide Iua7).kept kk hh)
            have Vua8 := hide ((unhide Vua7).kept kk (Nat.ne_of_gt (unhide LT)))
            refine hK _ _ (fun _ => (unhide Iua8).six) ?_
            clear hK K kk hh
            refine plan_do rfl (fun K hK => ?_)
            have z0 := (unhide Vua8).vc.1; have z1 := (unhide Vua8).vc.2.1; have z2 := (unhide Vua8).vc.2.2
            have f0 := (unhide Vua8).free 0; have f1 := (unhide Vua8).free 1; have f2 := (unhide Vua8).free 2
            go_simp
            obtain ⟨ua9, ee, vv, kk⟩ := (unhide Vua8).set (clampZ (mulQ a1 c2)) (clampZ (mulQ a2 c0)) (clampZ (mulQ a0 c1))
            rw [← ee]
            have Iua9 := hide ((unhide Iua8).kept2 kk (unhide LT))
            refine hK _ _ (fun _ => (unhide Iua9).six) ?_
            clear hK K z0 z1 z2 f0 f1 f2
            refine plan_end ?_
            go_wp2_with fail
            go_meet
            exact ⟨_, rfl, unhide LT, vv, unhide Iua9⟩
        · go_simp
          have kk : Below ua2.heap.size ua2 (ua2.alloc (.cells #[.int .i64 0, .int .i64 0, .int .i64 0] 23)) := (Below.refl _ _).alloc (Nat.le_refl _) _
          have Iua10 := hide ((unhide Iua2).below kk)
          have Vua10 := hide (VbAt.new ua2 0 0 0)
          have LT := hide (show w.heap.size + 1 + 1 + 1 < ua2.heap.size from (unhide Iua2).rk.lt)
          refine hK _ _ (fun _ => (unhide Iua10).six) ?_
          clear hK K kk
          generalize ua2.heap.size = L at *
          generalize ua2.alloc (.cells #[.int .i64 0, .int .i64 0, .int .i64 0] 23) = ua10 at *
          refine plan_do rfl (fun K hK => ?_)
          go_simp
          refine (turned_any c1 c2 c0 _).mono ?_
          rintro e ua11 ⟨rfl, kk⟩
          have Iua11 := hide ((unhide Iua10).below kk)
          have Vua11 := hide ((unhide Vua10).below kk)
          refine hK _ _ (fun _ => (unhide Iua11).six) ?_
          clear hK K kk
          refine plan_do rfl (fun K hK => ?_)
          go_simp
          refine (each_any _ _ opMul_ok opMul_in _ _ a1 a2 a0 c2 c0 c1 _ (unhide A1) (unhide A2) (unhide A0) (unhide C2) (unhide C0) (unhide C1) (unhide Iua11).rk).mono ?_
          rintro e ua12 ⟨rfl, hh, kk⟩
          have Iua12 := hide ((unhide Iua11).kept kk hh)
          have Vua12 := hide ((unhide Vua11).kept kk (Nat.ne_of_gt (unhide LT)))
          refine hK _ _ (fun _ => (unhide Iua12).six) ?_
          clear hK K kk hh
          refine plan_do rfl (fun K hK => ?_)
          have z0 := (unhide Vua12).vc.1; have z1 := (unhide Vua12).vc.2.1; have z2 := (unhide Vua12).vc.2.2
          have f0 := (unhide Vua12).free 0; have f1 := (unhide Vua12).free 1; have f2 := (unhide Vua12).free 2
          go_simp
          obtain ⟨ua13, ee, vv, kk⟩ := (unhide Vua12).set (clampZ (mulQ a1 c2)) (clampZ (mulQ a2 c0)) (clampZ (mulQ a0 c1))
          rw [← ee]
          have Iua13 := hide ((unhide Iua12).kept2 kk (unhide LT))
          refine hK _ _ (fun _ => (unhide Iua13).six) ?_
          clear hK K z0 z1 z2 f0 f1 f2
          refine plan_end ?_
          go_wp2_with fail
          go_meet
          exact ⟨_, rfl, unhide LT, vv, unhide Iua13⟩
      · go_simp
        have kk : Below ua1.heap.size ua1 (ua1.alloc (.cells #[.int .i64 0, .int .i64 0, .int .i64 0] 23)) := (Below.refl _ _).alloc (Nat.le_refl _) _
        have Iua14 := hide ((unhide Iua1).below kk)
        have Vua14 := hide (VbAt.new ua1 0 0 0)
        have LT := hide (show w.heap.size + 1 + 1 + 1 < ua1.heap.size from (unhide Iua1).rk.lt)
        refine hK _ _ (fun _ => (unhide Iua14).six) ?_
        clear hK K kk
        generalize ua1.heap.size = L at *
        generalize ua1.alloc (.cells #[.int .i64 0, .int .i64 0, .int .i64 0] 23) = ua14 at *
        refine plan_do rfl (fun K hK => ?_)
        go_simp
        refine (turned_any c0 c1 c2 _).mono ?_
        rintro e ua15 ⟨rfl, kk⟩
        have Iua15 := hide ((unhide Iua14).below kk)
        have Vua15 := hide ((unhide Vua14).below kk)
        refine hK _ _ (fun _ => (unhide Iua15).six) ?_
        clear hK K kk
        refine plan_do rfl (fun K hK => ?_)
        go_simp
        refine (turned_any c1 c2 c0 _).mono ?_
        rintro e ua16 ⟨rfl, kk⟩
        have Iua16 := hide ((unhide Iua15).below kk)
        have Vua16 := hide ((unhide Vua15).below kk)
        refine hK _ _ (fun _ => (unhide Iua16).six) ?_
        clear hK K kk
        refine plan_do rfl (fun K hK => ?_)
        go_simp
        refine (each_any _ _ opMul_ok opMul_in _ _ a1 a2 a0 c2 c0 c1 _ (unhide A1) (unhide A2) (unhide A0) (unhide C2) (unhide C0) (unhide C1) (unhide Iua16).rk).mono ?_
        rintro e ua17 ⟨rfl, hh, kk⟩
        have Iua17 := hide ((unhide Iua16).kept kk hh)
        have Vua17 := hide ((unhide Vua16).kept kk (Nat.ne_of_gt (unhide LT)))
        refine hK _ _ (fun _ => (unhide Iua17).six) ?_
        clear hK K kk hh
        refine plan_do rfl (fun K hK => ?_)
        have z0 := (unhide Vua17).vc.1; have z1 := (unhide Vua17).vc.2.1; have z2 := (unhide Vua17).vc.2.2
        have f0 := (unhide Vua17).free 0; have f1 := (unhide Vua17).free 1; have f2 := (unhide Vua17).free 2
        go_simp
        obtain ⟨ua18, ee, vv, kk⟩ := (unhide Vua17).set (clampZ (mulQ a1 c2)) (clampZ (mulQ a2 c0)) (clampZ (mulQ a0 c1))
        rw [← ee]
        have Iua18 := hide ((unhide Iua17).kept2 kk (unhide LT))
        refine hK _ _ (fun _ => (unhide Iua18).six) ?_
        clear hK K z0 z1 z2 f0 f1 f2
        refine plan_end ?_
        go_wp2_with fail
        go_meet
        exact ⟨_, rfl, unhide LT, vv, unhide Iua18⟩
    · go_simp
      have kk : Below u0.heap.size u0 (u0.alloc (.cells #[.int .i64 0, .int .i64 0, .int .i64 0] 23)) := (Below.refl _ _).alloc (Nat.le_refl _) _
      have Iua19 := hide ((unhide Iu0).below kk)
      have Vua19 := hide (VbAt.new u0 0 0 0)
      have LT := hide (show w.heap.size + 1 + 1 + 1 < u0.heap.size from (unhide Iu0).rk.lt)
      refine hK _ _ (fun _ => (unhide Iua19).six) ?_
      clear hK K kk
      generalize u0.heap.size = L at *
      generalize u0.alloc (.cells #[.int .i64 0, .int .i64 0, .int .i64 0] 23) = ua19 at *
      refine plan_do rfl (fun K hK => ?_)
      go_simp
      refine (turned_any a0 a1 a2 _).mono ?_
      rintro e ua20 ⟨rfl, kk⟩
      have Iua20 := hide ((unhide Iua19).below kk)
      have Vua20 := hide ((unhide Vua19).below kk)
      refine hK _ _ (fun _ => (unhide Iua20).six) ?_
      clear hK K kk
      refine plan_do rfl (fun K hK => ?_)
      go_simp
      refine (turned_any c0 c1 c2 _).mono ?_
      rintro e ua21 ⟨rfl, kk⟩
      have Iua21 := hide ((unhide Iua20).below kk)
      have Vua21 := hide ((unhide Vua20).below kk)
      refine hK _ _ (fun _ => (unhide Iua21).six) ?_
      clear hK K kk
      refine plan_do rfl (fun K hK => ?_)
      go_simp
      refine (turned_any c1 c2 c0 _).mono ?_
      rintro e ua22 ⟨rfl, kk⟩
      have Iua22 := hide ((unhide Iua21).below kk)
      have Vua22 := hide ((unhide Vua21).below kk)
      refine hK _ _ (fun _ => (unhide Iua22).six) ?_
      clear hK K kk
      refine plan_do rfl (fun K hK => ?_)
      go_simp
      refine (each_any _ _ opMul_ok opMul_in _ _ a1 a2 a0 c2 c0 c1 _ (unhide A1) (unhide A2) (unhide A0) (unhide C2) (unhide C0) (unhide C1) (unhide Iua22).rk).mono ?_
      rintro e ua23 ⟨rfl, hh, kk⟩
      have Iua23 := hide ((unhide Iua22).kept kk hh)
      have Vua23 := hide ((unhide Vua22).kept kk (Nat.ne_of_gt (unhide LT)))
      refine hK _ _ (fun _ => (unhide Iua23).six) ?_
      clear hK K kk hh
      refine plan_do rfl (fun K hK => ?_)
      have z0 := (unhide Vua23).vc.1; have z1 := (unhide Vua23).vc.2.1; have z2 := (unhide Vua23).vc.2.2
      have f0 := (unhide Vua23).free 0; have f1 := (unhide Vua23).free 1; have f2 := (unhide Vua23).free 2
      go_simp
      obtain ⟨ua24, ee, vv, kk⟩ := (unhide Vua23).set (clampZ (mulQ a1 c2)) (clampZ (mulQ a2 c0)) (clampZ (mulQ a0 c1))
      rw [← ee]
      have Iua24 := hide ((unhide Iua23).kept2 kk (unhide LT))
      refine hK _ _ (fun _ => (unhide Iua24).six) ?_
      clear hK K z0 z1 z2 f0 f1 f2
      refine plan_end ?_
      go_wp2_with fail
      go_meet
      exact ⟨_, rfl, unhide LT, vv, unhide Iua24⟩
  case rest =>
    obtain ⟨L7, rfl, lt7, v7, i7⟩ := hcut
    have LP := hide lt7; have P7 := hide v7; have I7 := hide i7
    clear lt7 v7 i7 I4 E4
    go_upto_region 3 with fail
    go_cut [8] (fun s wx => ∃ L : Nat, s = .pointer (some ⟨L, 0, none⟩) ∧ w.heap.size + 1 + 1 + 1 < L ∧ VbAt wx L (clampZ (mulQ a2 c1)) (clampZ (mulQ a0 c2)) (clampZ (mulQ a1 c0)) ∧ CrI w a0 a1 a2 c0 c1 c2 (bentZ (mulQ a1 c2) || bentZ (mulQ a2 c0) || bentZ (mulQ a0 c1) || bentZ (mulQ a2 c1) || bentZ (mulQ a0 c2) || bentZ (mulQ a1 c0)) wx ∧ VbAt wx L7 (clampZ (mulQ a1 c2)) (clampZ (mulQ a2 c0)) (clampZ (mulQ a0 c1)))
    case first =>
      refine region_plan (S := Six w.heap.size (w.heap.size + 1) a0 a1 a2 c0 c1 c2) (.rd 0 (.rd 3 (.two 1 6 (.two 2 6 (.two 4 6 (.two 5 6 (.go 6 (.go 7 .fin)) (.go 5 (.go 7 .fin))) (.go 4 (.go 5 (.go 7 .fin)))) (.go 2 (.go 4 (.go 5 (.go 7 .fin))))) (.go 1 (.go 2 (.go 4 (.go 5 (.go 7 .fin)))))))) [] (by kernel_rfl) (by kernel_rfl) ?_
      have Iu0 := hide ((unhide I7).drew)
      have Pu0 := hide (show VbAt wc.drew L7 (clampZ (mulQ a1 c2)) (clampZ (mulQ a2 c0)) (clampZ (mulQ a0 c1)) from unhide P7)
      clear I7 P7
      generalize wc.drew = u0 at *
      iterate 2
        refine plan_read (v := ?_) rfl (fun _ _ _ h => h) (by rfl) (unhide Iu0).six ?_ ?_
        rotate_left 1
        · intro wx hwx
          obtain ⟨k1, k2, k3, k4, k5, k6⟩ := hwx
          go_simp <;> exact rfl
        go_frame
      refine plan_two rfl rfl (fun K hK => ?_) (fun K hK => ?_)
      · go_simp
        refine (turned_any a0 a1 a2 _).mono ?_
        rintro e ub1 ⟨rfl, kk⟩
        have Iub1 := hide ((unhide Iu0).below kk)
        have Pub1 := hide ((unhide Pu0).below kk)
        refine hK _ _ (fun _ => (unhide Iub1).six) ?_
        clear hK K kk
        refine plan_two rfl rfl (fun K hK => ?_) (fun K hK => ?_)
        · go_simp
          refine (turned_any a1 a2 a0 _).mono ?_
          rintro e ub2 ⟨rfl, kk⟩
          have Iub2 := hide ((unhide Iub1).below kk)
          have Pub2 := hide ((unhide Pub1).below kk)
          refine hK _ _ (fun _ => (unhide Iub2).six) ?_
          clear hK K kk
          refine plan_two rfl rfl (fun K hK => ?_) (fun K hK => ?_)
          · go_simp
            refine (turned_any c0 c1 c2 _).mono ?_
            rintro e ub3 ⟨rfl, kk⟩
            have Iub3 := hide ((unhide Iub2).below kk)
            have Pub3 := hide ((unhide Pub2).below kk)
            refine hK _ _ (fun _ => (unhide Iub3).six) ?_
            clear hK K kk
            refine plan_two rfl rfl (fun K hK => ?_) (fun K hK => ?_)
            · go_simp
              refine (each_any _ _ opMul_ok opMul_in _ _ a2 a0 a1 c1 c2 c0 _ (unhide A2) (unhide A0) (unhide A1) (unhide C1) (unhide C2) (unhide C0) (unhide Iub3).rk).mono ?_
              rintro e ub4 ⟨rfl, hh, kk⟩
              have Iub4 := hide ((unhide Iub3).kept kk hh)
              have Pub4 := hide ((unhide Pub3).kept kk (Nat.ne_of_gt (unhide LP)))
              refine hK _ _ (fun _ => (unhide Iub4).six) ?_
              clear hK K kk hh
              refine plan_do rfl (fun K hK => ?_)
              go_simp
              have kk : Below ub4.heap.size ub4 (ub4.alloc (.cells #[.int .i64 0, .int .i64 0, .int .i64 0] 23)) := (Below.refl _ _).alloc (Nat.le_refl _) _
              have Iub5 := hide ((unhide Iub4).below kk)
              have Pub5 := hide ((unhide Pub4).below kk)
              have Vub5 := hide (VbAt.new ub4 0 0 0)
              have LT := hide (show w.heap.size + 1 + 1 + 1 < ub4.heap.size from (unhide Iub4).rk.lt)
              have LL := hide (show L7 < ub4.heap.size from (unhide Pub4).lt)
              refine hK _ _ (fun _ => (unhide Iub5).six) ?_
              clear hK K kk
              generalize ub4.heap.size = L at *
              generalize ub4.alloc (.cells #[.int .i64 0, .int .i64 0, .int .i64 0] 23) = ub5 at *
              refine plan_do rfl (fun K hK => ?_)
              have z0 := (unhide Vub5).vc.1; have z1 := (unhide Vub5).vc.2.1; have z2 := (unhide Vub5).vc.2.2
              have f0 := (unhide Vub5).free 0; have f1 := (unhide Vub5).free 1; have f2 := (unhide Vub5).free 2
              go_simp
              obtain ⟨ub6, ee, vv, kk⟩ := (unhide Vub5).set (clampZ (mulQ a2 c1)) (clampZ (mulQ a0 c2)) (clampZ (mulQ a1 c0))
              rw [← ee]
              have Iub6 := hide ((unhide Iub5).kept2 kk (unhide LT))
              have Pub6 := hide ((unhide Pub5).kept kk (Nat.ne_of_lt (unhide LL)))
              refine hK _ _ (fun _ => (unhide Iub6).six) ?_
              clear hK K z0 z1 z2 f0 f1 f2
              refine plan_end ?_
              go_wp2_with fail
              go_meet
              exact ⟨_, rfl, unhide LT, vv, unhide Iub6, unhide Pub6⟩
            · go_simp
              have kk : Below ub3.heap.size ub3 (ub3.alloc (.cells #[.int .i64 0, .int .i64 0, .int .i64 0] 23)) := (Below.refl _ _).alloc (Nat.le_refl _) _
              have Iub7 := hide ((unhide Iub3).below kk)
              have Pub7 := hide ((unhide Pub3).below kk)
              have Vub7 := hide (VbAt.new ub3 0 0 0)
              have LT := hide (show w.heap.size + 1 + 1 + 1 < ub3.heap.size from (unhide Iub3).rk.lt)
              have LL := hide (show L7 < ub3.heap.size from (unhide Pub3).lt)
              refine hK _ _ (fun _ => (unhide Iub7).six) ?_
              clear hK K kk
              generalize ub3.heap.size = L at *
              generalize ub3.alloc (.cells #[.int .i64 0, .int .i64 0, .int .i64 0] 23) = ub7 at *
              refine plan_do rfl (fun K hK => ?_)
              go_simp
              refine (each_any _ _ opMul_ok opMul_in _ _ a2 a0 a1 c1 c2 c0 _ (unhide A2) (unhide A0) (unhide A1) (unhide C1) (unhide C2) (unhide C0) (unhide Iub7).rk).mono ?_
              rintro e ub8 ⟨rfl, hh, kk⟩
              have Iub8 := hide ((unhide Iub7).kept kk hh)
              have Pub8 := hide ((unhide Pub7).kept kk (Nat.ne_of_gt (unhide LP)))
              have Vub8 := hide ((unhide Vub7).kept kk (Nat.ne_of_gt (unhide LT)))
              refine hK _ _ (fun _ => (unhide Iub8).six) ?_
              clear hK K kk hh
              refine plan_do rfl (fun K hK => ?_)
              have z0 := (unhide Vub8).vc.1; have z1 := (unhide Vub8).vc.2.1; have z2 := (unhide Vub8).vc.2.2
              have f0 := (unhide Vub8).free 0; have f1 := (unhide Vub8).free 1; have f2 := (unhide Vub8).free 2
              go_simp
              obtain ⟨ub9, ee, vv, kk⟩ := (unhide Vub8).set (clampZ (mulQ a2 c1)) (clampZ (mulQ a0 c2)) (clampZ (mulQ a1 c0))
              rw [← ee]
              have Iub9 := hide ((unhide Iub8).kept2 kk (unhide LT))
              have Pub9 := hide ((unhide Pub8).kept kk (Nat.ne_of_lt (unhide LL)))
              refine hK _ _ (fun _ => (unhide Iub9).six) ?_
              clear hK K z0 z1 z2 f0 f1 f2
              refine plan_end ?_
              go_wp2_with fail
              go_meet
              exact ⟨_, rfl, unhide LT, vv, unhide Iub9, unhide Pub9⟩
          · go_simp
            have kk : Below ub2.heap.size ub2 (ub2.alloc (.cells #[.int .i64 0, .int .i64 0, .int .i64 0] 23)) := (Below.refl _ _).alloc (Nat.le_refl _) _
            have Iub10 := hide ((unhide Iub2).below kk)
            have Pub10 := hide ((unhide Pub2).below kk)
            have Vub10 := hide (VbAt.new ub2 0 0 0)
            have LT := hide (show w.heap.size + 1 + 1 + 1 < ub2.heap.size from (unhide Iub2).rk.lt)
            have LL := hide (show L7 < ub2.heap.size from (unhide Pub2).lt)
            refine hK _ _ (fun _ => (unhide Iub10).six) ?_
            clear hK K kk
            generalize ub2.heap.size = L at *
            generalize ub2.alloc (.cells #[.int .i64 0, .int .i64 0, .int .i64 0] 23) = ub10 at *
            refine plan_do rfl (fun K hK => ?_)
            go_simp
            refine (turned_any c0 c1 c2 _).mono ?_
            rintro e ub11 ⟨rfl, kk⟩
            have Iub11 := hide ((unhide Iub10).below kk)
            have Pub11 := hide ((unhide Pub10).below kk)
            have Vub11 := hide ((unhide Vub10).below kk)
            refine hK _ _ (fun _ => (unhide Iub11).six) ?_
            clear hK K kk
            refine plan_do rfl (fun K hK => ?_)
            go_simp
            refine (each_any _ _ opMul_ok opMul_in _ _ a2 a0 a1 c1 c2 c0 _ (unhide A2) (unhide A0) (unhide A1) (unhide C1) (unhide C2) (unhide C0) (unhide Iub11).rk).mono ?_
            rintro e ub12 ⟨rfl, hh, kk⟩
            have Iub12 := hide ((unhide Iub11).kept kk hh)
            have Pub12 := hide ((unhide Pub11).kept kk (Nat.ne_of_gt (unhide LP)))
            have Vub12 := hide ((unhide Vub11).kept kk (Nat.ne_of_gt (unhide LT)))
            refine hK _ _ (fun _ => (unhide Iub12).six) ?_
            clear hK K kk hh
            refine plan_do rfl (fun K hK => ?_)
            have z0 := (unhide Vub12).vc.1; have z1 := (unhide Vub12).vc.2.1; have z2 := (unhide Vub12).vc.2.2
            have f0 := (unhide Vub12).free 0; have f1 := (unhide Vub12).free 1; have f2 := (unhide Vub12).free 2
            go_simp
            obtain ⟨ub13, ee, vv, kk⟩ := (unhide Vub12).set (clampZ (mulQ a2 c1)) (clampZ (mulQ a0 c2)) (clampZ (mulQ a1 c0))
            rw [← ee]
            have Iub13 := hide ((unhide Iub12).kept2 kk (unhide LT))
            have Pub13 := hide ((unhide Pub12).kept kk (Nat.ne_of_lt (unhide LL)))
            refine hK _ _ (fun _ => (unhide Iub13).six) ?_
            clear hK K z0 z1 z2 f0 f1 f2
            refine plan_end ?_
            go_wp2_with fail
            go_meet
            exact ⟨_, rfl, unhide LT, vv, unhide Iub13, unhide Pub13⟩
        · go_simp
          have kk : Below ub1.heap.size ub1 (ub1.alloc (.cells #[.int .i64 0, .int .i64 0, .int .i64 0] 23)) := (Below.refl _ _).alloc (Nat.le_refl _) _
          have Iub14 := hide ((unhide Iub1).below kk)
          have Pub14 := hide ((unhide Pub1).below kk)
          have Vub14 := hide (VbAt.new ub1 0 0 0)
          have LT := hide (show w.heap.size + 1 + 1 + 1 < ub1.heap.size from (unhide Iub1).rk.lt)
          have LL := hide (show L7 < ub1.heap.size from (unhide Pub1).lt)
          refine hK _ _ (fun _ => (unhide Iub14).six) ?_
          clear hK K kk
          generalize ub1.heap.size = L at *
          generalize ub1.alloc (.cells #[.int .i64 0, .int .i64 0, .int .i64 0] 23) = ub14 at *
          refine plan_do rfl (fun K hK => ?_)
          go_simp
          refine (turned_any a1 a2 a0 _).mono ?_
          rintro e ub15 ⟨rfl, kk⟩
          have Iub15 := hide ((unhide Iub14).below kk)
          have Pub15 := hide ((unhide Pub14).below kk)
          have Vub15 := hide ((unhide Vub14).below kk)
          refine hK _ _ (fun _ => (unhide Iub15).six) ?_
          clear hK K kk
          refine plan_do rfl (fun K hK => ?_)
          go_simp
          refine (turned_any c0 c1 c2 _).mono ?_
          rintro e ub16 ⟨rfl, kk⟩
          have Iub16 := hide ((unhide Iub15).below kk)
          have Pub16 := hide ((unhide Pub15).below kk)
          have Vub16 := hide ((unhide Vub15).below kk)
          refine hK _ _ (fun _ => (unhide Iub16).six) ?_
          clear hK K kk
          refine plan_do rfl (fun K hK => ?_)
          go_simp
          refine (each_any _ _ opMul_ok opMul_in _ _ a2 a0 a1 c1 c2 c0 _ (unhide A2) (unhide A0) (unhide A1) (unhide C1) (unhide C2) (unhide C0) (unhide Iub16).rk).mono ?_
          rintro e ub17 ⟨rfl, hh, kk⟩
          have Iub17 := hide ((unhide Iub16).kept kk hh)
          have Pub17 := hide ((unhide Pub16).kept kk (Nat.ne_of_gt (unhide LP)))
          have Vub17 := hide ((unhide Vub16).kept kk (Nat.ne_of_gt (unhide LT)))
          refine hK _ _ (fun _ => (unhide Iub17).six) ?_
          clear hK K kk hh
          refine plan_do rfl (fun K hK => ?_)
          have z0 := (unhide Vub17).vc.1; have z1 := (unhide Vub17).vc.2.1; have z2 := (unhide Vub17).vc.2.2
          have f0 := (unhide Vub17).free 0; have f1 := (unhide Vub17).free 1; have f2 := (unhide Vub17).free 2
          go_simp
          obtain ⟨ub18, ee, vv, kk⟩ := (unhide Vub17).set (clampZ (mulQ a2 c1)) (clampZ (mulQ a0 c2)) (clampZ (mulQ a1 c0))
          rw [← ee]
          have Iub18 := hide ((unhide Iub17).kept2 kk (unhide LT))
          have Pub18 := hide ((unhide Pub17).kept kk (Nat.ne_of_lt (unhide LL)))
          refine hK _ _ (fun _ => (unhide Iub18).six) ?_
          clear hK K z0 z1 z2 f0 f1 f2
          refine plan_end ?_
          go_wp2_with fail
          go_meet
          exact ⟨_, rfl, unhide LT, vv, unhide Iub18, unhide Pub18⟩
      · go_simp
        have kk : Below u0.heap.size u0 (u0.alloc (.cells #[.int .i64 0, .int .i64 0, .int .i64 0] 23)) := (Below.refl _ _).alloc (Nat.le_refl _) _
        have Iub19 := hide ((unhide Iu0).below kk)
        have Pub19 := hide ((unhide Pu0).below kk)
        have Vub19 := hide (VbAt.new u0 0 0 0)
        have LT := hide (show w.heap.size + 1 + 1 + 1 < u0.heap.size from (unhide Iu0).rk.lt)
        have LL := hide (show L7 < u0.heap.size from (unhide Pu0).lt)
        refine hK _ _ (fun _ => (unhide Iub19).six) ?_
        clear hK K kk
        generalize u0.heap.size = L at *
        generalize u0.alloc (.cells #[.int .i64 0, .int .i64 0, .int .i64 0] 23) = ub19 at *
        refine plan_do rfl (fun K hK => ?_)
        go_simp
        refine (turned_any a0 a1 a2 _).mono ?_
        rintro e ub20 ⟨rfl, kk⟩
        have Iub20 := hide ((unhide Iub19).below kk)
        have Pub20 := hide ((unhide Pub19).below kk)
        have Vub20 := hide ((unhide Vub19).below kk)
        refine hK _ _ (fun _ => (unhide Iub20).six) ?_
        clear hK K kk
        refine plan_do rfl (fun K hK => ?_)
        go_simp
        refine (turned_any a1 a2 a0 _).mono ?_
        rintro e ub21 ⟨rfl, kk⟩
        have Iub21 := hide ((unhide Iub20).below kk)
        have Pub21 := hide ((unhide Pub20).below kk)
        have Vub21 := hide ((unhide Vub20).below kk)
        refine hK _ _ (fun _ => (unhide Iub21).six) ?_
        clear hK K kk
        refine plan_do rfl (fun K hK => ?_)
        go_simp
        refine (turned_any c0 c1 c2 _).mono ?_
        rintro e ub22 ⟨rfl, kk⟩
        have Iub22 := hide ((unhide Iub21).below kk)
        have Pub22 := hide ((unhide Pub21).below kk)
        have Vub22 := hide ((unhide Vub21).below kk)
        refine hK _ _ (fun _ => (unhide Iub22).six) ?_
        clear hK K kk
        refine plan_do rfl (fun K hK => ?_)
        go_simp
        refine (each_any _ _ opMul_ok opMul_in _ _ a2 a0 a1 c1 c2 c0 _ (unhide A2) (unhide A0) (unhide A1) (unhide C1) (unhide C2) (unhide C0) (unhide Iub22).rk).mono ?_
        rintro e ub23 ⟨rfl, hh, kk⟩
        have Iub23 := hide ((unhide Iub22).kept kk hh)
        have Pub23 := hide ((unhide Pub22).kept kk (Nat.ne_of_gt (unhide LP)))
        have Vub23 := hide ((unhide Vub22).kept kk (Nat.ne_of_gt (unhide LT)))
        refine hK _ _ (fun _ => (unhide Iub23).six) ?_
        clear hK K kk hh
        refine plan_do rfl (fun K hK => ?_)
        have z0 := (unhide Vub23).vc.1; have z1 := (unhide Vub23).vc.2.1; have z2 := (unhide Vub23).vc.2.2
        have f0 := (unhide Vub23).free 0; have f1 := (unhide Vub23).free 1; have f2 := (unhide Vub23).free 2
        go_simp
        obtain ⟨ub24, ee, vv, kk⟩ := (unhide Vub23).set (clampZ (mulQ a2 c1)) (clampZ (mulQ a0 c2)) (clampZ (mulQ a1 c0))
        rw [← ee]
        have Iub24 := hide ((unhide Iub23).kept2 kk (unhide LT))
        have Pub24 := hide ((unhide Pub23).kept kk (Nat.ne_of_lt (unhide LL)))
        refine hK _ _ (fun _ => (unhide Iub24).six) ?_
        clear hK K z0 z1 z2 f0 f1 f2
        refine plan_end ?_
        go_wp2_with fail
        go_meet
        exact ⟨_, rfl, unhide LT, vv, unhide Iub24, unhide Pub24⟩
    case rest =>
      obtain ⟨L8, rfl, lt8, v8, i8, p8⟩ := hcut
      have LQ := hide lt8; have Q8 := hide v8; have I8 := hide i8; have P8 := hide p8
      have z0 := p8.vc.1; have z1 := p8.vc.2.1; have z2 := p8.vc.2.2
      have y0 := v8.vc.1; have y1 := v8.vc.2.1; have y2 := v8.vc.2.2
      clear lt8 v8 i8 p8 I7 P7
      go_wp2_with fail
      refine (each_any _ _ opSub_ok opSub_in _ _ (clampZ (mulQ a1 c2)) (clampZ (mulQ a2 c0)) (clampZ (mulQ a0 c1)) (clampZ (mulQ a2 c1)) (clampZ (mulQ a0 c2)) (clampZ (mulQ a1 c0)) _ (clampZ_R _) (clampZ_R _) (clampZ_R _) (clampZ_R _) (clampZ_R _) (clampZ_R _) (unhide I8).rk).mono ?_
      rintro e w9 ⟨rfl, h9, k9⟩
      have I9 := hide ((unhide I8).kept k9 h9)
      have q0 := h9.cell0
      have lt9 : w.heap.size + 1 + 1 + 1 < w9.heap.size := h9.lt
      have lt10 : w.heap.size + 1 + 1 < w9.heap.size := by omega
      clear z0 z1 z2 y0 y1 y2 h9 k9
      have z0 := (unhide I9).res.vc.1; have z1 := (unhide I9).res.vc.2.1; have z2 := (unhide I9).res.vc.2.2
      have f0 := (unhide I9).res.free 0; have f1 := (unhide I9).res.free 1; have f2 := (unhide I9).res.free 2
      go_wp2_with fail
      go_region
      go_wp2_with fail
      obtain ⟨w10, e10, v10, k10⟩ := (unhide I9).res.set (clampZ (clampZ (mulQ a1 c2) - clampZ (mulQ a2 c1))) (clampZ (clampZ (mulQ a2 c0) - clampZ (mulQ a0 c2))) (clampZ (clampZ (mulQ a0 c1) - clampZ (mulQ a1 c0)))
      rw [← e10]
      have p0 := v10.vc.1; have p1 := v10.vc.2.1; have p2 := v10.vc.2.2
      have l10 := v10.lt
      refine bodyPost_ret (v := crossV a0 a1 a2 c0 c1 c2) (by simp [results, Try.results17, go_sem, p0, p1, p2, l10, crossV, Bool.or_assoc]) rfl ⟨rfl, ?_⟩
      have h := below_of_kept (unhide I9).bel k10 (by omega) (unhide I9).bel.size
      exact below_drew (h.alloc h.size _)

end Go.Proofs.Ythkfdlfgehdppaa
