/- Joined: RefNod9, NodD1, NodD2. -/
import Derived.Test.YthimcecbgpamdaaGreatNear105
import Derived.Test.YthimcecbgpamdaaGreatNear151
import Derived.Test.YthimcecbgpamdaaGreatNear140
import Derived.Test.YthimcecbgpamdaaGreatNear169
import Derived.Test.YthimcecbgpamdaaGreatNear157
import Derived.Test.YthimcecbgpamdaaGreatNear90
import Derived.Test.YthimcecbgpamdaaGreatNear91
import Derived.Test.YthimcecbgpamdaaGreatNear160
namespace Go.Proofs.YthimcecbgpamdaaGreat
open Go.RowKit

instance iRefNod9_1 : EntK Tryz.prog 46 := ⟨fun args w => by go_simp⟩
instance iRefNod9_2 : EntK Tryz.prog 48 := ⟨fun args w => by go_simp⟩
abbrev dcN (n : Nd) (l : List Ms) (x i : Nat) : Nd := NA n (agP n l x i) (usP n l x) (axP n l x)
abbrev dcO (w : World) (n : Nd) (l : List Ms) (x i : Nat) (v : Value) : It := ownI w.heap.size 3 1 v (insL n.rl.I (fun s => decG n l s x) i).length ((insL n.rl.I (fun s => decG n l s x) i).map iV)
set_option maxRecDepth 10000 in
set_option maxHeartbeats 4000000 in
theorem refDecide_ok : PhOK decN decM 25 := by
  intro n ao c mo mc L w hok hag hmr hN hmc hRL
  have hag : Sr w ao n.vA.length c (tF (bA n)) := hag
  refine enterF Tryz.func25 rfl 99 rfl (of_decide_eq_true rfl) (fun A hs hd hb => ?_)
  have b0 : A.eval (.tmp 0) = agV (ndF n (.slice ao n.vA.length c)) 0 74 := hb 0 _ rfl
  have b1 : A.eval (.tmp 1) = .slice mo L.length mc := hb 1 _ rfl
  clear hb
  have H := Cx.start w
  refine c_rs (m_start ?_)
  refine q_box H ?_
  clear H
  intro w1 H z1
  refine q_al H ?_
  clear H
  intro w2 H z2
  refine q_al H ?_
  clear H
  intro w3 H z3
  refine l_nx ?_
  refine c_rs ?_
  refine qa ?_
  refine q_c1 (show Calls _ _ #[agV (ndF n (.slice ao n.vA.length c)) 0 74] _ _ from refCopy_any n ao c _ (hag.below H.bel) hok.vA) ?_
  rintro e w4 ⟨a3, c3, rfl, o4, k4⟩
  refine ⟨agV (ndF n (.slice a3 n.vA.length c3)) 0 74, rfl, ?_⟩
  have hsz := H.size
  replace H := H.add k4 (agR w n a3 c3) (rw_base o4 hsz) (fun j e => (o4.lt j e).1)
  refine q_sp H.a3 stP_whole (ndF_one _ _ _ _) ?_
  clear H
  intro w5 H z5
  refine l_nx ?_
  refine c_nx ?_
  refine c_rs ?_
  refine qa ?_
  refine q_c1 (show Calls _ _ #[agV (ndF n (.slice a3 n.vA.length c3)) 0 74] _ _ from refNone_any n _ _) ?_
  rintro e w6 ⟨rfl, k6⟩
  refine ⟨_, rfl, ?_⟩
  replace H := H.call k6
  refine l_nx ?_
  refine q_if (fun hno => ?_) (fun hno => ?_)
  · refine c_rs ?_
    refine qa ?_
    refine qg (run_bld0 rfl _) ?_
    refine q_sp H.a2 stP_whole (ndF_one _ _ _ _) ?_
    clear H
    intro w7 H z7
    refine q_sp H.a1 stP_whole (msF_one _ _ _ _ _ _) ?_
    clear H
    intro w8 H z8
    refine l_nx ?_
    have e1 : decN n (L.map Lm.m) = n := by unfold decN; rw [if_pos hno]
    have e2 : decM n (L.map Lm.m) = zeroM := by unfold decM; rw [if_pos hno]
    rw [e1, e2]
    exact c_ret (r_nx (ret_of ((defL _ _).trans hd) (res_cc rfl Qv Qv ManyK.out ManyK.out H.v2 (Nat.le_refl _) H.v1 (Nat.le_refl _)) ⟨a3, c3, none, 0, rfl, H.o0, World.ownsRow_nil _ _ _ _, H.bel⟩))
  obtain ⟨h0, h3⟩ := noN_in hno
  obtain ⟨I, hI⟩ : ∃ I : Nat, n.id = (I : Int) := ⟨n.id.toNat, by omega⟩
  have hI4 : I < 4 := by omega
  refine c_fin ?_
  refine c_nx ?_
  refine c_rs ?_
  refine qa ?_
  refine l_nx ?_
  refine c_block ?_
  refine c_loop (fun r A W => ∃ x : Nat, x ≤ 3 ∧ 3 - x ≤ r ∧ dcA 99 A w w1 w2 (.slice mo L.length mc) ∧ A.eval (.tmp 6) = .int .i64 (x : Int) ∧ Cx w W (dcBn w w1 w2 n (dcN n (L.map Lm.m) x 0) a3 c3)) 3
    ⟨0, by omega, by omega, ⟨(szL _ _).trans hs, (defL _ _).trans hd, Qv, Qv, Qv, Qv⟩, Qv, ?_⟩ (fun r A W hJ => ?_)
  · rw [show dcN n (L.map Lm.m) 0 0 = n from NA_zero]
    exact H
  clear b0 b1 hs hd H
  obtain ⟨x, hx, hxr, ⟨hs, hd, b1, b2, b4, b5⟩, b6, H⟩ := hJ
  refine c_nx ?_
  refine c_rs (m_start ?_)
  iterate 2 refine qa ?_
  refine l_nx ?_
  refine q_if (fun h => ?_) (fun h => ?_)
  · have hx3 : x < 3 := by have := of_decide_eq_true h; omega
    refine c_fin ?_
    refine c_nx (c_block ?_)
    refine c_rs ?_
    refine qa ?_
    refine l_nx ?_
    refine c_nx ?_
    refine c_rs ?_
    refine qa ?_
    refine l_nx ?_
    refine c_block ?_
    refine c_loop (fun r A W => ∃ (i : Nat) (v : Value), i ≤ 4 ∧ 4 - i ≤ r ∧ dcA 99 A w w1 w2 (.slice mo L.length mc) ∧ A.eval (.tmp 6) = .int .i64 (x : Int) ∧ A.eval (.tmp 7) = v ∧ A.eval (.tmp 8) = .int .i64 (i : Int) ∧ Cx w W (dcO w n (L.map Lm.m) x i v :: dcBn w w1 w2 n (dcN n (L.map Lm.m) x i) a3 c3)) 4
      ⟨0, _, by omega, by omega, ⟨(szL _ _).trans hs, (defL _ _).trans hd, Qv, Qv, Qv, Qv⟩, Qv, Qv, Qv, H.add (Below.refl _ _) (dcO w n (L.map Lm.m) x 0 _) (World.ownsRow_nil _ _ _ _) (fun j e => nomatch e)⟩ (fun r A W hJ => ?_)
    clear b1 b2 b4 b5 b6 hs hd H
    obtain ⟨i, v, hi, hir, ⟨hs, hd, b1, b2, b4, b5⟩, b6, b7, b8, H⟩ := hJ
    have hll := insL_len n.rl.I (fun s => decG n (L.map Lm.m) s x) i
    refine c_nx ?_
    refine c_rs (m_start ?_)
    iterate 2 refine qa ?_
    refine l_nx ?_
    refine q_if (fun h => ?_) (fun h => ?_)
    · have hi4 : i < 4 := by have := of_decide_eq_true h; omega
      refine c_fin ?_
      refine c_nx (c_block ?_)
      refine c_nx ?_
      replace H := H.drew
      refine c_rj (S := fun V => Vh 37 V w.heap.size 74 74 (ndF (dcN n (L.map Lm.m) x i) (.slice a3 n.vA.length c3))) (.mv 0 (.mv 1 (.rd 2 (.mv 3 (.mv 4 (.mv 5 (.mv 6 (.mv 7 (.mv 8 (.mv 9 (.rd 10 (.mv 11 (.mv 12 (.mv 13 (.mv 14 (.mv 16 (.mv 17 (.go 15 (.mv 18 (.go 19 .fin)))))))))))))))))))) [15, 19] (by kernel_rfl) (by kernel_rfl) ?_
      iterate 2 refine qj ?_
      refine j_rd rfl rfl (fun _ _ _ h => h) (wanted_rd rfl) H.v4 (fun _ h => run_loadP _ _ rfl ManyK.out Qv h (by decide)) ?_
      iterate 5 refine qj ?_
      refine j_mv rfl rfl (fun _ _ _ h => h) (wanted_rd rfl) (fun w => run_ixG _ _ _ _ rfl ArrK.out SizK.out Qv Qv rfl hi4 w) ?_
      refine j_mv rfl rfl (fun _ _ _ h => h) (wanted_rd rfl) (fun w => run_ixG _ _ _ _ rfl ArrK.out SizK.out Qv Qv rfl hx3 w) ?_
      refine j_rd rfl rfl (fun _ _ _ h => h) (wanted_rd rfl) H.v4 (fun _ h => run_lod1 _ _ rfl OneK.out Qv h (by omega) (ndF_di _ _ hi4 hx3)) ?_
      refine qj ?_
      refine j_mv rfl rfl (fun _ _ _ h => h) (wanted_rd rfl) (fun _ => run_mulN _ _ rfl (ev_const _ _) Qv (by omega) (by omega) _) ?_
      refine qj ?_
      refine j_mv rfl rfl (fun _ _ _ h => h) (wanted_rd rfl) (fun _ => run_addI _ _ rfl Qv Qv (by omega) (by omega) _) ?_
      refine qj ?_
      refine j_mv rfl rfl (fun _ _ _ h => h) (wanted_rd rfl) (fun w => run_ixG _ _ _ _ rfl ArrK.out SizK.out Qv Qv rfl hi4 w) ?_
      refine j_do rfl rfl (wanted_rd rfl) (fun K hK => wp_call6 _ 45 _ _ _ _ _ _ _ rfl Qv Qv Qv Qv (Eq.trans Qv (by rw [Int.natCast_add, Int.natCast_mul]; rfl)) (ev_const _ _) (enter_taken _ _ _ _ _ _ _) (refTaken_any (dcN n (L.map Lm.m) x i) (.slice a3 n.vA.length c3) mo mc L I i (n.di i x) (3 * i + x) 12 _ hI hI4 hi4 (by omega) (hmr.below H.bel) hN) ?_)
      rintro e w9 ⟨rfl, k9⟩
      refine ⟨_, rfl, hK _ _ (fun h => absurd h (by decide)) ?_⟩
      clear hK K
      replace H := H.call k9
      refine j_mv rfl rfl (fun _ _ _ h => h) (wanted_rd rfl) (fun w => run_ixG _ _ _ _ rfl ArrK.out SizK.out Qv Qv rfl hx3 w) ?_
      refine j_st rfl (wanted_rd rfl) (fun K hK => wp_sto1 _ _ _ _ rfl OneK.out Qv Qv H.v4 (by omega) rfl rfl rfl (fun V m k z => hK _ (fun h => absurd h (by decide)) ?_))
      replace H := H.a4.s k (m.congr (upd_agN hi4 hx3))
      refine j_nx ?_
      refine c_rs ?_
      iterate 3 refine qa ?_
      refine qg (run_ixG _ _ _ _ rfl ArrK.out SizK.out Qv Qv rfl hi4 _) ?_
      refine qg (run_lod1 _ _ rfl OneK.out Qv H.v4 (by omega) (ndF_in _ _ hi4)) ?_
      refine l_nx ?_
      refine q_if (fun hb => ?_) (fun hb => ?_)
      · refine c_region ?_
        iterate 4 refine qa ?_
        refine qg (run_ixG _ _ _ _ rfl ArrK.out SizK.out Qv Qv rfl hi4 _) ?_
        refine qg (run_ixG _ _ _ _ rfl ArrK.out SizK.out Qv Qv rfl hx3 _) ?_
        refine qg (run_lod1 _ _ rfl OneK.out Qv H.v4 (by omega) ((ndF_ag _ _ hi4 hx3).trans (congrArg (Value.int .i64) (agP_at hi4)))) ?_
        refine m_do rfl (wanted_rd rfl) (fun K hK => wp_one1 (v := iV (decG n (L.map Lm.m) i x)) SlcK.out OneK.out Zer1.out rfl rfl rfl Qv (fun V m k z => hK _ _ ?_))
        replace H := H.call k
        refine q_ap (bytes := 8) H.a0 (rdc_one m) (fun u hu => by rw [List.mem_singleton.1 hu]; rfl) (by unfold maxLen; omega) (by omega) ?_
        clear H
        intro v' V2 H
        refine qa ?_
        refine l_finB ?_
        refine c_region ?_
        iterate 3 refine qa ?_
        exact l_round ⟨4 - (i + 1), by omega, i + 1, v', by omega, by omega, ⟨(szL _ _).trans hs, (defL _ _).trans hd, Qv, Qv, Qv, Qv⟩, Qv, Qv, Eq.trans Qv (by rw [Int.natCast_add]; rfl), by unfold dcO; rw [ins_t (show n.rl.I i = true from hb), List.length_append, List.map_append]; exact H⟩
      · refine c_finB ?_
        refine c_region ?_
        iterate 3 refine qa ?_
        exact l_round ⟨4 - (i + 1), by omega, i + 1, v, by omega, by omega, ⟨(szL _ _).trans hs, (defL _ _).trans hd, Qv, Qv, Qv, Qv⟩, Qv, Qv, Eq.trans Qv (by rw [Int.natCast_add]; rfl), by unfold dcO; rw [ins_f (show n.rl.I i = false from hb)]; exact H⟩
    obtain rfl : i = 4 := by have := of_decide_eq_false h; omega
    refine c_exit (x_out ?_)
    refine c_rs ?_
    obtain ⟨vo, vc, rfl, hvc⟩ := rw_slice H.o0
    have ov : World.ownsRow _ _ _ _ _ _ _ := H.o0
    rw [gL_map] at ov
    iterate 2 refine qa ?_
    refine q_c1 (show Calls _ _ #[.slice vo _ vc] _ _ from refMid_any vo vc _ _ (by omega) (ins_R (fun s => decG_R hok hRL s x) 4) (owns_rd ov)) ?_
    rintro e w9 ⟨E, rfl, k9⟩
    refine ⟨_, rfl, ?_⟩
    replace H := H.call k9
    refine qa ?_
    refine qg (run_extA _ rfl Qv _) ?_
    refine qg (run_extB _ rfl Qv _) ?_
    refine qa ?_
    refine qg (run_ixG _ _ _ _ rfl ArrK.out SizK.out Qv Qv rfl hx3 _) ?_
    refine q_st H.a4 (upd_usN hx3) ?_
    clear H
    intro w10 H z10
    refine l_nx ?_
    replace H := H.drew
    refine c_rj (S := fun V => Vh 37 V w.heap.size 74 74 (ndF (NA n (agP n (L.map Lm.m) x 4) (usP n (L.map Lm.m) (x + 1)) (axP n (L.map Lm.m) x)) (.slice a3 n.vA.length c3))) (.mv 0 (.mv 1 (.mv 2 (.mv 3 (.rd 4 (.mv 5 (.rd 6 (.mv 7 (.mv 8 (.mv 9 (.rd 10 (.mv 15 (.go 11 (.mv 12 (.mv 13 (.mv 14 (.mv 16 (.go 17 .fin)))))))))))))))))) [11, 17] (by kernel_rfl) (by kernel_rfl) ?_
    iterate 3 refine qj ?_
    refine j_mv rfl rfl (fun _ _ _ h => h) (wanted_rd rfl) (fun w => run_ixG _ _ _ _ rfl ArrK.out SizK.out Qv Qv rfl hx3 w) ?_
    refine j_rd rfl rfl (fun _ _ _ h => h) (wanted_rd rfl) H.v4 (fun _ h => run_loadPe _ _ rfl ManyK.out Qv h (by omega) (h := nstF (n.ax x)) (fun j hj => (ndF_ax _ _ hx3 j hj).trans (congrArg (fun s => nstF s j) axP_at))) ?_
    refine qj ?_
    refine j_rd rfl rfl (fun _ _ _ h => h) (wanted_rd rfl) H.v4 (fun _ h => run_loadPe _ _ rfl ManyK.out Qv h (by omega) (ndF_tn _ _)) ?_
    iterate 2 refine qj ?_
    refine j_mv rfl rfl (fun _ _ _ h => h) (wanted_rd rfl) (fun w => run_ixG _ _ _ _ rfl ArrK.out SizK.out Qv Qv rfl hx3 w) ?_
    refine j_rd rfl rfl (fun _ _ _ h => h) (wanted_rd rfl) H.v4 (fun _ h => run_lod1 _ _ rfl OneK.out Qv h (by omega) ((ndF_us _ _ hx3).trans (congrArg (Value.int .i64) usP_at))) ?_
    refine qj ?_
    refine j_do rfl rfl (wanted_rd rfl) (fun K hK => wp_call3n _ 47 _ _ _ _ rfl Qv Qv Qv (enter_fstep _ _ _ _) (refStep_any (n.ax x) n.tn (decU n (L.map Lm.m) x) _ (hok.ax x) hok.tn (decU_R hok hRL x)) ?_)
    rintro e w11 ⟨rfl, k11⟩
    refine ⟨_, rfl, hK _ _ (fun h => absurd h (by decide)) ?_⟩
    clear hK K
    replace H := H.call k11
    refine qj ?_
    refine j_mv rfl rfl (fun _ _ _ h => h) (wanted_rd rfl) (fun _ => run_extA _ rfl Qv _) ?_
    refine j_mv rfl rfl (fun _ _ _ h => h) (wanted_rd rfl) (fun _ => run_extB _ rfl Qv _) ?_
    refine j_mv rfl rfl (fun _ _ _ h => h) (wanted_rd rfl) (fun w => run_ixG _ _ _ _ rfl ArrK.out SizK.out Qv Qv rfl hx3 w) ?_
    refine j_st rfl (wanted_rd rfl) (fun K hK => wp_storeP _ _ _ _ rfl ManyK.out (f := nstF (decA n (L.map Lm.m) x)) Qv Qv H.v4 (by omega) (nstF_one _) rfl (fun V m k z => hK _ (fun h => absurd h (by decide)) ?_))
    replace H := H.a4.s k (m.congr (upd_axN hx3))
    refine j_finB ?_
    refine c_region ?_
    iterate 3 refine qa ?_
    exact l_round ⟨3 - (x + 1), by omega, x + 1, by omega, by omega, ⟨(szL _ _).trans hs, (defL _ _).trans hd, Qv, Qv, Qv, Qv⟩, Eq.trans Qv (by rw [Int.natCast_add]; rfl), H.tl⟩
  obtain rfl : x = 3 := by have := of_decide_eq_false h; omega
  unfold dcBn dcN at H
  rw [NA_done] at H
  refine c_exit (x_out ?_)
  refine c_rs ?_
  refine qa ?_
  refine q_c1 (show Calls _ _ #[agV (ndF (NA n (decG n (L.map Lm.m)) (decU n (L.map Lm.m)) (decA n (L.map Lm.m))) (.slice a3 n.vA.length c3)) 0 74] _ _ from refDigest_any (NA n (decG n (L.map Lm.m)) (decU n (L.map Lm.m)) (decA n (L.map Lm.m))) (.slice a3 n.vA.length c3) _ ⟨fun a => stepS_ok (hok.ax a) _ _⟩) ?_
  rintro e w9 ⟨rfl, k9⟩
  refine ⟨_, rfl, ?_⟩
  replace H := H.call k9
  refine qa ?_
  refine q_st H.a3 (upd_dg _ _ (decD n (L.map Lm.m))) ?_
  clear H
  intro w10 H z10
  refine l_nx ?_
  refine c_rs ?_
  iterate 5 refine qa ?_
  refine qg (run_ixG _ _ _ _ rfl ArrK.out SizK.out Qv Qv hI hI4 _) ?_
  refine q_st H.a3 (upd_heAt _ _ (decD n (L.map Lm.m)) I hI4) ?_
  clear H
  intro w11 H z11
  refine l_nx ?_
  refine c_nx ?_
  replace H : Cx w _ (dcBn w w1 w2 n (dcF n (L.map Lm.m) I) a3 c3) := H.drew
  have e1 : decN n (L.map Lm.m) = dcF n (L.map Lm.m) I := by unfold decN; rw [if_neg (by rw [hno]; decide), dec_he hI]
  have e2 : decM n (L.map Lm.m) = ⟨3, n.id, n.fr, [decD n (L.map Lm.m)]⟩ := by unfold decM; rw [if_neg (by rw [hno]; decide)]
  rw [e1, e2]
  refine c_rj (S := Its [vhI 37 w.heap.size 74 74 (ndF (dcF n (L.map Lm.m) I) (.slice a3 n.vA.length c3))]) (.rd 0 (.mv 1 (.rd 2 (.mv 3 (.rd 4 (.mv 5 (.rd 6 (.two 7 9 (.mv 8 (.go 9 (.go 10 .fin))) (.go 7 (.mv 8 (.go 10 .fin))))))))))) [] (by kernel_rfl) (by kernel_rfl) ?_
  have hS := Its.cons H.o3 (Its.nil _)
  (iterate 3 (refine qr hS ?_; refine qj ?_))
  refine qr hS ?_
  refine j_two ?_ ?_
  · refine j_do rfl rfl (wanted_rd rfl) (fun K hK => wp_one1 (v := iV (decD n (L.map Lm.m))) SlcK.out OneK.out Zer1.out rfl rfl rfl Qv (fun V m k z => ?_))
    have hz := H.size
    replace H := H.add k (vhI _ _ 1 1 _) m (fun j e => Nat.le_of_eq e.symm)
    refine hK _ _ (fun _ _ => Its.cons H.o4 (Its.nil _)) ?_
    refine j_mv rfl rfl (fun _ _ _ h => h) (wanted_rd rfl) (fun _ => run_bldM _ _ _ _ rfl (ev_const _ _) Qv Qv Qv _) ?_
    refine j_st rfl (wanted_rd rfl) (fun K hK => wp_storeP _ _ _ _ rfl ManyK.out Qv Qv H.v3 (by omega) (ndF_one _ _ _ _) rfl (fun V1 m1 k1 z9 => ?_))
    replace H := H.a3.s k1 (m1.congr stP_whole)
    refine hK _ (fun _ _ => Its.cons H.o4 (Its.nil _)) ?_
    refine j_st rfl (wanted_rd rfl) (fun K hK => wp_storeP _ _ _ _ rfl ManyK.out Qv Qv H.v2 (by omega) (msF_one _ _ _ _ _ _) rfl (fun V1 m1 k1 z9 => ?_))
    replace H := H.a2.s k1 (m1.congr stP_whole)
    refine hK _ (fun _ _ => Its.cons H.o4 (Its.nil _)) ?_
    refine j_nx ?_
    exact c_ret (ret_of ((defL _ _).trans hd) (res_cc rfl Qv Qv ManyK.out ManyK.out H.v3 (Nat.le_refl _) H.v2 (Nat.le_refl _)) ⟨a3, c3, _, 1, rfl, H.o1, own_one H.v0 hz, H.bel⟩)
  · refine j_st rfl (wanted_rd rfl) (fun K hK => wp_storeP _ _ _ _ rfl ManyK.out Qv Qv H.v2 (by omega) (ndF_one _ _ _ _) rfl (fun V1 m1 k1 z9 => ?_))
    replace H := H.a2.s k1 (m1.congr stP_whole)
    refine hK _ (fun _ _ => Its.cons H.o3 (Its.nil _)) ?_
    refine j_do rfl rfl (wanted_rd rfl) (fun K hK => wp_one1 (v := iV (decD n (L.map Lm.m))) SlcK.out OneK.out Zer1.out rfl rfl rfl Qv (fun V m k z => ?_))
    have hz := H.size
    replace H := H.add k (vhI _ _ 1 1 _) m (fun j e => Nat.le_of_eq e.symm)
    refine hK _ _ (fun _ _ => Its.cons H.o4 (Its.nil _)) ?_
    refine j_mv rfl rfl (fun _ _ _ h => h) (wanted_rd rfl) (fun _ => run_bldM _ _ _ _ rfl (ev_const _ _) Qv Qv Qv _) ?_
    refine j_st rfl (wanted_rd rfl) (fun K hK => wp_storeP _ _ _ _ rfl ManyK.out Qv Qv H.v2 (by omega) (msF_one _ _ _ _ _ _) rfl (fun V1 m1 k1 z9 => ?_))
    replace H := H.a2.s k1 (m1.congr stP_whole)
    refine hK _ (fun _ _ => Its.cons H.o4 (Its.nil _)) ?_
    refine j_nx ?_
    exact c_ret (ret_of ((defL _ _).trans hd) (res_cc rfl Qv Qv ManyK.out ManyK.out H.v3 (Nat.le_refl _) H.v2 (Nat.le_refl _)) ⟨a3, c3, _, 1, rfl, H.o1, own_one H.v0 hz, H.bel⟩)

end Go.Proofs.YthimcecbgpamdaaGreat

namespace Go.Proofs.YthimcecbgpamdaaGreat
open Go.RowKit

theorem enter_rgood (x : Value) (w : World) : (callFunc 90 #[x]).run Tryz.prog w = .ok (.enter 90 #[x]) w := by go_simp
theorem enter_runpacked (x y : Value) (w : World) : (callFunc 53 #[x, y]).run Tryz.prog w = .ok (.enter 53 #[x, y]) w := by go_simp
section
variable {f : Operand → Value} {o : Oper}
theorem run_cvUi {s : Nat} (x : Operand) (ho : o.op = .convert 3 152 x) (hx : f x = .int .i64 (s : Int)) (w : World) : (execOp f o).run Tryz.prog w = .ok (.value (.int .u64 ((s : Int) % 18446744073709551616))) w := by
  unfold execOp
  rw [ho]
  dsimp only
  rw [hx]
  go_simp
  rfl
theorem run_shrIu (x y : Operand) (ho : o.op = .binOp .shr 3 x y 152) {u : Int} {s : Nat} (hx : f x = .int .i64 u) (hy : f y = .int .u64 ((s : Int) % 18446744073709551616)) (hs : s < 64) (w : World) : (execOp f o).run Tryz.prog w = .ok (.value (.int .i64 (u / 2 ^ s))) w := by
  rw [show ((s : Int) % 18446744073709551616) = (s : Int) by omega] at hy
  unfold execOp
  rw [ho]
  dsimp only
  rw [hx, hy]
  go_simp
end
/-- The axes, the first x of them new. -/
def upA (n : Nd) (v : List Int) (x a : Nat) : St := if a < x then unA v a else n.ax a
theorem upA_zero {n : Nd} {v : List Int} : ({ n with ax := upA n v 0 } : Nd) = n := by
  have : upA n v 0 = n.ax := by funext a; unfold upA; rw [if_neg (by omega)]
  rw [this]
theorem upA_next {n : Nd} {v : List Int} {x : Nat} : ({ n with ax := fun a => if a = x then unA v x else upA n v x a } : Nd) = { n with ax := upA n v (x + 1) } := by unfold upA; grind
theorem upA_three {n : Nd} {v : List Int} {nv : Value} : ndF { n with ax := upA n v 3 } nv = ndF { n with ax := unA v } nv := by grind [upA, ndF]
/-- The roll, the last x nodes new; while one is written. -/
def upR (r : Rl) (s m j : Int) (x : Nat) : Rl := ⟨fun i => if 3 - i < x ∧ i < 4 then decide (s / 2 ^ i % 2 = 1) else r.I i, fun i => if 3 - i < x ∧ i < 4 then ctO m i else r.M i, fun i => if 3 - i < x ∧ i < 4 then ctO j i else r.J i⟩
def upM1 (r : Rl) (s m j : Int) (x : Nat) : Rl := ⟨(upR r s m j x).I, (upR r s m j (x + 1)).M, (upR r s m j x).J⟩
def upM2 (r : Rl) (s m j : Int) (x : Nat) : Rl := ⟨(upR r s m j x).I, (upR r s m j (x + 1)).M, (upR r s m j (x + 1)).J⟩
theorem upR_zero {r : Rl} {s m j : Int} : upR r s m j 0 = r := by
  unfold upR
  obtain ⟨a, b, c⟩ := r
  simp
theorem upR_four {n : Nd} {v : List Int} {nv : Value} : ndF { n with ax := unA v, rl := upR n.rl (gL v 21) (gL v 22) (gL v 23) 4 } nv = ndF { n with ax := unA v, rl := unR v } nv := by
  have e : ∀ i, i < 12 → nrlF (upR n.rl (gL v 21) (gL v 22) (gL v 23) 4) i = nrlF (unR v) i := fun i hi => by
    unfold nrlF upR unR
    dsimp only
    by_cases c4 : i < 4
    · rw [if_pos c4, if_pos c4, if_pos (by omega)]; rfl
    · rw [if_neg c4, if_neg c4]
      by_cases c8 : i < 8
      · rw [if_pos c8, if_pos c8, if_pos (by omega)]; rfl
      · rw [if_neg c8, if_neg c8, if_pos (by omega)]; rfl
  funext j
  unfold ndF
  dsimp only
  by_cases c2 : j < 2
  · rw [if_pos c2, if_pos c2]
  · rw [if_neg c2, if_neg c2]
    by_cases c6 : j < 6
    · rw [if_pos c6, if_pos c6]
    · rw [if_neg c6, if_neg c6]
      by_cases c27 : j < 27
      · rw [if_pos c27, if_pos c27]
      · rw [if_neg c27, if_neg c27]
        by_cases c39 : j < 39
        · rw [if_pos c39, if_pos c39, e _ (by omega)]
        · rw [if_neg c39, if_neg c39]
/-- One cell of a roll written. -/
theorem upd_rlCell (n : Nd) (nv : Value) {off p : Nat} {x : Value} {r : Rl} (ho : off = 27 + p) (hp : p < 12) (h : ∀ q, q < 12 → stW (nrlF n.rl) p x q = nrlF r q) : ∀ j, j < 74 → stW (ndF n nv) off x j = ndF { n with rl := r } nv j := by grind [ndF, stW]
theorem up_m {r : Rl} {s m j : Int} {x : Nat} (hx : x < 4) : ∀ q, q < 12 → stW (nrlF (upR r s m j x)) (4 + (3 - x)) (.int .i64 (m / 8 ^ x % 8)) q = nrlF (upM1 r s m j x) q := by
  intro q hq
  unfold stW
  by_cases e : q = 4 + (3 - x)
  · rw [if_pos e]
    unfold nrlF upM1 upR
    dsimp only
    rw [if_neg (by omega), if_pos (by omega), if_pos (by omega)]
    unfold ctO
    rw [show 3 - (q - 4) = x by omega]
    rfl
  · rw [if_neg e]
    unfold nrlF upM1 upR
    dsimp only
    by_cases c4 : q < 4
    · rw [if_pos c4, if_pos c4]
    · rw [if_neg c4, if_neg c4]
      by_cases c8 : q < 8
      · rw [if_pos c8, if_pos c8]
        by_cases c : 3 - (q - 4) < x
        · rw [if_pos (by omega), if_pos (by omega)]
        · rw [if_neg (by omega), if_neg (by omega)]
      · rw [if_neg c8, if_neg c8]
theorem up_j {r : Rl} {s m j : Int} {x : Nat} (hx : x < 4) : ∀ q, q < 12 → stW (nrlF (upM1 r s m j x)) (8 + (3 - x)) (.int .i64 (j / 8 ^ x % 8)) q = nrlF (upM2 r s m j x) q := by
  intro q hq
  unfold stW
  by_cases e : q = 8 + (3 - x)
  · rw [if_pos e]
    unfold nrlF upM2 upR
    dsimp only
    rw [if_neg (by omega), if_neg (by omega), if_pos (by omega)]
    unfold ctO
    rw [show 3 - (q - 8) = x by omega]
    rfl
  · rw [if_neg e]
    unfold nrlF upM1 upM2 upR
    dsimp only
    by_cases c4 : q < 4
    · rw [if_pos c4, if_pos c4]
    · rw [if_neg c4, if_neg c4]
      by_cases c8 : q < 8
      · rw [if_pos c8, if_pos c8]
      · rw [if_neg c8, if_neg c8]
        by_cases c : 3 - (q - 8) < x
        · rw [if_pos (by omega), if_pos (by omega)]
        · rw [if_neg (by omega), if_neg (by omega)]
theorem up_i {r : Rl} {s m j : Int} {x : Nat} (hx : x < 4) : ∀ q, q < 12 → stW (nrlF (upM2 r s m j x)) (3 - x) (.bool (decide (s / 2 ^ (3 - x) % 2 = 1))) q = nrlF (upR r s m j (x + 1)) q := by simp only [stW, nrlF, upR, upM2]; grind
theorem unOK_no {v : List Int} {x : Nat} (hx : x < 3) (hb : wiB (gL v (7 * x + 5)) 1 = false) : unOK v = false := by
  have e : okA (gL v) = false := okA_no hx hb
  have h : unOK v = (okA (gL v) && (okR (gL v 21) (gL v 22) (gL v 23) && gdA (rlN (gL v 21) (gL v 22) (gL v 23)))) := un_OKn v
  rw [h, e, Bool.false_and]
theorem unOK_nr {v : List Int} (h : gL v 21 < 0 ∨ 15 < gL v 21 ∨ gL v 22 < 0 ∨ 4095 < gL v 22 ∨ gL v 23 < 0 ∨ 4095 < gL v 23) : unOK v = false := by
  have e : okR (gL v 21) (gL v 22) (gL v 23) = false := by
    cases hc : okR (gL v 21) (gL v 22) (gL v 23)
    · rfl
    · unfold okR wiB at hc
      simp only [Bool.and_eq_true, decide_eq_true_eq] at hc
      omega
  rw [un_OKn v, e, Bool.false_and, Bool.and_false]
theorem unOK_rest {v : List Int} (h : ∀ a, a < 3 → wiB (gL v (7 * a + 5)) 1 = true) (h1 : ¬ gL v 21 < 0) (h2 : ¬ 15 < gL v 21) (h3 : ¬ gL v 22 < 0) (h4 : ¬ 4095 < gL v 22) (h5 : ¬ gL v 23 < 0) (h6 : ¬ 4095 < gL v 23) : unOK v = gdA (unR v) := by
  have e : okR (gL v 21) (gL v 22) (gL v 23) = true := by
    unfold okR wiB
    rw [decide_eq_true (show 0 ≤ gL v 21 by omega), decide_eq_true (show gL v 21 ≤ 15 by omega), decide_eq_true (show 0 ≤ gL v 22 by omega), decide_eq_true (show gL v 22 ≤ 4095 by omega), decide_eq_true (show 0 ≤ gL v 23 by omega), decide_eq_true (show gL v 23 ≤ 4095 by omega)]
    rfl
  rw [un_OKn v, okA_yes h, e, Bool.true_and, Bool.true_and]
  rfl
theorem c_midU {P : Program} {Q : Exit → Act → World → Prop} {a : Act} {w : World} {x y : Code} (T : Act → World → Prop) (hx : (∀ A W, T A W → CodI P y Q A W) → CodI P x (Nx P y Q) a w) (hy : ∀ A W, T A W → CodI P y Q A W) : CodI P (.seq x y) Q a w := c_nx (hx hy)
theorem nst_one (s : St) : ∀ j, j < 7 → (nstF s j).oneCell' = true := fun j hj => by
  match j, hj with
  | 0, _ => rfl
  | 1, _ => rfl
  | 2, _ => rfl
  | 3, _ => rfl
  | 4, _ => rfl
  | 5, _ => rfl
  | 6, _ => rfl
set_option maxRecDepth 10000 in
set_option maxHeartbeats 4000000 in
theorem refUnpacked_any (n : Nd) (nv : Value) (v : List Int) (y : Addr) (yc : Nat) (w : World) (hnv : nv.oneCell' = true) (hc : 24 ≤ yc) (hy : ∀ i, i < 24 → w.cell? (y.add i) = some (.int .i64 (gL v i))) :
    Calls Tryz.prog 53 #[ndV n nv, .slice (some y) 24 yc] w fun e w' => ∃ fx : Nat → Value, e = .returned (.tuple #[agV fx 0 74, .bool (unOK v)]) ∧ (∀ j, j < 74 → (fx j).oneCell' = true) ∧ (unOK v = true → ∀ j, j < 74 → fx j = ndF { n with ax := unA v, rl := unR v } nv j) ∧ Below w.heap.size w w' := by
  refine enterF Tryz.func53 rfl 136 rfl (of_decide_eq_true rfl) (fun A hs hd hb => ?_)
  have b0 : A.eval (.tmp 0) = agV (ndF n nv) 0 74 := hb 0 _ rfl
  have b1 : A.eval (.tmp 1) = .slice (some y) 24 yc := hb 1 _ rfl
  clear hb
  have H := Cx.start w
  refine c_rs (m_start ?_)
  refine q_box H ?_
  clear H
  intro w1 H z1
  refine q_al H ?_
  clear H
  intro w2 H z2
  refine qa ?_
  refine l_nx ?_
  refine c_nx ?_
  refine c_rs ?_
  refine qa ?_
  refine l_nx ?_
  refine c_block ?_
  refine c_loop (fun r A W => ∃ x : Nat, x ≤ 3 ∧ 3 - x ≤ r ∧ (A.tmps.size = 136 ∧ A.defers = [] ∧ A.eval (.tmp 1) = .slice (some y) 24 yc ∧ A.eval (.tmp 2) = .pointer (some ⟨w.heap.size, 0, none⟩) ∧ A.eval (.tmp 4) = .pointer (some ⟨w1.heap.size, 0, none⟩)) ∧ A.eval (.tmp 6) = .int .i64 (x : Int) ∧ (∀ a, a < x → wiB (gL v (7 * a + 5)) 1 = true) ∧ Cx w W [vhI 37 w1.heap.size 74 74 (ndF zeroN (.slice none 0 0)), vhI 37 w.heap.size 74 74 (ndF { n with ax := upA n v x } nv)]) 3
    ⟨0, Nat.zero_le _, by omega, ⟨(szL _ _).trans hs, (defL _ _).trans hd, Qv, Qv, Qv⟩, Qv, fun a h => absurd h (by omega), by rw [upA_zero]; exact H⟩ (fun r A W hI => ?_)
  clear b0 b1 hs hd H
  obtain ⟨x, hx, hxr, ⟨hs, hd, b1, b2, b4⟩, b6, hok, H⟩ := hI
  refine c_nx ?_
  refine c_rs (m_start ?_)
  iterate 2 refine qa ?_
  refine l_nx ?_
  refine q_if (fun h => ?_) (fun h => ?_)
  · have hin : x < 3 := by have := of_decide_eq_true h; omega
    have hpW : ∀ i, i < 7 → W.drew.cell? ((y.add (7 * x)).add i) = some (.int .i64 (gL v (7 * x + i))) := fun i hi => by rw [add_add]; exact at_below (hy _ (by omega)) H.drew.bel
    refine c_fin ?_
    refine c_nx (c_block ?_)
    refine c_rs ?_
    iterate 2 refine qa ?_
    refine qg (run_mulN _ _ rfl Qv Qv (by omega) (by omega) _) ?_
    refine qa ?_
    refine qg (run_mulN _ _ rfl Qv Qv (by omega) (by omega) _) ?_
    refine qa ?_
    refine qg (run_cutFT (i := 7 * x) (k := 7 * x + 7) _ _ _ rfl Qv Qv Qv (by omega) (by omega) (by omega) (by omega) (by omega) _) ?_
    refine qa ?_
    refine l_nx ?_
    refine c_nx ?_
    refine c_midU (fun A W' => W' = W ∧ (A.tmps.size = 136 ∧ A.defers = [] ∧ A.eval (.tmp 1) = .slice (some y) 24 yc ∧ A.eval (.tmp 2) = .pointer (some ⟨w.heap.size, 0, none⟩) ∧ A.eval (.tmp 4) = .pointer (some ⟨w1.heap.size, 0, none⟩)) ∧ A.eval (.tmp 6) = .int .i64 (x : Int) ∧ A.eval (.tmp 7) = .slice (some (y.add (7 * x))) (7 * x + 7 - 7 * x) (yc - 7 * x) ∧ A.eval (.tmp 31) = .bool (!wiB (gL v (7 * x + 5)) 1)) (fun hT => ?_) (fun A W' hT => ?_)
    · refine c_region ?_
      refine qa ?_
      refine qg (run_ixN _ _ rfl Qv Qv (i := 5) rfl (by omega) _) ?_
      refine qg (run_ldI _ rfl Qv (hpW 5 (by omega))) ?_
      by_cases g : gL v (7 * x + 5) < 0
      · refine qg (run_lssI (b := true) _ _ rfl Qv Qv (decide_eq_true g) _) ?_
        iterate 1 (refine qa ?_; (iterate 4 refine q_skip ?_); refine qg (run_pickT' _ _ _ rfl Qv Qv _) ?_)
        refine l_nx ?_
        exact hT _ _ ⟨rfl, ⟨(szL _ _).trans hs, (defL _ _).trans hd, Qv, Qv, Qv⟩, Qv, Qv, Eq.trans Qv (by unfold wiB; rw [decide_eq_false (by omega)]; rfl)⟩
      refine qg (run_lssI (b := false) _ _ rfl Qv Qv (decide_eq_false g) _) ?_
      iterate 2 refine qa ?_
      refine qg (run_ixN _ _ rfl Qv Qv (i := 5) rfl (by omega) _) ?_
      refine qg (run_ldI _ rfl Qv (hpW 5 (by omega))) ?_
      refine qg (run_gtrI (b := !wiB (gL v (7 * x + 5)) 1) _ _ rfl Qv Qv (by unfold wiB; by_cases g2 : 1 < gL v (7 * x + 5) <;> simp [g2] <;> omega) _) ?_
      refine qg (run_pickF _ _ _ rfl Qv Qv _) ?_
      refine l_nx ?_
      exact hT _ _ ⟨rfl, ⟨(szL _ _).trans hs, (defL _ _).trans hd, Qv, Qv, Qv⟩, Qv, Qv, Qv⟩
    clear b1 b2 b4 b6 hs hd
    obtain ⟨rfl, ⟨hs, hd, b1, b2, b4⟩, b6, b7, b31⟩ := hT
    refine c_cond b31 (fun h => ?_) (fun h => ?_)
    · have eno : unOK v = false := unOK_no hin (by simpa using h)
      refine c_rs (m_start ?_)
      refine qa ?_
      refine q_sp H.a0 stP_whole (ndF_oneV _ hnv) ?_
      clear H
      intro V1 H z5
      refine qa ?_
      refine l_nx ?_
      exact c_ret (r_nx (r_bl (r_nx (r_th (r_bl (r_nx (ret_of ((defL _ _).trans hd) (res_ct rfl Qv Qv ManyK.out H.v0 (Nat.le_refl _)) ⟨_, by rw [eno], ndF_oneV _ hnv, fun h => (by rw [eno] at h; cases h), H.bel⟩)))))))
    have hb : wiB (gL v (7 * x + 5)) 1 = true := by simpa using h
    refine c_fin ?_
    replace H := H.drew
    have hS : (fun Z => Below W'.drew.heap.size W'.drew Z) W'.drew := Below.refl _ _
    refine c_rj (S := fun Z => Below W'.drew.heap.size W'.drew Z) (.mv 0 (.mv 1 (.mv 2 (.rd 3 (.mv 4 (.mv 5 (.rd 6 (.mv 7 (.mv 8 (.rd 9 (.mv 10 (.mv 11 (.rd 12 (.mv 13 (.mv 14 (.rd 15 (.mv 16 (.mv 17 (.rd 18 (.mv 19 (.mv 20 (.mv 21 (.rd 22 (.mv 23 (.mv 24 (.mv 25 (.go 26 .fin))))))))))))))))))))))))))) [26] (by kernel_rfl) (by kernel_rfl) ?_
    refine j_start ?_
    refine qj ?_
    refine qj ?_
    refine j_mv rfl rfl (fun _ _ _ h => h) (wanted_rd rfl) (fun _ => run_ixN _ _ rfl Qv Qv (i := 0) rfl (by omega) _) ?_
    refine j_rd rfl rfl (fun _ _ _ h => h) (wanted_rd rfl) hS (fun _ e => run_ldI _ rfl Qv (at_below (hpW 0 (by omega)) e)) ?_
    refine qj ?_
    refine j_mv rfl rfl (fun _ _ _ h => h) (wanted_rd rfl) (fun _ => run_ixN _ _ rfl Qv Qv (i := 1) rfl (by omega) _) ?_
    refine j_rd rfl rfl (fun _ _ _ h => h) (wanted_rd rfl) hS (fun _ e => run_ldI _ rfl Qv (at_below (hpW 1 (by omega)) e)) ?_
    refine qj ?_
    refine j_mv rfl rfl (fun _ _ _ h => h) (wanted_rd rfl) (fun _ => run_ixN _ _ rfl Qv Qv (i := 2) rfl (by omega) _) ?_
    refine j_rd rfl rfl (fun _ _ _ h => h) (wanted_rd rfl) hS (fun _ e => run_ldI _ rfl Qv (at_below (hpW 2 (by omega)) e)) ?_
    refine qj ?_
    refine j_mv rfl rfl (fun _ _ _ h => h) (wanted_rd rfl) (fun _ => run_ixN _ _ rfl Qv Qv (i := 3) rfl (by omega) _) ?_
    refine j_rd rfl rfl (fun _ _ _ h => h) (wanted_rd rfl) hS (fun _ e => run_ldI _ rfl Qv (at_below (hpW 3 (by omega)) e)) ?_
    refine qj ?_
    refine j_mv rfl rfl (fun _ _ _ h => h) (wanted_rd rfl) (fun _ => run_ixN _ _ rfl Qv Qv (i := 4) rfl (by omega) _) ?_
    refine j_rd rfl rfl (fun _ _ _ h => h) (wanted_rd rfl) hS (fun _ e => run_ldI _ rfl Qv (at_below (hpW 4 (by omega)) e)) ?_
    refine qj ?_
    refine j_mv rfl rfl (fun _ _ _ h => h) (wanted_rd rfl) (fun _ => run_ixN _ _ rfl Qv Qv (i := 5) rfl (by omega) _) ?_
    refine j_rd rfl rfl (fun _ _ _ h => h) (wanted_rd rfl) hS (fun _ e => run_ldI _ rfl Qv (at_below (hpW 5 (by omega)) e)) ?_
    refine j_mv rfl rfl (fun _ _ _ h => h) (wanted_rd rfl) (fun w => run_gtrI (b := (unA v x).B) _ _ rfl Qv Qv rfl w) ?_
    refine qj ?_
    refine j_mv rfl rfl (fun _ _ _ h => h) (wanted_rd rfl) (fun _ => run_ixN _ _ rfl Qv Qv (i := 6) rfl (by omega) _) ?_
    refine j_rd rfl rfl (fun _ _ _ h => h) (wanted_rd rfl) hS (fun _ e => run_ldI _ rfl Qv (at_below (hpW 6 (by omega)) e)) ?_
    refine j_mv rfl rfl (fun _ _ _ h => h) (wanted_rd rfl) (fun _ => run_bldS (s := unA v x) _ _ _ _ _ _ _ rfl Qv Qv Qv Qv Qv Qv Qv _) ?_
    refine qj ?_
    refine j_mv rfl rfl (fun _ _ _ h => h) (wanted_rd rfl) (fun w => run_ixG _ _ _ _ rfl ArrK.out SizK.out Qv Qv rfl hin w) ?_
    refine j_st rfl (wanted_rd rfl) (fun K hK => wp_storeP _ _ _ _ rfl ManyK.out Qv Qv H.v1 (by omega) (nst_one _) rfl (fun V1 m1 k1 z5 => hK _ (fun h => absurd h (by decide)) ?_))
    replace H := H.a1.s k1 (m1.congr (upd_axAt _ _ _ x hin))
    refine j_finB ?_
    refine c_region ?_
    repeat refine qa ?_
    exact l_round ⟨3 - (x + 1), by omega, x + 1, by omega, by omega, ⟨(szL _ _).trans hs, (defL _ _).trans hd, Qv, Qv, Qv⟩, Eq.trans Qv (by rw [Int.natCast_add]; rfl), fun a ha => by
      by_cases e : a = x
      · rw [e]; exact hb
      · exact hok a (by omega), by rw [← upA_next]; exact H⟩
  obtain rfl : x = 3 := by have := of_decide_eq_false h; omega
  rw [upA_three] at H
  refine c_exit (x_out ?_)
  refine c_nx ?_
  refine c_midU (fun A W' => (A.tmps.size = 136 ∧ A.defers = [] ∧ A.eval (.tmp 1) = .slice (some y) 24 yc ∧ A.eval (.tmp 2) = .pointer (some ⟨w.heap.size, 0, none⟩) ∧ A.eval (.tmp 4) = .pointer (some ⟨w1.heap.size, 0, none⟩)) ∧ A.eval (.tmp 92) = .bool (decide (gL v 21 < 0 ∨ 15 < gL v 21 ∨ gL v 22 < 0 ∨ 4095 < gL v 22 ∨ gL v 23 < 0 ∨ 4095 < gL v 23)) ∧ Cx w W' [vhI 37 w1.heap.size 74 74 (ndF zeroN (.slice none 0 0)), vhI 37 w.heap.size 74 74 (ndF { n with ax := unA v } nv)]) (fun hT => ?_) (fun A V hT => ?_)
  · refine c_region ?_
    refine qa ?_
    refine qg (run_ixN _ _ rfl Qv Qv (i := 21) rfl (by omega) _) ?_
    refine qg (run_ldI _ rfl Qv (at_below (hy 21 (by omega)) H.bel)) ?_
    by_cases g0 : gL v 21 < 0
    · refine qg (run_lssI (b := true) _ _ rfl Qv Qv (decide_eq_true g0) _) ?_
      iterate 5 (refine qa ?_; (iterate 4 refine q_skip ?_); refine qg (run_pickT' _ _ _ rfl Qv Qv _) ?_)
      refine l_nx ?_
      exact hT _ _ ⟨⟨(szL _ _).trans hs, (defL _ _).trans hd, Qv, Qv, Qv⟩, Eq.trans Qv (by rw [decide_eq_true (show gL v 21 < 0 ∨ 15 < gL v 21 ∨ gL v 22 < 0 ∨ 4095 < gL v 22 ∨ gL v 23 < 0 ∨ 4095 < gL v 23 by omega)]), H⟩
    refine qg (run_lssI (b := false) _ _ rfl Qv Qv (decide_eq_false g0) _) ?_
    refine qa ?_
    refine qa ?_
    refine qg (run_ixN _ _ rfl Qv Qv (i := 21) rfl (by omega) _) ?_
    refine qg (run_ldI _ rfl Qv (at_below (hy 21 (by omega)) H.bel)) ?_
    by_cases g1 : 15 < gL v 21
    · refine qg (run_gtrI (b := true) _ _ rfl Qv Qv (decide_eq_true g1) _) ?_
      refine qg (run_pickF _ _ _ rfl Qv Qv _) ?_
      iterate 4 (refine qa ?_; (iterate 4 refine q_skip ?_); refine qg (run_pickT' _ _ _ rfl Qv Qv _) ?_)
      refine l_nx ?_
      exact hT _ _ ⟨⟨(szL _ _).trans hs, (defL _ _).trans hd, Qv, Qv, Qv⟩, Eq.trans Qv (by rw [decide_eq_true (show gL v 21 < 0 ∨ 15 < gL v 21 ∨ gL v 22 < 0 ∨ 4095 < gL v 22 ∨ gL v 23 < 0 ∨ 4095 < gL v 23 by omega)]), H⟩
    refine qg (run_gtrI (b := false) _ _ rfl Qv Qv (decide_eq_false g1) _) ?_
    refine qg (run_pickF _ _ _ rfl Qv Qv _) ?_
    refine qa ?_
    refine qa ?_
    refine qg (run_ixN _ _ rfl Qv Qv (i := 22) rfl (by omega) _) ?_
    refine qg (run_ldI _ rfl Qv (at_below (hy 22 (by omega)) H.bel)) ?_
    by_cases g2 : gL v 22 < 0
    · refine qg (run_lssI (b := true) _ _ rfl Qv Qv (decide_eq_true g2) _) ?_
      refine qg (run_pickF _ _ _ rfl Qv Qv _) ?_
      iterate 3 (refine qa ?_; (iterate 4 refine q_skip ?_); refine qg (run_pickT' _ _ _ rfl Qv Qv _) ?_)
      refine l_nx ?_
      exact hT _ _ ⟨⟨(szL _ _).trans hs, (defL _ _).trans hd, Qv, Qv, Qv⟩, Eq.trans Qv (by rw [decide_eq_true (show gL v 21 < 0 ∨ 15 < gL v 21 ∨ gL v 22 < 0 ∨ 4095 < gL v 22 ∨ gL v 23 < 0 ∨ 4095 < gL v 23 by omega)]), H⟩
    refine qg (run_lssI (b := false) _ _ rfl Qv Qv (decide_eq_false g2) _) ?_
    refine qg (run_pickF _ _ _ rfl Qv Qv _) ?_
    refine qa ?_
    refine qa ?_
    refine qg (run_ixN _ _ rfl Qv Qv (i := 22) rfl (by omega) _) ?_
    refine qg (run_ldI _ rfl Qv (at_below (hy 22 (by omega)) H.bel)) ?_
    by_cases g3 : 4095 < gL v 22
    · refine qg (run_gtrI (b := true) _ _ rfl Qv Qv (decide_eq_true g3) _) ?_
      refine qg (run_pickF _ _ _ rfl Qv Qv _) ?_
      iterate 2 (refine qa ?_; (iterate 4 refine q_skip ?_); refine qg (run_pickT' _ _ _ rfl Qv Qv _) ?_)
      refine l_nx ?_
      exact hT _ _ ⟨⟨(szL _ _).trans hs, (defL _ _).trans hd, Qv, Qv, Qv⟩, Eq.trans Qv (by rw [decide_eq_true (show gL v 21 < 0 ∨ 15 < gL v 21 ∨ gL v 22 < 0 ∨ 4095 < gL v 22 ∨ gL v 23 < 0 ∨ 4095 < gL v 23 by omega)]), H⟩
    refine qg (run_gtrI (b := false) _ _ rfl Qv Qv (decide_eq_false g3) _) ?_
    refine qg (run_pickF _ _ _ rfl Qv Qv _) ?_
    refine qa ?_
    refine qa ?_
    refine qg (run_ixN _ _ rfl Qv Qv (i := 23) rfl (by omega) _) ?_
    refine qg (run_ldI _ rfl Qv (at_below (hy 23 (by omega)) H.bel)) ?_
    by_cases g4 : gL v 23 < 0
    · refine qg (run_lssI (b := true) _ _ rfl Qv Qv (decide_eq_true g4) _) ?_
      refine qg (run_pickF _ _ _ rfl Qv Qv _) ?_
      iterate 1 (refine qa ?_; (iterate 4 refine q_skip ?_); refine qg (run_pickT' _ _ _ rfl Qv Qv _) ?_)
      refine l_nx ?_
      exact hT _ _ ⟨⟨(szL _ _).trans hs, (defL _ _).trans hd, Qv, Qv, Qv⟩, Eq.trans Qv (by rw [decide_eq_true (show gL v 21 < 0 ∨ 15 < gL v 21 ∨ gL v 22 < 0 ∨ 4095 < gL v 22 ∨ gL v 23 < 0 ∨ 4095 < gL v 23 by omega)]), H⟩
    refine qg (run_lssI (b := false) _ _ rfl Qv Qv (decide_eq_false g4) _) ?_
    refine qg (run_pickF _ _ _ rfl Qv Qv _) ?_
    refine qa ?_
    refine qa ?_
    refine qg (run_ixN _ _ rfl Qv Qv (i := 23) rfl (by omega) _) ?_
    refine qg (run_ldI _ rfl Qv (at_below (hy 23 (by omega)) H.bel)) ?_
    refine qa ?_
    refine qg (run_pickF _ _ _ rfl Qv Qv _) ?_
    refine l_nx ?_
    exact hT _ _ ⟨⟨(szL _ _).trans hs, (defL _ _).trans hd, Qv, Qv, Qv⟩, Eq.trans Qv (congrArg Value.bool (decide_eq_decide.2 (by omega))), H⟩
  clear b1 b2 b4 b6 hs hd H
  obtain ⟨⟨hs, hd, b1, b2, b4⟩, b92, H⟩ := hT
  refine c_cond b92 (fun h => ?_) (fun h => ?_)
  · have eno : unOK v = false := unOK_nr (of_decide_eq_true h)
    refine c_rs (m_start ?_)
    refine qa ?_
    refine q_sp H.a0 stP_whole (ndF_oneV _ hnv) ?_
    clear H
    intro V1 H z5
    refine qa ?_
    refine l_nx ?_
    exact c_ret (r_nx (ret_of ((defL _ _).trans hd) (res_ct rfl Qv Qv ManyK.out H.v0 (Nat.le_refl _)) ⟨_, by rw [eno], ndF_oneV _ hnv, fun h => (by rw [eno] at h; cases h), H.bel⟩))
  have hn := of_decide_eq_false h
  refine c_fin ?_
  refine c_nx ?_
  replace H := H.drew
  have hyV : ∀ i, i < 24 → V.drew.cell? (y.add i) = some (.int .i64 (gL v i)) := fun i hi => at_below (hy i hi) H.bel
  have hS : (fun Z => Below V.drew.heap.size V.drew Z) V.drew := Below.refl _ _
  refine c_rj (S := fun Z => Below V.drew.heap.size V.drew Z) (.mv 0 (.mv 1 (.rd 2 (.mv 3 (.mv 4 (.rd 5 (.mv 6 (.mv 7 .fin)))))))) [] (by kernel_rfl) (by kernel_rfl) ?_
  refine j_start ?_
  refine qj ?_
  refine j_mv rfl rfl (fun _ _ _ h => h) (wanted_rd rfl) (fun _ => run_ixN _ _ rfl Qv Qv (i := 22) rfl (by omega) _) ?_
  refine j_rd rfl rfl (fun _ _ _ h => h) (wanted_rd rfl) hS (fun _ e => run_ldI _ rfl Qv (at_below (hyV 22 (by omega)) e)) ?_
  refine qj ?_
  refine j_mv rfl rfl (fun _ _ _ h => h) (wanted_rd rfl) (fun _ => run_ixN _ _ rfl Qv Qv (i := 23) rfl (by omega) _) ?_
  refine j_rd rfl rfl (fun _ _ _ h => h) (wanted_rd rfl) hS (fun _ e => run_ldI _ rfl Qv (at_below (hyV 23 (by omega)) e)) ?_
  iterate 2 refine qj ?_
  refine j_nx ?_
  refine c_nx ?_
  refine c_rs ?_
  refine qa ?_
  refine l_nx ?_
  refine c_block ?_
  refine c_loop (fun r A W => ∃ i : Nat, i ≤ 4 ∧ 4 - i ≤ r ∧ (A.tmps.size = 136 ∧ A.defers = [] ∧ A.eval (.tmp 1) = .slice (some y) 24 yc ∧ A.eval (.tmp 2) = .pointer (some ⟨w.heap.size, 0, none⟩) ∧ A.eval (.tmp 4) = .pointer (some ⟨w1.heap.size, 0, none⟩)) ∧ A.eval (.tmp 8) = .int .i64 (gL v 22 / 8 ^ i) ∧ A.eval (.tmp 9) = .int .i64 (gL v 23 / 8 ^ i) ∧ A.eval (.tmp 10) = .int .i64 (3 - (i : Int)) ∧ Cx w W [vhI 37 w1.heap.size 74 74 (ndF zeroN (.slice none 0 0)), vhI 37 w.heap.size 74 74 (ndF { n with ax := unA v, rl := upR n.rl (gL v 21) (gL v 22) (gL v 23) i } nv)]) 4
    ⟨0, Nat.zero_le _, by omega, ⟨(szL _ _).trans hs, (defL _ _).trans hd, Qv, Qv, Qv⟩, Eq.trans Qv (by rw [Int.pow_zero, Int.ediv_one]), Eq.trans Qv (by rw [Int.pow_zero, Int.ediv_one]), Qv, by rw [upR_zero]; exact H⟩ (fun r A W3 hI => ?_)
  clear b1 b2 b4 b92 hs hd H hyV hS
  obtain ⟨i, hi, hir, ⟨hs, hd, b1, b2, b4⟩, b8, b9, b10, H⟩ := hI
  have hq2 := ct_in (n := gL v 22) (by omega) (by omega) i
  have hq3 := ct_in (n := gL v 23) (by omega) (by omega) i
  refine c_nx ?_
  refine c_rs (m_start ?_)
  iterate 2 refine qa ?_
  refine l_nx ?_
  refine q_if (fun h => ?_) (fun h => ?_)
  · have hin3 : i < 4 := by have := of_decide_eq_true h; omega
    refine c_fin ?_
    refine c_nx (c_block ?_)
    refine c_rs ?_
    iterate 3 refine qa ?_
    refine qg (run_rem8 _ _ rfl Qv Qv hq2.1 _) ?_
    refine qa ?_
    refine qg (run_rem8 _ _ rfl Qv Qv hq3.1 _) ?_
    iterate 2 refine qa ?_
    refine qg (run_ixG (i := 3 - i) _ _ _ _ rfl ArrK.out SizK.out Qv Qv (by omega) (by omega) _) ?_
    refine q_st (q := 0 + 27 + 4 + (3 - i) * 1) (g' := ndF { n with ax := unA v, rl := upM1 n.rl (gL v 21) (gL v 22) (gL v 23) i } nv) (u := .int .i64 (gL v 22 / 8 ^ i % 8)) H.a1 (upd_rlCell (off := 0 + 27 + 4 + (3 - i) * 1) (p := 4 + (3 - i)) _ nv (by omega) (by omega) (up_m hin3)) ?_
    clear H
    intro V1 H z5
    iterate 2 refine qa ?_
    refine qg (run_ixG (i := 3 - i) _ _ _ _ rfl ArrK.out SizK.out Qv Qv (by omega) (by omega) _) ?_
    refine q_st (q := 0 + 27 + 8 + (3 - i) * 1) (g' := ndF { n with ax := unA v, rl := upM2 n.rl (gL v 21) (gL v 22) (gL v 23) i } nv) (u := .int .i64 (gL v 23 / 8 ^ i % 8)) H.a1 (upd_rlCell (off := 0 + 27 + 8 + (3 - i) * 1) (p := 8 + (3 - i)) _ nv (by omega) (by omega) (up_j hin3)) ?_
    clear H
    intro V2 H z6
    refine l_nx ?_
    refine c_rs ?_
    refine qa ?_
    refine qg (run_quo8 _ _ rfl Qv Qv hq2.1 hq2.2 _) ?_
    refine qa ?_
    refine qg (run_quo8 _ _ rfl Qv Qv hq3.1 hq3.2 _) ?_
    iterate 2 refine qa ?_
    refine l_nx ?_
    refine c_region ?_
    iterate 2 refine qa ?_
    refine qg (run_ixN _ _ rfl Qv Qv (i := 21) rfl (by omega) _) ?_
    refine qg (run_ldI _ rfl Qv (at_below (hy 21 (by omega)) H.bel)) ?_
    refine qa ?_
    refine qg (run_cvUi (s := 3 - i) _ rfl (Eq.trans Qv (by congr 1; omega)) _) ?_
    refine qg (run_shrIu _ _ rfl Qv Qv (by omega) _) ?_
    refine qg (run_rem2 _ _ rfl Qv Qv (rl_in (by omega) (by omega) _).1 _) ?_
    iterate 3 refine qa ?_
    refine qg (run_ixG (i := 3 - i) _ _ _ _ rfl ArrK.out SizK.out Qv Qv (by omega) (by omega) _) ?_
    refine q_st (q := 0 + 27 + 0 + (3 - i) * 1) (g' := ndF { n with ax := unA v, rl := upR n.rl (gL v 21) (gL v 22) (gL v 23) (i + 1) } nv) (u := .bool (decide (gL v 21 / 2 ^ (3 - i) % 2 = 1))) H.a1 (upd_rlCell (off := 0 + 27 + 0 + (3 - i) * 1) (p := 3 - i) _ nv (by omega) (by omega) (up_i hin3)) ?_
    clear H
    intro V3 H z7
    refine l_finB ?_
    refine c_region ?_
    repeat refine qa ?_
    exact l_round ⟨4 - (i + 1), by omega, i + 1, by omega, by omega, ⟨(szL _ _).trans hs, (defL _ _).trans hd, Qv, Qv, Qv⟩, Eq.trans Qv (by rw [ct_pow]), Eq.trans Qv (by rw [ct_pow]), Eq.trans Qv (by congr 1; omega), H⟩
  obtain rfl : i = 4 := by have := of_decide_eq_false h; omega
  rw [upR_four] at H
  refine c_exit (x_out ?_)
  refine c_nx ?_
  replace H := H.drew
  have hS : Its [vhI 37 w.heap.size 74 74 (ndF { n with ax := unA v, rl := unR v } nv)] W3.drew := Its.cons H.o1 (Its.nil _)
  refine c_rj (S := Its [vhI 37 w.heap.size 74 74 (ndF { n with ax := unA v, rl := unR v } nv)]) (.rd 0 (.mv 1 (.rd 2 (.go 3 (.go 4 (.mv 5 .fin)))))) [] (by kernel_rfl) (by kernel_rfl) ?_
  refine qr hS ?_
  refine qj ?_
  refine j_rd rfl rfl (fun _ _ _ h => h) (wanted_rd rfl) hS (fun _ H => run_loadPe _ _ rfl manyRl Qv H.v0 (by omega) (ndF_rl _ _)) ?_
  refine j_do rfl rfl (wanted_rd rfl) (fun K hK => ?_)
  refine wp_call1 _ 90 _ _ rfl Qv (enter_rgood _ _) (refGood_ok (unR v) _ (fun i _ => ⟨ctO_R _ _, ctO_R _ _⟩)) ?_
  rintro e V1 ⟨rfl, k1⟩
  replace H := H.call k1
  refine ⟨_, rfl, hK _ _ (fun _ _ => Its.cons H.o1 (Its.nil _)) ?_⟩
  refine j_st rfl (wanted_rd rfl) (fun K hK => ?_)
  refine wp_storeP _ _ _ _ rfl ManyK.out Qv Qv H.v0 (by omega) (ndF_oneV _ hnv) rfl (fun V2 m2 k2 z5 => ?_)
  replace H := H.a0.s k2 (m2.congr stP_whole)
  refine hK _ (fun _ _ => Its.cons H.o1 (Its.nil _)) ?_
  refine qj ?_
  refine j_nx ?_
  have eok : unOK v = gdA (unR v) := unOK_rest hok (by omega) (by omega) (by omega) (by omega) (by omega) (by omega)
  exact c_ret (ret_of ((defL _ _).trans hd) (res_ct rfl Qv Qv ManyK.out H.v0 (Nat.le_refl _)) ⟨_, by rw [eok], ndF_oneV { n with ax := unA v, rl := unR v } hnv, fun _ _ _ => rfl, H.bel⟩)

end Go.Proofs.YthimcecbgpamdaaGreat

namespace Go.Proofs.YthimcecbgpamdaaGreat
open Go.RowKit

theorem c_mid {P : Program} {Q : Exit → Act → World → Prop} {a : Act} {w : World} {x y : Code} (T : Act → World → Prop) (hx : (∀ A W, T A W → CodI P y Q A W) → CodI P (.seq x y) Q a w) (hy : ∀ A W, T A W → CodI P y Q A W) : CodI P (.seq x y) Q a w := hx hy
theorem fstV_eq (o : Option Lm) : fstV o = .tuple #[alkV o, .bool o.isSome] := by cases o <;> rfl
/-- The computer behind all pairs. -/
def cloF (n : Nd) (L : List Lm) : Nd := if (n.vS && decide (n.vX ≠ n.dg)) = true then cloT n L else n
theorem run_bldRp7 {f : Operand → Value} {o : Oper} (a b c d0 d e g : Operand) (ho : o.op = .build 86 #[(0, a), (1, b), (2, c), (3, d0), (4, d), (5, e), (6, g)]) {n : Nd} (h0 : f a = .int .i64 n.id) (h1 : f b = .int .i64 n.fr) (h2 : f c = agV (fun i => iV (n.us i)) 0 3) (hx : f d0 = agV (fun i => iV ((fun a => (n.ax a).X) i)) 0 3) (h3 : f d = .int .i64 n.dg) (h4 : f e = .bool n.vS) (h5 : f g = agV (tF n.rl.I) 0 4) (w : World) :
    (execOp f o).run Tryz.prog w = .ok (.value (agV (rpF n) 0 14)) w := by
  have h2' : f c = .agg #[.int .i64 (n.us 0), .int .i64 (n.us 1), .int .i64 (n.us 2)] := h2
  have hx' : f d0 = .agg #[.int .i64 (n.ax 0).X, .int .i64 (n.ax 1).X, .int .i64 (n.ax 2).X] := hx
  have h5' : f g = .agg #[.bool (n.rl.I 0), .bool (n.rl.I 1), .bool (n.rl.I 2), .bool (n.rl.I 3)] := h5
  unfold execOp
  rw [ho]
  simp only [List.map_toArray, List.map_cons, List.map_nil]
  rw [h0, h1, h2', hx', h3, h4, h5']
  clear h0 h1 h2 hx h3 h4 h5 h2' hx' h5' ho
  change _ = _
  kernel_rfl
instance iNodD2_1 : ZerK Tryz.prog 86 14 (rpF zeroN) := ⟨zeroRp⟩
instance iNodD2_2 : EntK Tryz.prog 52 := ⟨fun args w => by go_simp⟩
set_option maxRecDepth 10000 in
set_option maxHeartbeats 4000000 in
theorem refClose_ok : ClOK 28 := by
  intro n ao c mo mc L w hok hag hmr hN hmc hRL
  have hag : Sr w ao n.vA.length c (tF (bA n)) := hag
  refine enterF Tryz.func28 rfl 105 rfl (of_decide_eq_true rfl) (fun A hs hd hb => ?_)
  have b0 : A.eval (.tmp 0) = agV (ndF n (.slice ao n.vA.length c)) 0 74 := hb 0 _ rfl
  have b1 : A.eval (.tmp 1) = .slice mo L.length mc := hb 1 _ rfl
  clear hb
  have H := Cx.start w
  refine c_rs (m_start ?_)
  refine q_box H ?_
  clear H
  intro w1 H z1
  refine q_al H ?_
  clear H
  intro w2 H z2
  refine q_al H ?_
  clear H
  intro w3 H z3
  refine l_nx ?_
  refine c_rs ?_
  refine qa ?_
  refine q_c1 (show Calls _ _ #[agV (ndF n (.slice ao n.vA.length c)) 0 74] _ _ from refCopy_any n ao c _ (hag.below H.bel) hok.vA) ?_
  rintro e w4 ⟨a3, c3, rfl, o4, k4⟩
  refine ⟨agV (ndF n (.slice a3 n.vA.length c3)) 0 74, rfl, ?_⟩
  have hsz := H.size
  replace H := H.add k4 (agR w n a3 c3) (rw_base o4 hsz) (fun j e => (o4.lt j e).1)
  refine q_sp H.a3 stP_whole (ndF_one _ _ _ _) ?_
  clear H
  intro w5 H z5
  refine l_nx ?_
  refine c_nx ?_
  refine c_rs ?_
  refine qa ?_
  refine q_c1 (show Calls _ _ #[agV (ndF n (.slice a3 n.vA.length c3)) 0 74] _ _ from refNone_any n _ _) ?_
  rintro e w6 ⟨rfl, k6⟩
  refine ⟨_, rfl, ?_⟩
  replace H := H.call k6
  refine l_nx ?_
  refine q_if (fun hno => ?_) (fun hno => ?_)
  · refine c_rs ?_
    refine qa ?_
    refine qg (run_bldRp0 rfl _) ?_
    refine q_sp H.a2 stP_whole (ndF_one _ _ _ _) ?_
    clear H
    intro w7 H z7
    refine q_sp H.a1 stP_whole (rpP_one _ _) ?_
    clear H
    intro w8 H z8
    refine l_nx ?_
    have e1 : cloN n (L.map Lm.m) = n := by unfold cloN; rw [if_pos hno]
    have e2 : cloR n (L.map Lm.m) = zeroN := by unfold cloR; rw [if_pos hno]
    rw [e1, e2]
    exact c_ret (r_nx (ret_of ((defL _ _).trans hd) (res_cc rfl Qv Qv ManyK.out ManyK.out H.v2 (Nat.le_refl _) H.v1 (Nat.le_refl _)) ⟨a3, c3, rfl, H.o0, H.bel⟩))
  refine c_fin ?_
  refine c_midN (fun A W' => (A.tmps.size = 105 ∧ A.defers = [] ∧ A.eval (.tmp 1) = .slice mo L.length mc ∧ A.eval (.tmp 2) = .pointer (some ⟨w.heap.size, 0, none⟩) ∧ A.eval (.tmp 4) = .pointer (some ⟨w1.heap.size, 0, none⟩) ∧ A.eval (.tmp 5) = .pointer (some ⟨w2.heap.size, 0, none⟩)) ∧ A.eval (.tmp 6) = .bool (n.vS && decide (n.vX ≠ n.dg)) ∧ Cx w W' [agR w n a3 c3, vhI 86 w2.heap.size 14 14 (rpF zeroN), vhI 37 w1.heap.size 74 74 (ndF zeroN (.slice none 0 0)), vhI 37 w.heap.size 74 74 (ndF n (.slice a3 n.vA.length c3))]) (fun hT => ?_) (fun A V0 hT => ?_)
  · refine c_region ?_
    iterate 2 refine qa ?_
    refine qg (run_lod1 (v := .bool n.vS) _ _ rfl OneK.out Qv H.v3 (by omega) rfl) ?_
    refine qa ?_
    rcases hvs : n.vS with _ | _
    · iterate 6 refine q_skip ?_
      refine qg (run_pickF _ _ _ rfl Qv Qv _) ?_
      refine qa ?_
      refine l_nx ?_
      exact hT _ _ ⟨⟨(szL _ _).trans hs, (defL _ _).trans hd, Qv, Qv, Qv, Qv⟩, Eq.trans Qv (by rw [hvs]; rfl), H⟩
    · iterate 6 refine qa ?_
      refine qg (run_pickT' _ _ _ rfl Qv Qv _) ?_
      refine qa ?_
      refine l_nx ?_
      exact hT _ _ ⟨⟨(szL _ _).trans hs, (defL _ _).trans hd, Qv, Qv, Qv, Qv⟩, Eq.trans Qv (by rw [hvs]; rfl), H⟩
  clear b0 b1 hs hd H
  obtain ⟨⟨hs, hd, b1, b2, b4, b5⟩, b6, H⟩ := hT
  refine c_nx ?_
  refine c_rs (m_start ?_)
  refine qa ?_
  refine l_nx ?_
  refine c_block ?_
  refine c_loop (fun r A W' => ∃ (i : Nat) (lb : Bool) (N : Nd), i ≤ 4 ∧ 4 - i ≤ r ∧ (A.tmps.size = 105 ∧ A.defers = [] ∧ A.eval (.tmp 1) = .slice mo L.length mc ∧ A.eval (.tmp 2) = .pointer (some ⟨w.heap.size, 0, none⟩) ∧ A.eval (.tmp 4) = .pointer (some ⟨w1.heap.size, 0, none⟩) ∧ A.eval (.tmp 5) = .pointer (some ⟨w2.heap.size, 0, none⟩)) ∧ A.eval (.tmp 6) = .bool lb ∧ A.eval (.tmp 7) = .int .i64 (i : Int) ∧ (N.id = n.id ∧ N.fr = n.fr ∧ N.vA = n.vA) ∧ (lb = true → (n.vS && decide (n.vX ≠ n.dg)) = true ∧ N = n ∧ ∀ p q, p < q → q < 4 → (p < i) → pairL n L p q = none) ∧ (lb = false → N = cloF n L) ∧ Cx w W' [agR w n a3 c3, vhI 86 w2.heap.size 14 14 (rpF zeroN), vhI 37 w1.heap.size 74 74 (ndF zeroN (.slice none 0 0)), vhI 37 w.heap.size 74 74 (ndF N (.slice a3 n.vA.length c3))]) 4
    ⟨0, (n.vS && decide (n.vX ≠ n.dg)), n, by omega, by omega, ⟨(szL _ _).trans hs, (defL _ _).trans hd, Qv, Qv, Qv, Qv⟩, Qv, Qv, ⟨rfl, rfl, rfl⟩, (fun hl => ⟨hl, rfl, fun p q _ _ h => absurd h (by omega)⟩), (fun hl => by unfold cloF; rw [if_neg (by rw [hl]; decide)]), H⟩ (fun r A W hI => ?_)
  clear b1 b2 b4 b5 b6 hs hd H
  obtain ⟨i, lb, N, hi, hir, ⟨hs, hd, b1, b2, b4, b5⟩, b6, b7, hN3, hT1, hT2, H⟩ := hI
  refine c_nx ?_
  refine c_rs (m_start ?_)
  iterate 2 refine qa ?_
  refine l_nx ?_
  refine q_if (fun h => ?_) (fun h => ?_)
  · have hin : i < 4 := by have := of_decide_eq_true h; omega
    refine c_fin ?_
    refine c_nx (c_block ?_)
    refine c_rs ?_
    iterate 3 refine qa ?_
    refine l_nx ?_
    refine c_block ?_
    refine c_loop (fun r A W' => ∃ (k : Nat) (lb : Bool) (N : Nd), i < k ∧ k ≤ 4 ∧ 4 - k ≤ r ∧ (A.tmps.size = 105 ∧ A.defers = [] ∧ A.eval (.tmp 1) = .slice mo L.length mc ∧ A.eval (.tmp 2) = .pointer (some ⟨w.heap.size, 0, none⟩) ∧ A.eval (.tmp 4) = .pointer (some ⟨w1.heap.size, 0, none⟩) ∧ A.eval (.tmp 5) = .pointer (some ⟨w2.heap.size, 0, none⟩)) ∧ A.eval (.tmp 6) = .bool lb ∧ A.eval (.tmp 7) = .int .i64 (i : Int) ∧ A.eval (.tmp 8) = .int .i64 (k : Int) ∧ (N.id = n.id ∧ N.fr = n.fr ∧ N.vA = n.vA) ∧ (lb = true → (n.vS && decide (n.vX ≠ n.dg)) = true ∧ N = n ∧ ∀ p q, p < q → q < 4 → (p < i ∨ p = i ∧ q < k) → pairL n L p q = none) ∧ (lb = false → N = cloF n L) ∧ Cx w W' [agR w n a3 c3, vhI 86 w2.heap.size 14 14 (rpF zeroN), vhI 37 w1.heap.size 74 74 (ndF zeroN (.slice none 0 0)), vhI 37 w.heap.size 74 74 (ndF N (.slice a3 n.vA.length c3))]) 4
      ⟨i + 1, lb, N, by omega, by omega, by omega, ⟨(szL _ _).trans hs, (defL _ _).trans hd, Qv, Qv, Qv, Qv⟩, Qv, Qv, Eq.trans Qv (by rw [Int.natCast_add]; rfl), hN3, (fun hl => ⟨(hT1 hl).1, (hT1 hl).2.1, fun p q h1 h2 h3 => (hT1 hl).2.2 p q h1 h2 (by omega)⟩), hT2, H⟩ (fun r A W2 hI => ?_)
    clear b1 b2 b4 b5 b6 b7 hs hd H hN3 hT1 hT2 lb N
    obtain ⟨k, lb, N, hik, hk, hkr, ⟨hs, hd, b1, b2, b4, b5⟩, b6, b7, b8, hN3, hT1, hT2, H⟩ := hI
    refine c_nx ?_
    refine c_rs (m_start ?_)
    iterate 2 refine qa ?_
    refine l_nx ?_
    refine q_if (fun h => ?_) (fun h => ?_)
    · have hk4 : k < 4 := by have := of_decide_eq_true h; omega
      refine c_fin ?_
      refine c_nx (c_block ?_)
      refine c_rs ?_
      refine qa ?_
      iterate 2 refine qa ?_
      refine m_do rfl (wanted_rd rfl) (fun K hK => wp_call5 _ _ _ _ _ _ _ _ rfl Qv Qv Qv Qv Qv (enter_first _ _ _ _ _ _) (show Calls _ _ #[agV (ndF N (.slice a3 n.vA.length c3)) 0 74, .slice mo L.length mc, .int .i64 (i : Int), .int .i64 5, .int .i64 24] _ (fun e w' => e = .returned (fstV (fL N.id N.fr L (i : Int) 5 24)) ∧ _) from refFirst_any N (.slice a3 n.vA.length c3) mo mc L (i : Int) 5 24 _ (hmr.below H.bel) hN) ?_)
      rintro e V1 ⟨rfl, k1⟩
      refine ⟨_, by rw [fstV_eq, hN3.1, hN3.2.1], hK _ _ ?_⟩
      replace H := H.call k1
      refine qa ?_
      refine qg (run_extA _ rfl Qv _) ?_
      refine qg (run_extB _ rfl Qv _) ?_
      iterate 2 refine qa ?_
      refine l_nx ?_
      refine c_rs ?_
      refine qa ?_
      iterate 2 refine qa ?_
      refine m_do rfl (wanted_rd rfl) (fun K hK => wp_call5 _ _ _ _ _ _ _ _ rfl Qv Qv Qv Qv Qv (enter_first _ _ _ _ _ _) (show Calls _ _ #[agV (ndF N (.slice a3 n.vA.length c3)) 0 74, .slice mo L.length mc, .int .i64 (k : Int), .int .i64 5, .int .i64 24] _ (fun e w' => e = .returned (fstV (fL N.id N.fr L (k : Int) 5 24)) ∧ _) from refFirst_any N (.slice a3 n.vA.length c3) mo mc L (k : Int) 5 24 _ (hmr.below H.bel) hN) ?_)
      rintro e V2 ⟨rfl, k2⟩
      refine ⟨_, by rw [fstV_eq, hN3.1, hN3.2.1], hK _ _ ?_⟩
      replace H := H.call k2
      refine qa ?_
      refine qg (run_extA _ rfl Qv _) ?_
      refine qg (run_extB _ rfl Qv _) ?_
      iterate 2 refine qa ?_
      refine l_nx ?_
      refine c_midN (fun A W' => (A.tmps.size = 105 ∧ A.defers = [] ∧ A.eval (.tmp 1) = .slice mo L.length mc ∧ A.eval (.tmp 2) = .pointer (some ⟨w.heap.size, 0, none⟩) ∧ A.eval (.tmp 4) = .pointer (some ⟨w1.heap.size, 0, none⟩) ∧ A.eval (.tmp 5) = .pointer (some ⟨w2.heap.size, 0, none⟩)) ∧ A.eval (.tmp 6) = .bool lb ∧ A.eval (.tmp 7) = .int .i64 (i : Int) ∧ A.eval (.tmp 8) = .int .i64 (k : Int) ∧ A.eval (.tmp 9) = alkV (fL n.id n.fr L (i : Int) 5 24) ∧ A.eval (.tmp 67) = .bool (lb && (pairL n L i k).isSome) ∧ Cx w W' [agR w n a3 c3, vhI 86 w2.heap.size 14 14 (rpF zeroN), vhI 37 w1.heap.size 74 74 (ndF zeroN (.slice none 0 0)), vhI 37 w.heap.size 74 74 (ndF N (.slice a3 n.vA.length c3))]) (fun hT => ?_) (fun A V3 hT => ?_)
      · refine c_region ?_
        iterate 2 refine qa ?_
        rcases lb with _ | _
        · refine q_skip ?_
          refine qg (run_pickF _ _ _ rfl Qv Qv _) ?_
          refine qa ?_
          refine q_skip ?_
          refine qg (run_pickF _ _ _ rfl Qv Qv _) ?_
          refine qa ?_
          iterate 3 refine q_skip ?_
          refine qg (run_pickF _ _ _ rfl Qv Qv _) ?_
          refine l_nx ?_
          exact hT _ _ ⟨⟨(szL _ _).trans hs, (defL _ _).trans hd, Qv, Qv, Qv, Qv⟩, Qv, Qv, Qv, Qv, Qv, H⟩
        refine qa ?_
        refine qg (run_pickT' _ _ _ rfl Qv Qv _) ?_
        refine qa ?_
        rcases hfi : fL n.id n.fr L (i : Int) 5 24 with _ | ci
        · refine q_skip ?_
          refine qg (run_pickF _ _ _ rfl Qv Qv _) ?_
          refine qa ?_
          iterate 3 refine q_skip ?_
          refine qg (run_pickF _ _ _ rfl Qv Qv _) ?_
          refine l_nx ?_
          exact hT _ _ ⟨⟨(szL _ _).trans hs, (defL _ _).trans hd, Qv, Qv, Qv, Qv⟩, Qv, Qv, Qv, Eq.trans Qv (by rw [hfi]), Eq.trans Qv (by unfold pairL; rw [hfi]; rfl), H⟩
        refine qa ?_
        refine qg (run_pickT' _ _ _ rfl Qv Qv _) ?_
        refine qa ?_
        rcases hfk : fL n.id n.fr L (k : Int) 5 24 with _ | ck
        · iterate 3 refine q_skip ?_
          refine qg (run_pickF _ _ _ rfl Qv Qv _) ?_
          refine l_nx ?_
          exact hT _ _ ⟨⟨(szL _ _).trans hs, (defL _ _).trans hd, Qv, Qv, Qv, Qv⟩, Qv, Qv, Qv, Eq.trans Qv (by rw [hfi]), Eq.trans Qv (by unfold pairL; rw [hfi, hfk]; rfl), H⟩
        obtain ⟨mci, _⟩ := fL_mem hfi
        obtain ⟨mck, _⟩ := fL_mem hfk
        iterate 2 refine qa ?_
        refine m_do rfl (wanted_g rfl rfl rfl Qv) (fun K hK => wp_call2 _ _ _ _ _ rfl Qv Qv (EntK.out _ _) (show Calls _ _ #[alkV (some ci), alkV (some ck)] _ _ from refSameInts_any ci.m.L ck.m.L ci.ao ck.ao ci.cap ck.cap _ (by have := (hmr.2 ci mci).2.2; omega) ((hmr.2 ci mci).below H.bel).1 ((hmr.2 ck mck).below H.bel).1) ?_)
        rintro e V1 ⟨rfl, k1⟩
        refine ⟨_, rfl, hK _ _ ?_⟩
        replace H := H.call k1
        refine qg (run_pickT' _ _ _ rfl Qv Qv _) ?_
        refine l_nx ?_
        exact hT _ _ ⟨⟨(szL _ _).trans hs, (defL _ _).trans hd, Qv, Qv, Qv, Qv⟩, Qv, Qv, Qv, Eq.trans Qv (by rw [hfi]), Eq.trans Qv (by unfold pairL; rw [hfi, hfk]; by_cases he : ci.m.L = ck.m.L <;> simp [he]), H⟩
      clear b1 b2 b4 b5 b6 b7 b8 hs hd H
      obtain ⟨⟨hs, hd, b1, b2, b4, b5⟩, b6, b7, b8, b9, b67, H⟩ := hT
      refine c_cond b67 (fun h => ?_) (fun h => ?_)
      · simp only [Bool.and_eq_true] at h
        obtain ⟨rfl, hps⟩ := h
        obtain ⟨hL0, rfl, hnp⟩ := hT1 rfl
        obtain ⟨ci, hpk⟩ := Option.isSome_iff_exists.1 hps
        have hfi : fL N.id N.fr L (i : Int) 5 24 = some ci := by
          unfold pairL at hpk
          split at hpk
          · rename_i a b ha hb
            split at hpk
            · cases hpk; exact ha
            · cases hpk
          · cases hpk
        obtain ⟨mci, fci⟩ := fL_mem hfi
        have hl24 : ci.m.L.length = 24 := by have := fit_lenR fci; omega
        have hal : alk N L = some ci := alk_found hik hk4 hpk (fun p q h1 h2 h3 => hnp p q h1 h2 h3)
        have hsr := ((hmr.2 ci mci).below H.bel)
        obtain ⟨y, ey, hyc⟩ := hsr.at (by omega)
        have hlm : alkV (fL N.id N.fr L (i : Int) 5 24) = .slice (some y) 24 ci.cap := by rw [hfi]; show Value.slice ci.ao ci.m.L.length ci.cap = _; rw [ey, hl24]
        refine c_rs (m_start ?_)
        refine qa ?_
        refine l_nx ?_
        refine c_rs ?_
        refine qa ?_
        refine qg (run_move _ rfl (Eq.trans Qv hlm) _) ?_
        refine m_do rfl (wanted_rd rfl) (fun K hK => wp_call2 _ _ _ _ _ rfl Qv Qv (enter_runpacked _ _ _) (show Calls _ _ #[agV (ndF N (.slice a3 N.vA.length c3)) 0 74, .slice (some y) 24 ci.cap] _ _ from refUnpacked_any N (.slice a3 N.vA.length c3) ci.m.L y ci.cap _ rfl (by have := hsr.2.1; omega) (fun j hj => hyc j (by omega))) ?_)
        rintro e V4 ⟨fx, rfl, ofx, hfx, k4'⟩
        refine ⟨_, rfl, hK _ _ ?_⟩
        replace H := H.call k4'
        refine qa ?_
        refine qg (run_extA _ rfl Qv _) ?_
        refine qg (run_extB _ rfl Qv _) ?_
        refine q_al H ?_
        clear H
        intro V5 H z7
        refine q_sp H.a0 stP_whole ofx ?_
        clear H
        intro V6 H z8
        refine qa ?_
        refine l_nx ?_
        refine c_rs ?_
        refine qa ?_
        refine l_nx ?_
        refine q_if (fun hu => ?_) (fun hu => ?_)
        · refine c_region ?_
          refine qa ?_
          refine q_sp H.a4 stP_whole ofx ?_
          clear H
          intro V7 H z9
          refine l_finB ?_
          refine c_region ?_
          repeat refine qa ?_
          refine l_round ⟨4 - (k + 1), by omega, k + 1, false, { N with ax := unA ci.m.L, rl := unR ci.m.L }, by omega, by omega, by omega, ⟨(szL _ _).trans hs, (defL _ _).trans hd, Qv, Qv, Qv, Qv⟩, Qv, Qv, Eq.trans Qv (by rw [Int.natCast_add]; rfl), ⟨rfl, rfl, rfl⟩, (fun h => by cases h), (fun _ => by unfold cloF cloT; rw [if_pos hL0, hal]; exact (if_pos hu).symm), ?_⟩
          exact (H.tl.f3.a0.put (y := (vhI _ _ _ _ _)) ⟨rfl, rfl, rfl, (Nat.le_refl _), fun _ _ _ => rfl, (Vh.congr H.tl.f3.v0 (hfx hu)), fun _ h => Or.inl h⟩).b3
        · refine c_finB ?_
          refine c_region ?_
          repeat refine qa ?_
          exact l_round ⟨4 - (k + 1), by omega, k + 1, false, N, by omega, by omega, by omega, ⟨(szL _ _).trans hs, (defL _ _).trans hd, Qv, Qv, Qv, Qv⟩, Qv, Qv, Eq.trans Qv (by rw [Int.natCast_add]; rfl), ⟨rfl, rfl, rfl⟩, (fun h => by cases h), (fun _ => by unfold cloF cloT; rw [if_pos hL0, hal]; exact (if_neg (by rw [hu]; decide)).symm), H.tl⟩
      · refine c_finB ?_
        refine c_region (m_start ?_)
        repeat refine qa ?_
        refine l_round ⟨4 - (k + 1), by omega, k + 1, lb, N, by omega, by omega, by omega, ⟨(szL _ _).trans hs, (defL _ _).trans hd, Qv, Qv, Qv, Qv⟩, Qv, Qv, Eq.trans Qv (by rw [Int.natCast_add]; rfl), hN3, (fun hl => ⟨(hT1 hl).1, (hT1 hl).2.1, fun p q h1 h2 h3 => ?_⟩), hT2, H⟩
        by_cases e : p = i ∧ q = k
        · rw [e.1, e.2]
          rw [hl, Bool.true_and] at h
          exact Option.not_isSome_iff_eq_none.1 (by rw [h]; decide)
        · exact (hT1 hl).2.2 p q h1 h2 (by omega)
    · obtain rfl : k = 4 := by have := of_decide_eq_false h; omega
      refine c_exit (x_out2 ?_)
      refine c_region ?_
      repeat refine qa ?_
      exact l_round ⟨4 - (i + 1), by omega, i + 1, lb, N, by omega, by omega, ⟨(szL _ _).trans hs, (defL _ _).trans hd, Qv, Qv, Qv, Qv⟩, Qv, Eq.trans Qv (by rw [Int.natCast_add]; rfl), hN3, (fun hl => ⟨(hT1 hl).1, (hT1 hl).2.1, fun p q h1 h2 h3 => (hT1 hl).2.2 p q h1 h2 (by omega)⟩), hT2, H⟩
  obtain rfl : i = 4 := by have := of_decide_eq_false h; omega
  have eF : N = cloF n L := by
    rcases lb with _ | _
    · exact hT2 rfl
    · obtain ⟨hl, e, hnp⟩ := hT1 rfl
      rw [e]
      unfold cloF cloT
      rw [if_pos hl, alk_none (fun p q h1 h2 => hnp p q h1 h2 (by omega))]
  have eN : cloN n (L.map Lm.m) = N := by
    rw [eF]
    unfold cloF
    by_cases hl : (n.vS && decide (n.vX ≠ n.dg)) = true
    · rw [if_pos hl]
      simp only [Bool.and_eq_true, decide_eq_true_eq] at hl
      exact clo_take hno hl
    · rw [if_neg hl]
      simp only [Bool.and_eq_true, decide_eq_true_eq] at hl
      exact clo_still hno hl
  refine c_exit (x_out ?_)
  refine c_nx ?_
  replace H := H.drew
  have hS : Its [vhI 37 w.heap.size 74 74 (ndF N (.slice a3 n.vA.length c3))] W.drew := Its.cons H.o3 (Its.nil _)
  refine c_rj (S := Its [vhI 37 w.heap.size 74 74 (ndF N (.slice a3 n.vA.length c3))]) (.rd 0 (.mv 1 (.rd 2 (.mv 3 (.rd 4 (.mv 5 (.rd 6 (.mv 7 (.mv 8 (.mv 9 (.rd 10 (.mv 11 (.mv 12 (.mv 13 (.rd 14 (.mv 15 (.mv 16 (.mv 17 (.rd 18 (.mv 19 (.mv 20 (.rd 21 (.mv 22 (.mv 23 (.rd 24 (.mv 25 (.mv 26 (.rd 27 (.mv 28 (.go 29 (.go 30 .fin))))))))))))))))))))))))))))))) [] (by kernel_rfl) (by kernel_rfl) ?_
  refine qr hS ?_
  refine qj ?_
  refine qr hS ?_
  refine qj ?_
  refine qr hS ?_
  refine qj ?_
  refine j_rd rfl rfl (fun _ _ _ h => h) (wanted_rd rfl) hS (fun _ H => run_loadPe (h := fun i => iV (N.us i)) _ _ rfl many3 Qv H.v0 (by omega) (nd_us N _)) ?_
  refine qj ?_
  refine j_mv rfl rfl (fun _ _ _ h => h) (wanted_rd rfl) (fun w => run_ixG (i := 0) _ _ _ _ rfl ArrK.out SizK.out Qv Qv rfl (by omega) w) ?_
  refine qj ?_
  refine j_rd rfl rfl (fun _ _ _ h => h) (wanted_rd rfl) hS (fun _ H => run_lod1 (v := .int .i64 (N.ax 0).X) _ _ rfl OneK.out Qv H.v0 (by omega) rfl) ?_
  refine qj ?_
  refine j_mv rfl rfl (fun _ _ _ h => h) (wanted_rd rfl) (fun w => run_ixG (i := 1) _ _ _ _ rfl ArrK.out SizK.out Qv Qv rfl (by omega) w) ?_
  refine qj ?_
  refine j_rd rfl rfl (fun _ _ _ h => h) (wanted_rd rfl) hS (fun _ H => run_lod1 (v := .int .i64 (N.ax 1).X) _ _ rfl OneK.out Qv H.v0 (by omega) rfl) ?_
  refine qj ?_
  refine j_mv rfl rfl (fun _ _ _ h => h) (wanted_rd rfl) (fun w => run_ixG (i := 2) _ _ _ _ rfl ArrK.out SizK.out Qv Qv rfl (by omega) w) ?_
  refine qj ?_
  refine j_rd rfl rfl (fun _ _ _ h => h) (wanted_rd rfl) hS (fun _ H => run_lod1 (v := .int .i64 (N.ax 2).X) _ _ rfl OneK.out Qv H.v0 (by omega) rfl) ?_
  refine j_mv rfl rfl (fun _ _ _ h => h) (wanted_rd rfl) (fun _ => run_bld3 _ _ _ rfl (g := fun i => (N.ax i).X) Qv Qv Qv _) ?_
  refine qj ?_
  refine qr hS ?_
  iterate 2 refine qj ?_
  refine qr hS ?_
  iterate 2 refine qj ?_
  refine j_rd rfl rfl (fun _ _ _ h => h) (wanted_rd rfl) hS (fun _ H => run_loadPe _ _ rfl manyB4 Qv H.v0 (by omega) (ndF_inR _ _)) ?_
  refine j_mv rfl rfl (fun _ _ _ h => h) (wanted_rd rfl) (fun _ => run_bldRp7 (n := N) _ _ _ _ _ _ _ rfl Qv Qv Qv Qv Qv Qv Qv _) ?_
  refine j_st rfl (wanted_rd rfl) (fun K hK => ?_)
  refine wp_storeP _ _ _ _ rfl ManyK.out Qv Qv H.v2 (by omega) (ndF_one _ _ _ _) rfl (fun V1 m1 k1 z7 => ?_)
  replace H := H.a2.s k1 (m1.congr stP_whole)
  refine hK _ (fun _ _ => Its.cons H.o3 (Its.nil _)) ?_
  refine j_st rfl (wanted_rd rfl) (fun K hK => ?_)
  refine wp_storeP _ _ _ _ rfl ManyK.out Qv Qv H.v1 (by omega) (rpP_one _ _) rfl (fun V2 m2 k2 z8 => ?_)
  replace H := H.a1.s k2 (m2.congr stP_whole)
  refine hK _ (fun _ _ => Its.cons H.o3 (Its.nil _)) ?_
  refine j_nx ?_
  have e2 : cloR n (L.map Lm.m) = cloN n (L.map Lm.m) := by unfold cloR; rw [if_neg (by rw [hno]; decide)]
  have evA := hN3.2.2
  rw [e2, eN]
  refine c_ret (ret_of ((defL _ _).trans hd) (res_cc rfl Qv Qv ManyK.out ManyK.out H.v2 (Nat.le_refl _) H.v1 (Nat.le_refl _)) ⟨a3, c3, by rw [evA]; rfl, ?_, H.bel⟩)
  unfold AgNew bA
  rw [evA]
  exact H.o0

end Go.Proofs.YthimcecbgpamdaaGreat
