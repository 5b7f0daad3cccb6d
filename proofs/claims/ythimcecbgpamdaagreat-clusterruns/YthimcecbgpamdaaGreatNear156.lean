/- Joined: NodPr14, RefNod4, NodPr5, NodPr9v, RefVot, RefVot2, MemChg, RefStp, RefNod10, VotSame, LawsO1. -/
import Derived.Test.YthimcecbgpamdaaGreatNear151
import Derived.Test.YthimcecbgpamdaaGreatNear169
import Derived.Test.YthimcecbgpamdaaGreatNodPr13
import Derived.Test.YthimcecbgpamdaaGreatNear141
import Derived.Test.YthimcecbgpamdaaGreatNear140
import Derived.Test.YthimcecbgpamdaaGreatNear166
import Derived.Test.YthimcecbgpamdaaGreatNear90
import Derived.Test.YthimcecbgpamdaaGreatNear160
import Derived.Test.YthimcecbgpamdaaGreatNear109
import Derived.Test.YthimcecbgpamdaaGreatVotOps
import Derived.Test.YthimcecbgpamdaaGreatNear91
import Derived.Test.YthimcecbgpamdaaGreatNear172
import Derived.ArgAppend
import Derived.Test.YthimcecbgpamdaaGreatNear148
import Derived.Test.YthimcecbgpamdaaGreatNear157
import Derived.Test.YthimcecbgpamdaaGreatNear70
namespace Go.Proofs.YthimcecbgpamdaaGreat
open Go.RowKit

theorem enter_pstep (x y z : Value) (w : World) : (callFunc 65 #[x, y, z]).run Tryz.prog w = .ok (.enter 65 #[x, y, z]) w := by go_simp
theorem nd_ax2 (n : Nd) (v : Value) : ∀ j, j < 21 → ndF n v (0 + 6 + j) = naxF n.ax j := fun j hj => by
  unfold ndF naxF
  rw [if_neg (by omega), if_neg (by omega), if_pos (by omega), show 0 + 6 + j - 6 = j by omega]
theorem nd_ag (n : Nd) (v : Value) : ∀ j, j < 12 → ndF n v (0 + 55 + j) = diF n.ag j := fun j hj => by
  unfold ndF diF
  rw [if_neg (by omega), if_neg (by omega), if_neg (by omega), if_neg (by omega), if_neg (by omega), if_neg (by omega), if_pos (by omega), show 0 + 55 + j - 55 = j by omega]
theorem upd_agW (n : Nd) (v : Value) (d : Nat → Nat → Int) : ∀ j, j < 74 → stP (ndF n v) (0 + 55) 12 (diF d) j = ndF (NA n d n.us n.ax) v j := each74 rfl
theorem us_zero {n : Nd} {l : List Ms} : usP n l 0 = n.us := by funext k; unfold usP; rw [if_neg (by omega)]
theorem ax_zero {n : Nd} {l : List Ms} : axP n l 0 = n.ax := by funext k; unfold axP; rw [if_neg (by omega)]
theorem NA_doneA {n : Nd} {l : List Ms} {v : Value} : ndF (NA n (decG n l) (usP n l 3) (axP n l 3)) v = ndF (NA n (decG n l) (decU n l) (decA n l)) v :=
  ndF_ext (n := n) (fun _ _ _ => rfl) (fun _ _ _ _ => rfl) (fun k h => by unfold usP; rw [if_pos h]) (fun k h => by unfold axP; rw [if_pos h])
instance iNodPr14_1 : ZerK Tryz.prog 25 7 (nstF St.nil') := ⟨zeroSt⟩
set_option maxRecDepth 10000 in
set_option maxHeartbeats 4000000 in
theorem nodeDecide_ok : PhOK decN decM 35 := by
  intro n ao c mo mc L w hok hag hmr hN hmc hRL
  have hag : Sr w ao n.vA.length c (tF (bA n)) := hag
  refine enterF Tryz.func35 rfl 72 rfl (of_decide_eq_true rfl) (fun A hs hd hb => ?_)
  have b0 : A.eval (.tmp 0) = agV (ndF n (.slice ao n.vA.length c)) 0 74 := hb 0 _ rfl
  have b1 : A.eval (.tmp 1) = .slice mo L.length mc := hb 1 _ rfl
  clear hb
  have H := Cx.start w
  refine c_rs (m_start ?_)
  refine q_box H ?_
  clear H
  intro w1 H z1
  refine q_al H ?_
  clear H
  intro w2 H z2
  refine q_al H ?_
  clear H
  intro w3 H z3
  refine l_nx ?_
  refine c_rs ?_
  refine qa ?_
  refine m_do rfl (wanted_rd rfl) (fun K hK => wp_call1 _ 58 _ _ rfl Qv (enter_pown _ _) (own_any n ao c _ (hag.below H.bel) hok.vA) ?_)
  rintro e w4 ⟨a3, c3, rfl, o4, k4⟩
  refine ⟨agV (ndF n (.slice a3 n.vA.length c3)) 0 74, rfl, hK _ _ ?_⟩
  clear hK K
  have hsz := H.size
  replace H := H.add k4 (agR w n a3 c3) (rw_base o4 hsz) (fun j e => (o4.lt j e).1)
  refine q_sp H.a3 stP_whole (ndF_one _ _ _ _) ?_
  clear H
  intro w5 H z5
  refine l_nx ?_
  refine c_nx ?_
  refine c_rs ?_
  iterate 2 refine qa ?_
  refine m_do rfl (wanted_rd rfl) (fun K hK => wp_call1 _ 59 _ _ rfl Qv (enter_pisNode _ _) (isNode_any n.id _) ?_)
  rintro e w6 ⟨rfl, k6⟩
  refine ⟨_, rfl, hK _ _ ?_⟩
  clear hK K
  replace H := H.call k6
  refine qa ?_
  refine l_nx ?_
  refine c_cond (t := noN n.id) (Eq.trans Qv (by rw [Bool.not_not])) (fun hno => ?_) (fun hno => ?_)
  · refine c_rs ?_
    refine qa ?_
    refine qg (run_bld0 rfl _) ?_
    refine q_sp H.a2 stP_whole (ndF_one _ _ _ _) ?_
    clear H
    intro w7 H z7
    refine q_sp H.a1 stP_whole (msF_one _ _ _ _ _ _) ?_
    clear H
    intro w8 H z8
    refine l_nx ?_
    have e1 : decN n (L.map Lm.m) = n := by unfold decN; rw [if_pos hno]
    have e2 : decM n (L.map Lm.m) = zeroM := by unfold decM; rw [if_pos hno]
    rw [e1, e2]
    exact c_ret (r_nx (ret_of ((defL _ _).trans hd) (res_cc rfl Qv Qv ManyK.out ManyK.out H.v2 (Nat.le_refl _) H.v1 (Nat.le_refl _)) ⟨a3, c3, none, 0, rfl, H.o0, World.ownsRow_nil _ _ _ _, H.bel⟩))
  obtain ⟨h0, h3⟩ := noN_in hno
  obtain ⟨I, hI⟩ : ∃ I : Nat, n.id = (I : Int) := ⟨n.id.toNat, by omega⟩
  have hI4 : I < 4 := by omega
  refine c_fin ?_
  refine c_nx ?_
  replace H := H.drew
  refine c_rj (S := Its [vhI 37 w.heap.size 74 74 (ndF n (.slice a3 n.vA.length c3))]) (.rd 0 (.rd 1 (.mv 2 (.go 3 (.go 4 (.mv 5 (.go 6 .fin))))))) [6] (by kernel_rfl) (by kernel_rfl) ?_
  have hS := Its.cons H.o3 (Its.nil _)
  iterate 2 refine qr hS ?_
  refine qj ?_
  refine j_do rfl rfl (wanted_rd rfl) (fun K hK => wp_call4n _ 61 _ _ _ _ _ rfl Qv Qv (ev_const _ _) (ev_const _ _) (enter_phear _ _ _ _ _) (hear_any n _ mo mc L 2 12 _ (hmr.below H.bel) hN (by decide)) ?_)
  rintro e w7 ⟨rfl, k7⟩
  replace H := H.call k7
  refine ⟨_, rfl, hK _ _ (fun _ _ => Its.cons H.o3 (Its.nil _)) ?_⟩
  clear hK K
  refine j_do rfl rfl (wanted_rd rfl) (fun K hK => wp_call2 _ 63 _ _ _ rfl Qv Qv (enter_pagreed _ _ _) (agreed_any n _ mo L I _ hok hI hI4 (hmr.below H.bel) hRL) ?_)
  rintro e w8 ⟨rfl, k8⟩
  replace H := H.call k8
  refine ⟨_, rfl, hK _ _ (fun _ _ => Its.cons H.o3 (Its.nil _)) ?_⟩
  clear hK K
  refine qj ?_
  refine j_st rfl (wanted_rd rfl) (fun K hK => wp_storeP _ _ _ _ rfl ManyK.out (f := diF (decG n (L.map Lm.m))) Qv Qv H.v3 (by omega) (fun j hj => rfl) rfl (fun V m k z => hK _ (fun h => absurd h (by decide)) ?_))
  replace H := H.a3.s k (m.congr (upd_agW _ _ _))
  refine j_nx ?_
  refine c_nx ?_
  refine c_rs ?_
  refine qa ?_
  refine qg (run_loadPe (h := naxF n.ax) _ _ rfl ManyK.out Qv H.v3 (by omega) (nd_ax2 _ _)) ?_
  refine qa ?_
  refine l_nx ?_
  refine c_block ?_
  refine c_loop (fun r A W => ∃ x : Nat, x ≤ 3 ∧ 3 - x ≤ r ∧ dcA 72 A w w1 w2 (.slice mo L.length mc) ∧ A.eval (.tmp 23) = agV (naxF n.ax) 0 21 ∧ A.eval (.tmp 24) = .int .i64 (x : Int) ∧ Cx w W (dcBn w w1 w2 n (NA n (decG n (L.map Lm.m)) (usP n (L.map Lm.m) x) (axP n (L.map Lm.m) x)) a3 c3)) 3
    ⟨0, by omega, by omega, ⟨(szL _ _).trans hs, (defL _ _).trans hd, Qv, Qv, Qv, Qv⟩, Qv, Qv, by rw [us_zero, ax_zero]; exact H⟩ (fun r A W hJ => ?_)
  clear b0 b1 hs hd H
  obtain ⟨x, hx, hxr, ⟨hs, hd, b1, b2, b4, b5⟩, b23, b24, H⟩ := hJ
  refine c_rs (m_start ?_)
  refine qa ?_
  refine l_nx ?_
  refine c_nx ?_
  refine q_if (fun h => ?_) (fun h => ?_)
  · have hx3 : x < 3 := by have := of_decide_eq_true h; omega
    refine c_fin ?_
    refine c_nx (c_block ?_)
    refine c_rs ?_
    refine qa ?_
    refine qg ((run_ixVM _ _ _ _ rfl ArrK.out ManyK.out Qv rfl Qv rfl hx3 _).trans (by rw [nax_part n.ax])) ?_
    refine q_al H ?_
    clear H
    intro w11 H z11
    refine qa ?_
    refine q_sp H.a0 stP_whole (nstF_one _) ?_
    clear H
    intro w12 H z12
    refine l_nx ?_
    refine c_rs ?_
    iterate 2 refine qa ?_
    refine qg (run_loadPe (h := diF (decG n (L.map Lm.m))) _ _ rfl ManyK.out Qv H.v4 (by omega) (nd_ag _ _)) ?_
    iterate 2 refine qa ?_
    refine qg (run_loadPe _ _ rfl ManyK.out Qv H.v4 (by omega) (ndF_inR _ _)) ?_
    refine qa ?_
    refine m_do rfl (wanted_rd rfl) (fun K hK => wp_call3n _ 64 _ _ _ _ rfl Qv Qv Qv (enter_pused _ _ _ _) (used_any (decG n (L.map Lm.m)) n.rl.I x _ hx3 (fun s => decG_R hok hRL s x)) ?_)
    rintro e w13 ⟨rfl, k13⟩
    refine ⟨_, rfl, hK _ _ ?_⟩
    clear hK K
    replace H := H.call k13
    refine qa ?_
    refine qg (run_ixG _ _ _ _ rfl ArrK.out SizK.out Qv Qv rfl hx3 _) ?_
    refine q_st H.a4 (upd_usN hx3) ?_
    clear H
    intro w14 H z14
    refine l_nx ?_
    replace H := H.drew
    refine c_rj (S := Its [vhI 37 w.heap.size 74 74 (ndF (NA n (decG n (L.map Lm.m)) (usP n (L.map Lm.m) (x + 1)) (axP n (L.map Lm.m) x)) (.slice a3 n.vA.length c3)), vhI 25 W.heap.size 7 7 (nstF (n.ax x))]) (.mv 0 (.rd 1 (.mv 2 (.rd 3 (.mv 4 (.mv 5 (.mv 6 (.rd 7 (.mv 12 (.go 8 (.mv 9 (.mv 10 (.mv 11 (.mv 13 (.go 14 .fin))))))))))))))) [14] (by kernel_rfl) (by kernel_rfl) ?_
    have hS := Its.cons H.o4 (Its.cons H.o0 (Its.nil _))
    refine qj ?_
    refine qr hS ?_
    refine qj ?_
    refine j_rd rfl rfl (fun _ _ _ h => h) (wanted_rd rfl) hS (fun _ h => run_loadPe _ _ rfl ManyK.out Qv h.v0 (by omega) (ndF_tn _ _)) ?_
    iterate 2 refine qj ?_
    refine j_mv rfl rfl (fun _ _ _ h => h) (wanted_rd rfl) (fun w => run_ixG _ _ _ _ rfl ArrK.out SizK.out Qv Qv rfl hx3 w) ?_
    refine j_rd rfl rfl (fun _ _ _ h => h) (wanted_rd rfl) hS (fun _ h => run_lod1 _ _ rfl OneK.out Qv h.v0 (by omega) ((ndF_us _ _ hx3).trans (congrArg (Value.int .i64) usP_at))) ?_
    refine qj ?_
    refine j_do rfl rfl (wanted_rd rfl) (fun K hK => wp_call3n _ 65 _ _ _ _ rfl Qv Qv Qv (enter_pstep _ _ _ _) (step_any (n.ax x) n.tn (decU n (L.map Lm.m) x) _ (hok.ax x) hok.tn (decU_R hok hRL x)) ?_)
    rintro e w15 ⟨rfl, k15⟩
    replace H := H.call k15
    refine ⟨_, rfl, hK _ _ (fun _ _ => Its.cons H.o4 (Its.cons H.o0 (Its.nil _))) ?_⟩
    clear hK K
    refine qj ?_
    refine j_mv rfl rfl (fun _ _ _ h => h) (wanted_rd rfl) (fun _ => run_extA _ rfl Qv _) ?_
    refine j_mv rfl rfl (fun _ _ _ h => h) (wanted_rd rfl) (fun _ => run_extB _ rfl Qv _) ?_
    refine j_mv rfl rfl (fun _ _ _ h => h) (wanted_rd rfl) (fun w => run_ixG _ _ _ _ rfl ArrK.out SizK.out Qv Qv rfl hx3 w) ?_
    refine j_st rfl (wanted_rd rfl) (fun K hK => wp_storeP _ _ _ _ rfl ManyK.out (f := nstF (decA n (L.map Lm.m) x)) Qv Qv H.v4 (by omega) (nstF_one _) rfl (fun V m k z => hK _ (fun h => absurd h (by decide)) ?_))
    replace H := H.a4.s k (m.congr (upd_axM hx3))
    refine j_finB ?_
    refine c_region ?_
    iterate 2 refine qa ?_
    exact l_round ⟨3 - (x + 1), by omega, x + 1, by omega, by omega, ⟨(szL _ _).trans hs, (defL _ _).trans hd, Qv, Qv, Qv, Qv⟩, Qv, Eq.trans Qv (by rw [Int.natCast_add]; rfl), H.tl⟩
  obtain rfl : x = 3 := by have := of_decide_eq_false h; omega
  unfold dcBn at H
  rw [NA_doneA] at H
  refine c_exit (x_out ?_)
  refine c_rs ?_
  refine qa ?_
  refine qg (run_loadPe (h := naxF (decA n (L.map Lm.m))) _ _ rfl ManyK.out Qv H.v3 (by omega) (nd_ax2 _ _)) ?_
  refine qa ?_
  refine qg (run_loadPe _ _ rfl ManyK.out Qv H.v3 (by omega) (ndF_rl _ _)) ?_
  refine m_do rfl (wanted_rd rfl) (fun K hK => wp_call2 _ 67 _ _ _ rfl Qv Qv (enter_pnumbers _ _ _) (numbers_any (decA n (L.map Lm.m)) n.rl _) ?_)
  rintro e w11 ⟨po, pc, rfl, op, k11⟩
  refine ⟨_, rfl, hK _ _ ?_⟩
  clear hK K
  replace H := H.call k11
  refine m_do rfl (wanted_rd rfl) (fun K hK => wp_call1 _ 66 _ _ rfl Qv (enter_pdigest _ _) (digest_any (decA n (L.map Lm.m)) n.rl po pc _ (rw_sr2 op)) ?_)
  rintro e w12 ⟨rfl, k12⟩
  refine ⟨_, rfl, hK _ _ ?_⟩
  clear hK K
  replace H := H.call k12
  refine qa ?_
  refine q_st H.a3 (upd_dg _ _ (decD n (L.map Lm.m))) ?_
  clear H
  intro w13 H z13
  refine l_nx ?_
  refine c_rs ?_
  iterate 5 refine qa ?_
  refine qg (run_ixG _ _ _ _ rfl ArrK.out SizK.out Qv Qv hI hI4 _) ?_
  refine q_st H.a3 (upd_heAt _ _ (decD n (L.map Lm.m)) I hI4) ?_
  clear H
  intro w14 H z14
  refine l_nx ?_
  refine c_nx ?_
  replace H : Cx w _ (dcBn w w1 w2 n (dcF n (L.map Lm.m) I) a3 c3) := H.drew
  have e1 : decN n (L.map Lm.m) = dcF n (L.map Lm.m) I := by unfold decN; rw [if_neg (by rw [hno]; decide), dec_he hI]
  have e2 : decM n (L.map Lm.m) = ⟨3, n.id, n.fr, [decD n (L.map Lm.m)]⟩ := by unfold decM; rw [if_neg (by rw [hno]; decide)]
  rw [e1, e2]
  refine c_rj (S := Its [vhI 37 w.heap.size 74 74 (ndF (dcF n (L.map Lm.m) I) (.slice a3 n.vA.length c3))]) (.rd 0 (.rd 1 (.mv 2 (.rd 3 (.go 4 (.go 5 (.go 6 (.go 7 .fin)))))))) [] (by kernel_rfl) (by kernel_rfl) ?_
  have hS := Its.cons H.o3 (Its.nil _)
  iterate 2 refine qr hS ?_
  refine qj ?_
  refine qr hS ?_
  refine j_do rfl rfl (wanted_rd rfl) (fun K hK => wp_one1 (v := iV (decD n (L.map Lm.m))) SlcK.out OneK.out Zer1.out rfl rfl rfl Qv (fun V m k z => ?_))
  have hv := H.size
  replace H := H.call k
  refine hK _ _ (fun _ _ => Its.cons H.o3 (Its.nil _)) ?_
  clear hK K
  refine j_do rfl rfl (wanted_rd rfl) (fun K hK => wp_call3n _ 60 _ _ _ _ rfl Qv (ev_const _ _) Qv (enter_ptell _ _ _ _) (tell_any (dcF n (L.map Lm.m) I) (.slice a3 n.vA.length c3) 3 _ 1 1 (fun _ => decD n (L.map Lm.m)) _ (Or.inr ⟨_, rfl, fun i hi => by rw [add_at, Nat.zero_add]; exact m.cell hi⟩) (by decide)) ?_)
  rintro e w16 ⟨a2, c2, rfl, ov, k16⟩
  have hz := H.size
  replace H := H.add k16 (ownI w.heap.size _ 1 _ _ _) (rw_base ov hz) (fun j e => (ov.lt j e).1)
  refine ⟨_, rfl, hK _ _ (fun _ _ => Its.cons H.o4 (Its.nil _)) ?_⟩
  clear hK K
  refine j_st rfl (wanted_rd rfl) (fun K hK => wp_storeP _ _ _ _ rfl ManyK.out Qv Qv H.v3 (by omega) (ndF_one _ _ _ _) rfl (fun V1 m1 k1 z9 => ?_))
  replace H := H.a3.s k1 (m1.congr stP_whole)
  refine hK _ (fun _ _ => Its.cons H.o4 (Its.nil _)) ?_
  refine j_st rfl (wanted_rd rfl) (fun K hK => wp_storeP _ _ _ _ rfl ManyK.out Qv Qv H.v2 (by omega) (msF_one _ _ _ _ _ _) rfl (fun V1 m1 k1 z9 => ?_))
  replace H := H.a2.s k1 (m1.congr stP_whole)
  refine hK _ (fun _ _ => Its.cons H.o4 (Its.nil _)) ?_
  refine j_nx ?_
  exact c_ret (ret_of ((defL _ _).trans hd) (res_cc rfl Qv Qv ManyK.out ManyK.out H.v3 (Nat.le_refl _) H.v2 (Nat.le_refl _)) ⟨a3, c3, a2, c2, rfl, H.o1, H.o0, H.bel⟩)

end Go.Proofs.YthimcecbgpamdaaGreat

namespace Go.Proofs.YthimcecbgpamdaaGreat
open Go.RowKit

/-- Heard of the first i nodes. -/
def pasI (n : Nd) (l : List Ms) (i s : Nat) : Int := if s < i then pasH n l s else n.he s
theorem pas_four {n : Nd} {l : List Ms} {i : Nat} {v : Value} (h : i = 4) : ndF { n with he := pasI n l i } v = ndF { n with he := pasH n l } v := by grind [ndF, pasI]
theorem pas_none {n : Nd} {L : List Lm} {i : Nat} (h : fL n.id n.fr L (i : Int) 3 1 = none) : ({ n with he := pasI n (L.map Lm.m) i } : Nd) = { n with he := pasI n (L.map Lm.m) (i + 1) } := by
  congr 1
  funext s
  unfold pasI
  by_cases c1 : s < i
  · rw [if_pos c1, if_pos (by omega)]
  · rw [if_neg c1]
    by_cases c2 : s = i
    · subst c2
      rw [if_pos (by omega)]
      unfold pasH
      have := fL_frst n L s 3 1
      rw [show ((1 : Nat) : Int) = 1 from rfl, h] at this
      rw [← this]
      rfl
    · rw [if_neg (by omega)]
theorem pas_some {n : Nd} {L : List Lm} {i : Nat} {c : Lm} (h : fL n.id n.fr L (i : Int) 3 1 = some c) : ({ n with he := fun s => if s = i then gL c.m.L 0 else pasI n (L.map Lm.m) i s } : Nd) = { n with he := pasI n (L.map Lm.m) (i + 1) } := by
  congr 1
  funext s
  unfold pasI
  by_cases c2 : s = i
  · subst c2
    rw [if_pos rfl, if_pos (by omega)]
    unfold pasH
    have := fL_frst n L s 3 1
    rw [show ((1 : Nat) : Int) = 1 from rfl, h] at this
    rw [← this]
    rfl
  · rw [if_neg c2]
    by_cases c1 : s < i
    · rw [if_pos c1, if_pos (by omega)]
    · rw [if_neg c1, if_neg (by omega)]
set_option maxHeartbeats 2000000 in
theorem refPass_ok : PhOK pasN pasM 26 := by
  intro n ao c mo mc L w hok hag hmr hN hmc hRL
  have hag : Sr w ao n.vA.length c (tF (bA n)) := hag
  refine enterF Tryz.func26 rfl 42 rfl (of_decide_eq_true rfl) (fun A hs hd hb => ?_)
  have b0 : A.eval (.tmp 0) = ndV n (.slice ao n.vA.length c) := hb 0 _ rfl
  have b1 : A.eval (.tmp 1) = .slice mo L.length mc := hb 1 _ rfl
  clear hb
  refine c_rs (m_start ?_)
  refine m_do rfl (wanted_rd rfl) (fun K hK => ?_)
  refine wp_boxG _ _ _ rfl (ev_out rfl b0) (of_decide_eq_true rfl) ?_
  intro w1 m1 k1 z1
  have sr1 := hag.below k1
  refine hK _ _ ?_
  clear hK K
  refine m_do rfl (wanted_rd rfl) (fun K hK => ?_)
  refine wp_allocG _ _ rfl zeroNd (of_decide_eq_true rfl) ?_
  intro w2 m2 k2 z2
  have mn2 := m1.below k2
  have sr2 := sr1.below k2
  refine hK _ _ ?_
  clear hK K
  refine m_do rfl (wanted_rd rfl) (fun K hK => ?_)
  refine wp_allocG _ _ rfl zeroMs (of_decide_eq_true rfl) ?_
  intro w3 m3 k3 z3
  have mn3 := mn2.below k3
  have mr3 := m2.below k3
  have sr3 := sr2.below k3
  refine hK _ _ ?_
  clear hK K
  refine l_nx ?_
  refine c_rs ?_
  refine m_mv rfl (wanted_rd rfl) (run_loadP _ _ rfl manyNd (ev_in rfl (by omega)) mn3 (by decide)) ?_
  refine m_do rfl (wanted_rd rfl) (fun K hK => ?_)
  refine wp_call1 _ 20 _ _ rfl (ev_in rfl (by omega)) (enter_copy _ _) (refCopy_any n ao c _ sr3 hok.vA) ?_
  rintro e w4 ⟨a3, c3, rfl, o4, k4⟩
  have n4 := k4.size
  have mn4 := mn3.below k4
  have mr4 := mr3.below k4
  have mq4 := m3.below k4
  refine ⟨_, rfl, ?_⟩
  refine hK _ _ ?_
  clear hK K
  refine m_st (wanted_rd rfl) (fun K hK => ?_)
  refine wp_storeP _ _ _ _ rfl manyNd (ev_in rfl (by omega)) (ev_in rfl (by omega)) mn4 (by decide) (ndF_one _ _ _ _) rfl ?_
  intro w5 mm5 k5 z5
  have mn5 := Vh.congr mm5 (stP_all _ _)
  have mr5 := mr4.kept k5 (by omega)
  have mq5 := mq4.kept k5 (by omega)
  have ow5 := rw_kept o4 k5 (fun e => by have e1 := (o4.lt _ e).1; have e2 := (o4.lt _ e).2; omega)
  refine hK _ ?_
  clear hK K
  refine l_nx ?_
  refine c_nx ?_
  refine c_rs ?_
  refine m_mv rfl (wanted_rd rfl) (run_loadP _ _ rfl manyNd (ev_in rfl (by omega)) mn5 (by decide)) ?_
  refine m_do rfl (wanted_rd rfl) (fun K hK => ?_)
  refine wp_call1 _ 43 _ _ rfl (ev_in rfl (by omega)) (enter_none _ _) (refNone_any n _ _) ?_
  rintro e w6 ⟨rfl, k6⟩
  have n6 := k6.size
  have mn6 := mn5.below k6
  have mr6 := mr5.below k6
  have mq6 := mq5.below k6
  have ow6 := rw_below ow5 k6
  refine ⟨_, rfl, ?_⟩
  refine hK _ _ ?_
  clear hK K
  refine l_nx ?_
  have kA : Below w.heap.size w w6 := (below_of_kept (((k1.trans (k2.mono (by omega))).trans (k3.mono (by omega))).trans (k4.mono (by omega))) k5 (by omega) (by omega)).trans (k6.mono (by omega))
  refine c_cond (t := noN n.id) (ev_in rfl (by omega)) (fun hno => ?_) (fun hno => ?_)
  · refine c_rs ?_
    refine m_mv rfl (wanted_rd rfl) (run_loadP _ _ rfl manyNd (ev_in rfl (by omega)) mn6 (by decide)) ?_
    refine m_mv rfl (wanted_rd rfl) (run_bld0 rfl _) ?_
    refine m_st (wanted_rd rfl) (fun K hK => ?_)
    refine wp_storeP _ _ _ _ rfl manyNd (ev_in rfl (by omega)) (ev_in rfl (by omega)) mr6 (by decide) (ndF_one _ _ _ _) rfl ?_
    intro w7 mm7 k7 z7
    have mr7 := Vh.congr mm7 (stP_all _ _)
    have mn7 := mn6.kept k7 (by omega)
    have mq7 := mq6.kept k7 (by omega)
    have ow7 := rw_kept ow6 k7 (fun e => by have e1 := (o4.lt _ e).1; have e2 := (o4.lt _ e).2; omega)
    refine hK _ ?_
    clear hK K
    refine m_st (wanted_rd rfl) (fun K hK => ?_)
    refine wp_storeP _ _ _ _ rfl manyMs (ev_in rfl (by omega)) (ev_in rfl (by omega)) mq7 (by decide) (msF_one _ _ _ _ _ _) rfl ?_
    intro w8 mm8 k8 z8
    have mq8 := Vh.congr mm8 (stP_all4 _ _)
    have mn8 := mn7.kept k8 (by omega)
    have mr8 := mr7.kept k8 (by omega)
    have ow8 := rw_kept ow7 k8 (fun e => by have e1 := (o4.lt _ e).1; have e2 := (o4.lt _ e).2; omega)
    refine hK _ ?_
    clear hK K
    refine l_nx ?_
    refine c_ret ?_
    simp only [Nx, Exit.then]
    have e1 : pasN n (L.map Lm.m) = n := by unfold pasN; rw [if_pos hno]
    have e2 : pasM n (L.map Lm.m) = zeroM := by unfold pasM; rw [if_pos hno]
    rw [e1, e2]
    refine ret_of ((defL _ _).trans hd) (res_cc rfl (ev_in rfl (by omega)) (ev_in rfl (by omega)) manyNd manyMs mr8 (Nat.le_refl _) mq8 (Nat.le_refl _)) ⟨a3, c3, none, 0, rfl, rw_base ow8 (by omega), World.ownsRow_nil _ _ _ _, below_of_kept (below_of_kept kA k7 (by omega) (by omega)) k8 (by omega) (by omega)⟩
  · obtain ⟨h0, h3⟩ := noN_in hno
    refine c_fin ?_
    refine c_nx ?_
    refine c_rs ?_
    refine m_mv rfl (wanted_rd rfl) (run_assign _ rfl (ev_const _ _) _) ?_
    refine l_nx ?_
    refine c_block ?_
    refine c_loop (fun r a W => ∃ i : Nat, i ≤ 4 ∧ 4 - i ≤ r ∧ a.tmps.size = 42 ∧ a.defers = [] ∧ a.eval (.tmp 1) = .slice mo L.length mc ∧ a.eval (.tmp 2) = .pointer (some ⟨w.heap.size, 0, none⟩) ∧ a.eval (.tmp 4) = .pointer (some ⟨w1.heap.size, 0, none⟩) ∧ a.eval (.tmp 5) = .pointer (some ⟨w2.heap.size, 0, none⟩) ∧ a.eval (.tmp 6) = .int .i64 (i : Int) ∧ Vh 37 W w.heap.size 74 74 (ndF { n with he := pasI n (L.map Lm.m) i } (.slice a3 n.vA.length c3)) ∧ Vh 37 W w1.heap.size 74 74 (ndF zeroN (.slice none 0 0)) ∧ Vh 67 W w2.heap.size 4 4 (msF 0 0 0 (.slice none 0 0)) ∧ W.ownsRow w3.heap.size 4 1 (.slice a3 n.vA.length c3) n.vA.length (rowV (tF (bA n)) n.vA.length) ∧ Below w.heap.size w W ∧ w4.heap.size ≤ W.heap.size) 4 ⟨0, by omega, by omega, (szL _ _).trans hs, (defL _ _).trans hd, (ev_out rfl b1), (ev_in rfl (by omega)), (ev_in rfl (by omega)), (ev_in rfl (by omega)), (ev_in rfl (by omega)), mn6, mr6, mq6, ow6, kA, by omega⟩ (fun r B W hI => ?_)
    clear b0 b1 hs hd
    obtain ⟨i, hi, hr2, hs, hd, b1, b2, b4, b5, b6, mn, mr, mq, ow, kB, hW⟩ := hI
    by_cases hin : i < 4
    · have hi4 : i < 4 := hin
      rcases hfl : fL n.id n.fr L (i : Int) 3 1 with _ | cm
      · refine c_nx ?_
        refine c_rs (m_start ?_)
        refine m_mv rfl (wanted_rd rfl) (run_move _ rfl (ev_out rfl b6) _) ?_
        refine m_mv rfl (wanted_rd rfl) (run_lssI (b := true) _ _ rfl (ev_in rfl (by omega)) (ev_const _ _) (decide_eq_true (by omega)) _) ?_
        refine l_nx ?_
        refine c_true (ev_in rfl (by omega)) (c_fin ?_)
        refine c_nx (c_block ?_)
        refine c_rs ?_
        refine m_mv rfl (wanted_rd rfl) (run_loadP _ _ rfl manyNd (ev_out rfl b2) mn (by decide)) ?_
        refine m_mv rfl (wanted_rd rfl) (run_move _ rfl (ev_out rfl b1) _) ?_
        refine m_mv rfl (wanted_rd rfl) (run_move _ rfl (ev_out rfl b6) _) ?_
        refine m_do rfl (wanted_rd rfl) (fun K hK => ?_)
        have C1 : Calls Tryz.prog 44 #[ndV { n with he := pasI n (L.map Lm.m) i } (.slice a3 n.vA.length c3), .slice mo L.length mc, .int .i64 (i : Int), .int .i64 3, .int .i64 1] W fun e w' => e = .returned (fstV (fL n.id n.fr L (i : Int) 3 1)) ∧ Below W.heap.size W w' := refFirst_any { n with he := pasI n (L.map Lm.m) i } _ mo mc L (i : Int) 3 1 _ (hmr.below kB) hN
        rw [hfl] at C1
        refine wp_call5 _ 44 _ _ _ _ _ _ rfl (ev_in rfl (by omega)) (ev_in rfl (by omega)) (ev_in rfl (by omega)) (ev_const _ _) (ev_const _ _) (enter_first _ _ _ _ _ _) C1 ?_
        rintro e w7 ⟨rfl, k7⟩
        have n7 := k7.size
        have mn7 := mn.below k7
        have mr7 := mr.below k7
        have mq7 := mq.below k7
        have ow7 := rw_below ow k7
        refine ⟨_, rfl, ?_⟩
        refine hK _ _ ?_
        clear hK K
        refine m_mv rfl (wanted_rd rfl) (run_move _ rfl (ev_in rfl (by omega)) _) ?_
        refine m_mv rfl (wanted_rd rfl) (run_extA _ rfl (ev_in rfl (by omega)) _) ?_
        refine m_mv rfl (wanted_rd rfl) (run_extB _ rfl (ev_in rfl (by omega)) _) ?_
        refine m_mv rfl (wanted_rd rfl) (run_assign _ rfl (ev_in rfl (by omega)) _) ?_
        refine m_mv rfl (wanted_rd rfl) (run_assign _ rfl (ev_in rfl (by omega)) _) ?_
        refine l_nx ?_
        refine c_rs ?_
        refine m_mv rfl (wanted_rd rfl) (run_move _ rfl (ev_in rfl (by omega)) _) ?_
        refine l_nx ?_
        refine c_false (ev_in rfl (by omega)) (c_finB ?_)
        refine c_region ?_
        refine m_mv rfl (wanted_rd rfl) (run_move _ rfl (ev_out rfl b6) _) ?_
        refine m_mv rfl (wanted_rd rfl) (run_addI _ _ rfl (ev_in rfl (by omega)) (ev_const _ _) (by omega) (by omega) _) ?_
        refine m_mv rfl (wanted_rd rfl) (run_assign _ rfl (ev_in rfl (by omega)) _) ?_
        have en := (pas_none hfl)
        exact l_round ⟨4 - (i + 1), by omega, i + 1, by omega, by omega, (szL _ _).trans hs, (defL _ _).trans hd, (ev_out rfl b1), (ev_out rfl b2), (ev_out rfl b4), (ev_out rfl b5), (ev_in rfl (by omega)).trans (by rw [Int.natCast_add]; rfl), by rw [← en]; exact mn7, mr7, mq7, ow7, kB.trans (k7.mono (by omega)), by omega⟩
      · obtain ⟨cmem, cfit⟩ := fL_mem hfl
        have clen := fit_len cfit
        obtain ⟨ca, cmy, hy⟩ : ∃ y, cm.ao = some y ∧ ∀ W', Below w.heap.size w W' → ∀ i, i < cm.m.L.length → W'.cell? (y.add i) = some (.int .i64 (gL cm.m.L i)) := by
          obtain ⟨y, e, _⟩ := (hmr.2 cm cmem).at (by omega)
          refine ⟨y, e, fun W' k => ?_⟩
          obtain ⟨y', e', hy'⟩ := ((hmr.2 cm cmem).below k).at (by omega)
          rw [e] at e'; cases e'
          exact hy'
        obtain ⟨mm, mo2, mc2⟩ := cm
        dsimp only at cmy hy clen
        subst cmy
        have hl0 : 0 < mm.L.length := by omega
        refine c_nx ?_
        refine c_rs (m_start ?_)
        refine m_mv rfl (wanted_rd rfl) (run_move _ rfl (ev_out rfl b6) _) ?_
        refine m_mv rfl (wanted_rd rfl) (run_lssI (b := true) _ _ rfl (ev_in rfl (by omega)) (ev_const _ _) (decide_eq_true (by omega)) _) ?_
        refine l_nx ?_
        refine c_true (ev_in rfl (by omega)) (c_fin ?_)
        refine c_nx (c_block ?_)
        refine c_rs ?_
        refine m_mv rfl (wanted_rd rfl) (run_loadP _ _ rfl manyNd (ev_out rfl b2) mn (by decide)) ?_
        refine m_mv rfl (wanted_rd rfl) (run_move _ rfl (ev_out rfl b1) _) ?_
        refine m_mv rfl (wanted_rd rfl) (run_move _ rfl (ev_out rfl b6) _) ?_
        refine m_do rfl (wanted_rd rfl) (fun K hK => ?_)
        have C1 : Calls Tryz.prog 44 #[ndV { n with he := pasI n (L.map Lm.m) i } (.slice a3 n.vA.length c3), .slice mo L.length mc, .int .i64 (i : Int), .int .i64 3, .int .i64 1] W fun e w' => e = .returned (fstV (fL n.id n.fr L (i : Int) 3 1)) ∧ Below W.heap.size W w' := refFirst_any { n with he := pasI n (L.map Lm.m) i } _ mo mc L (i : Int) 3 1 _ (hmr.below kB) hN
        rw [hfl] at C1
        refine wp_call5 _ 44 _ _ _ _ _ _ rfl (ev_in rfl (by omega)) (ev_in rfl (by omega)) (ev_in rfl (by omega)) (ev_const _ _) (ev_const _ _) (enter_first _ _ _ _ _ _) C1 ?_
        rintro e w7 ⟨rfl, k7⟩
        have n7 := k7.size
        have mn7 := mn.below k7
        have mr7 := mr.below k7
        have mq7 := mq.below k7
        have ow7 := rw_below ow k7
        refine ⟨_, rfl, ?_⟩
        refine hK _ _ ?_
        clear hK K
        refine m_mv rfl (wanted_rd rfl) (run_move _ rfl (ev_in rfl (by omega)) _) ?_
        refine m_mv rfl (wanted_rd rfl) (run_extA _ rfl (ev_in rfl (by omega)) _) ?_
        refine m_mv rfl (wanted_rd rfl) (run_extB _ rfl (ev_in rfl (by omega)) _) ?_
        refine m_mv rfl (wanted_rd rfl) (run_assign _ rfl (ev_in rfl (by omega)) _) ?_
        refine m_mv rfl (wanted_rd rfl) (run_assign _ rfl (ev_in rfl (by omega)) _) ?_
        refine l_nx ?_
        refine c_rs ?_
        refine m_mv rfl (wanted_rd rfl) (run_move _ rfl (ev_in rfl (by omega)) _) ?_
        refine l_nx ?_
        refine c_true (ev_in rfl (by omega)) ?_
        refine c_region ?_
        refine m_mv rfl (wanted_rd rfl) (run_move _ rfl (ev_out rfl b6) _) ?_
        refine m_mv rfl (wanted_rd rfl) (run_move _ rfl (ev_in rfl (by omega)) _) ?_
        refine m_mv rfl (wanted_rd rfl) (run_ixN _ _ rfl (a := ca) (n := mm.L.length) (cap := mc2) (ev_in rfl (by omega)) (ev_const _ _) (i := 0) rfl hl0 _) ?_
        refine m_mv rfl (wanted_rd rfl) (run_ldI _ rfl (ev_in rfl (by omega)) (hy _ (kB.trans (k7.mono (by omega))) 0 (by omega))) ?_
        refine m_mv rfl (wanted_rd rfl) (fldNd6 rfl (ev_out rfl b2) _) ?_
        refine m_mv rfl (wanted_rd rfl) (run_ixG _ _ _ _ rfl Tryz.underlying28 oneI.size (ev_in rfl (by omega)) (ev_in rfl (by omega)) rfl hi4 _) ?_
        refine m_st (wanted_rd rfl) (fun K hK => ?_)
        refine wp_sto1 _ _ _ _ rfl oneI (ev_in rfl (by omega)) (ev_in rfl (by omega)) mn7 (by omega) rfl rfl rfl ?_
        intro w8 mm8 k8 z8
        have mn8 := Vh.congr mm8 (upd_heAt _ _ _ i hi4)
        have mr8 := mr7.kept k8 (by omega)
        have mq8 := mq7.kept k8 (by omega)
        have ow8 := rw_kept ow7 k8 (fun e => by have e1 := (o4.lt _ e).1; have e2 := (o4.lt _ e).2; omega)
        refine hK _ ?_
        clear hK K
        refine l_finB ?_
        refine c_region ?_
        refine m_mv rfl (wanted_rd rfl) (run_move _ rfl (ev_out rfl b6) _) ?_
        refine m_mv rfl (wanted_rd rfl) (run_addI _ _ rfl (ev_in rfl (by omega)) (ev_const _ _) (by omega) (by omega) _) ?_
        refine m_mv rfl (wanted_rd rfl) (run_assign _ rfl (ev_in rfl (by omega)) _) ?_
        have en := (pas_some hfl)
        exact l_round ⟨4 - (i + 1), by omega, i + 1, by omega, by omega, (szL _ _).trans hs, (defL _ _).trans hd, (ev_out rfl b1), (ev_out rfl b2), (ev_out rfl b4), (ev_out rfl b5), (ev_in rfl (by omega)).trans (by rw [Int.natCast_add]; rfl), by rw [← en]; exact mn8, mr8, mq8, ow8, below_of_kept (kB.trans (k7.mono (by omega))) k8 (by omega) (by omega), by omega⟩
    · refine c_nx ?_
      refine c_rs (m_start ?_)
      refine m_mv rfl (wanted_rd rfl) (run_move _ rfl (ev_out rfl b6) _) ?_
      refine m_mv rfl (wanted_rd rfl) (run_lssI (b := false) _ _ rfl (ev_in rfl (by omega)) (ev_const _ _) (decide_eq_false (by omega)) _) ?_
      refine l_nx ?_
      refine c_false (ev_in rfl (by omega)) (c_exit (x_out ?_))
      refine c_nx ?_
      have hS0 : (fun W => Vh 37 W w.heap.size 74 74 (ndF { n with he := pasH n (L.map Lm.m) } (.slice a3 n.vA.length c3))) W.drew := by have := mn; rw [pas_four (show i = 4 by omega)] at this; exact this
      have mr0 : Vh _ W.drew _ _ _ _ := mr
      have mq0 : Vh _ W.drew _ _ _ _ := mq
      have ow0 := (show World.ownsRow W.drew _ _ _ _ _ _ from ow)
      have ez : W.drew.heap.size = W.heap.size := rfl
      refine c_rj (S := fun W => Vh 37 W w.heap.size 74 74 (ndF { n with he := pasH n (L.map Lm.m) } (.slice a3 n.vA.length c3))) (.rd 0 (.mv 1 (.rd 2 (.mv 3 (.rd 4 (.mv 5 (.mv 6 (.go 7 (.mv 8 (.go 9 (.go 10 .fin))))))))))) [] (by kernel_rfl) (by kernel_rfl) ?_
      refine j_rd rfl rfl (fun _ _ _ h => h) (wanted_rd rfl) hS0 (fun _ hS => run_loadP _ _ rfl manyNd (ev_out rfl b2) hS (by decide)) ?_
      refine j_mv rfl rfl (fun _ _ _ h => h) (wanted_rd rfl) (fun _ => fldNd0 rfl (ev_out rfl b2) _) ?_
      refine j_rd rfl rfl (fun _ _ _ h => h) (wanted_rd rfl) hS0 (fun _ hS => run_lod1 _ _ rfl oneI (ev_in rfl (by omega)) hS (by decide) rfl) ?_
      refine j_mv rfl rfl (fun _ _ _ h => h) (wanted_rd rfl) (fun _ => fldNd1 rfl (ev_out rfl b2) _) ?_
      refine j_rd rfl rfl (fun _ _ _ h => h) (wanted_rd rfl) hS0 (fun _ hS => run_lod1 _ _ rfl oneI (ev_in rfl (by omega)) hS (by decide) rfl) ?_
      refine j_mv rfl rfl (fun _ _ _ h => h) (wanted_rd rfl) (fun _ => fldNd6 rfl (ev_out rfl b2) _) ?_
      refine j_mv rfl rfl (fun _ _ _ h => h) (wanted_rd rfl) (fun _ => run_cut4 _ rfl (ev_in rfl (by omega)) _) ?_
      refine j_do rfl rfl (wanted_rd rfl) (fun K hK => ?_)
      refine ⟨wp_joinI _ _ _ rfl W.drew.heap.size (Nat.le_refl _) (.slice none 0 0) 0 [] (ev_const _ _) (World.ownsRow_nil _ _ _ _) _ 4 4 (iF (pasH n (L.map Lm.m))) (ev_in rfl (by omega)) (he_row hS0) (fun i _ => rfl) (by decide) ?_⟩
      intro v7 w7 ov7 k7
      rw [Nat.zero_add, List.nil_append] at ov7
      obtain ⟨a2, c2, rfl, hc2⟩ := rw_slice ov7
      have n7 := k7.size
      have hS7 : (fun W => Vh 37 W w.heap.size 74 74 (ndF { n with he := pasH n (L.map Lm.m) } (.slice a3 n.vA.length c3))) w7 := hS0.below k7
      have mr7 := mr0.below k7
      have mq7 := mq0.below k7
      have ow7 := rw_below ow0 k7
      refine hK _ _ (fun _ _ => hS7) ?_
      clear hK K
      refine j_mv rfl rfl (fun _ _ _ h => h) (wanted_rd rfl) (fun _ => run_bldM _ _ _ _ rfl (ev_const _ _) (ev_in rfl (by omega)) (ev_in rfl (by omega)) (ev_in rfl (by omega)) _) ?_
      refine j_st rfl (wanted_rd rfl) (fun K hK => ?_)
      refine wp_storeP _ _ _ _ rfl manyNd (ev_out rfl b4) (ev_in rfl (by omega)) mr7 (by decide) (ndF_one _ _ _ _) rfl ?_
      intro w8 mm8 k8 z8
      have mr8 := Vh.congr mm8 (stP_all _ _)
      have hS8 : (fun W => Vh 37 W w.heap.size 74 74 (ndF { n with he := pasH n (L.map Lm.m) } (.slice a3 n.vA.length c3))) w8 := hS7.kept k8 (by omega)
      have mq8 := mq7.kept k8 (by omega)
      have ow8 := rw_kept ow7 k8 (fun e => by have e1 := (o4.lt _ e).1; have e2 := (o4.lt _ e).2; omega)
      have ov8 := rw_under ov7 k8 (by omega)
      refine hK _ (fun _ _ => hS8) ?_
      clear hK K
      refine j_st rfl (wanted_rd rfl) (fun K hK => ?_)
      refine wp_storeP _ _ _ _ rfl manyMs (ev_out rfl b5) (ev_in rfl (by omega)) mq8 (by decide) (msF_one _ _ _ _ _ _) rfl ?_
      intro w9 mm9 k9 z9
      have mq9 := Vh.congr mm9 (stP_all4 _ _)
      have hS9 : (fun W => Vh 37 W w.heap.size 74 74 (ndF { n with he := pasH n (L.map Lm.m) } (.slice a3 n.vA.length c3))) w9 := hS8.kept k9 (by omega)
      have mr9 := mr8.kept k9 (by omega)
      have ow9 := rw_kept ow8 k9 (fun e => by have e1 := (o4.lt _ e).1; have e2 := (o4.lt _ e).2; omega)
      have ov9 := rw_under ov8 k9 (by omega)
      refine hK _ (fun _ _ => hS9) ?_
      clear hK K
      refine j_nx ?_
      refine c_ret ?_
      have e1 : pasN n (L.map Lm.m) = { n with he := pasH n (L.map Lm.m) } := by unfold pasN; rw [if_neg (by rw [hno]; decide)]
      have e2 : pasM n (L.map Lm.m) = ⟨2, n.id, n.fr, (List.range 4).map (pasH n (L.map Lm.m))⟩ := by unfold pasM; rw [if_neg (by rw [hno]; decide)]
      rw [e1, e2]
      refine ret_of ((defL _ _).trans hd) (res_cc rfl (ev_out rfl b4) (ev_out rfl b5) manyNd manyMs mr9 (Nat.le_refl _) mq9 (Nat.le_refl _)) ⟨a3, c3, a2, c2, rfl, rw_base ow9 (by omega), rw_base ov9 (by omega), below_of_kept (below_of_kept ((below_drew kB).trans (k7.mono (by omega))) k8 (by omega) (by omega)) k9 (by omega) (by omega)⟩

end Go.Proofs.YthimcecbgpamdaaGreat

namespace Go.Proofs.YthimcecbgpamdaaGreat
open Go.RowKit

set_option maxHeartbeats 2000000 in
theorem nodePass_ok : PhOK pasN pasM 36 := by
  intro n ao c mo mc L w hok hag hmr hN hmc hRL
  have hag : Sr w ao n.vA.length c (tF (bA n)) := hag
  refine enterF Tryz.func36 rfl 38 rfl (of_decide_eq_true rfl) (fun A hs hd hb => ?_)
  have b0 : A.eval (.tmp 0) = ndV n (.slice ao n.vA.length c) := hb 0 _ rfl
  have b1 : A.eval (.tmp 1) = .slice mo L.length mc := hb 1 _ rfl
  clear hb
  refine c_rs (m_start ?_)
  refine m_do rfl (wanted_rd rfl) (fun K hK => ?_)
  refine wp_boxG _ _ _ rfl (ev_out rfl b0) (of_decide_eq_true rfl) ?_
  intro w1 m1 k1 z1
  have sr1 := hag.below k1
  refine hK _ _ ?_
  clear hK K
  refine m_do rfl (wanted_rd rfl) (fun K hK => ?_)
  refine wp_allocG _ _ rfl zeroNd (of_decide_eq_true rfl) ?_
  intro w2 m2 k2 z2
  have mn2 := m1.below k2
  have sr2 := sr1.below k2
  refine hK _ _ ?_
  clear hK K
  refine m_do rfl (wanted_rd rfl) (fun K hK => ?_)
  refine wp_allocG _ _ rfl zeroMs (of_decide_eq_true rfl) ?_
  intro w3 m3 k3 z3
  have mn3 := mn2.below k3
  have mr3 := m2.below k3
  have sr3 := sr2.below k3
  refine hK _ _ ?_
  clear hK K
  refine l_nx ?_
  refine c_rs ?_
  refine m_mv rfl (wanted_rd rfl) (run_loadP _ _ rfl manyNd (ev_in rfl (by omega)) mn3 (by decide)) ?_
  refine m_do rfl (wanted_rd rfl) (fun K hK => ?_)
  refine wp_call1 _ 58 _ _ rfl (ev_in rfl (by omega)) (enter_pown _ _) (own_any n ao c _ sr3 hok.vA) ?_
  rintro e w4 ⟨a3, c3, rfl, o4, k4⟩
  have n4 := k4.size
  have mn4 := mn3.below k4
  have mr4 := mr3.below k4
  have mq4 := m3.below k4
  refine ⟨_, rfl, ?_⟩
  refine hK _ _ ?_
  clear hK K
  refine m_st (wanted_rd rfl) (fun K hK => ?_)
  refine wp_storeP _ _ _ _ rfl manyNd (ev_in rfl (by omega)) (ev_in rfl (by omega)) mn4 (by decide) (ndF_one _ _ _ _) rfl ?_
  intro w5 mm5 k5 z5
  have mn5 := Vh.congr mm5 (stP_all _ _)
  have mr5 := mr4.kept k5 (by omega)
  have mq5 := mq4.kept k5 (by omega)
  have ow5 := rw_kept o4 k5 (fun e => by have e1 := (o4.lt _ e).1; have e2 := (o4.lt _ e).2; omega)
  refine hK _ ?_
  clear hK K
  refine l_nx ?_
  refine c_nx ?_
  refine c_rs ?_
  refine m_mv rfl (wanted_rd rfl) (fldNd0 rfl (ev_in rfl (by omega)) _) ?_
  refine m_mv rfl (wanted_rd rfl) (run_lod1 _ _ rfl oneI (ev_in rfl (by omega)) mn5 (by decide) rfl) ?_
  refine m_do rfl (wanted_rd rfl) (fun K hK => ?_)
  refine wp_call1 _ 59 _ _ rfl (ev_in rfl (by omega)) (enter_pisNode _ _) (isNode_any n.id _) ?_
  rintro e w6 ⟨rfl, k6⟩
  have n6 := k6.size
  have mn6 := mn5.below k6
  have mr6 := mr5.below k6
  have mq6 := mq5.below k6
  have ow6 := rw_below ow5 k6
  refine ⟨_, rfl, ?_⟩
  refine hK _ _ ?_
  clear hK K
  refine m_mv rfl (wanted_rd rfl) (run_notB _ _ rfl (ev_in rfl (by omega)) _) ?_
  refine l_nx ?_
  have kA : Below w.heap.size w w6 := (below_of_kept ((((k1).trans (k2.mono (by omega))).trans (k3.mono (by omega))).trans (k4.mono (by omega))) k5 (by omega) (by omega)).trans (k6.mono (by omega))
  refine c_cond (t := noN n.id) ((ev_in rfl (by omega)).trans (by rw [Bool.not_not])) (fun hno => ?_) (fun hno => ?_)
  · refine c_rs ?_
    refine m_mv rfl (wanted_rd rfl) (run_loadP _ _ rfl manyNd (ev_in rfl (by omega)) mn6 (by decide)) ?_
    refine m_mv rfl (wanted_rd rfl) (run_bld0 rfl _) ?_
    refine m_st (wanted_rd rfl) (fun K hK => ?_)
    refine wp_storeP _ _ _ _ rfl manyNd (ev_in rfl (by omega)) (ev_in rfl (by omega)) mr6 (by decide) (ndF_one _ _ _ _) rfl ?_
    intro w7 mm7 k7 z7
    have mr7 := Vh.congr mm7 (stP_all _ _)
    have mn7 := mn6.kept k7 (by omega)
    have mq7 := mq6.kept k7 (by omega)
    have ow7 := rw_kept ow6 k7 (fun e => by have e1 := (o4.lt _ e).1; have e2 := (o4.lt _ e).2; omega)
    refine hK _ ?_
    clear hK K
    refine m_st (wanted_rd rfl) (fun K hK => ?_)
    refine wp_storeP _ _ _ _ rfl manyMs (ev_in rfl (by omega)) (ev_in rfl (by omega)) mq7 (by decide) (msF_one _ _ _ _ _ _) rfl ?_
    intro w8 mm8 k8 z8
    have mq8 := Vh.congr mm8 (stP_all4 _ _)
    have mn8 := mn7.kept k8 (by omega)
    have mr8 := mr7.kept k8 (by omega)
    have ow8 := rw_kept ow7 k8 (fun e => by have e1 := (o4.lt _ e).1; have e2 := (o4.lt _ e).2; omega)
    refine hK _ ?_
    clear hK K
    refine l_nx ?_
    refine c_ret ?_
    simp only [Nx, Exit.then]
    have e1 : pasN n (L.map Lm.m) = n := by unfold pasN; rw [if_pos hno]
    have e2 : pasM n (L.map Lm.m) = zeroM := by unfold pasM; rw [if_pos hno]
    rw [e1, e2]
    refine ret_of ((defL _ _).trans hd) (res_cc rfl (ev_in rfl (by omega)) (ev_in rfl (by omega)) manyNd manyMs mr8 (Nat.le_refl _) mq8 (Nat.le_refl _)) ⟨a3, c3, none, 0, rfl, rw_base ow8 (by omega), World.ownsRow_nil _ _ _ _, below_of_kept (below_of_kept kA k7 (by omega) (by omega)) k8 (by omega) (by omega)⟩
  · obtain ⟨h0, h3⟩ := noN_in hno
    refine c_fin ?_
    refine c_nx ?_
    refine c_rs ?_
    refine m_mv rfl (wanted_rd rfl) (run_loadP _ _ rfl manyNd (ev_in rfl (by omega)) mn6 (by decide)) ?_
    refine m_mv rfl (wanted_rd rfl) (run_move _ rfl (ev_out rfl b1) _) ?_
    refine m_do rfl (wanted_rd rfl) (fun K hK => ?_)
    refine wp_call4n _ 61 _ _ _ _ _ rfl (ev_in rfl (by omega)) (ev_in rfl (by omega)) (ev_const _ _) (ev_const _ _) (enter_phear _ _ _ _ _) (hear_any n _ mo mc L 3 1 _ (hmr.below kA) hN (by decide)) ?_
    rintro e w7 ⟨rfl, k7⟩
    have n7 := k7.size
    have mn7 := mn6.below k7
    have mr7 := mr6.below k7
    have mq7 := mq6.below k7
    have ow7 := rw_below ow6 k7
    refine ⟨_, rfl, ?_⟩
    refine hK _ _ ?_
    clear hK K
    refine m_mv rfl (wanted_rd rfl) (run_move _ rfl (ev_const _ _) _) ?_
    refine l_nx ?_
    refine c_block ?_
    refine c_loop (fun r a W => ∃ i : Nat, i ≤ 4 ∧ 4 - i ≤ r ∧ a.tmps.size = 38 ∧ a.defers = [] ∧ a.eval (.tmp 2) = .pointer (some ⟨w.heap.size, 0, none⟩) ∧ a.eval (.tmp 4) = .pointer (some ⟨w1.heap.size, 0, none⟩) ∧ a.eval (.tmp 5) = .pointer (some ⟨w2.heap.size, 0, none⟩) ∧ a.eval (.tmp 18) = agV (hrO n.id n.fr L 3 1) 0 4 ∧ a.eval (.tmp 19) = .int .i64 (i : Int) ∧ Vh 37 W w.heap.size 74 74 (ndF { n with he := pasI n (L.map Lm.m) i } (.slice a3 n.vA.length c3)) ∧ Vh 37 W w1.heap.size 74 74 (ndF zeroN (.slice none 0 0)) ∧ Vh 67 W w2.heap.size 4 4 (msF 0 0 0 (.slice none 0 0)) ∧ W.ownsRow w3.heap.size 4 1 (.slice a3 n.vA.length c3) n.vA.length (rowV (tF (bA n)) n.vA.length) ∧ Below w.heap.size w W ∧ w7.heap.size ≤ W.heap.size) 4 ⟨0, by omega, by omega, (szL _ _).trans hs, (defL _ _).trans hd, (ev_in rfl (by omega)), (ev_in rfl (by omega)), (ev_in rfl (by omega)), (ev_in rfl (by omega)), (ev_in rfl (by omega)), mn7, mr7, mq7, ow7, kA.trans (k7.mono (by omega)), by omega⟩ (fun r B W hI => ?_)
    clear b0 b1 hs hd
    obtain ⟨i, hi, hr2, hs, hd, b2, b4, b5, b18, b19, mn, mr, mq, ow, kB, hW⟩ := hI
    by_cases hin : i < 4
    · have hi4 : i < 4 := hin
      rcases hfl : fL n.id n.fr L (i : Int) 3 1 with _ | cm
      · have hho : hrO n.id n.fr L 3 1 i = .slice none 0 0 := by unfold hrO; rw [hfl]
        refine c_rs (m_start ?_)
        refine m_mv rfl (wanted_rd rfl) (run_lssI (b := true) _ _ rfl (ev_out rfl b19) (ev_const _ _) (decide_eq_true (by omega)) _) ?_
        refine l_nx ?_
        refine c_nx (c_true (ev_in rfl (by omega)) (c_fin ?_))
        refine c_nx (c_block ?_)
        refine c_rs ?_
        refine m_mv rfl (wanted_rd rfl) (run_move _ rfl (ev_out rfl b19) _) ?_
        refine m_mv rfl (wanted_rd rfl) ((run_ixV1 _ _ _ _ rfl Tryz.underlying120 oneIs (ev_out rfl b18) (ev_out rfl b19) rfl hi4 _).trans (by rw [hho])) ?_
        refine m_mv rfl (wanted_rd rfl) (run_assign _ rfl (ev_in rfl (by omega)) _) ?_
        refine m_mv rfl (wanted_rd rfl) (run_assign _ rfl (ev_in rfl (by omega)) _) ?_
        refine l_nx ?_
        refine c_rs ?_
        refine m_mv rfl (wanted_rd rfl) (run_move _ rfl (ev_in rfl (by omega)) _) ?_
        refine m_mv rfl (wanted_rd rfl) (run_lenI _ rfl (ev_in rfl (by omega)) _) ?_
        refine m_mv rfl (wanted_rd rfl) (run_gtrI (b := false) _ _ rfl (ev_in rfl (by omega)) (ev_const _ _) (decide_eq_false (by omega)) _) ?_
        refine l_nx ?_
        refine c_false (ev_in rfl (by omega)) (c_finB ?_)
        refine c_region ?_
        refine m_mv rfl (wanted_rd rfl) (run_addI _ _ rfl (ev_out rfl b19) (ev_const _ _) (by omega) (by omega) _) ?_
        refine m_mv rfl (wanted_rd rfl) (run_move _ rfl (ev_in rfl (by omega)) _) ?_
        have en := pas_none (n := n) hfl
        exact l_round ⟨4 - (i + 1), by omega, i + 1, by omega, by omega, (szL _ _).trans hs, (defL _ _).trans hd, (ev_out rfl b2), (ev_out rfl b4), (ev_out rfl b5), (ev_out rfl b18), (ev_in rfl (by omega)).trans (by rw [Int.natCast_add]; rfl), by rw [← en]; exact mn, mr, mq, ow, kB, by omega⟩
      · have hho0 : hrO n.id n.fr L 3 1 i = lmV cm := by unfold hrO; rw [hfl]
        obtain ⟨cmem, cfit⟩ := fL_mem hfl
        have clen := fit_len cfit
        obtain ⟨ca, cmy, hy⟩ : ∃ y, cm.ao = some y ∧ ∀ W', Below w.heap.size w W' → ∀ i, i < cm.m.L.length → W'.cell? (y.add i) = some (.int .i64 (gL cm.m.L i)) := by
          obtain ⟨y, e, _⟩ := (hmr.2 cm cmem).at (by omega)
          refine ⟨y, e, fun W' k => ?_⟩
          obtain ⟨y', e', hy'⟩ := ((hmr.2 cm cmem).below k).at (by omega)
          rw [e] at e'; cases e'
          exact hy'
        obtain ⟨mm, mo2, mc2⟩ := cm
        dsimp only at cmy hy clen
        subst cmy
        have hho : hrO n.id n.fr L 3 1 i = .slice (some ca) mm.L.length mc2 := hho0
        have hl0 : 0 < mm.L.length := by omega
        refine c_rs (m_start ?_)
        refine m_mv rfl (wanted_rd rfl) (run_lssI (b := true) _ _ rfl (ev_out rfl b19) (ev_const _ _) (decide_eq_true (by omega)) _) ?_
        refine l_nx ?_
        refine c_nx (c_true (ev_in rfl (by omega)) (c_fin ?_))
        refine c_nx (c_block ?_)
        refine c_rs ?_
        refine m_mv rfl (wanted_rd rfl) (run_move _ rfl (ev_out rfl b19) _) ?_
        refine m_mv rfl (wanted_rd rfl) ((run_ixV1 _ _ _ _ rfl Tryz.underlying120 oneIs (ev_out rfl b18) (ev_out rfl b19) rfl hi4 _).trans (by rw [hho])) ?_
        refine m_mv rfl (wanted_rd rfl) (run_assign _ rfl (ev_in rfl (by omega)) _) ?_
        refine m_mv rfl (wanted_rd rfl) (run_assign _ rfl (ev_in rfl (by omega)) _) ?_
        refine l_nx ?_
        refine c_rs ?_
        refine m_mv rfl (wanted_rd rfl) (run_move _ rfl (ev_in rfl (by omega)) _) ?_
        refine m_mv rfl (wanted_rd rfl) (run_lenI _ rfl (ev_in rfl (by omega)) _) ?_
        refine m_mv rfl (wanted_rd rfl) (run_gtrI (b := true) _ _ rfl (ev_in rfl (by omega)) (ev_const _ _) (decide_eq_true (by omega)) _) ?_
        refine l_nx ?_
        refine c_true (ev_in rfl (by omega)) ?_
        refine c_region ?_
        refine m_mv rfl (wanted_rd rfl) (run_move _ rfl (ev_in rfl (by omega)) _) ?_
        refine m_mv rfl (wanted_rd rfl) (run_move _ rfl (ev_in rfl (by omega)) _) ?_
        refine m_mv rfl (wanted_rd rfl) (run_ixN _ _ rfl (a := ca) (n := mm.L.length) (cap := mc2) (ev_in rfl (by omega)) (ev_const _ _) (i := 0) rfl hl0 _) ?_
        refine m_mv rfl (wanted_rd rfl) (run_ldI _ rfl (ev_in rfl (by omega)) (hy _ kB 0 (by omega))) ?_
        refine m_mv rfl (wanted_rd rfl) (fldNd6 rfl (ev_out rfl b2) _) ?_
        refine m_mv rfl (wanted_rd rfl) (run_ixG _ _ _ _ rfl Tryz.underlying28 oneI.size (ev_in rfl (by omega)) (ev_in rfl (by omega)) rfl hi4 _) ?_
        refine m_st (wanted_rd rfl) (fun K hK => ?_)
        refine wp_sto1 _ _ _ _ rfl oneI (ev_in rfl (by omega)) (ev_in rfl (by omega)) mn (by omega) rfl rfl rfl ?_
        intro w8 mm8 k8 z8
        have mn8 := Vh.congr mm8 (upd_heAt _ _ _ i hi4)
        have mr8 := mr.kept k8 (by omega)
        have mq8 := mq.kept k8 (by omega)
        have ow8 := rw_kept ow k8 (fun e => by have e1 := (o4.lt _ e).1; have e2 := (o4.lt _ e).2; omega)
        refine hK _ ?_
        clear hK K
        refine l_finB ?_
        refine c_region ?_
        refine m_mv rfl (wanted_rd rfl) (run_addI _ _ rfl (ev_out rfl b19) (ev_const _ _) (by omega) (by omega) _) ?_
        refine m_mv rfl (wanted_rd rfl) (run_move _ rfl (ev_in rfl (by omega)) _) ?_
        have en := pas_some (n := n) hfl
        exact l_round ⟨4 - (i + 1), by omega, i + 1, by omega, by omega, (szL _ _).trans hs, (defL _ _).trans hd, (ev_out rfl b2), (ev_out rfl b4), (ev_out rfl b5), (ev_out rfl b18), (ev_in rfl (by omega)).trans (by rw [Int.natCast_add]; rfl), by rw [← en]; exact mn8, mr8, mq8, ow8, below_of_kept kB k8 (by omega) (by omega), by omega⟩
    · refine c_rs (m_start ?_)
      refine m_mv rfl (wanted_rd rfl) (run_lssI (b := false) _ _ rfl (ev_out rfl b19) (ev_const _ _) (decide_eq_false (by omega)) _) ?_
      refine l_nx ?_
      refine c_nx (c_false (ev_in rfl (by omega)) (c_exit (x_out ?_)))
      refine c_nx ?_
      rw [pas_four (show i = 4 by omega)] at mn
      have hS0 : (fun W => Vh 37 W w.heap.size 74 74 (ndF { n with he := pasH n (L.map Lm.m) } (.slice a3 n.vA.length c3))) W.drew := mn
      have mn0 : Vh _ W.drew _ _ _ _ := mn
      have mr0 : Vh _ W.drew _ _ _ _ := mr
      have mq0 : Vh _ W.drew _ _ _ _ := mq
      have ow0 := (show World.ownsRow W.drew _ _ _ _ _ _ from ow)
      have ez : W.drew.heap.size = W.heap.size := rfl
      refine c_rj (S := fun W => Vh 37 W w.heap.size 74 74 (ndF { n with he := pasH n (L.map Lm.m) } (.slice a3 n.vA.length c3))) (.rd 0 (.rd 1 (.mv 2 (.mv 3 (.go 4 (.go 5 (.go 6 .fin))))))) [] (by kernel_rfl) (by kernel_rfl) ?_
      refine j_rd rfl rfl (fun _ _ _ h => h) (wanted_rd rfl) hS0 (fun _ hS => run_loadP _ _ rfl manyNd (ev_out rfl b2) hS (by decide)) ?_
      refine j_rd rfl rfl (fun _ _ _ h => h) (wanted_rd rfl) hS0 (fun _ hS => run_loadP _ _ rfl manyNd (ev_out rfl b2) hS (by decide)) ?_
      refine j_mv rfl rfl (fun _ _ _ h => h) (wanted_rd rfl) (fun _ => fldNd6 rfl (ev_out rfl b2) _) ?_
      refine j_mv rfl rfl (fun _ _ _ h => h) (wanted_rd rfl) (fun _ => run_cut4 _ rfl (ev_in rfl (by omega)) _) ?_
      refine j_do rfl rfl (wanted_rd rfl) (fun K hK => ?_)
      refine wp_call3n _ 60 _ _ _ _ rfl (ev_in rfl (by omega)) (ev_const _ _) (ev_in rfl (by omega)) (enter_ptell _ _ _ _) (tell_any { n with he := pasH n (L.map Lm.m) } (.slice a3 n.vA.length c3) 2 _ 4 4 (pasH n (L.map Lm.m)) _ (he_row hS0) (by decide)) ?_
      rintro e w8 ⟨a2, c2, rfl, ov8, k8⟩
      have n8 := k8.size
      have mn8 := hS0.below k8
      have mr8 := mr0.below k8
      have mq8 := mq0.below k8
      have ow8 := rw_below ow0 k8
      have hS8 : (fun W => Vh 37 W w.heap.size 74 74 (ndF { n with he := pasH n (L.map Lm.m) } (.slice a3 n.vA.length c3))) w8 := mn8
      refine ⟨_, rfl, ?_⟩
      refine hK _ _ (fun _ _ => hS8) ?_
      clear hK K
      refine j_st rfl (wanted_rd rfl) (fun K hK => ?_)
      refine wp_storeP _ _ _ _ rfl manyNd (ev_out rfl b4) (ev_in rfl (by omega)) mr8 (by decide) (ndF_one _ _ _ _) rfl ?_
      intro w9 mm9 k9 z9
      have mr9 := Vh.congr mm9 (stP_all _ _)
      have mn9 := mn8.kept k9 (by omega)
      have mq9 := mq8.kept k9 (by omega)
      have ow9 := rw_kept ow8 k9 (fun e => by have e1 := (o4.lt _ e).1; have e2 := (o4.lt _ e).2; omega)
      have ov9 := rw_under ov8 k9 (by omega)
      have hS9 : (fun W => Vh 37 W w.heap.size 74 74 (ndF { n with he := pasH n (L.map Lm.m) } (.slice a3 n.vA.length c3))) w9 := mn9
      refine hK _ (fun _ _ => hS9) ?_
      clear hK K
      refine j_st rfl (wanted_rd rfl) (fun K hK => ?_)
      refine wp_storeP _ _ _ _ rfl manyMs (ev_out rfl b5) (ev_in rfl (by omega)) mq9 (by decide) (msF_one _ _ _ _ _ _) rfl ?_
      intro w10 mm10 k10 z10
      have mq10 := Vh.congr mm10 (stP_all4 _ _)
      have mn10 := mn9.kept k10 (by omega)
      have mr10 := mr9.kept k10 (by omega)
      have ow10 := rw_kept ow9 k10 (fun e => by have e1 := (o4.lt _ e).1; have e2 := (o4.lt _ e).2; omega)
      have ov10 := rw_under ov9 k10 (by omega)
      have hS10 : (fun W => Vh 37 W w.heap.size 74 74 (ndF { n with he := pasH n (L.map Lm.m) } (.slice a3 n.vA.length c3))) w10 := mn10
      refine hK _ (fun _ _ => hS10) ?_
      clear hK K
      refine j_nx ?_
      refine c_ret ?_
      have e1 : pasN n (L.map Lm.m) = { n with he := pasH n (L.map Lm.m) } := by unfold pasN; rw [if_neg (by rw [hno]; decide)]
      have e2 : pasM n (L.map Lm.m) = ⟨2, n.id, n.fr, (List.range 4).map (pasH n (L.map Lm.m))⟩ := by unfold pasM; rw [if_neg (by rw [hno]; decide)]
      rw [e1, e2]
      refine ret_of ((defL _ _).trans hd) (res_cc rfl (ev_out rfl b4) (ev_out rfl b5) manyNd manyMs mr10 (Nat.le_refl _) mq10 (Nat.le_refl _)) ⟨a3, c3, a2, c2, rfl, rw_base ow10 (by omega), rw_base ov10 (by omega), below_of_kept (below_of_kept ((below_drew kB).trans (k8.mono (by omega))) k9 (by omega) (by omega)) k10 (by omega) (by omega)⟩

end Go.Proofs.YthimcecbgpamdaaGreat

namespace Go.Proofs.YthimcecbgpamdaaGreat
open Go.RowKit

theorem nd_he (n : Nd) (v : Value) : ∀ j, j < 4 → ndF n v (0 + 51 + j) = iV (n.he j) := fun j hj => by
  have := ndF_he n v hj
  rw [Nat.mul_one] at this
  exact this
/-- The votes, of the first x nodes reckoned. -/
def vtF (n : Nd) (l : List Ms) (x j : Nat) : Value := iV (if j < x then judV n l j else n.he j)
theorem vt_zero (n : Nd) (l : List Ms) : ∀ j, j < 4 → iV (n.he j) = vtF n l 0 j := fun j _ => by unfold vtF; rw [if_neg (by omega)]
theorem vt_next (n : Nd) (l : List Ms) (x : Nat) : ∀ j, j < 4 → stW (vtF n l x) (0 + x * 1) (.int .i64 (tkn n l x (n.he x) x 4)) j = vtF n l (x + 1) j := by
  intro j _
  unfold stW
  rw [show 0 + x * 1 = x by omega]
  by_cases e : j = x
  · subst e
    rw [if_pos rfl]
    unfold vtF
    rw [if_pos (by omega)]
    rfl
  · rw [if_neg e]
    unfold vtF
    by_cases c : j < x
    · rw [if_pos c, if_pos (by omega)]
    · rw [if_neg c, if_neg (by omega)]
theorem vt_four (n : Nd) (l : List Ms) : ∀ j, j < 4 → vtF n l 4 j = iV (judV n l j) := fun j hj => by
  unfold vtF
  rw [if_pos hj]
set_option maxHeartbeats 2000000 in
theorem votes_any2 (n : Nd) (nv : Value) (mo : Option Addr) (L : List Lm) (I : Nat) (w : World) (hok : NdOK n) (hI : n.id = (I : Int)) (hI4 : I < 4) (hmr : MRd w mo L) (hRL : ∀ m, m ∈ L → ∀ i, R64 (gL m.m.L i)) :
    Calls Tryz.prog 69 #[ndV n nv, agV (hrO n.id n.fr L 2 ((4 : Nat) : Int)) 0 4] w fun e w' => e = .returned (agV (fun j => iV (judV n (L.map Lm.m) j)) 0 4) ∧ Below w.heap.size w w' := by
  refine enterF Tryz.func69 rfl 27 rfl (of_decide_eq_true rfl) (fun A hs hd hb => ?_)
  have b0 : A.eval (.tmp 0) = ndV n nv := hb 0 _ rfl
  have b1 : A.eval (.tmp 1) = agV (hrO n.id n.fr L 2 ((4 : Nat) : Int)) 0 4 := hb 1 _ rfl
  clear hb
  refine c_rs (m_start ?_)
  refine m_do rfl (wanted_rd rfl) (fun K hK => ?_)
  refine wp_boxG _ _ _ rfl (ev_out rfl b0) (of_decide_eq_true rfl) ?_
  intro w1 m1 k1 z1
  refine hK _ _ ?_
  clear hK K
  refine m_do rfl (wanted_rd rfl) (fun K hK => ?_)
  refine wp_boxG _ _ _ rfl (ev_out rfl b1) (of_decide_eq_true rfl) ?_
  intro w2 m2 k2 z2
  have mn2 := m1.below k2
  refine hK _ _ ?_
  clear hK K
  refine m_do rfl (wanted_rd rfl) (fun K hK => ?_)
  refine wp_allocG _ _ rfl zero4i (of_decide_eq_true rfl) ?_
  intro w3 m3 k3 z3
  have mn3 := mn2.below k3
  have mh3 := m2.below k3
  refine hK _ _ ?_
  clear hK K
  refine l_nx ?_
  refine c_rs ?_
  refine m_mv rfl (wanted_rd rfl) (fldNd6 rfl (ev_in rfl (by omega)) _) ?_
  refine m_mv rfl (wanted_rd rfl) (run_loadPe (h := fun j => iV (n.he j)) _ _ rfl many4 (ev_in rfl (by omega)) mn3 (by decide) (nd_he n nv)) ?_
  refine m_do rfl (wanted_rd rfl) (fun K hK => ?_)
  refine wp_allocG _ _ rfl zero4i (of_decide_eq_true rfl) ?_
  intro w4 m4 k4 z4
  have mn4 := mn3.below k4
  have mh4 := mh3.below k4
  have mr4 := m3.below k4
  refine hK _ _ ?_
  clear hK K
  refine m_st (wanted_rd rfl) (fun K hK => ?_)
  refine wp_storeP _ _ _ _ rfl many4 (ev_in rfl (by omega)) (ev_in rfl (by omega)) m4 (by decide) (fun j hj => rfl) rfl ?_
  intro w5 mm5 k5 z5
  have ml5 := Vh.congr mm5 (stP_all4 _ _)
  have mn5 := mn4.kept k5 (by omega)
  have mh5 := mh4.kept k5 (by omega)
  have mr5 := mr4.kept k5 (by omega)
  refine hK _ ?_
  clear hK K
  refine l_nx ?_
  refine c_nx ?_
  refine c_rs ?_
  refine m_mv rfl (wanted_rd rfl) (fldNd6 rfl (ev_in rfl (by omega)) _) ?_
  refine m_mv rfl (wanted_rd rfl) (run_loadPe (h := fun j => iV (n.he j)) _ _ rfl many4 (ev_in rfl (by omega)) mn5 (by decide) (nd_he n nv)) ?_
  refine m_mv rfl (wanted_rd rfl) (run_move _ rfl (ev_const _ _) _) ?_
  refine l_nx ?_
  refine c_block ?_
  refine c_loop (fun q a W => ∃ i : Nat, i ≤ 4 ∧ 4 - i ≤ q ∧ a.tmps.size = 27 ∧ a.defers = [] ∧ a.eval (.tmp 2) = .pointer (some ⟨w.heap.size, 0, none⟩) ∧ a.eval (.tmp 3) = .pointer (some ⟨w1.heap.size, 0, none⟩) ∧ a.eval (.tmp 4) = .pointer (some ⟨w2.heap.size, 0, none⟩) ∧ a.eval (.tmp 5) = .pointer (some ⟨w3.heap.size, 0, none⟩) ∧ a.eval (.tmp 11) = agV (fun j => iV (n.he j)) 0 4 ∧ a.eval (.tmp 12) = .int .i64 (i : Int) ∧ Vh 37 W w.heap.size 74 74 (ndF n nv) ∧ Vh 120 W w1.heap.size 4 4 (hrO n.id n.fr L 2 ((4 : Nat) : Int)) ∧ Vh 28 W w2.heap.size 4 4 (fun _ => iV 0) ∧ Vh 28 W w3.heap.size 4 4 (vtF n (L.map Lm.m) i) ∧ Below w.heap.size w W ∧ w5.heap.size ≤ W.heap.size) 4 ⟨0, by omega, by omega, (szL _ _).trans hs, (defL _ _).trans hd, (ev_in rfl (by omega)), (ev_in rfl (by omega)), (ev_in rfl (by omega)), (ev_in rfl (by omega)), (ev_in rfl (by omega)), (ev_in rfl (by omega)), mn5, mh5, mr5, Vh.congr ml5 (vt_zero n (L.map Lm.m)), below_of_kept ((((k1).trans (k2.mono (by omega))).trans (k3.mono (by omega))).trans (k4.mono (by omega))) k5 (by omega) (by omega), by omega⟩ (fun q B W hI2 => ?_)
  clear b0 b1 hs hd
  obtain ⟨i, hi, hr2, hs, hd, b2, b3, b4, b5, b11, b12, mn, mh, mr, ml, kB, hW⟩ := hI2
  by_cases hin : i < 4
  · refine c_rs (m_start ?_)
    refine m_mv rfl (wanted_rd rfl) (run_lssI (b := true) _ _ rfl (ev_out rfl b12) (ev_const _ _) (decide_eq_true (by omega)) _) ?_
    refine l_nx ?_
    refine c_nx (c_true (ev_in rfl (by omega)) (c_fin ?_))
    refine c_nx (c_block ?_)
    refine c_rs ?_
    refine m_mv rfl (wanted_rd rfl) (run_move _ rfl (ev_out rfl b12) _) ?_
    refine m_mv rfl (wanted_rd rfl) (run_ixV1 _ _ _ _ rfl Tryz.underlying28 oneI (ev_out rfl b11) (ev_out rfl b12) rfl hin _) ?_
    refine m_mv rfl (wanted_rd rfl) (run_assign _ rfl (ev_in rfl (by omega)) _) ?_
    refine m_mv rfl (wanted_rd rfl) (run_assign _ rfl (ev_in rfl (by omega)) _) ?_
    refine l_nx ?_
    refine c_region ?_
    refine m_mv rfl (wanted_rd rfl) (run_move _ rfl (ev_in rfl (by omega)) _) ?_
    refine m_mv rfl (wanted_rd rfl) (run_loadP _ _ rfl manyHr (ev_out rfl b3) mh (by decide)) ?_
    refine m_mv rfl (wanted_rd rfl) (fldNd0 rfl (ev_out rfl b2) _) ?_
    refine m_mv rfl (wanted_rd rfl) (run_lod1 _ _ rfl oneI (ev_in rfl (by omega)) mn (by decide) rfl) ?_
    refine m_mv rfl (wanted_rd rfl) (run_move _ rfl (ev_in rfl (by omega)) _) ?_
    refine m_mv rfl (wanted_rd rfl) (run_move _ rfl (ev_in rfl (by omega)) _) ?_
    refine m_mv rfl (wanted_rd rfl) (run_move _ rfl (ev_in rfl (by omega)) _) ?_
    refine m_do rfl (wanted_rd rfl) (fun K hK => ?_)
    refine wp_call5 _ 94 _ _ _ _ _ _ rfl (ev_in rfl (by omega)) (ev_in rfl (by omega)) (ev_in rfl (by omega)) (ev_in rfl (by omega)) (ev_in rfl (by omega)) (enter_htaken _ _ _ _ _ _) (heardTaken_any n mo L I i (n.he i) i 4 _ hI hI4 hin (by omega) (hok.he i) (hmr.below kB) hRL) ?_
    rintro e w11 ⟨rfl, k11⟩
    have n11 := k11.size
    have mn11 := mn.below k11
    have mh11 := mh.below k11
    have mr11 := mr.below k11
    have ml11 := ml.below k11
    refine ⟨_, rfl, ?_⟩
    refine hK _ _ ?_
    clear hK K
    refine m_mv rfl (wanted_rd rfl) (run_ixG _ _ _ _ rfl Tryz.underlying28 oneI.size (ev_out rfl b5) (ev_in rfl (by omega)) rfl hin _) ?_
    refine m_st (wanted_rd rfl) (fun K hK => ?_)
    refine wp_sto1 _ _ _ _ rfl oneI (ev_in rfl (by omega)) (ev_in rfl (by omega)) ml11 (by omega) rfl rfl rfl ?_
    intro w12 mm12 k12 z12
    have ml12 := Vh.congr mm12 (vt_next n (L.map Lm.m) i)
    have mn12 := mn11.kept k12 (by omega)
    have mh12 := mh11.kept k12 (by omega)
    have mr12 := mr11.kept k12 (by omega)
    refine hK _ ?_
    clear hK K
    refine l_finB ?_
    refine c_region ?_
    refine m_mv rfl (wanted_rd rfl) (run_addI _ _ rfl (ev_out rfl b12) (ev_const _ _) (by omega) (by omega) _) ?_
    refine m_mv rfl (wanted_rd rfl) (run_move _ rfl (ev_in rfl (by omega)) _) ?_
    exact l_round ⟨4 - (i + 1), by omega, i + 1, by omega, by omega, (szL _ _).trans hs, (defL _ _).trans hd, (ev_out rfl b2), (ev_out rfl b3), (ev_out rfl b4), (ev_out rfl b5), (ev_out rfl b11), (ev_in rfl (by omega)).trans (by rw [Int.natCast_add]; rfl), mn12, mh12, mr12, ml12, below_of_kept (kB.trans (k11.mono (by omega))) k12 (by omega) (by omega), by omega⟩
  · refine c_rs (m_start ?_)
    refine m_mv rfl (wanted_rd rfl) (run_lssI (b := false) _ _ rfl (ev_out rfl b12) (ev_const _ _) (decide_eq_false (by omega)) _) ?_
    obtain rfl : i = 4 := by omega
    have ml := Vh.congr ml (vt_four n (L.map Lm.m))
    refine l_nx ?_
    refine c_nx (c_false (ev_in rfl (by omega)) (c_exit (x_out ?_)))
    refine c_rs ?_
    refine m_mv rfl (wanted_rd rfl) (run_loadP _ _ rfl many4 (ev_out rfl b5) ml (by decide)) ?_
    refine m_st (wanted_rd rfl) (fun K hK => ?_)
    refine wp_storeP _ _ _ _ rfl many4 (ev_out rfl b4) (ev_in rfl (by omega)) mr (by decide) (fun j hj => rfl) rfl ?_
    intro w11 mm11 k11 z11
    have mr11 := Vh.congr mm11 (stP_all4 _ _)
    have mn11 := mn.kept k11 (by omega)
    have mh11 := mh.kept k11 (by omega)
    have ml11 := ml.kept k11 (by omega)
    refine hK _ ?_
    clear hK K
    refine l_nx ?_
    refine c_ret (ret_of ((defL _ _).trans hd) (res_c rfl (ev_out rfl b4) many4 mr11 (Nat.le_refl _)) ⟨rfl, below_of_kept kB k11 (by omega) (by omega)⟩)

end Go.Proofs.YthimcecbgpamdaaGreat

namespace Go.Proofs.YthimcecbgpamdaaGreat
open Go.RowKit

set_option maxHeartbeats 1000000 in
theorem voteCount_any (x : Int) (p q : Nat) (v : Nat → Int) (b : Nat → Bool) (w : World) (hb : B4 w p b) (hv : F4 w q v) :
    Calls Tryz.prog 89 #[.int .i64 x, .pointer (some ⟨p, 0, none⟩), .pointer (some ⟨q, 0, none⟩)] w fun e w' => e = .returned (.int .i64 (vk b v x 4 : Nat)) ∧ w' = w := by
  have HB := hide hb; have HV := hide hv
  clear hb hv
  go_enter Tryz.func89, Tryz.ntmps89
  go_wp2_with fail
  go_loopw [5, 6, 7] (fun ns _ is wr => ∃ k : Nat, k ≤ 4 ∧ ns = .int .i64 (vk b v x k : Nat) ∧ is = .int .i64 (k : Nat) ∧ wr = w)
    (fun _ _ is _ => 4 - (intOf is).toNat)
  case atStart => exact ⟨0, by omega, rfl, rfl, rfl⟩
  case round =>
    obtain ⟨k, hk, rfl, rfl, rfl⟩ := hrel
    by_cases hin : k < 4
    · have cb := (unhide HB).cell hin; have cv := (unhide HV).cell hin
      have hin' : (k : Int) < 4 := by omega
      have hn : vk b v x k ≤ 4 := Nat.le_trans (vk_le b v x k) (by omega)
      have E := hide (show vk b v x (k + 1) = vk b v x k + if b k = true ∧ v k = x then 1 else 0 from rfl)
      obtain ⟨y, ey⟩ : ∃ y, y = v k := ⟨_, rfl⟩
      obtain ⟨c, ec⟩ : ∃ c, c = b k := ⟨_, rfl⟩
      obtain ⟨n, en⟩ : ∃ n, n = vk b v x k := ⟨_, rfl⟩
      rw [← ec] at cb
      rw [← ey] at cv
      rw [← en] at hn ⊢
      rw [← ec, ← ey, ← en] at E
      clear ey ec en
      cases c
      · go_wp2_with fail
        go_roundw
        case rel => exact ⟨k + 1, by omega, by rw [unhide E, if_neg (fun h => by cases h.1), Nat.add_zero], by go_num, trivial⟩
        case measure => simp [intOf] <;> omega
      · by_cases hx : y = x
        · have t : (y == x) = true := by simp [hx]
          have E2 := hide (show vk b v x (k + 1) = n + 1 by rw [unhide E, if_pos ⟨rfl, hx⟩])
          clear E hx
          go_wp2_with fail
          go_roundw
          case rel => exact ⟨k + 1, by omega, by rw [unhide E2]; go_num, by go_num, trivial⟩
          case measure => simp [intOf] <;> omega
        · have t : (y == x) = false := by simp [hx]
          have E2 := hide (show vk b v x (k + 1) = n by rw [unhide E, if_neg (fun h => hx h.2), Nat.add_zero])
          clear E hx
          go_wp2_with fail
          go_roundw
          case rel => exact ⟨k + 1, by omega, by rw [unhide E2], by go_num, trivial⟩
          case measure => simp [intOf] <;> omega
    · have : k = 4 := by omega
      subst this
      go_wp2_with fail
      go_ret
      exact ⟨rfl, rfl⟩

end Go.Proofs.YthimcecbgpamdaaGreat

namespace Go.Proofs.YthimcecbgpamdaaGreat
open Go.RowKit

theorem enter_count (u p q : Value) (w : World) : (callFunc 89 #[u, p, q]).run Tryz.prog w = .ok (.enter 89 #[u, p, q]) w := by go_simp
instance iRefVot2_1 : ZerK Tryz.prog 35 3 (nvdF 0 false (.slice none 0 0)) := ⟨fun w => by kernel_rfl⟩
theorem nvd_oneV (x : Int) (b : Bool) (a : Option Addr) (n c : Nat) : ∀ j, j < 3 → (nvdF x b (.slice a n c) j).oneCell' = true := fun j hj => by
  match j, hj with
  | 0, _ => rfl
  | 1, _ => rfl
  | 2, _ => rfl
theorem nvd_put0 {x y : Int} {b : Bool} {u : Value} : ∀ j, j < 3 → stW (nvdF x b u) (0 + 0) (.int .i64 y) j = nvdF y b u j := fun j hj => by
  match j, hj with
  | 0, _ => rfl
  | 1, _ => rfl
  | 2, _ => rfl
theorem nvd_put1 {x : Int} {b d : Bool} {u : Value} : ∀ j, j < 3 → stW (nvdF x b u) (0 + 1) (.bool d) j = nvdF x d u j := fun j hj => by
  match j, hj with
  | 0, _ => rfl
  | 1, _ => rfl
  | 2, _ => rfl
theorem nvd_put2 {x : Int} {b : Bool} {u v : Value} : ∀ j, j < 3 → stW (nvdF x b u) (0 + 2) v j = nvdF x b v j := fun j hj => by
  match j, hj with
  | 0, _ => rfl
  | 1, _ => rfl
  | 2, _ => rfl
theorem wp_count {w : World} {a : Act} {o : Oper} {K : Act → World → Prop} {Q : Exit → Act → World → Prop} (c x : Operand) (T : Array TypeId) (ho : o.op = .call { callee := .value c, args := #[x], argTypes := T }) {p q : Nat} {X : Int} (hc : a.eval c = .func (.func 89) #[] #[.pointer (some ⟨p, 0, none⟩), .pointer (some ⟨q, 0, none⟩)]) (hx : a.eval x = .int .i64 X) {v : Nat → Int} {b : Nat → Bool} (hb : B4 w p b) (hv : F4 w q v)
    (h : K (a.put o.dst (.int .i64 (vk b v X 4 : Nat))) w) : WpI Tryz.prog o a w K Q := by
  refine ⟨?_⟩
  have e : (execOp a.eval o).run Tryz.prog w = .ok (.enter 89 #[.int .i64 X, .pointer (some ⟨p, 0, none⟩), .pointer (some ⟨q, 0, none⟩)]) w := by
    unfold execOp
    rw [ho]
    simp only [resolve, invoke, Sem.run_bind, List.map_toArray, List.map_cons, List.map_nil, hc, hx]
    have := enter_count (.int .i64 X) (.pointer (some ⟨p, 0, none⟩)) (.pointer (some ⟨q, 0, none⟩)) w
    go_simp
  unfold Oper.wp
  rw [e, Oper.upon_enter]
  refine (voteCount_any X p q v b w hb hv).mono ?_
  rintro e w' ⟨rfl, rfl⟩
  exact h
theorem c_midV {P : Program} {Q : Exit → Act → World → Prop} {a : Act} {w : World} {x y : Code} (T : Act → World → Prop) (hx : (∀ A W, T A W → CodI P y Q A W) → CodI P x (Nx P y Q) a w) (hy : ∀ A W, T A W → CodI P y Q A W) : CodI P (.seq x y) Q a w := c_nx (hx hy)
theorem run_lodV {P : Program} {f : Operand → Value} {o : Oper} {ty : TypeId} {x : Operand} (T : OneC P ty) {b off : Nat} {v : Value} {w : World} (hc : w.cell? ⟨b, off, none⟩ = some v) (ho : o.op = .load ty x) (hx : f x = .pointer (some ⟨b, off, none⟩)) : (execOp f o).run P w = .ok (.value v) w := by
  unfold execOp
  simp only [ho, hx, Instr.loadAt, Instr.sureAddr, loadVar, Sem.run_bind, Sem.run_pure, Result.andThen_ok, T.agg]
  go_simp
set_option maxRecDepth 10000 in
set_option maxHeartbeats 4000000 in
theorem refVote_ok : VtOK 49 := by
  intro v b w hv
  refine enterF Tryz.func49 rfl 71 rfl (of_decide_eq_true rfl) (fun A hs hd hb => ?_)
  have b0 : A.eval (.tmp 0) = agV (iF v) 0 4 := hb 0 _ rfl
  have b1 : A.eval (.tmp 1) = agV (tF b) 0 4 := hb 1 _ rfl
  clear hb
  have H := Cx.start w
  refine c_rs (m_start ?_)
  refine q_box H ?_
  clear H
  intro w1 H z1
  refine q_box H ?_
  clear H
  intro w2 H z2
  refine q_al H ?_
  clear H
  intro w3 H z3
  refine l_nx ?_
  refine c_rs ?_
  refine qg (run_mkF _ _ rfl (show _ = #[.pointer (some ⟨w1.heap.size, 0, none⟩), .pointer (some ⟨w.heap.size, 0, none⟩)] from by simp; exact ⟨Qv, Qv⟩) _) ?_
  refine qa ?_
  refine l_nx ?_
  refine c_rs ?_
  refine q_al H ?_
  clear H
  intro w4 H z4
  refine l_nx ?_
  refine c_rs ?_
  refine qa ?_
  refine l_nx ?_
  refine c_nx ?_
  refine c_rs ?_
  refine qa ?_
  refine l_nx ?_
  refine c_block ?_
  refine c_loop (fun r A W => ∃ (k : Nat) (X : Int), k ≤ 4 ∧ 4 - k ≤ r ∧ (A.tmps.size = 71 ∧ A.defers = [] ∧ A.eval (.tmp 2) = .pointer (some ⟨w.heap.size, 0, none⟩) ∧ A.eval (.tmp 3) = .pointer (some ⟨w1.heap.size, 0, none⟩) ∧ A.eval (.tmp 4) = .pointer (some ⟨w2.heap.size, 0, none⟩) ∧ A.eval (.tmp 5) = .func (.func 89) #[] #[.pointer (some ⟨w1.heap.size, 0, none⟩), .pointer (some ⟨w.heap.size, 0, none⟩)] ∧ A.eval (.tmp 6) = .pointer (some ⟨w3.heap.size, 0, none⟩)) ∧ A.eval (.tmp 7) = .int .i64 (ti b k : Nat) ∧ A.eval (.tmp 11) = .int .i64 (k : Int) ∧ IsV v b k X ∧ R64 X ∧ Cx w W [vhI 35 w3.heap.size 3 3 (nvdF X false (.slice none 0 0)), vhI 35 w2.heap.size 3 3 (nvdF 0 false (.slice none 0 0)), vhI 27 w1.heap.size 4 4 (tF b), vhI 28 w.heap.size 4 4 (iF v)]) 4
    ⟨0, 0, Nat.zero_le _, by omega, ⟨(szL _ _).trans hs, (defL _ _).trans hd, Qv, Qv, Qv, Qv, Qv⟩, Qv, Qv, isV_start v b, by unfold R64; omega, H⟩ (fun r A W hI => ?_)
  clear b0 b1 hs hd H
  obtain ⟨k, X, hk, hkr, ⟨hs, hd, b2, b3, b4, b5, b6⟩, b7, b11, hV, hX, H⟩ := hI
  have htl := ti_le b k
  refine c_rs (m_start ?_)
  refine qa ?_
  refine l_nx ?_
  refine c_nx ?_
  refine q_if (fun h => ?_) (fun h => ?_)
  · have hin : k < 4 := by have := of_decide_eq_true h; omega
    refine c_fin ?_
    refine c_nx (c_block ?_)
    refine c_rs ?_
    iterate 2 refine qa ?_
    refine l_nx ?_
    refine c_nx ?_
    refine c_rs ?_
    refine qa ?_
    refine qg (run_ixG _ _ _ _ rfl ArrK.out SizK.out Qv Qv rfl hin _) ?_
    refine qg (run_lod1 (v := .bool (b k)) _ _ rfl OneK.out Qv H.v2 (by omega) (by rw [show 0 + k * 1 = k by omega]; rfl)) ?_
    refine qa ?_
    refine l_nx ?_
    rcases hbk : b k with _ | _
    · have t2 : ti b (k + 1) = ti b k := by show ti b k + _ = _; rw [if_neg (by rw [hbk]; decide)]; rfl
      refine q_yes rfl ?_
      refine c_exit (x_in ?_)
      refine c_region ?_
      repeat refine qa ?_
      exact l_round ⟨4 - (k + 1), by omega, k + 1, X, by omega, by omega, ⟨(szL _ _).trans hs, (defL _ _).trans hd, Qv, Qv, Qv, Qv, Qv⟩, Eq.trans Qv (by rw [t2]), Eq.trans Qv (by rw [Int.natCast_add]; rfl), isV_out hV hbk, hX, H⟩
    have t2 : ti b (k + 1) = ti b k + 1 := by show ti b k + _ = _; rw [if_pos hbk]
    refine q_no rfl (c_fin ?_)
    refine c_rs ?_
    iterate 3 refine qa ?_
    refine l_nx ?_
    replace H := H.drew
    have cL : W.drew.cell? ⟨w.heap.size, 0 + k * 1, none⟩ = some (.int .i64 (v k)) := by rw [show 0 + k * 1 = k by omega]; exact H.v3.cell hin
    have cX : W.drew.cell? ⟨w3.heap.size, 0 + 0, none⟩ = some (.int .i64 X) := H.v0.cell (show 0 < 3 by omega)
    have hB : B4 W.drew w1.heap.size b := H.v2
    have hF : F4 W.drew w.heap.size v := H.v3
    have l1 := vk_le b v X 4
    have l2 := vk_le b v (v k) 4
    have hS : (fun W' => Below W.drew.heap.size W.drew W') W.drew := Below.refl _ _
    refine c_midV (fun A W' => W' = W.drew ∧ (A.tmps.size = 71 ∧ A.defers = [] ∧ A.eval (.tmp 2) = .pointer (some ⟨w.heap.size, 0, none⟩) ∧ A.eval (.tmp 3) = .pointer (some ⟨w1.heap.size, 0, none⟩) ∧ A.eval (.tmp 4) = .pointer (some ⟨w2.heap.size, 0, none⟩) ∧ A.eval (.tmp 5) = .func (.func 89) #[] #[.pointer (some ⟨w1.heap.size, 0, none⟩), .pointer (some ⟨w.heap.size, 0, none⟩)] ∧ A.eval (.tmp 6) = .pointer (some ⟨w3.heap.size, 0, none⟩)) ∧ A.eval (.tmp 7) = .int .i64 ((ti b k : Nat) + 1) ∧ A.eval (.tmp 8) = .int .i64 (k : Int) ∧ A.eval (.tmp 11) = .int .i64 (k : Int) ∧ A.eval (.tmp 33) = .bool (decide (vk b v X 4 < vk b v (v k) 4 ∨ ti b k = 0))) (fun hT => ?_) (fun A W' hT => ?_)
    · refine c_rj (S := fun W' => Below W.drew.heap.size W.drew W') (.mv 0 (.mv 1 (.mv 2 (.rd 3 (.mv 5 (.mv 6 (.rd 7 (.go 4 (.go 8 (.mv 9 (.mv 10 (.mv 11 (.mv 12 (.mv 13 .fin)))))))))))))) [] (by kernel_rfl) (by kernel_rfl) ?_
      iterate 2 refine qj ?_
      refine j_mv rfl rfl (fun _ _ _ h => h) (wanted_rd rfl) (fun w => run_ixG _ _ _ _ rfl ArrK.out SizK.out Qv Qv rfl hin w) ?_
      refine j_rd rfl rfl (fun _ _ _ h => h) (wanted_rd rfl) hS (fun _ e => run_lodV OneK.out (at_below cL e) rfl Qv) ?_
      iterate 2 refine qj ?_
      refine j_rd rfl rfl (fun _ _ _ h => h) (wanted_rd rfl) hS (fun _ e => run_lodV OneK.out (at_below cX e) rfl Qv) ?_
      refine j_do rfl rfl (wanted_rd rfl) (fun K hK => wp_count _ _ _ rfl Qv Qv hB hF (hK _ _ (fun _ h => h) ?_))
      refine j_do rfl rfl (wanted_rd rfl) (fun K hK => wp_count _ _ _ rfl Qv Qv hB hF (hK _ _ (fun _ h => h) ?_))
      by_cases hD : vk b v X 4 < vk b v (v k) 4
      · refine j_mv rfl rfl (fun _ _ _ h => h) (wanted_rd rfl) (fun w => run_gtrI (b := true) _ _ rfl Qv Qv (decide_eq_true (by omega)) w) ?_
        refine qj ?_
        iterate 2 refine j_skip rfl rfl (fun _ _ _ h => h) (wanted_n rfl rfl rfl Qv (by decide)) ?_
        refine j_mv rfl rfl (fun _ _ _ h => h) (wanted_rd rfl) (fun w => run_pickT' _ _ _ rfl Qv Qv w) ?_
        refine j_nx ?_
        exact hT _ _ ⟨rfl, ⟨(szL _ _).trans hs, (defL _ _).trans hd, Qv, Qv, Qv, Qv, Qv⟩, Qv, Qv, Qv, Eq.trans Qv (by rw [decide_eq_true (Or.inl hD)])⟩
      · refine j_mv rfl rfl (fun _ _ _ h => h) (wanted_rd rfl) (fun w => run_gtrI (b := false) _ _ rfl Qv Qv (decide_eq_false (by omega)) w) ?_
        iterate 3 refine qj ?_
        refine j_mv rfl rfl (fun _ _ _ h => h) (wanted_rd rfl) (fun w => run_pickF _ _ _ rfl Qv Qv w) ?_
        refine j_nx ?_
        exact hT _ _ ⟨rfl, ⟨(szL _ _).trans hs, (defL _ _).trans hd, Qv, Qv, Qv, Qv, Qv⟩, Qv, Qv, Qv, Eq.trans Qv (congrArg Value.bool (decide_eq_decide.2 (by omega)))⟩
    clear b2 b3 b4 b5 b6 b7 b11 hs hd
    obtain ⟨rfl, ⟨hs, hd, b2, b3, b4, b5, b6⟩, b7, b8, b11, b33⟩ := hT
    refine c_cond b33 (fun h => ?_) (fun h => ?_)
    · refine c_region (m_start ?_)
      refine qa ?_
      refine qg (run_ixG _ _ _ _ rfl ArrK.out SizK.out Qv Qv rfl hin _) ?_
      refine qg (run_lodV OneK.out cL rfl Qv) ?_
      refine qa ?_
      refine q_st H.a0 nvd_put0 ?_
      clear H
      intro V1 H z5
      refine l_finB ?_
      refine c_region ?_
      repeat refine qa ?_
      exact l_round ⟨4 - (k + 1), by omega, k + 1, v k, by omega, by omega, ⟨(szL _ _).trans hs, (defL _ _).trans hd, Qv, Qv, Qv, Qv, Qv⟩, Eq.trans Qv (by rw [t2]; rfl), Eq.trans Qv (by rw [Int.natCast_add]; rfl), isV_take hV hbk (of_decide_eq_true h), hv k, H⟩
    · have hn := of_decide_eq_false h
      refine c_finB ?_
      refine c_region (m_start ?_)
      repeat refine qa ?_
      exact l_round ⟨4 - (k + 1), by omega, k + 1, X, by omega, by omega, ⟨(szL _ _).trans hs, (defL _ _).trans hd, Qv, Qv, Qv, Qv, Qv⟩, Eq.trans Qv (by rw [t2]; rfl), Eq.trans Qv (by rw [Int.natCast_add]; rfl), isV_leave hV (fun e => hn (Or.inl e)) (fun e => hn (Or.inr e)), hX, H⟩
  obtain rfl : k = 4 := by have := of_decide_eq_false h; omega
  refine c_exit (x_out ?_)
  have htl := ti_le b 4
  have hkl := vk_le b v X 4
  refine c_midV (fun A W' => (A.tmps.size = 71 ∧ A.defers = [] ∧ A.eval (.tmp 2) = .pointer (some ⟨w.heap.size, 0, none⟩) ∧ A.eval (.tmp 4) = .pointer (some ⟨w2.heap.size, 0, none⟩) ∧ A.eval (.tmp 6) = .pointer (some ⟨w3.heap.size, 0, none⟩) ∧ A.eval (.tmp 7) = .int .i64 (ti b 4 : Nat)) ∧ Cx w W' [vhI 35 w3.heap.size 3 3 (nvdF X (vtS v b X) (.slice none 0 0)), vhI 35 w2.heap.size 3 3 (nvdF 0 false (.slice none 0 0)), vhI 27 w1.heap.size 4 4 (tF b), vhI 28 w.heap.size 4 4 (iF v)]) (fun hT => ?_) (fun A V hT => ?_)
  · refine c_region ?_
    refine qa ?_
    by_cases hp : 0 < ti b 4
    · refine qg (run_gtrI (b := true) _ _ rfl Qv Qv (decide_eq_true (by omega)) _) ?_
      iterate 3 refine qa ?_
      refine qg (run_lod1 (v := .int .i64 X) _ _ rfl OneK.out Qv H.v0 (by omega) rfl) ?_
      refine m_do rfl (wanted_g rfl rfl rfl Qv) (fun K hK => wp_count _ _ _ rfl Qv Qv H.v2 H.v3 (hK _ _ ?_))
      refine qg (run_mulN _ _ rfl Qv Qv (by omega) (by omega) _) ?_
      refine qa ?_
      refine qg (run_gtrI (b := vtS v b X) _ _ rfl Qv Qv (by unfold vtS; exact decide_eq_decide.2 (by omega)) _) ?_
      refine qg (run_pickT' _ _ _ rfl Qv Qv _) ?_
      refine qa ?_
      refine q_st H.a0 nvd_put1 ?_
      clear H
      intro V1 H z5
      refine l_nx ?_
      exact hT _ _ ⟨⟨(szL _ _).trans hs, (defL _ _).trans hd, Qv, Qv, Qv, Qv⟩, H⟩
    · refine qg (run_gtrI (b := false) _ _ rfl Qv Qv (decide_eq_false (by omega)) _) ?_
      refine qa ?_
      iterate 7 refine q_skip ?_
      refine qg (run_pickF (v := .bool (vtS v b X)) _ _ _ rfl Qv (Eq.trans Qv (by unfold vtS; rw [decide_eq_false (by omega)])) _) ?_
      refine qa ?_
      refine q_st H.a0 nvd_put1 ?_
      clear H
      intro V1 H z5
      refine l_nx ?_
      exact hT _ _ ⟨⟨(szL _ _).trans hs, (defL _ _).trans hd, Qv, Qv, Qv, Qv⟩, H⟩
  clear b2 b3 b4 b5 b6 b7 b11 hs hd H
  obtain ⟨⟨hs, hd, b2, b4, b6, b7⟩, H⟩ := hT
  refine c_nx ?_
  refine c_rs (m_start ?_)
  refine qa ?_
  refine l_nx ?_
  refine c_block ?_
  refine c_loop (fun r A W => ∃ (k : Nat) (ao : Option Addr) (c : Nat), k ≤ 4 ∧ 4 - k ≤ r ∧ (A.tmps.size = 71 ∧ A.defers = [] ∧ A.eval (.tmp 2) = .pointer (some ⟨w.heap.size, 0, none⟩) ∧ A.eval (.tmp 4) = .pointer (some ⟨w2.heap.size, 0, none⟩) ∧ A.eval (.tmp 6) = .pointer (some ⟨w3.heap.size, 0, none⟩) ∧ A.eval (.tmp 7) = .int .i64 (ti b 4 : Nat)) ∧ A.eval (.tmp 51) = .int .i64 (k : Int) ∧ Cx w W [vhI 35 w3.heap.size 3 3 (nvdF X (vtS v b X) (.slice ao k c)), ownI w.heap.size 4 1 (.slice ao k c) k (rowV (tF (vtA v b X)) k), vhI 35 w2.heap.size 3 3 (nvdF 0 false (.slice none 0 0)), vhI 27 w1.heap.size 4 4 (tF b), vhI 28 w.heap.size 4 4 (iF v)]) 4
    ⟨0, none, 0, Nat.zero_le _, by omega, ⟨(szL _ _).trans hs, (defL _ _).trans hd, Qv, Qv, Qv, Qv⟩, Qv, (H.add (Below.refl _ _) (ownI w.heap.size 4 1 (.slice none 0 0) 0 []) (World.ownsRow_nil _ _ _ _) (fun j e => nomatch e)).f1⟩ (fun r A W hI => ?_)
  clear b2 b4 b6 b7 hs hd H
  obtain ⟨k, ao, c, hk, hkr, ⟨hs, hd, b2, b4, b6, b7⟩, b51, H⟩ := hI
  refine c_rs (m_start ?_)
  refine qa ?_
  refine l_nx ?_
  refine c_nx ?_
  refine q_if (fun h => ?_) (fun h => ?_)
  · have hin : k < 4 := by have := of_decide_eq_true h; omega
    refine c_fin ?_
    refine c_nx (c_block ?_)
    refine c_rs ?_
    iterate 2 refine qa ?_
    refine l_nx ?_
    replace H := H.drew
    have cA : W.drew.cell? ⟨w3.heap.size, 0 + 2, none⟩ = some (.slice ao k c) := H.v0.cell (show 2 < 3 by omega)
    have cX : W.drew.cell? ⟨w3.heap.size, 0 + 0, none⟩ = some (.int .i64 X) := H.v0.cell (show 0 < 3 by omega)
    have cL : W.drew.cell? ⟨w.heap.size, 0 + k * 1, none⟩ = some (.int .i64 (v k)) := by rw [show 0 + k * 1 = k by omega]; exact H.v4.cell hin
    have hS : (fun W' => Below W.drew.heap.size W.drew W') W.drew := Below.refl _ _
    by_cases hp : 0 < ti b 4
    · refine c_rj (S := fun W' => Below W.drew.heap.size W.drew W') (.mv 0 (.rd 1 (.mv 2 (.mv 3 (.mv 4 (.mv 5 (.mv 6 (.rd 7 (.mv 8 (.rd 9 (.mv 10 (.mv 11 (.go 12 (.go 13 (.mv 14 (.go 15 .fin)))))))))))))))) [13, 15] (by kernel_rfl) (by kernel_rfl) ?_
      refine qj ?_
      refine j_rd rfl rfl (fun _ _ _ h => h) (wanted_rd rfl) hS (fun _ e => run_lodV OneK.out (at_below cA e) rfl Qv) ?_
      refine qj ?_
      refine j_mv rfl rfl (fun _ _ _ h => h) (wanted_rd rfl) (fun w => run_gtrI (b := true) _ _ rfl Qv Qv (decide_eq_true (by omega)) w) ?_
      iterate 2 refine qj ?_
      refine j_mv rfl rfl (fun _ _ _ h => h) (wanted_g rfl rfl rfl Qv) (fun w => run_ixG _ _ _ _ rfl ArrK.out SizK.out Qv Qv rfl hin w) ?_
      refine j_rd rfl rfl (fun _ _ _ h => h) (wanted_g rfl rfl rfl Qv) hS (fun _ e => run_lodV OneK.out (at_below cL e) rfl Qv) ?_
      refine qj ?_
      refine j_rd rfl rfl (fun _ _ _ h => h) (wanted_g rfl rfl rfl Qv) hS (fun _ e => run_lodV OneK.out (at_below cX e) rfl Qv) ?_
      refine j_mv rfl rfl (fun _ _ _ h => h) (wanted_g rfl rfl rfl Qv) (fun w => run_eqlI (b := vtA v b X k) _ _ rfl Qv Qv (by unfold vtA; exact decide_eq_decide.2 ⟨fun e => ⟨hp, e⟩, fun e => e.2⟩) w) ?_
      refine j_mv rfl rfl (fun _ _ _ h => h) (wanted_rd rfl) (fun w => run_pickT' _ _ _ rfl Qv Qv w) ?_
      refine j_do rfl rfl (wanted_rd rfl) (fun K hK => wp_one1 (v := .bool (vtA v b X k)) SlcK.out OneK.out Zer1.out rfl rfl rfl Qv (fun V1 m1 k1 z5 => hK _ _ (fun _ h => h.trans (k1.mono h.size)) ?_))
      replace H := H.call k1
      have hrw : World.ownsRow _ _ _ _ _ _ _ := H.o1
      refine j_do rfl rfl (wanted_rd rfl) (fun K hK => wp_joinA (bytes := 1) rfl inferInstance H.size Qv Qv hrw (Or.inr ⟨⟨W.drew.heap.size, 0, none⟩, 1, rfl, rfl, fun j u hj => by
        obtain rfl : j = 0 := by
          have := (List.getElem?_eq_some_iff.1 hj).1
          simp at this
          exact this
        cases hj
        exact m1.cell (show 0 < 1 by omega)⟩ : Rdc V1 1 _ 1 [.bool (vtA v b X k)]) (fun u hu => by rw [List.mem_singleton.1 hu]; rfl) (by unfold maxLen; omega) (by omega) (fun v' V2 o2 g2 f2 => hK _ _ (fun h => absurd h (by decide)) ?_))
      rw [show rowV (tF (vtA v b X)) k ++ [.bool (vtA v b X k)] = rowV (tF (vtA v b X)) (k + 1) by unfold rowV; rw [List.range_succ, List.map_append]; rfl] at o2
      replace H := H.a1.put (y := (ownI w.heap.size 4 1 v' (k + 1) (rowV (tF (vtA v b X)) (k + 1)))) ⟨g2.os, g2.tape, g2.output, g2.size, fun j h5 h6 => g2.block j h5 (fun e => h6 e.symm), o2, f2⟩
      obtain ⟨a', c', rfl, _⟩ := rw_slice o2
      refine qj ?_
      refine j_st rfl (wanted_rd rfl) (fun K hK => wp_sto1 _ _ _ _ rfl OneK.out Qv Qv H.v0 (by omega) rfl rfl rfl (fun V3 m3 k3 z6 => hK _ (fun h => absurd h (by decide)) ?_))
      replace H := H.a0.s k3 (m3.congr nvd_put2)
      refine j_finB ?_
      refine c_region ?_
      repeat refine qa ?_
      exact l_round ⟨4 - (k + 1), by omega, k + 1, a', c', by omega, by omega, ⟨(szL _ _).trans hs, (defL _ _).trans hd, Qv, Qv, Qv, Qv⟩, Eq.trans Qv (by rw [Int.natCast_add]; rfl), H⟩
    · refine c_rj (S := fun W' => Below W.drew.heap.size W.drew W') (.mv 0 (.rd 1 (.mv 2 (.mv 3 (.mv 4 (.mv 5 (.mv 6 (.mv 7 (.mv 8 (.mv 9 (.mv 10 (.mv 11 (.go 12 (.go 13 (.mv 14 (.go 15 .fin)))))))))))))))) [13, 15] (by kernel_rfl) (by kernel_rfl) ?_
      refine qj ?_
      refine j_rd rfl rfl (fun _ _ _ h => h) (wanted_rd rfl) hS (fun _ e => run_lodV OneK.out (at_below cA e) rfl Qv) ?_
      refine qj ?_
      refine j_mv rfl rfl (fun _ _ _ h => h) (wanted_rd rfl) (fun w => run_gtrI (b := false) _ _ rfl Qv Qv (decide_eq_false (by omega)) w) ?_
      refine qj ?_
      iterate 6 refine j_skip rfl rfl (fun _ _ _ h => h) (wanted_n rfl rfl rfl Qv (by decide)) ?_
      refine j_mv rfl rfl (fun _ _ _ h => h) (wanted_rd rfl) (fun w => run_pickF (v := .bool (vtA v b X k)) _ _ _ rfl Qv (Eq.trans Qv (by unfold vtA; rw [decide_eq_false (fun e => hp e.1)])) w) ?_
      refine j_do rfl rfl (wanted_rd rfl) (fun K hK => wp_one1 (v := .bool (vtA v b X k)) SlcK.out OneK.out Zer1.out rfl rfl rfl Qv (fun V1 m1 k1 z5 => hK _ _ (fun _ h => h.trans (k1.mono h.size)) ?_))
      replace H := H.call k1
      have hrw : World.ownsRow _ _ _ _ _ _ _ := H.o1
      refine j_do rfl rfl (wanted_rd rfl) (fun K hK => wp_joinA (bytes := 1) rfl inferInstance H.size Qv Qv hrw (Or.inr ⟨⟨W.drew.heap.size, 0, none⟩, 1, rfl, rfl, fun j u hj => by
        obtain rfl : j = 0 := by
          have := (List.getElem?_eq_some_iff.1 hj).1
          simp at this
          exact this
        cases hj
        exact m1.cell (show 0 < 1 by omega)⟩ : Rdc V1 1 _ 1 [.bool (vtA v b X k)]) (fun u hu => by rw [List.mem_singleton.1 hu]; rfl) (by unfold maxLen; omega) (by omega) (fun v' V2 o2 g2 f2 => hK _ _ (fun h => absurd h (by decide)) ?_))
      rw [show rowV (tF (vtA v b X)) k ++ [.bool (vtA v b X k)] = rowV (tF (vtA v b X)) (k + 1) by unfold rowV; rw [List.range_succ, List.map_append]; rfl] at o2
      replace H := H.a1.put (y := (ownI w.heap.size 4 1 v' (k + 1) (rowV (tF (vtA v b X)) (k + 1)))) ⟨g2.os, g2.tape, g2.output, g2.size, fun j h5 h6 => g2.block j h5 (fun e => h6 e.symm), o2, f2⟩
      obtain ⟨a', c', rfl, _⟩ := rw_slice o2
      refine qj ?_
      refine j_st rfl (wanted_rd rfl) (fun K hK => wp_sto1 _ _ _ _ rfl OneK.out Qv Qv H.v0 (by omega) rfl rfl rfl (fun V3 m3 k3 z6 => hK _ (fun h => absurd h (by decide)) ?_))
      replace H := H.a0.s k3 (m3.congr nvd_put2)
      refine j_finB ?_
      refine c_region ?_
      repeat refine qa ?_
      exact l_round ⟨4 - (k + 1), by omega, k + 1, a', c', by omega, by omega, ⟨(szL _ _).trans hs, (defL _ _).trans hd, Qv, Qv, Qv, Qv⟩, Eq.trans Qv (by rw [Int.natCast_add]; rfl), H⟩
  obtain rfl : k = 4 := by have := of_decide_eq_false h; omega
  refine c_exit (x_out ?_)
  refine c_rs ?_
  refine qa ?_
  refine q_sp H.a2 stP_whole (nvd_oneV _ _ _ _ _) ?_
  clear H
  intro V1 H z5
  refine l_nx ?_
  exact c_ret (ret_of ((defL _ _).trans hd) (res_c rfl Qv ManyK.out H.v2 (Nat.le_refl _)) ⟨X, _, hV, rfl, H.o1, H.bel⟩)

end Go.Proofs.YthimcecbgpamdaaGreat

namespace Go.Proofs.YthimcecbgpamdaaGreat
open Go.RowKit

/-- Changes as cells. -/
def chL : List (Int × Nat) → List Value
  | [] => []
  | c :: l => .int .i64 c.1 :: .int .i64 (c.2 : Nat) :: chL l
theorem chL_len (l : List (Int × Nat)) : (chL l).length = l.length * 2 := by
  induction l with
  | nil => rfl
  | cons c l ih => show (chL l).length + 1 + 1 = (l.length + 1) * 2; omega
theorem chL_append (l m : List (Int × Nat)) : chL (l ++ m) = chL l ++ chL m := by
  induction l with
  | nil => rfl
  | cons c l ih => show _ :: _ :: chL (l ++ m) = _ :: _ :: (chL l ++ chL m); rw [ih]
theorem chL_at {l : List (Int × Nat)} : ∀ {i : Nat} {c : Int × Nat}, l[i]? = some c → (chL l)[i * 2]? = some (.int .i64 c.1) ∧ (chL l)[i * 2 + 1]? = some (.int .i64 (c.2 : Nat)) := by
  induction l with
  | nil => intro i c h; simp at h
  | cons d l ih =>
    intro i c h
    cases i with
    | zero => simp at h; subst h; exact ⟨rfl, rfl⟩
    | succ i =>
      simp at h
      have := ih h
      rw [show (i + 1) * 2 = i * 2 + 1 + 1 by omega]
      exact this
theorem infoChg : (Tryz.prog.info? 151).map (fun i => (i.zero, i.size, i.bytes)) = some (some (.agg #[.int .i64 0, .int .i64 0]), 2, 16) := by kernel_rfl
/-- Rows of changes of one's own. -/
def OwnC (w : World) (B : Nat) (v : Value) (l : List (Int × Nat)) : Prop := w.ownsRow B 151 2 v l.length (chL l)
theorem OwnC.nil (w : World) (B : Nat) : OwnC w B (.slice none 0 0) [] := World.ownsRow_nil _ _ _ _
theorem OwnC.slice {w : World} {B : Nat} {v : Value} {l : List (Int × Nat)} (h : OwnC w B v l) : ∃ ao cap, v = .slice ao l.length cap := by
  rcases h.2 with ⟨rfl, h0⟩ | ⟨g, cap, cur, rfl, _⟩
  · exact ⟨none, 0, by rw [h0]⟩
  · exact ⟨_, cap, rfl⟩
theorem OwnC.kept {z B : Nat} {w w' : World} {v : Value} {l : List (Int × Nat)} (h : OwnC w B v l) (k : Kept z w w') (hz : z < B) : OwnC w' B v l := by
  refine ⟨h.1, ?_⟩
  rcases h.2 with hn | ⟨g, cap, cur, rfl, hb, hgg, rest⟩
  · exact .inl hn
  · exact .inr ⟨g, cap, cur, rfl, hb, (k.block g (lt_of_block hgg) (by omega)).trans hgg, rest⟩
theorem OwnC.below {B : Nat} {w w' : World} {v : Value} {l : List (Int × Nat)} (h : OwnC w B v l) (k : Below w.heap.size w w') : OwnC w' B v l := by
  refine ⟨h.1, ?_⟩
  rcases h.2 with hn | ⟨g, cap, cur, rfl, hb, hgg, rest⟩
  · exact .inl hn
  · exact .inr ⟨g, cap, cur, rfl, hb, (k.block g (lt_of_block hgg)).trans hgg, rest⟩
theorem OwnC.rd {w : World} {B cap n : Nat} {ao : Option Addr} {l : List (Int × Nat)} (h : OwnC w B (.slice ao n cap) l) : ChRd B w ao l := fun hl => by
  rcases h.2 with ⟨_, h0⟩ | ⟨g, c2, cur, e, hb, rest⟩
  · omega
  · cases e
    refine ⟨g, 0, rfl, hb, fun i c hi => ?_⟩
    obtain ⟨h1, h2⟩ := chL_at hi
    have c1 := h.cells (g := g) rfl _ _ h1
    have c2 := h.cells (g := g) rfl _ _ h2
    rw [Addr.add_lit] at c1 c2
    rw [← Nat.add_assoc] at c2
    exact ⟨c1, c2⟩
theorem wpList_joinC (w : World) {ops : Array Oper} {rest : List Oper} {o : Oper} {a : Act} {Q : Exit → Act → World → Prop} (hgd : o.guard = none) (s x : Operand)
    (ho : o.op = .call { callee := .builtin .append, args := #[s, x], argTypes := #[107, 107] }) (B : Nat) (hB : B ≤ w.heap.size)
    (v : Value) (l : List (Int × Nat)) (hs : a.eval s = v) (hown : OwnC w B v l) (b : Nat) (c : Int × Nat) (hx : a.eval x = .slice (some ⟨b, 0, none⟩) 1 1) (c0 : w.cell? ⟨b, 0, none⟩ = some (.int .i64 c.1)) (c1 : w.cell? ⟨b, 1, none⟩ = some (.int .i64 (c.2 : Nat))) (hl : l.length ≤ 1000)
    (h : ∀ v' w', OwnC w' B v' (l ++ [c]) → Below B w w' → wpList Tryz.prog ops Q rest (a.put o.dst v') w') : wpList Tryz.prog ops Q (o :: rest) a w := by
  obtain ⟨i0, hi, hz0, hz1, hz2⟩ := info_parts infoChg
  refine wpList_append_own w hgd s x 107 ho B 151 i0 (.agg #[.int .i64 0, .int .i64 0]) 2 16 Tryz.underlying107 hi hz0 hz1 hz2 rfl (by decide) v l.length (chL l) hs hown ⟨b, 0, none⟩ 1 1 (chL [c]) hx rfl ?_ ?_ (by unfold maxLen; omega) (by omega) hB ?_
  · intro j u hj
    rw [Addr.add_lit, Nat.zero_add]
    match j with
    | 0 => simp [chL] at hj; subst hj; exact c0
    | 1 => simp [chL] at hj; subst hj; exact c1
    | j + 2 => simp [chL] at hj
  · intro u hu
    simp [chL] at hu
    rcases hu with rfl | rfl <;> rfl
  · intro v' w2 ho2 hgr _
    refine h v' w2 ?_ ?_
    · unfold OwnC; rw [List.length_append, chL_append]; exact ho2
    · refine ⟨hgr.os, hgr.tape, hgr.output, hgr.size, fun k hk => hgr.block k (by omega) (fun e => ?_)⟩
      have := (hown.lt k e.symm).1
      omega

end Go.Proofs.YthimcecbgpamdaaGreat

namespace Go.Proofs.YthimcecbgpamdaaGreat
open Go.RowKit

/-- What lies in memory while a roll steps. -/
structure SJ (w : World) (R : Rl) (X : Int) (st : Bool) (s : Value) (wr : World) : Prop where
  r : RAt wr w.heap.size R
  v : VdAt wr (w.heap.size + 1) X st s
  z : RAt wr (w.heap.size + 1 + 1) zeroR
  k : Below w.heap.size w wr
  n : w.heap.size + 1 + 1 + 1 ≤ wr.heap.size
section
variable {w wr w' : World} {R R' : Rl} {X : Int} {st : Bool} {s : Value}
theorem SJ.below (h : SJ w R X st s wr) (k : Below wr.heap.size wr w') : SJ w R X st s w' := ⟨h.r.below k, h.v.below k, h.z.below k, h.k.trans (k.mono h.k.size), Nat.le_trans h.n k.size⟩
theorem SJ.under (h : SJ w R X st s wr) (k : Below (w.heap.size + 1 + 1 + 1) wr w') : SJ w R X st s w' := ⟨h.r.under k (by omega), h.v.under k (by omega), h.z.under k (by omega), h.k.trans (k.mono (by omega)), Nat.le_trans h.n k.size⟩
theorem SJ.put (h : SJ w R X st s wr) (k : Kept w.heap.size wr w') (r : RAt w' w.heap.size R') : SJ w R' X st s w' := ⟨r, h.v.kept k (by omega), h.z.kept k (by omega), below_of_kept h.k k (Nat.le_refl _) h.k.size, Nat.le_trans h.n k.size⟩
end
theorem step_startS (w : World) (r : Rl) (X : Int) (st : Bool) (s : Value) : ∃ w3, w3 = ((w.alloc (.cells #[.bool (r.I 0), .bool (r.I 1), .bool (r.I 2), .bool (r.I 3), .int .i64 (r.M 0), .int .i64 (r.M 1), .int .i64 (r.M 2), .int .i64 (r.M 3), .int .i64 (r.J 0), .int .i64 (r.J 1), .int .i64 (r.J 2), .int .i64 (r.J 3)] 30)).alloc (.cells #[.int .i64 X, .bool st, s] 35)).alloc (.cells #[.bool false, .bool false, .bool false, .bool false, .int .i64 0, .int .i64 0, .int .i64 0, .int .i64 0, .int .i64 0, .int .i64 0, .int .i64 0, .int .i64 0] 30) ∧ SJ w r X st s w3 := by
  obtain ⟨w1, e1, m1, k1, z1⟩ := r_alloc w r
  obtain ⟨w2, e2, m2, k2, z2⟩ := vd_alloc w1 X st s
  obtain ⟨w3, e3, m3, k3, z3⟩ := r_alloc w2 zeroR
  rw [← e1, ← e2]
  rw [z1] at m2
  rw [z2, z1] at m3
  exact ⟨w3, e3, (m1.below k2).below k3, m2.below k3, m3, (k1.trans (k2.mono (by omega))).trans (k3.mono (by omega)), by omega⟩

set_option maxRecDepth 100000 in
set_option maxHeartbeats 8000000 in
theorem refStep_ok : StOK 50 := by
  intro r X st ao n cap A w hRJ _ hn hcap hs
  obtain ⟨w3, e3, j3⟩ := step_startS w r X st (.slice ao n cap)
  have J3 := hide j3; have E3 := hide e3; have HR := hide hs.rd; have RJ := hide hRJ
  have v2 := j3.v.cell2
  have v2' : (((w.alloc (.cells #[.bool (r.I 0), .bool (r.I 1), .bool (r.I 2), .bool (r.I 3), .int .i64 (r.M 0), .int .i64 (r.M 1), .int .i64 (r.M 2), .int .i64 (r.M 3), .int .i64 (r.J 0), .int .i64 (r.J 1), .int .i64 (r.J 2), .int .i64 (r.J 3)] 30)).alloc (.cells #[.int .i64 X, .bool st, .slice ao n cap] 35)).alloc (.cells #[.bool false, .bool false, .bool false, .bool false, .int .i64 0, .int .i64 0, .int .i64 0, .int .i64 0, .int .i64 0, .int .i64 0, .int .i64 0, .int .i64 0] 30)).cell? ⟨w.heap.size + 1, 2, none⟩ = some (.slice ao n cap) := by rw [← e3]; exact v2
  clear j3 e3 hs hRJ v2
  by_cases h4 : n = 4
  · subst h4
    unfold rollV vdV
    go_enter Tryz.func50, Tryz.ntmps50
    go_wp2_with (refine wpList_loadRl _ rfl (.tmp 2) rfl rfl (by rw [← unhide E3]; exact (unhide J3).r) ?_)
    rw [← unhide E3]
    clear v2'
    refine (refGood_ok r _ (unhide RJ)).mono ?_
    rintro e w4 ⟨rfl, k4⟩
    have J4 := hide ((unhide J3).below k4)
    clear k4 J3 E3
    cases hg : gdA r with
    | false =>
      go_wp2_with (refine wpList_storeRl _ rfl (.tmp 4) (.tmp 19) rfl rfl (r := zeroR) rfl (unhide J4).z rfl ?_)
      intro w5 m5 k5
      have K5 := hide (below_of_kept (unhide J4).k k5 (by omega) (unhide J4).k.size)
      clear k5
      go_wp2_with fail
      have e : stR r st 4 A = (zeroR, [], 3) := by unfold stR; rw [if_neg (by omega), if_pos hg]
      have p0 := m5.inn (i := 0) (by omega)
      have p1 := m5.inn (i := 1) (by omega)
      have p2 := m5.inn (i := 2) (by omega)
      have p3 := m5.inn (i := 3) (by omega)
      have p4 := m5.mis (i := 0) (by omega)
      have p5 := m5.mis (i := 1) (by omega)
      have p6 := m5.mis (i := 2) (by omega)
      have p7 := m5.mis (i := 3) (by omega)
      have p8 := m5.joi (i := 0) (by omega)
      have p9 := m5.joi (i := 1) (by omega)
      have p10 := m5.joi (i := 2) (by omega)
      have p11 := m5.joi (i := 3) (by omega)
      refine bodyPost_ret (v := .tuple #[rollV zeroR, .slice none 0 0, .int .i64 3]) (by unfold rollV; simp [results, Tryz.results50, go_sem, p0, p1, p2, p3, p4, p5, p6, p7, p8, p9, p10, p11]) rfl ⟨none, 0, ?_, ?_, unhide K5⟩
      · rw [e]; rfl
      · rw [e]; exact fun h => absurd h (by decide)
    | true =>
      obtain ⟨x, o, rfl, hc⟩ := unhide HR (by omega)
      have HC := hide hc; have HG := hide hg
      clear hc hg HR
      go_wp2_with fail
      go_loopw [7, 8] (fun ls is wr => ∃ i : Nat, is = .int .i64 i ∧ i ≤ 4 ∧ (st = true ∨ i = 0) ∧ OwnC wr (w.heap.size + 1 + 1 + 1) ls (rnN A r i).2 ∧ SJ w (rnN A r i).1 X st (.slice (some ⟨x, o, none⟩) 4 cap) wr) (fun _ is _ => 4 - (intOf is).toNat)
      case atStart => exact ⟨0, rfl, by omega, Or.inr rfl, OwnC.nil _ _, unhide J4⟩
      case round =>
        obtain ⟨i, rfl, hi, hst, hO, hS⟩ := hrel
        rename World => wr
        have SX := hide hS; have OX := hide hO
        clear hS hO J4
        have c1 := (unhide SX).v.cell1
        by_cases hin : st = true ∧ i < 4
        · obtain ⟨rfl, hin⟩ := hin
          have hin' : (i : Int) < 4 := by omega
          have GB := hide (gdA_iff.1 (rn_good (A := A) (unhide HG) i) i hin)
          obtain ⟨m, em⟩ : ∃ m, (rnN A r i).1.M i = m := ⟨_, rfl⟩
          obtain ⟨t, et⟩ : ∃ t, (rnN A r i).1.J i = t := ⟨_, rfl⟩
          have cm := (unhide SX).r.mis hin; have cj := (unhide SX).r.joi hin
          have EM := hide em; have EJ := hide et
          rw [em] at cm
          rw [et] at cj
          clear em et hst
          go_wp2_with fail
          go_region
          have SD := hide ((unhide SX).below (below_drew (Below.refl _ _))); have OD := hide ((unhide OX).below (below_drew (Below.refl _ _)))
          obtain ⟨wd, ewd⟩ : ∃ wd, wr.drew = wd := ⟨_, rfl⟩
          rw [ewd] at SD OD ⊢
          clear SX OX ewd c1 cm cj
          have ci := (unhide SD).r.inn hin; have cm := (unhide SD).r.mis hin; have cj := (unhide SD).r.joi hin; have c2 := (unhide SD).v.cell2
          have ca : wd.cell? ⟨x, o + i, none⟩ = some (.bool (A i)) := at_below (unhide HC i hin) (unhide SD).k
          rw [unhide EM] at cm
          rw [unhide EJ] at cj
          cases hI : (rnN A r i).1.I i with
          | true =>
            have B := (gd_in hI).1 (unhide GB)
            rw [unhide EM] at B
            obtain ⟨b1, b2, _⟩ := B
            rw [hI] at ci
            cases hA : A i with
            | true =>
              rw [hA] at ca
              have ST := hide (st_agree hI hA)
              have f1 := (unhide SD).r.free (4 + i)
              have kk := kept_set wd w.heap.size (4 + i) (.int .i64 0)
              have S5 := hide (show SJ w (rnN A r (i + 1)).1 X true (.slice (some ⟨x, o, none⟩) 4 cap) (wd.setCell ⟨w.heap.size, 4 + i, none⟩ (.int .i64 0)) by
                show SJ w (stN A i (rnN A r i).1) X true (.slice (some ⟨x, o, none⟩) 4 cap) _
                rw [(unhide ST).1]
                exact (unhide SD).put kk ((unhide SD).r.setM hin 0))
              have O5 := hide (show OwnC (wd.setCell ⟨w.heap.size, 4 + i, none⟩ (.int .i64 0)) (w.heap.size + 1 + 1 + 1) u7 (rnN A r (i + 1)).2 by
                show OwnC _ _ u7 ((rnN A r i).2 ++ chN A i (rnN A r i).1)
                rw [(unhide ST).2, List.append_nil]
                exact (unhide OD).kept kk (by omega))
              clear kk SD OD
              go_wp2_with fail
              go_roundw
              case rel => exact ⟨i + 1, by go_num, by omega, Or.inl trivial, unhide O5, unhide S5⟩
              case measure => simp [intOf] <;> omega
            | false =>
              rw [hA] at ca
              by_cases h2 : 2 ≤ m + 1
              · have d2 : decide (2 ≤ m + 1) = true := decide_eq_true h2
                have p0 := (unhide SD).r.inn (i := 0) (by omega)
                have p1 := (unhide SD).r.inn (i := 1) (by omega)
                have p2 := (unhide SD).r.inn (i := 2) (by omega)
                have p3 := (unhide SD).r.inn (i := 3) (by omega)
                have p4 := (unhide SD).r.mis (i := 0) (by omega)
                have p5 := (unhide SD).r.mis (i := 1) (by omega)
                have p6 := (unhide SD).r.mis (i := 2) (by omega)
                have p7 := (unhide SD).r.mis (i := 3) (by omega)
                have p8 := (unhide SD).r.joi (i := 0) (by omega)
                have p9 := (unhide SD).r.joi (i := 1) (by omega)
                have p10 := (unhide SD).r.joi (i := 2) (by omega)
                have p11 := (unhide SD).r.joi (i := 3) (by omega)
                go_wp2_with fail
                refine (refCount_ok (rnN A r i).1 _).mono ?_
                rintro e w2 ⟨rfl, k2⟩
                have S2 := hide ((unhide SD).below k2); have O2 := hide ((unhide OD).below k2)
                clear k2 SD OD ci cm cj c2 ca p0 p1 p2 p3 p4 p5 p6 p7 p8 p9 p10 p11
                have hcl : cn (rnN A r i).1.I 4 ≤ 4 := cn_le _ _
                have cm2 := (unhide S2).r.mis hin; have ci2 := (unhide S2).r.inn hin
                rw [unhide EM] at cm2
                rw [hI] at ci2
                by_cases h3 : 2 < cn (rnN A r i).1.I 4
                · have ST := hide (st_out hI hA (by rw [unhide EM]; exact ⟨h2, h3⟩))
                  have h3' : (2 : Int) < ((cn (rnN A r i).1.I 4 : Nat) : Int) := by omega
                  have f1 := (unhide S2).r.free i
                  have q1 := (unhide S2).r.setI hin false
                  have g1 := q1.mis hin; have f2 := q1.free (4 + i)
                  have kk := (kept_set w2 w.heap.size i (.bool false)).trans (kept_set (w2.setCell ⟨w.heap.size, i, none⟩ (.bool false)) w.heap.size (4 + i) (.int .i64 0)) (Or.inl rfl)
                  have S4 := hide ((unhide S2).put kk (q1.setM hin 0)); have O4 := hide ((unhide O2).kept kk (by omega))
                  obtain ⟨w4, ew4⟩ : ∃ w4, (w2.setCell ⟨w.heap.size, i, none⟩ (.bool false)).setCell ⟨w.heap.size, 4 + i, none⟩ (.int .i64 0) = w4 := ⟨_, rfl⟩
                  rw [ew4] at S4 O4
                  have KA := hide (al_below w4 (.cells #[.int .i64 1, .int .i64 (i : Nat)] 151))
                  have V4 := hide (Vh.new w4 151 #[.int .i64 1, .int .i64 (i : Nat)] (fun t => if t = 0 then .int .i64 1 else .int .i64 (i : Nat)) (by show 2 ≤ maxLen; decide) (fun t ht => by
                    have : t = 0 ∨ t = 1 := by simp at ht; omega
                    rcases this with rfl | rfl <;> rfl))
                  have hl4 : (rnN A r i).2.length ≤ 1000 := by have := rn_len A r i; omega
                  clear kk q1 S2 O2
                  go_wp2_with (refine wpList_joinC _ rfl (.tmp 77) (.tmp 80) rfl (w.heap.size + 1 + 1 + 1) (Nat.le_trans (unhide S4).n (unhide KA).size) u7 (rnN A r i).2 rfl ((unhide O4).below (unhide KA)) w4.heap.size (1, i) rfl ((unhide V4).cell (i := 0) (by show 0 < 2; omega)) ((unhide V4).cell (i := 1) (by show 1 < 2; omega)) hl4 ?_)
                  intro v6 w6 o6 l6
                  have S6 := hide (show SJ w (rnN A r (i + 1)).1 X true (.slice (some ⟨x, o, none⟩) 4 cap) w6 by
                    show SJ w (stN A i (rnN A r i).1) X true (.slice (some ⟨x, o, none⟩) 4 cap) _
                    rw [(unhide ST).1]
                    exact ((unhide S4).below (unhide KA)).under l6)
                  have O6 := hide (show OwnC w6 (w.heap.size + 1 + 1 + 1) v6 (rnN A r (i + 1)).2 by
                    show OwnC _ _ v6 ((rnN A r i).2 ++ chN A i (rnN A r i).1)
                    rw [(unhide ST).2]
                    exact o6)
                  clear o6 l6 KA V4 S4 O4 ew4 f1 f2 g1
                  go_wp2_with fail
                  go_roundw
                  case rel => exact ⟨i + 1, by go_num, by omega, Or.inl trivial, unhide O6, unhide S6⟩
                  case measure => simp [intOf] <;> omega
                · have ST := hide (st_miss hI hA (by rw [unhide EM]; exact fun h => h3 h.2))
                  have h3' : ¬ (2 : Int) < ((cn (rnN A r i).1.I 4 : Nat) : Int) := by omega
                  have h4 : min (m + 1) 2 = 2 := by omega
                  have h5 : (if 2 < m + 1 then (2 : Int) else m + 1) = 2 := by split <;> omega
                  have f1 := (unhide S2).r.free (4 + i)
                  have kk := kept_set w2 w.heap.size (4 + i) (.int .i64 2)
                  have S5 := hide (show SJ w (rnN A r (i + 1)).1 X true (.slice (some ⟨x, o, none⟩) 4 cap) (w2.setCell ⟨w.heap.size, 4 + i, none⟩ (.int .i64 2)) by
                    show SJ w (stN A i (rnN A r i).1) X true (.slice (some ⟨x, o, none⟩) 4 cap) _
                    rw [(unhide ST).1, unhide EM, h4]
                    exact (unhide S2).put kk ((unhide S2).r.setM hin 2))
                  have O5 := hide (show OwnC (w2.setCell ⟨w.heap.size, 4 + i, none⟩ (.int .i64 2)) (w.heap.size + 1 + 1 + 1) u7 (rnN A r (i + 1)).2 by
                    show OwnC _ _ u7 ((rnN A r i).2 ++ chN A i (rnN A r i).1)
                    rw [(unhide ST).2, List.append_nil]
                    exact (unhide O2).kept kk (by omega))
                  clear kk S2 O2
                  go_wp2_with fail
                  go_roundw
                  case rel => exact ⟨i + 1, by go_num, by omega, Or.inl trivial, unhide O5, unhide S5⟩
                  case measure => simp [intOf] <;> omega
              · have d2 : decide (2 ≤ m + 1) = false := decide_eq_false h2
                have ST := hide (st_miss hI hA (by rw [unhide EM]; exact fun h => h2 h.1))
                have h4 : min (m + 1) 2 = m + 1 := by omega
                have f1 := (unhide SD).r.free (4 + i)
                have kk := kept_set wd w.heap.size (4 + i) (.int .i64 (m + 1))
                have S5 := hide (show SJ w (rnN A r (i + 1)).1 X true (.slice (some ⟨x, o, none⟩) 4 cap) (wd.setCell ⟨w.heap.size, 4 + i, none⟩ (.int .i64 (m + 1))) by
                  show SJ w (stN A i (rnN A r i).1) X true (.slice (some ⟨x, o, none⟩) 4 cap) _
                  rw [(unhide ST).1, unhide EM, h4]
                  exact (unhide SD).put kk ((unhide SD).r.setM hin (m + 1)))
                have O5 := hide (show OwnC (wd.setCell ⟨w.heap.size, 4 + i, none⟩ (.int .i64 (m + 1))) (w.heap.size + 1 + 1 + 1) u7 (rnN A r (i + 1)).2 by
                  show OwnC _ _ u7 ((rnN A r i).2 ++ chN A i (rnN A r i).1)
                  rw [(unhide ST).2, List.append_nil]
                  exact (unhide OD).kept kk (by omega))
                clear kk SD OD
                go_wp2_with fail
                go_roundw
                case rel => exact ⟨i + 1, by go_num, by omega, Or.inl trivial, unhide O5, unhide S5⟩
                case measure => simp [intOf] <;> omega
          | false =>
            have B := (gd_out hI).1 (unhide GB)
            rw [unhide EJ] at B
            obtain ⟨_, b1, b2⟩ := B
            rw [hI] at ci
            cases hA : A i with
            | true =>
              rw [hA] at ca
              by_cases h2 : 3 ≤ t + 1
              · have d2 : decide (3 ≤ t + 1) = true := decide_eq_true h2
                have ST := hide (st_in hI hA (by rw [unhide EJ]; exact h2))
                have f1 := (unhide SD).r.free i
                have q1 := (unhide SD).r.setI hin true
                have g1 := q1.joi hin; have f2 := q1.free (8 + i)
                have kk := (kept_set wd w.heap.size i (.bool true)).trans (kept_set (wd.setCell ⟨w.heap.size, i, none⟩ (.bool true)) w.heap.size (8 + i) (.int .i64 0)) (Or.inl rfl)
                have S4 := hide ((unhide SD).put kk (q1.setJ hin 0)); have O4 := hide ((unhide OD).kept kk (by omega))
                obtain ⟨w4, ew4⟩ : ∃ w4, (wd.setCell ⟨w.heap.size, i, none⟩ (.bool true)).setCell ⟨w.heap.size, 8 + i, none⟩ (.int .i64 0) = w4 := ⟨_, rfl⟩
                rw [ew4] at S4 O4
                have KA := hide (al_below w4 (.cells #[.int .i64 2, .int .i64 (i : Nat)] 151))
                have V4 := hide (Vh.new w4 151 #[.int .i64 2, .int .i64 (i : Nat)] (fun t => if t = 0 then .int .i64 2 else .int .i64 (i : Nat)) (by show 2 ≤ maxLen; decide) (fun t ht => by
                  have : t = 0 ∨ t = 1 := by simp at ht; omega
                  rcases this with rfl | rfl <;> rfl))
                have hl4 : (rnN A r i).2.length ≤ 1000 := by have := rn_len A r i; omega
                clear kk q1 SD OD
                go_wp2_with (refine wpList_joinC _ rfl (.tmp 113) (.tmp 116) rfl (w.heap.size + 1 + 1 + 1) (Nat.le_trans (unhide S4).n (unhide KA).size) u7 (rnN A r i).2 rfl ((unhide O4).below (unhide KA)) w4.heap.size (2, i) rfl ((unhide V4).cell (i := 0) (by show 0 < 2; omega)) ((unhide V4).cell (i := 1) (by show 1 < 2; omega)) hl4 ?_)
                intro v6 w6 o6 l6
                have S6 := hide (show SJ w (rnN A r (i + 1)).1 X true (.slice (some ⟨x, o, none⟩) 4 cap) w6 by
                  show SJ w (stN A i (rnN A r i).1) X true (.slice (some ⟨x, o, none⟩) 4 cap) _
                  rw [(unhide ST).1]
                  exact ((unhide S4).below (unhide KA)).under l6)
                have O6 := hide (show OwnC w6 (w.heap.size + 1 + 1 + 1) v6 (rnN A r (i + 1)).2 by
                  show OwnC _ _ v6 ((rnN A r i).2 ++ chN A i (rnN A r i).1)
                  rw [(unhide ST).2]
                  exact o6)
                clear o6 l6 KA V4 S4 O4 ew4 f1 f2 g1
                go_wp2_with fail
                go_roundw
                case rel => exact ⟨i + 1, by go_num, by omega, Or.inl trivial, unhide O6, unhide S6⟩
                case measure => simp [intOf] <;> omega
              · have d2 : decide (3 ≤ t + 1) = false := decide_eq_false h2
                have ST := hide (st_join hI hA (by rw [unhide EJ]; exact h2))
                have f1 := (unhide SD).r.free (8 + i)
                have kk := kept_set wd w.heap.size (8 + i) (.int .i64 (t + 1))
                have S5 := hide (show SJ w (rnN A r (i + 1)).1 X true (.slice (some ⟨x, o, none⟩) 4 cap) (wd.setCell ⟨w.heap.size, 8 + i, none⟩ (.int .i64 (t + 1))) by
                  show SJ w (stN A i (rnN A r i).1) X true (.slice (some ⟨x, o, none⟩) 4 cap) _
                  rw [(unhide ST).1, unhide EJ]
                  exact (unhide SD).put kk ((unhide SD).r.setJ hin (t + 1)))
                have O5 := hide (show OwnC (wd.setCell ⟨w.heap.size, 8 + i, none⟩ (.int .i64 (t + 1))) (w.heap.size + 1 + 1 + 1) u7 (rnN A r (i + 1)).2 by
                  show OwnC _ _ u7 ((rnN A r i).2 ++ chN A i (rnN A r i).1)
                  rw [(unhide ST).2, List.append_nil]
                  exact (unhide OD).kept kk (by omega))
                clear kk SD OD
                go_wp2_with fail
                go_roundw
                case rel => exact ⟨i + 1, by go_num, by omega, Or.inl trivial, unhide O5, unhide S5⟩
                case measure => simp [intOf] <;> omega
            | false =>
              rw [hA] at ca
              have ST := hide (st_off hI hA)
              have f1 := (unhide SD).r.free (8 + i)
              have kk := kept_set wd w.heap.size (8 + i) (.int .i64 0)
              have S5 := hide (show SJ w (rnN A r (i + 1)).1 X true (.slice (some ⟨x, o, none⟩) 4 cap) (wd.setCell ⟨w.heap.size, 8 + i, none⟩ (.int .i64 0)) by
                show SJ w (stN A i (rnN A r i).1) X true (.slice (some ⟨x, o, none⟩) 4 cap) _
                rw [(unhide ST).1]
                exact (unhide SD).put kk ((unhide SD).r.setJ hin 0))
              have O5 := hide (show OwnC (wd.setCell ⟨w.heap.size, 8 + i, none⟩ (.int .i64 0)) (w.heap.size + 1 + 1 + 1) u7 (rnN A r (i + 1)).2 by
                show OwnC _ _ u7 ((rnN A r i).2 ++ chN A i (rnN A r i).1)
                rw [(unhide ST).2, List.append_nil]
                exact (unhide OD).kept kk (by omega))
              clear kk SD OD
              go_wp2_with fail
              go_roundw
              case rel => exact ⟨i + 1, by go_num, by omega, Or.inl trivial, unhide O5, unhide S5⟩
              case measure => simp [intOf] <;> omega
        · have RE := hide (show ((rnN A r i).1, (rnN A r i).2, (0 : Int)) = stR r st 4 A by
            cases st with
            | true =>
              have e4 : i = 4 := by
                by_cases h : i < 4
                · exact absurd ⟨rfl, h⟩ hin
                · omega
              subst e4
              rw [stR_strong (unhide HG)]
            | false =>
              have e0 : i = 0 := by rcases hst with h | h; cases h; exact h
              subst e0
              rw [stR_weak (unhide HG)]; rfl)
          obtain ⟨lo, lc, el⟩ := (unhide OX).slice
          have KK := hide (unhide SX).k
          subst el
          have hx : (st = false ∧ i = 0) ∨ (st = true ∧ i = 4) := by
            cases st with
            | true => exact Or.inr ⟨rfl, by
                by_cases h : i < 4
                · exact absurd ⟨rfl, h⟩ hin
                · omega⟩
            | false => exact Or.inl ⟨rfl, by rcases hst with h | h; cases h; exact h⟩
          rcases hx with ⟨rfl, rfl⟩ | ⟨rfl, rfl⟩
          · rw [show ((0 : Nat) : Int) = 0 from rfl]
            clear hin hst hi
            go_wp2_with (first | refine wpList_loadRl _ rfl (.tmp 2) rfl rfl (unhide SX).r ?_ | (refine wpList_storeRl _ rfl (.tmp 4) (.tmp 118) rfl rfl rfl (unhide SX).z rfl ?_; intro w5 m5 k5))
            have K5 := hide (below_of_kept (unhide KK) k5 (by omega) (unhide KK).size)
            have C5 := hide (((unhide OX).kept k5 (by omega)).rd.weak (show w.heap.size ≤ w.heap.size + 1 + 1 + 1 by omega))
            clear k5
            go_wp2_with fail
            have p0 := m5.inn (i := 0) (by omega)
            have p1 := m5.inn (i := 1) (by omega)
            have p2 := m5.inn (i := 2) (by omega)
            have p3 := m5.inn (i := 3) (by omega)
            have p4 := m5.mis (i := 0) (by omega)
            have p5 := m5.mis (i := 1) (by omega)
            have p6 := m5.mis (i := 2) (by omega)
            have p7 := m5.mis (i := 3) (by omega)
            have p8 := m5.joi (i := 0) (by omega)
            have p9 := m5.joi (i := 1) (by omega)
            have p10 := m5.joi (i := 2) (by omega)
            have p11 := m5.joi (i := 3) (by omega)
            refine bodyPost_ret (v := .tuple #[rollV (rnN A r 0).1, .slice lo (rnN A r 0).2.length lc, .int .i64 0]) (by unfold rollV; simp [results, Tryz.results50, go_sem, p0, p1, p2, p3, p4, p5, p6, p7, p8, p9, p10, p11]) rfl ⟨lo, lc, by rw [← unhide RE]; rfl, by rw [← unhide RE]; exact unhide C5, unhide K5⟩
          · rw [show ((4 : Nat) : Int) = 4 from rfl]
            clear hin hst hi
            go_wp2_with (first | refine wpList_loadRl _ rfl (.tmp 2) rfl rfl (unhide SX).r ?_ | (refine wpList_storeRl _ rfl (.tmp 4) (.tmp 118) rfl rfl rfl (unhide SX).z rfl ?_; intro w5 m5 k5))
            have K5 := hide (below_of_kept (unhide KK) k5 (by omega) (unhide KK).size)
            have C5 := hide (((unhide OX).kept k5 (by omega)).rd.weak (show w.heap.size ≤ w.heap.size + 1 + 1 + 1 by omega))
            clear k5
            go_wp2_with fail
            have p0 := m5.inn (i := 0) (by omega)
            have p1 := m5.inn (i := 1) (by omega)
            have p2 := m5.inn (i := 2) (by omega)
            have p3 := m5.inn (i := 3) (by omega)
            have p4 := m5.mis (i := 0) (by omega)
            have p5 := m5.mis (i := 1) (by omega)
            have p6 := m5.mis (i := 2) (by omega)
            have p7 := m5.mis (i := 3) (by omega)
            have p8 := m5.joi (i := 0) (by omega)
            have p9 := m5.joi (i := 1) (by omega)
            have p10 := m5.joi (i := 2) (by omega)
            have p11 := m5.joi (i := 3) (by omega)
            refine bodyPost_ret (v := .tuple #[rollV (rnN A r 4).1, .slice lo (rnN A r 4).2.length lc, .int .i64 0]) (by unfold rollV; simp [results, Tryz.results50, go_sem, p0, p1, p2, p3, p4, p5, p6, p7, p8, p9, p10, p11]) rfl ⟨lo, lc, by rw [← unhide RE]; rfl, by rw [← unhide RE]; exact unhide C5, unhide K5⟩
  · have h4' : (n : Int) ≠ 4 := by omega
    have t4 : ((n : Int) != 4) = true := by simp [h4']
    unfold rollV vdV
    go_enter Tryz.func50, Tryz.ntmps50
    go_wp2_with (refine wpList_storeRl _ rfl (.tmp 4) (.tmp 15) rfl rfl (r := zeroR) rfl (by rw [← unhide E3]; exact (unhide J3).z) rfl ?_)
    intro w5 m5 k5
    rw [← unhide E3] at k5
    have K5 := hide (below_of_kept (unhide J3).k k5 (by omega) (unhide J3).k.size)
    clear k5 v2'
    go_wp2_with fail
    have e : stR r st n A = (zeroR, [], 8) := by unfold stR; rw [if_pos h4]
    have p0 := m5.inn (i := 0) (by omega)
    have p1 := m5.inn (i := 1) (by omega)
    have p2 := m5.inn (i := 2) (by omega)
    have p3 := m5.inn (i := 3) (by omega)
    have p4 := m5.mis (i := 0) (by omega)
    have p5 := m5.mis (i := 1) (by omega)
    have p6 := m5.mis (i := 2) (by omega)
    have p7 := m5.mis (i := 3) (by omega)
    have p8 := m5.joi (i := 0) (by omega)
    have p9 := m5.joi (i := 1) (by omega)
    have p10 := m5.joi (i := 2) (by omega)
    have p11 := m5.joi (i := 3) (by omega)
    refine bodyPost_ret (v := .tuple #[rollV zeroR, .slice none 0 0, .int .i64 8]) (by unfold rollV; simp [results, Tryz.results50, go_sem, p0, p1, p2, p3, p4, p5, p6, p7, p8, p9, p10, p11]) rfl ⟨none, 0, ?_, ?_, unhide K5⟩
    · rw [e]; rfl
    · rw [e]; exact fun h => absurd h (by decide)

end Go.Proofs.YthimcecbgpamdaaGreat

namespace Go.Proofs.YthimcecbgpamdaaGreat
open Go.RowKit

theorem enter_rvote (x y : Value) (w : World) : (callFunc 49 #[x, y]).run Tryz.prog w = .ok (.enter 49 #[x, y]) w := by go_simp
theorem enter_rstep (x y : Value) (w : World) : (callFunc 50 #[x, y]).run Tryz.prog w = .ok (.enter 50 #[x, y]) w := by go_simp
/-- The votes of the first x nodes. -/
def jdF (n : Nd) (l : List Ms) (x j : Nat) : Value := iV (if j < x then judV n l j else 0)
theorem jd_nil (n : Nd) (l : List Ms) : jdF n l 0 = fun _ => iV 0 := by
  funext j
  unfold jdF
  rw [if_neg (by omega)]
theorem jd_next (n : Nd) (l : List Ms) (x : Nat) : ∀ j, j < 4 → stW (jdF n l x) (0 + x * 1) (.int .i64 (tkn n l x (n.he x) x 4)) j = jdF n l (x + 1) j := by
  intro j _
  unfold stW
  rw [show 0 + x * 1 = x by omega]
  by_cases e : j = x
  · subst e
    rw [if_pos rfl]
    unfold jdF
    rw [if_pos (by omega)]
    rfl
  · rw [if_neg e]
    unfold jdF
    by_cases c : j < x
    · rw [if_pos c, if_pos (by omega)]
    · rw [if_neg c, if_neg (by omega)]
theorem jd_four (n : Nd) (l : List Ms) : ∀ j, j < 4 → jdF n l 4 (0 + j) = (fun j => iV (judV n l j)) j := by
  intro j hj
  unfold jdF
  rw [Nat.zero_add, if_pos hj]
theorem judX_R {n : Nd} {L : List Lm} (hok : NdOK n) (hRL : ∀ m, m ∈ L → ∀ i, R64 (gL m.m.L i)) : R64 (judX n (L.map Lm.m)) := by
  have h : ∀ s, R64 (judV n (L.map Lm.m) s) := fun s => tkn_R hRL (hok.he s)
  unfold judX
  have : ∀ k, R64 (vtX (judV n (L.map Lm.m)) n.rl.I k) := by
    intro k
    induction k with
    | zero => exact R64_zero
    | succ k ih =>
      show R64 (if _ then _ else _)
      split
      · exact h k
      · exact ih
  exact this 4
theorem jd_sr {w : World} {B : Nat} {vo : Option Addr} {vc : Nat} {A : Nat → Bool} (h : w.ownsRow B 4 1 (.slice vo 4 vc) 4 (rowV (tF A) 4)) : Sr w vo 4 vc (tF A) := by
  obtain ⟨ao, cap, e, hs, _⟩ := owns_sr h
  cases e
  exact hs
theorem jd_own {w : World} {B : Nat} {vo : Option Addr} {vc : Nat} {A : Nat → Bool} {N : Nd} (h : w.ownsRow B 4 1 (.slice vo 4 vc) 4 (rowV (tF A) 4)) (e : N.vA = (List.range 4).map A := by rfl) : AgNew B w N vo vc := by
  unfold AgNew
  have e2 : rowV (tF (bA N)) 4 = rowV (tF A) 4 := rowV_congr (fun i hi => by
    unfold tF bA
    rw [e, List.getD_eq_getElem?_getD, List.getElem?_map, List.getElem?_range hi]
    rfl)
  have e3 : N.vA.length = 4 := by rw [e]; simp
  rw [e3, e2]
  exact h
instance iRefNod10_1 : ZerK Tryz.prog 30 12 (nrlF zeroR) := ⟨zeroRol⟩
/-- The computer with the verdict and a roll. -/
abbrev jdN (n : Nd) (l : List Ms) (r : Rl) : Nd := { n with vX := judX n l, vS := judS n l, vA := (List.range 4).map (judA n l), rl := r }
set_option maxRecDepth 10000 in
set_option maxHeartbeats 4000000 in
theorem refJudge_ok : PhOK judN judM 27 := by
  intro n ao c mo mc L w hok hag hmr hN hmc hRL
  have hag : Sr w ao n.vA.length c (tF (bA n)) := hag
  refine enterF Tryz.func27 rfl 59 rfl (of_decide_eq_true rfl) (fun A hs hd hb => ?_)
  have b0 : A.eval (.tmp 0) = agV (ndF n (.slice ao n.vA.length c)) 0 74 := hb 0 _ rfl
  have b1 : A.eval (.tmp 1) = .slice mo L.length mc := hb 1 _ rfl
  clear hb
  have H := Cx.start w
  refine c_rs (m_start ?_)
  refine q_box H ?_
  clear H
  intro w1 H z1
  refine q_al H ?_
  clear H
  intro w2 H z2
  refine q_al H ?_
  clear H
  intro w3 H z3
  refine l_nx ?_
  refine c_rs ?_
  refine qa ?_
  refine q_c1 (show Calls _ _ #[agV (ndF n (.slice ao n.vA.length c)) 0 74] _ _ from refCopy_any n ao c _ (hag.below H.bel) hok.vA) ?_
  rintro e w4 ⟨a3, c3, rfl, o4, k4⟩
  refine ⟨agV (ndF n (.slice a3 n.vA.length c3)) 0 74, rfl, ?_⟩
  have hsz := H.size
  replace H := H.add k4 (agR w n a3 c3) (rw_base o4 hsz) (fun j e => (o4.lt j e).1)
  refine q_sp H.a3 stP_whole (ndF_one _ _ _ _) ?_
  clear H
  intro w5 H z5
  refine l_nx ?_
  refine c_nx ?_
  refine c_rs ?_
  refine qa ?_
  refine q_c1 (show Calls _ _ #[agV (ndF n (.slice a3 n.vA.length c3)) 0 74] _ _ from refNone_any n _ _) ?_
  rintro e w6 ⟨rfl, k6⟩
  refine ⟨_, rfl, ?_⟩
  replace H := H.call k6
  refine l_nx ?_
  refine q_if (fun hno => ?_) (fun hno => ?_)
  · refine c_rs ?_
    refine qa ?_
    refine qg (run_bld0 rfl _) ?_
    refine q_sp H.a2 stP_whole (ndF_one _ _ _ _) ?_
    clear H
    intro w7 H z7
    refine q_sp H.a1 stP_whole (msF_one _ _ _ _ _ _) ?_
    clear H
    intro w8 H z8
    refine l_nx ?_
    have e1 : judN n (L.map Lm.m) = n := by unfold judN; rw [if_pos hno]
    have e2 : judM n (L.map Lm.m) = zeroM := by unfold judM; rw [if_pos hno]
    rw [e1, e2]
    exact c_ret (r_nx (ret_of ((defL _ _).trans hd) (res_cc rfl Qv Qv ManyK.out ManyK.out H.v2 (Nat.le_refl _) H.v1 (Nat.le_refl _)) ⟨a3, c3, none, 0, rfl, H.o0, World.ownsRow_nil _ _ _ _, H.bel⟩))
  obtain ⟨h0, h3⟩ := noN_in hno
  obtain ⟨I, hI⟩ : ∃ I : Nat, n.id = (I : Int) := ⟨n.id.toNat, by omega⟩
  have hI4 : I < 4 := by omega
  refine c_fin ?_
  refine c_rs ?_
  refine q_al H ?_
  clear H
  intro w7 H z7
  refine l_nx ?_
  refine c_nx ?_
  refine c_rs ?_
  refine qa ?_
  refine l_nx ?_
  refine c_block ?_
  refine c_loop (fun r A W => ∃ x : Nat, x ≤ 4 ∧ 4 - x ≤ r ∧ dcA 59 A w w1 w2 (.slice mo L.length mc) ∧ A.eval (.tmp 6) = .pointer (some ⟨w6.heap.size, 0, none⟩) ∧ A.eval (.tmp 7) = .int .i64 (x : Int) ∧ Cx w W (vhI 28 w6.heap.size 4 4 (jdF n (L.map Lm.m) x) :: dcBn w w1 w2 n n a3 c3)) 4
    ⟨0, by omega, by omega, ⟨(szL _ _).trans hs, (defL _ _).trans hd, Qv, Qv, Qv, Qv⟩, Qv, Qv, by rw [jd_nil]; exact H⟩ (fun r A W hJ => ?_)
  clear b0 b1 hs hd H
  obtain ⟨x, hx, hxr, ⟨hs, hd, b1, b2, b4, b5⟩, b6, b7, H⟩ := hJ
  refine c_nx ?_
  refine c_rs (m_start ?_)
  iterate 2 refine qa ?_
  refine l_nx ?_
  refine q_if (fun h => ?_) (fun h => ?_)
  · have hx4 : x < 4 := by have := of_decide_eq_true h; omega
    refine c_fin ?_
    refine c_nx (c_block ?_)
    replace H := H.drew
    refine c_rj (S := fun V => Vh 37 V w.heap.size 74 74 (ndF n (.slice a3 n.vA.length c3))) (.mv 0 (.rd 1 (.mv 2 (.mv 3 (.mv 4 (.mv 5 (.mv 6 (.rd 7 (.mv 8 (.go 9 (.mv 10 (.go 11 .fin)))))))))))) [9, 11] (by kernel_rfl) (by kernel_rfl) ?_
    refine qj ?_
    refine j_rd rfl rfl (fun _ _ _ h => h) (wanted_rd rfl) H.v4 (fun _ h => run_loadP _ _ rfl ManyK.out Qv h (by decide)) ?_
    iterate 4 refine qj ?_
    refine j_mv rfl rfl (fun _ _ _ h => h) (wanted_rd rfl) (fun w => run_ixG _ _ _ _ rfl ArrK.out SizK.out Qv Qv rfl hx4 w) ?_
    refine j_rd rfl rfl (fun _ _ _ h => h) (wanted_rd rfl) H.v4 (fun _ h => run_lod1 _ _ rfl OneK.out Qv h (by omega) (ndF_he _ _ hx4)) ?_
    refine qj ?_
    refine j_do rfl rfl (wanted_rd rfl) (fun K hK => wp_call6 _ 45 _ _ _ _ _ _ _ rfl Qv Qv Qv Qv Qv (ev_const _ _) (enter_taken _ _ _ _ _ _ _) (refTaken_any n (.slice a3 n.vA.length c3) mo mc L I x (n.he x) x 4 _ hI hI4 hx4 hx4 (hmr.below H.bel) hN) ?_)
    rintro e w9 ⟨rfl, k9⟩
    refine ⟨_, rfl, hK _ _ (fun h => absurd h (by decide)) ?_⟩
    clear hK K
    replace H := H.call k9
    refine j_mv rfl rfl (fun _ _ _ h => h) (wanted_rd rfl) (fun w => run_ixG _ _ _ _ rfl ArrK.out SizK.out Qv Qv rfl hx4 w) ?_
    refine j_st rfl (wanted_rd rfl) (fun K hK => wp_sto1 _ _ _ _ rfl OneK.out Qv Qv H.v0 (by omega) rfl rfl rfl (fun V m k z => hK _ (fun h => absurd h (by decide)) ?_))
    replace H := H.a0.s k (m.congr (jd_next n (L.map Lm.m) x))
    refine j_finB ?_
    refine c_region ?_
    iterate 3 refine qa ?_
    exact l_round ⟨4 - (x + 1), by omega, x + 1, by omega, by omega, ⟨(szL _ _).trans hs, (defL _ _).trans hd, Qv, Qv, Qv, Qv⟩, Qv, Eq.trans Qv (by rw [Int.natCast_add]; rfl), H⟩
  obtain rfl : x = 4 := by have := of_decide_eq_false h; omega
  refine c_exit (x_out ?_)
  refine c_rs ?_
  refine qg (run_loadPe _ _ rfl ManyK.out Qv H.v0 (by omega) (h := fun j => iV (judV n (L.map Lm.m) j)) (jd_four n (L.map Lm.m))) ?_
  iterate 2 refine qa ?_
  refine qg (run_loadPe _ _ rfl ManyK.out Qv H.v4 (by omega) (ndF_inR _ _)) ?_
  refine m_do rfl (wanted_rd rfl) (fun K hK => wp_call2 _ 49 _ _ _ rfl Qv Qv (enter_rvote _ _ _) (refVote_ok (judV n (L.map Lm.m)) n.rl.I _ (fun i => tkn_R hRL (hok.he i))) ?_)
  rintro e w9 ⟨X, rv, hX, rfl, ov, k9⟩
  obtain rfl : X = judX n (L.map Lm.m) := vtX_at hX
  obtain ⟨vo, vc, rfl, hvc⟩ := rw_slice ov
  refine ⟨_, rfl, hK _ _ ?_⟩
  clear hK K
  have hsz2 := H.size
  replace H := H.add k9 (ownI w.heap.size 4 1 (.slice vo 4 vc) 4 (rowV (tF (judA n (L.map Lm.m))) 4)) (rw_base ov hsz2) (fun j e => (ov.lt j e).1)
  refine qa ?_
  refine m_st (wanted_rd rfl) (fun K hK => wp_storeP _ _ _ _ rfl ManyK.out (f := nvdF (judX n (L.map Lm.m)) (judS n (L.map Lm.m)) (.slice vo 4 vc)) Qv Qv H.v5 (by omega) (nvdF_one _ _ _ _ _) rfl (fun V m k z => hK _ ?_))
  replace H := H.a5.s k (m.congr (upd_vd _ _ _ _ _ ((List.range 4).map (judA n (L.map Lm.m)))))
  refine l_nx ?_
  refine c_rs ?_
  refine qa ?_
  refine qg (run_loadPe _ _ rfl ManyK.out Qv H.v5 (by omega) (ndF_rl _ _)) ?_
  refine qa ?_
  refine qg (run_loadPe _ _ rfl ManyK.out Qv H.v5 (by omega) (ndF_vd _ _)) ?_
  refine m_do rfl (wanted_rd rfl) (fun K hK => wp_call2 _ 50 _ _ _ rfl Qv Qv (enter_rstep _ _ _) (refStep_ok n.rl (judX n (L.map Lm.m)) (judS n (L.map Lm.m)) vo 4 vc (judA n (L.map Lm.m)) _ (fun i _ => ⟨hok.rM i, hok.rJ i⟩) (judX_R hok hRL) (by decide) hvc (jd_sr H.o0)) ?_)
  rintro e w11 ⟨co, cc, rfl, _, k11⟩
  refine ⟨_, rfl, hK _ _ ?_⟩
  clear hK K
  replace H := H.call k11
  refine qa ?_
  refine qg (run_ext3A _ rfl Qv _) ?_
  refine qg (run_ext3B _ rfl Qv _) ?_
  refine qg (run_ext3C _ rfl Qv _) ?_
  refine q_al H ?_
  clear H
  intro w12 H z12
  refine m_st (wanted_rd rfl) (fun K hK => wp_storeP _ _ _ _ rfl ManyK.out (f := nrlF (stR n.rl (judS n (L.map Lm.m)) 4 (judA n (L.map Lm.m))).1) Qv Qv H.v0 (by omega) (nrlF_one _) rfl (fun V m k z => hK _ ?_))
  replace H := H.a0.s k (m.congr stP_whole)
  iterate 2 refine qa ?_
  refine l_nx ?_
  refine c_midN (fun A W => (A.tmps.size = 59 ∧ A.defers = [] ∧ A.eval (.tmp 2) = .pointer (some ⟨w.heap.size, 0, none⟩) ∧ A.eval (.tmp 4) = .pointer (some ⟨w1.heap.size, 0, none⟩) ∧ A.eval (.tmp 5) = .pointer (some ⟨w2.heap.size, 0, none⟩)) ∧ Cx w W [ownI w.heap.size 4 1 (.slice vo 4 vc) 4 (rowV (tF (judA n (L.map Lm.m))) 4), vhI 67 w2.heap.size 4 4 (msF 0 0 0 (.slice none 0 0)), vhI 37 w1.heap.size 74 74 (ndF zeroN (.slice none 0 0)), vhI 37 w.heap.size 74 74 (ndF (jdN n (L.map Lm.m) (judR n (L.map Lm.m))) (.slice vo 4 vc))]) (fun hT => ?_) (fun A W hT => ?_)
  · refine c_rs ?_
    refine qa ?_
    refine qg (run_eqlE _ _ rfl Qv (ev_const _ _) rfl _) ?_
    refine l_nx ?_
    refine q_if (fun hz => ?_) (fun hz => ?_)
    · refine c_region ?_
      iterate 2 refine qa ?_
      refine m_st (wanted_rd rfl) (fun K hK => wp_storeP _ _ _ _ rfl ManyK.out (f := nrlF (stR n.rl (judS n (L.map Lm.m)) 4 (judA n (L.map Lm.m))).1) Qv Qv H.v6 (by omega) (nrlF_one _) rfl (fun V m k z => hK _ ?_))
      replace H := H.a6.s k (m.congr (upd_rl _ _ _))
      refine l_nx ?_
      exact hT _ _ ⟨⟨(szL _ _).trans hs, (defL _ _).trans hd, Qv, Qv, Qv⟩, by rw [show judR n (L.map Lm.m) = (stR n.rl (judS n (L.map Lm.m)) 4 (judA n (L.map Lm.m))).1 by unfold judR; rw [if_pos (of_decide_eq_true hz)]]; exact H.sub (.cons _ (.cons_cons _ (.cons _ (.cons _ (List.Sublist.refl _)))))⟩
    · refine c_fin ?_
      exact hT _ _ ⟨⟨(szL _ _).trans hs, (defL _ _).trans hd, Qv, Qv, Qv⟩, by rw [show judR n (L.map Lm.m) = n.rl by unfold judR; rw [if_neg (of_decide_eq_false hz)]]; exact H.sub (.cons _ (.cons_cons _ (.cons _ (.cons _ (List.Sublist.refl _)))))⟩
  clear b1 b2 b4 b5 b6 b7 hs hd H
  obtain ⟨⟨hs, hd, b2, b4, b5⟩, H⟩ := hT
  replace H := H.drew
  have e1 : judN n (L.map Lm.m) = jdN n (L.map Lm.m) (judR n (L.map Lm.m)) := by unfold judN; rw [if_neg (by rw [hno]; decide)]
  have e2 : judM n (L.map Lm.m) = ⟨5, n.id, n.fr, pck n.ax (judR n (L.map Lm.m))⟩ := by unfold judM; rw [if_neg (by rw [hno]; decide)]
  rw [e1, e2]
  refine c_nx ?_
  refine c_rj (S := Its [vhI 37 w.heap.size 74 74 (ndF (jdN n (L.map Lm.m) (judR n (L.map Lm.m))) (.slice vo 4 vc))]) (.rd 0 (.mv 1 (.rd 2 (.mv 3 (.rd 4 (.rd 5 (.go 6 (.mv 7 (.go 8 (.go 9 .fin)))))))))) [] (by kernel_rfl) (by kernel_rfl) (j_start ?_)
  have hS := Its.cons H.o3 (Its.nil _)
  (iterate 2 (refine qr hS ?_; refine qj ?_))
  iterate 2 refine qr hS ?_
  refine j_do rfl rfl (wanted_rd rfl) (fun K hK => wp_call1 _ 51 _ _ rfl Qv (enter_packed _ _) (refPacked_any (jdN n (L.map Lm.m) (judR n (L.map Lm.m))) (.slice vo 4 vc) _) ?_)
  rintro e w13 ⟨po, pc, rfl, op, k13⟩
  have hsz3 := H.size
  replace H := H.add k13 (ownI w.heap.size _ 1 _ _ _) (rw_base op hsz3) (fun j e => (op.lt j e).1)
  refine ⟨_, rfl, hK _ _ (fun _ _ => Its.cons H.o4 (Its.nil _)) ?_⟩
  clear hK K
  refine j_mv rfl rfl (fun _ _ _ h => h) (wanted_rd rfl) (fun _ => run_bldM _ _ _ _ rfl (ev_const _ _) Qv Qv Qv _) ?_
  refine j_st rfl (wanted_rd rfl) (fun K hK => wp_storeP _ _ _ _ rfl ManyK.out Qv Qv H.v3 (by omega) (ndF_one _ _ _ _) rfl (fun V1 m1 k1 z9 => ?_))
  replace H := H.a3.s k1 (m1.congr stP_whole)
  refine hK _ (fun _ _ => Its.cons H.o4 (Its.nil _)) ?_
  refine j_st rfl (wanted_rd rfl) (fun K hK => wp_storeP _ _ _ _ rfl ManyK.out Qv Qv H.v2 (by omega) (msF_one _ _ _ _ _ _) rfl (fun V1 m1 k1 z9 => ?_))
  replace H := H.a2.s k1 (m1.congr stP_whole)
  refine hK _ (fun _ _ => Its.cons H.o4 (Its.nil _)) ?_
  refine j_nx ?_
  exact c_ret (ret_of ((defL _ _).trans hd) (res_cc rfl Qv Qv ManyK.out ManyK.out H.v3 (Nat.le_refl _) H.v2 (Nat.le_refl _)) ⟨vo, vc, po, pc, rfl, jd_own H.o1, H.o0, H.bel⟩)

end Go.Proofs.YthimcecbgpamdaaGreat

namespace Go.Proofs.YthimcecbgpamdaaGreat
open Go.RowKit

/-- Two verdicts' variables. -/
theorem vd_pair (w : World) (X : Int) (S : Bool) (u v : Value) : ∃ w1, w1 = (w.alloc (.cells #[.int .i64 X, .bool S, u] 35)).alloc (.cells #[.int .i64 X, .bool S, v] 35) ∧
    VdAt w1 w.heap.size X S u ∧ VdAt w1 (w.heap.size + 1) X S v ∧ Below w.heap.size w w1 ∧ w1.heap.size = w.heap.size + 1 + 1 := by
  refine ⟨_, rfl, (VdAt.new w X S u).below (al_below _ _), ?_, ?_, ?_⟩
  · have h := VdAt.new (w.alloc (.cells #[.int .i64 X, .bool S, u] 35)) X S v
    rw [al_size] at h
    exact h
  · exact ((Below.refl _ _).alloc (Nat.le_refl _) _).alloc (by rw [al_size]; omega) _
  · rw [al_size, al_size]

set_option maxHeartbeats 1000000 in
theorem sameVerdict_ok (X : Int) (S : Bool) (ao bo : Option Addr) (l ca cb : Nat) (f g : Nat → Bool) (w : World) (hl : l ≤ 4611686018427387904) (ha : Rd w ao l (tF f)) (hb : Rd w bo l (tF g)) (he : ∀ i, i < l → f i = g i) :
    Calls Tryz.prog 56 #[vdV X S (.slice ao l ca), vdV X S (.slice bo l cb)] w fun e w' => e = .returned (.bool true) ∧ Below w.heap.size w w' := by
  obtain ⟨w1, e1, mA, mB, k1, s1⟩ := vd_pair w X S (.slice ao l ca) (.slice bo l cb)
  have a0 := mA.cell0; have a1 := mA.cell1; have a2 := mA.cell2
  have b0 := mB.cell0; have b1 := mB.cell1; have b2 := mB.cell2
  have tX : (X != X) = false := by simp
  have tS : (S != S) = false := by simp
  have tl : ((l : Int) != (l : Int)) = false := by simp
  have E1 := hide e1; have K1 := hide k1; have HA := hide (ha.below k1); have HB := hide (hb.below k1); have HE := hide he; have MA := hide mA; have MB := hide mB
  clear e1 mA mB k1 s1 ha hb he
  unfold vdV
  go_enter Tryz.func56, Tryz.ntmps56
  go_wp2_with fail
  rw [← unhide E1]
  go_wp2_with fail
  go_loopw [5, 30] (fun _ is wr => ∃ i : Nat, is = .int .i64 i ∧ i ≤ l ∧ Below w1.heap.size w1 wr)
    (fun _ is _ => l - (intOf is).toNat)
  case atStart => exact ⟨0, rfl, Nat.zero_le _, Below.refl _ _⟩
  case round =>
    obtain ⟨i, rfl, hi, hK⟩ := hrel
    rename World => wr
    clear a0 a1 a2 b0 b1 b2
    have a2 := ((unhide MA).below hK).cell2; have b2 := ((unhide MB).below hK).cell2
    by_cases hin : i < l
    · obtain ⟨b, o, rfl, hc⟩ := unhide HA (by omega)
      obtain ⟨p2, o2, rfl, hc2⟩ := unhide HB (by omega)
      have c1 : wr.cell? ⟨b, o + i, none⟩ = some (.bool (f i)) := at_below (hc i hin) hK
      have c2 : wr.cell? ⟨p2, o2 + i, none⟩ = some (.bool (g i)) := at_below (hc2 i hin) hK
      rw [unhide HE i hin] at c1
      have tg : ((g i) != (g i)) = false := by simp
      have HK := hide hK
      clear hK hc hc2
      go_wp2_with fail
      go_region
      go_wp2_with fail
      go_roundw
      case rel => exact ⟨i + 1, by go_num, by omega, below_drew (unhide HK)⟩
      case measure => simp [intOf] <;> omega
    · have hin2 : i = l := by omega
      subst hin2
      have HK := hide hK
      clear hK
      go_wp2_with fail
      go_ret
      exact ⟨rfl, (unhide K1).trans ((unhide HK).mono (unhide K1).size)⟩

end Go.Proofs.YthimcecbgpamdaaGreat

namespace Go.Proofs.YthimcecbgpamdaaGreat
open Go.RowKit

theorem enter_vote (u p : Value) (w : World) : (callFunc 68 #[u, p]).run Tryz.prog w = .ok (.enter 68 #[u, p]) w := by go_simp
theorem enter_rvoteO (u p : Value) (w : World) : (callFunc 49 #[u, p]).run Tryz.prog w = .ok (.enter 49 #[u, p]) w := by go_simp
theorem enter_samevO (u p : Value) (w : World) : (callFunc 56 #[u, p]).run Tryz.prog w = .ok (.enter 56 #[u, p]) w := by go_simp
/-- All say five, all are in. -/
theorem all_five {X : Int} (h : IsV (fun _ => 5) (fun _ => true) 4 X) : X = 5 ∧ vtS (fun _ => 5) (fun _ => true) X = true := by
  rcases h with ⟨h, _⟩ | ⟨m, _, _, h, _⟩
  · exact absurd h (by decide)
  · subst h; exact ⟨rfl, show vtS (fun _ => 5) (fun _ => true) 5 = true by decide⟩
/-- Two boxes. -/
theorem vt_two (w : World) (v : Nat → Int) (b : Nat → Bool) : ∃ w1, w1 = ((w.alloc (.cells #[.int .i64 (v 0), .int .i64 (v 1), .int .i64 (v 2), .int .i64 (v 3)] 28)).alloc (.cells #[.bool (b 0), .bool (b 1), .bool (b 2), .bool (b 3)] 27)) ∧
    F4 w1 w.heap.size v ∧ B4 w1 (w.heap.size + 1) b ∧ Below w.heap.size w w1 ∧ w1.heap.size = w.heap.size + 1 + 1 := by
  obtain ⟨u, eu, mu, ku, su⟩ := f4_alloc w v
  obtain ⟨x, ex, mx, kx, sx⟩ := b4_alloc u b
  subst eu
  rw [su] at mx
  exact ⟨x, ex, mu.below kx, mx, ku.trans (kx.mono (by omega)), by omega⟩

/-- What the last statement reads. -/
def vtR (v : Nat → Int) (b : Nat → Bool) (p q : Nat) (W : World) : Prop := F4 W p v ∧ B4 W (p + 1) b ∧ W.cell? ⟨q, 1, none⟩ = some (.bool true)
theorem below3 {v : Nat → Int} {b : Nat → Bool} {p q : Nat} {W W' : World} (h : vtR v b p q W) (k : Below W.heap.size W W') : vtR v b p q W' := ⟨h.1.below k, h.2.1.below k, at_below h.2.2 k⟩

end Go.Proofs.YthimcecbgpamdaaGreat
