import Derived.Test.YtdhblehhgpdpdaaGreatNear35
import Derived.Laws.IdiomCopy
import Derived.Test.YtdhblehhgpdpdaaGreatNear135
import Derived.Test.YtdhblehhgpdpdaaGreatNear99
import Derived.Test.YtdhblehhgpdpdaaGreatNear127
import Derived.Test.YtdhblehhgpdpdaaGreatNear136
import Derived.Test.YtdhblehhgpdpdaaGreatNear15
import Derived.Test.YtdhblehhgpdpdaaGreatNear124
import Derived.Test.YtdhblehhgpdpdaaGreatNear54
namespace Go.Proofs.YtdhblehhgpdpdaaGreat
open Go.RowKit
theorem sizeI1 : (Tryz.prog.info? 3).map (·.size) = some 1 := by kernel_rfl
theorem wp_copyP (w : World) {o : Oper} {a : Act} {K : Act → World → Prop} {Q : Exit → Act → World → Prop} (d s : Operand)
  (ho : o.op = .call { callee := .builtin .copy, args := #[d, s], argTypes := #[79, 79] }) {b k m N cap cv l : Nat} {t : TypeId} {g f : Nat → Value} {y : Addr} (hd : a.eval d = .slice (some ⟨b, k, none⟩) m m) (hv : Vh t w b N cap g) (hn : k + m ≤ N)
  (hs : a.eval s = .slice (some y) l cv) (hl : l = m) (hc : ∀ i, i < m → w.cell? (y.add i) = some (f i)) (h1 : ∀ i, i < m → (f i).oneCell' = true)
  (h : ∀ w', Vh t w' b N cap (stP g k m f) → Kept b w w' → w'.heap.size = w.heap.size → K (a.put o.dst (goInt m)) w') : WpI Tryz.prog o a w K Q := by
 subst hl
 obtain ⟨w', e, hv', hk, hz⟩ := run_storeCellsP (P := Tryz.prog) b k t N cap f l 0 g w hv (by omega) (fun j hj => by rw [Nat.zero_add]; exact h1 j hj)
 have hh := h w' (hv'.congr (fun j _ => by rw [Nat.add_zero]; congr 1; funext i; rw [Nat.zero_add])) hk hz
 have hld := run_loadCells (P := Tryz.prog) w y l f hc
 have e2 : (storeCells ⟨b, k, none⟩ ((List.range l).map f)).run Tryz.prog w = .ok () w' := by
  refine Eq.trans ?_ e
  congr 2
  refine List.map_congr_left (fun j _ => ?_)
  rw [Nat.zero_add]
 have hrun : (Builtin.copy_ #[79, 79] o.type #[.slice (some ⟨b, k, none⟩) l l, .slice (some y) l cv]).run Tryz.prog w = .ok (goInt l) w' := by
  simp only [Builtin.copy_, run_underlying Tryz.underlying79, Builtin.lenOf, Builtin.firstCells, Nat.min_self, Sem.run_bind, Sem.run_pure, Result.andThen_ok, oneI.size, Nat.mul_one, hld, e2, List.getElem?_toArray, List.getElem?_cons_zero, List.getElem?_cons_succ]
 refine ⟨?_⟩
 unfold Oper.wp execOp
 simp only [ho, resolve, invoke, builtin, Sem.run_bind, Sem.run_pure, Result.andThen_ok, List.map_toArray, List.map_cons, List.map_nil, hd, hs, hrun]
 exact hh
theorem wp_copy0 (w : World) {o : Oper} {a : Act} {K : Act → World → Prop} {Q : Exit → Act → World → Prop} (d s : Operand)
  (ho : o.op = .call { callee := .builtin .copy, args := #[d, s], argTypes := #[79, 79] }) {ad : Option Addr} {m c : Nat} (hd : a.eval d = .slice ad m c) (hs : a.eval s = .slice none 0 0) (h : K (a.put o.dst (goInt 0)) w) : WpI Tryz.prog o a w K Q := by
 have hrun := run_copy_none (P := Tryz.prog) w 79 79 o.type 3 ad none m c 0 0 Tryz.underlying79 sizeI1 (by simp)
 refine ⟨?_⟩
 unfold Oper.wp execOp
 simp only [ho, resolve, invoke, builtin, Sem.run_bind, Sem.run_pure, Result.andThen_ok, List.map_toArray, List.map_cons, List.map_nil, hd, hs, hrun]
 exact h
end Go.Proofs.YtdhblehhgpdpdaaGreat
namespace Go.Proofs.YtdhblehhgpdpdaaGreat
open Go.RowKit
theorem rw_sr {w : World} {B n c : Nat} {a : Option Addr} {g : Nat → Value} {t : TypeId} (h : w.ownsRow B t 1 (.slice a n c) n (rowV g n)) : Sr w a n c g := by
 obtain ⟨ao, cap, e, hs, _⟩ := owns_sr h
 cases e
 exact hs
set_option maxHeartbeats 2000000 in
theorem nodeRelay_ok : PhOK relN relM 43 := by
 intro n ao c mo mc L w hok hag hmr hN hmc hRL
 have hag : Sr w ao n.vA.length c (tF (bA n)) := hag
 refine enterF Tryz.func43 rfl 36 rfl (of_decide_eq_true rfl) (fun A hs hd hb => ?_)
 have b0 : A.eval (.tmp 0) = ndV n (.slice ao n.vA.length c) := hb 0 _ rfl
 have b1 : A.eval (.tmp 1) = .slice mo L.length mc := hb 1 _ rfl
 clear hb
 refine c_rs (m_start ?_)
 refine m_do rfl (wanted_rd rfl) (fun K hK => ?_)
 refine wp_boxG _ _ _ rfl (ev_out rfl b0) (of_decide_eq_true rfl) ?_
 intro w1 m1 k1 z1
 have sr1 := hag.below k1
 refine hK _ _ ?_
 clear hK K
 refine m_do rfl (wanted_rd rfl) (fun K hK => ?_)
 refine wp_allocG _ _ rfl zeroNd (of_decide_eq_true rfl) ?_
 intro w2 m2 k2 z2
 have mn2 := m1.below k2
 have sr2 := sr1.below k2
 refine hK _ _ ?_
 clear hK K
 refine m_do rfl (wanted_rd rfl) (fun K hK => ?_)
 refine wp_allocG _ _ rfl zeroMs (of_decide_eq_true rfl) ?_
 intro w3 m3 k3 z3
 have mn3 := mn2.below k3
 have mr3 := m2.below k3
 have sr3 := sr2.below k3
 refine hK _ _ ?_
 clear hK K
 refine l_nx ?_
 refine c_rs ?_
 refine Yq (run_loadP _ _ rfl manyNd (Ye rfl) mn3 (by decide)) ?_
 refine m_do rfl (wanted_rd rfl) (fun K hK => ?_)
 refine wp_call1 _ 67 _ _ rfl (Ye rfl) (enter_pown _ _) (own_any n ao c _ sr3 hok.vA) ?_
 rintro e w4 ⟨a3, c3, rfl, o4, k4⟩
 have n4 := k4.size
 have mn4 := mn3.below k4
 have mr4 := mr3.below k4
 have mq4 := m3.below k4
 refine ⟨_, rfl, ?_⟩
 refine hK _ _ ?_
 clear hK K
 refine m_st (wanted_rd rfl) (fun K hK => ?_)
 refine wp_storeP _ _ _ _ rfl manyNd (Ye rfl) (Ye rfl) mn4 (by decide) (ndF_one _ _ _ _) rfl ?_
 intro w5 mm5 k5 z5
 have mn5 := Vh.congr mm5 (stP_all _ _)
 have mr5 := mr4.kept k5 (by omega)
 have mq5 := mq4.kept k5 (by omega)
 have ow5 := rw_kept o4 k5 (fun e => by have e1 := (o4.lt _ e).1; have e2 := (o4.lt _ e).2; omega)
 refine hK _ ?_
 clear hK K
 refine l_nx ?_
 refine c_nx ?_
 refine c_rs ?_
 refine Yq (fldNd0 rfl (Ye rfl) _) ?_
 refine Yq (run_lod1 _ _ rfl oneI (Ye rfl) mn5 (by decide) rfl) ?_
 refine m_do rfl (wanted_rd rfl) (fun K hK => ?_)
 refine wp_call1 _ 68 _ _ rfl (Ye rfl) (enter_pisNode _ _) (isNode_any n.id _) ?_
 rintro e w6 ⟨rfl, k6⟩
 have n6 := k6.size
 have mn6 := mn5.below k6
 have mr6 := mr5.below k6
 have mq6 := mq5.below k6
 have ow6 := rw_below ow5 k6
 refine ⟨_, rfl, ?_⟩
 refine hK _ _ ?_
 clear hK K
 refine Yq (run_notB _ _ rfl (Ye rfl) _) ?_
 refine l_nx ?_
 have kA : Below w.heap.size w w6 := (below_of_kept ((((k1).trans (k2.mono (by omega))).trans (k3.mono (by omega))).trans (k4.mono (by omega))) k5 (by omega) (by omega)).trans (k6.mono (by omega))
 refine c_cond (t := noN n.id) ((Ye rfl).trans (by rw [Bool.not_not])) (fun hno => ?_) (fun hno => ?_)
 ·refine c_rs ?_
  refine Yq (run_loadP _ _ rfl manyNd (Ye rfl) mn6 (by decide)) ?_
  refine Yq (run_bld0 rfl _) ?_
  refine m_st (wanted_rd rfl) (fun K hK => ?_)
  refine wp_storeP _ _ _ _ rfl manyNd (Ye rfl) (Ye rfl) mr6 (by decide) (ndF_one _ _ _ _) rfl ?_
  intro w7 mm7 k7 z7
  have mr7 := Vh.congr mm7 (stP_all _ _)
  have mn7 := mn6.kept k7 (by omega)
  have mq7 := mq6.kept k7 (by omega)
  have ow7 := rw_kept ow6 k7 (fun e => by have e1 := (o4.lt _ e).1; have e2 := (o4.lt _ e).2; omega)
  refine hK _ ?_
  clear hK K
  refine m_st (wanted_rd rfl) (fun K hK => ?_)
  refine wp_storeP _ _ _ _ rfl manyMs (Ye rfl) (Ye rfl) mq7 (by decide) (msF_one _ _ _ _ _ _) rfl ?_
  intro w8 mm8 k8 z8
  have mq8 := Vh.congr mm8 (stP_all4 _ _)
  have mn8 := mn7.kept k8 (by omega)
  have mr8 := mr7.kept k8 (by omega)
  have ow8 := rw_kept ow7 k8 (fun e => by have e1 := (o4.lt _ e).1; have e2 := (o4.lt _ e).2; omega)
  refine hK _ ?_
  clear hK K
  refine l_nx ?_
  refine c_ret ?_
  simp only [Nx, Exit.then]
  have e1 : relN n (L.map Lm.m) = n := by unfold relN; rw [if_pos hno]
  have e2 : relM n (L.map Lm.m) = zeroM := by unfold relM; rw [if_pos hno]
  rw [e1, e2]
  refine ret_of ((defL _ _).trans hd) (res_cc rfl (Ye rfl) (Ye rfl) manyNd manyMs mr8 (Nat.le_refl _) mq8 (Nat.le_refl _)) ⟨a3, c3, none, 0, rfl, rw_base ow8 (by omega), World.ownsRow_nil _ _ _ _, below_of_kept (below_of_kept kA k7 (by omega) (by omega)) k8 (by omega) (by omega)⟩
 ·obtain ⟨h0, h3⟩ := noN_in hno
  refine c_fin ?_
  refine c_nx ?_
  refine c_rs ?_
  refine Yq (run_loadP _ _ rfl manyNd (Ye rfl) mn6 (by decide)) ?_
  refine Yp ?_
  refine m_do rfl (wanted_rd rfl) (fun K hK => ?_)
  refine wp_call4n _ 70 _ _ _ _ _ rfl (Ye rfl) (Ye rfl) (ev_const _ _) (ev_const _ _) (enter_phear _ _ _ _ _) (hear_any n _ mo mc L 1 3 _ (hmr.below kA) hN (by decide)) ?_
  rintro e w7 ⟨rfl, k7⟩
  have n7 := k7.size
  have mn7 := mn6.below k7
  have mr7 := mr6.below k7
  have mq7 := mq6.below k7
  have ow7 := rw_below ow6 k7
  refine ⟨_, rfl, ?_⟩
  refine hK _ _ ?_
  clear hK K
  refine Yp ?_
  refine l_nx ?_
  refine c_block ?_
  refine c_loop (fun r a W => ∃ i : Nat, i ≤ 4 ∧ 4 - i ≤ r ∧ a.tmps.size = 36 ∧ a.defers = [] ∧ a.eval (.tmp 2) = .pointer (some ⟨w.heap.size, 0, none⟩) ∧ a.eval (.tmp 4) = .pointer (some ⟨w1.heap.size, 0, none⟩) ∧ a.eval (.tmp 5) = .pointer (some ⟨w2.heap.size, 0, none⟩) ∧ a.eval (.tmp 18) = agV (hrO n.id n.fr L 1 3) 0 4 ∧ a.eval (.tmp 19) = .int .i64 (i : Int) ∧ Vh 37 W w.heap.size 74 74 (ndF { n with di := relI n (L.map Lm.m) i } (.slice a3 n.vA.length c3)) ∧ Vh 37 W w1.heap.size 74 74 (ndF zeroN (.slice none 0 0)) ∧ Vh 81 W w2.heap.size 4 4 (msF 0 0 0 (.slice none 0 0)) ∧ W.ownsRow w3.heap.size 4 1 (.slice a3 n.vA.length c3) n.vA.length (rowV (tF (bA n)) n.vA.length) ∧ Below w.heap.size w W ∧ w7.heap.size ≤ W.heap.size) 4 ⟨0, by omega, by omega, (szL _ _).trans hs, (defL _ _).trans hd, (Ye rfl), (Ye rfl), (Ye rfl), (Ye rfl), (Ye rfl), mn7, mr7, mq7, ow7, kA.trans (k7.mono (by omega)), by omega⟩ (fun r B W hI => ?_)
  clear b0 b1 hs hd
  obtain ⟨i, hi, hr2, hs, hd, b2, b4, b5, b18, b19, mn, mr, mq, ow, kB, hW⟩ := hI
  by_cases hin : i < 4
  ·have hi4 : i < 4 := hin
   rcases hfl : fL n.id n.fr L (i : Int) 1 3 with _ | cm
   ·have hho : hrO n.id n.fr L 1 3 i = .slice none 0 0 := by unfold hrO; rw [hfl]
    refine c_rs (m_start ?_)
    refine Yq (run_lssI (b := true) _ _ rfl (ev_out rfl b19) (ev_const _ _) (decide_eq_true (by omega)) _) ?_
    refine l_nx ?_
    refine c_nx (c_true (Ye rfl) (c_fin ?_))
    refine c_nx (c_block ?_)
    refine c_rs ?_
    refine Yp ?_
    refine Yq ((run_ixV1 _ _ _ _ rfl Tryz.underlying129 oneIs (ev_out rfl b18) (ev_out rfl b19) rfl hi4 _).trans (by rw [hho])) ?_
    iterate 2 refine Yp ?_
    refine l_nx ?_
    refine c_region ?_
    refine Yp ?_
    refine Yq (fldNd5 rfl (ev_out rfl b2) _) ?_
    refine Yq (run_ixG _ _ _ _ rfl Tryz.underlying32 many3.size (Ye rfl) (Ye rfl) rfl hi4 _) ?_
    refine Yq (run_cutI3 _ rfl (Ye rfl) _) ?_
    refine Yp ?_
    refine m_do rfl (wanted_rd rfl) (fun K hK => ?_)
    refine wp_copy0 _ _ _ rfl (Ye rfl) (Ye rfl) ?_
    refine hK _ _ ?_
    clear hK K
    refine l_finB ?_
    refine c_region ?_
    refine Yq (run_addI _ _ rfl (ev_out rfl b19) (ev_const _ _) (by omega) (by omega) _) ?_
    refine Yp ?_
    have en := rel_none (n := n) hfl
    exact l_round ⟨4 - (i + 1), by omega, i + 1, by omega, by omega, (szL _ _).trans hs, (defL _ _).trans hd, (ev_out rfl b2), (ev_out rfl b4), (ev_out rfl b5), (ev_out rfl b18), (Ye rfl).trans (by rw [Int.natCast_add]; rfl), by rw [← en]; exact mn, mr, mq, ow, kB, by omega⟩
   ·have hho0 : hrO n.id n.fr L 1 3 i = lmV cm := by unfold hrO; rw [hfl]
    obtain ⟨cmem, cfit⟩ := fL_mem hfl
    have clen := fit_len cfit
    obtain ⟨ca, cmy, hy⟩ : ∃ y, cm.ao = some y ∧ ∀ W', Below w.heap.size w W' → ∀ i, i < cm.m.L.length → W'.cell? (y.add i) = some (.int .i64 (gL cm.m.L i)) := by
     obtain ⟨y, e, _⟩ := (hmr.2 cm cmem).at (by omega)
     refine ⟨y, e, fun W' k => ?_⟩
     obtain ⟨y', e', hy'⟩ := ((hmr.2 cm cmem).below k).at (by omega)
     rw [e] at e'; cases e'
     exact hy'
    obtain ⟨mm, mo2, mc2⟩ := cm
    dsimp only at cmy hy clen
    subst cmy
    have hho : hrO n.id n.fr L 1 3 i = .slice (some ca) mm.L.length mc2 := hho0
    refine c_rs (m_start ?_)
    refine Yq (run_lssI (b := true) _ _ rfl (ev_out rfl b19) (ev_const _ _) (decide_eq_true (by omega)) _) ?_
    refine l_nx ?_
    refine c_nx (c_true (Ye rfl) (c_fin ?_))
    refine c_nx (c_block ?_)
    refine c_rs ?_
    refine Yp ?_
    refine Yq ((run_ixV1 _ _ _ _ rfl Tryz.underlying129 oneIs (ev_out rfl b18) (ev_out rfl b19) rfl hi4 _).trans (by rw [hho])) ?_
    iterate 2 refine Yp ?_
    refine l_nx ?_
    refine c_region ?_
    refine Yp ?_
    refine Yq (fldNd5 rfl (ev_out rfl b2) _) ?_
    refine Yq (run_ixG _ _ _ _ rfl Tryz.underlying32 many3.size (Ye rfl) (Ye rfl) rfl hi4 _) ?_
    refine Yq (run_cutI3 _ rfl (Ye rfl) _) ?_
    refine Yp ?_
    refine m_do rfl (wanted_rd rfl) (fun K hK => ?_)
    refine wp_copyP _ _ _ rfl (f := fun a => iV (gL mm.L a)) (Ye rfl) mn (by omega) (Ye rfl) (by omega) (fun a ha => hy _ kB a (by omega)) (fun _ _ => rfl) ?_
    intro w8 mm8 k8 z8
    have mn8 := Vh.congr mm8 (upd_drAt _ _ _ i hi4)
    have mr8 := mr.kept k8 (by omega)
    have mq8 := mq.kept k8 (by omega)
    have ow8 := rw_kept ow k8 (fun e => by have e1 := (o4.lt _ e).1; have e2 := (o4.lt _ e).2; omega)
    refine hK _ _ ?_
    clear hK K
    refine l_finB ?_
    refine c_region ?_
    refine Yq (run_addI _ _ rfl (ev_out rfl b19) (ev_const _ _) (by omega) (by omega) _) ?_
    refine Yp ?_
    have en := rel_some (n := n) hfl
    exact l_round ⟨4 - (i + 1), by omega, i + 1, by omega, by omega, (szL _ _).trans hs, (defL _ _).trans hd, (ev_out rfl b2), (ev_out rfl b4), (ev_out rfl b5), (ev_out rfl b18), (Ye rfl).trans (by rw [Int.natCast_add]; rfl), by rw [← en]; exact mn8, mr8, mq8, ow8, below_of_kept kB k8 (by omega) (by omega), by omega⟩
  ·refine c_rs (m_start ?_)
   refine Yq (run_lssI (b := false) _ _ rfl (ev_out rfl b19) (ev_const _ _) (decide_eq_false (by omega)) _) ?_
   obtain rfl : i = 4 := by omega
   refine l_nx ?_
   refine c_nx (c_false (Ye rfl) (c_exit (x_out ?_)))
   refine c_nx ?_
   rw [ndF_diC (rel_four n (L.map Lm.m))] at mn
   have hS0 : (fun W => Vh 37 W w.heap.size 74 74 (ndF { n with di := relD n (L.map Lm.m) } (.slice a3 n.vA.length c3))) W.drew := mn
   have mn0 : Vh _ W.drew _ _ _ _ := mn
   have mr0 : Vh _ W.drew _ _ _ _ := mr
   have mq0 : Vh _ W.drew _ _ _ _ := mq
   have ow0 := (show World.ownsRow W.drew _ _ _ _ _ _ from ow)
   have ez : W.drew.heap.size = W.heap.size := rfl
   refine c_rj (S := fun W => Vh 37 W w.heap.size 74 74 (ndF { n with di := relD n (L.map Lm.m) } (.slice a3 n.vA.length c3))) (.rd 0 (.rd 1 (.mv 2 (.mv 3 (.go 4 (.go 5 (.go 6 (.go 7 .fin)))))))) [] (by kernel_rfl) (by kernel_rfl) ?_
   refine Yr rfl hS0 (fun _ hS => run_loadP _ _ rfl manyNd (ev_out rfl b2) hS (by decide)) ?_
   refine Yr rfl hS0 (fun _ hS => run_loadP _ _ rfl manyNd (ev_out rfl b2) hS (by decide)) ?_
   refine Yk rfl (fun _ => fldNd5 rfl (ev_out rfl b2) _) ?_
   refine Yk rfl (fun _ => run_cut43 _ rfl (Ye rfl) _) ?_
   refine j_do rfl rfl (wanted_rd rfl) (fun K hK => ?_)
   refine wp_call1 _ 71 _ _ rfl (Ye rfl) (enter_pflat _ _) (flat_any _ (0 + 39) 74 74 _ _ (relD n (L.map Lm.m)) _ hS0 (by omega) (fun i k hi hk => by have := ndF_di { n with di := relD n (L.map Lm.m) } (.slice a3 n.vA.length c3) hi hk; rw [Nat.mul_one] at this; exact this)) ?_
   rintro e w8 ⟨fa, fc, rfl, of8, k8⟩
   have n8 := k8.size
   have mn8 := hS0.below k8
   have mr8 := mr0.below k8
   have mq8 := mq0.below k8
   have ow8 := rw_below ow0 k8
   have hS8 : (fun W => Vh 37 W w.heap.size 74 74 (ndF { n with di := relD n (L.map Lm.m) } (.slice a3 n.vA.length c3))) w8 := mn8
   have srf := rw_sr of8
   refine ⟨_, rfl, ?_⟩
   refine hK _ _ (fun _ _ => hS8) ?_
   clear hK K
   refine j_do rfl rfl (wanted_rd rfl) (fun K hK => ?_)
   refine wp_call3n _ 69 _ _ _ _ rfl (Ye rfl) (ev_const _ _) (Ye rfl) (enter_ptell _ _ _ _) (tell_any { n with di := relD n (L.map Lm.m) } (.slice a3 n.vA.length c3) 2 _ 12 _ _ _ srf (by decide)) ?_
   rintro e w9 ⟨a2, c2, rfl, ov9, k9⟩
   have n9 := k9.size
   have mn9 := mn8.below k9
   have mr9 := mr8.below k9
   have mq9 := mq8.below k9
   have ow9 := rw_below ow8 k9
   have hS9 : (fun W => Vh 37 W w.heap.size 74 74 (ndF { n with di := relD n (L.map Lm.m) } (.slice a3 n.vA.length c3))) w9 := mn9
   refine ⟨_, rfl, ?_⟩
   refine hK _ _ (fun _ _ => hS9) ?_
   clear hK K
   refine j_st rfl (wanted_rd rfl) (fun K hK => ?_)
   refine wp_storeP _ _ _ _ rfl manyNd (ev_out rfl b4) (Ye rfl) mr9 (by decide) (ndF_one _ _ _ _) rfl ?_
   intro w10 mm10 k10 z10
   have mr10 := Vh.congr mm10 (stP_all _ _)
   have mn10 := mn9.kept k10 (by omega)
   have mq10 := mq9.kept k10 (by omega)
   have ow10 := rw_kept ow9 k10 (fun e => by have e1 := (o4.lt _ e).1; have e2 := (o4.lt _ e).2; omega)
   have ov10 := rw_under ov9 k10 (by omega)
   have hS10 : (fun W => Vh 37 W w.heap.size 74 74 (ndF { n with di := relD n (L.map Lm.m) } (.slice a3 n.vA.length c3))) w10 := mn10
   refine hK _ (fun _ _ => hS10) ?_
   clear hK K
   refine j_st rfl (wanted_rd rfl) (fun K hK => ?_)
   refine wp_storeP _ _ _ _ rfl manyMs (ev_out rfl b5) (Ye rfl) mq10 (by decide) (msF_one _ _ _ _ _ _) rfl ?_
   intro w11 mm11 k11 z11
   have mq11 := Vh.congr mm11 (stP_all4 _ _)
   have mn11 := mn10.kept k11 (by omega)
   have mr11 := mr10.kept k11 (by omega)
   have ow11 := rw_kept ow10 k11 (fun e => by have e1 := (o4.lt _ e).1; have e2 := (o4.lt _ e).2; omega)
   have ov11 := rw_under ov10 k11 (by omega)
   have hS11 : (fun W => Vh 37 W w.heap.size 74 74 (ndF { n with di := relD n (L.map Lm.m) } (.slice a3 n.vA.length c3))) w11 := mn11
   refine hK _ (fun _ _ => hS11) ?_
   clear hK K
   refine j_nx ?_
   refine c_ret ?_
   have e1 : relN n (L.map Lm.m) = { n with di := relD n (L.map Lm.m) } := by unfold relN; rw [if_neg (by rw [hno]; decide)]
   have e2 : relM n (L.map Lm.m) = ⟨2, n.id, n.fr, (List.range 12).map (relR n (L.map Lm.m))⟩ := by unfold relM; rw [if_neg (by rw [hno]; decide)]; rfl
   rw [e1, e2]
   refine ret_of ((defL _ _).trans hd) (res_cc rfl (ev_out rfl b4) (ev_out rfl b5) manyNd manyMs mr11 (Nat.le_refl _) mq11 (Nat.le_refl _)) ⟨a3, c3, a2, c2, rfl, rw_base ow11 (by omega), ?_, below_of_kept (below_of_kept (((below_drew kB).trans (k8.mono (by omega))).trans (k9.mono (by omega))) k10 (by omega) (by omega)) k11 (by omega) (by omega)⟩
   refine rw_base (B := w8.heap.size) ?_ (by omega)
   have ovl := ov11
   have eg := gL_row (relR n (L.map Lm.m)) 12
   unfold relR at eg
   rw [← eg] at ovl
   exact ovl
end Go.Proofs.YtdhblehhgpdpdaaGreat
namespace Go.Proofs.YtdhblehhgpdpdaaGreat
open Go.RowKit
def pkL (ax : Nat → St) : Nat → List Int
 | 0 => []
 | a + 1 => pkL ax a ++ axL (ax a)
theorem pk_next (ax : Nat → St) (x : Nat) : (pkL ax (x + 1)).map iV = (pkL ax x).map iV ++ rowV (fun i => iV (gL (axL (ax x)) i)) 7 := by
 show (pkL ax x ++ axL (ax x)).map iV = _
 rw [List.map_append]
 rfl
end Go.Proofs.YtdhblehhgpdpdaaGreat
namespace Go.Proofs.YtdhblehhgpdpdaaGreat
open Go.RowKit
def bz (b : Bool) : Int := if b then 1 else 0
theorem pbit_any (b : Bool) (w : World) : Calls Tryz.prog 108 #[.bool b] w fun e w' => e = .returned (.int .i64 (bz b)) ∧ Below w.heap.size w w' := by
 cases b
 ·refine enterF Tryz.func108 rfl 4 rfl (of_decide_eq_true rfl) (fun A hs hd hb => ?_)
  have b0 := hb 0 _ rfl
  clear hb
  refine c_rs (m_start ?_)
  refine Yp ?_
  refine l_nx ?_
  refine c_nx ?_
  refine c_rs ?_
  refine Yp ?_
  refine l_nx ?_
  refine c_false (Ye rfl) (c_fin ?_)
  refine c_rs ?_
  refine Yp ?_
  refine l_nx ?_
  refine c_ret ?_
  exact ret_of ((defL _ _).trans hd) (res_t rfl (Ye rfl)) ⟨rfl, Below.refl _ _⟩
 ·refine enterF Tryz.func108 rfl 4 rfl (of_decide_eq_true rfl) (fun A hs hd hb => ?_)
  have b0 := hb 0 _ rfl
  clear hb
  refine c_rs (m_start ?_)
  refine Yp ?_
  refine l_nx ?_
  refine c_nx ?_
  refine c_rs ?_
  refine Yp ?_
  refine l_nx ?_
  refine c_true (Ye rfl) ?_
  refine c_rs ?_
  refine Yp ?_
  refine l_nx ?_
  refine c_ret ?_
  simp only [Nx, Exit.then]
  exact ret_of ((defL _ _).trans hd) (res_t rfl (Ye rfl)) ⟨rfl, Below.refl _ _⟩
theorem run_shl1 {f : Operand → Value} {o : Oper} (x y : Operand) (ho : o.op = .binOp .shl 3 x y 3) {b : Bool} {i : Nat} (hx : f x = .int .i64 (bz b)) (hy : f y = .int .i64 (i : Int)) (hi : i < 4) (w : World) : (execOp f o).run Tryz.prog w = .ok (.value (.int .i64 (if b then 2 ^ i else 0))) w := by
 have : i = 0 ∨ i = 1 ∨ i = 2 ∨ i = 3 := by omega
 unfold execOp
 rw [ho]
 dsimp only
 rw [hx, hy]
 rcases this with rfl | rfl | rfl | rfl <;> cases b <;> (change _ = _; kernel_rfl)
theorem run_ixT {f : Operand → Value} {o : Oper} (x y : Operand) (ho : o.op = .indexAddr 33 x y) {b off n cap i : Nat} {z : Int} (hx : f x = .slice (some ⟨b, off, none⟩) n cap) (hy : f y = .int .i64 z) (hz : z = (i : Int)) (hi : i < n) (w : World) :
  (execOp f o).run Tryz.prog w = .ok (.value (.pointer (some ⟨b, off + i, none⟩))) w := by
 subst hz
 have hi2 : (i : Int) < n := by omega
 unfold execOp
 rw [ho]
 dsimp only
 rw [hx, hy]
 go_simp
theorem run_ixIa {f : Operand → Value} {o : Oper} (x y : Operand) (ho : o.op = .indexAddr 79 x y) {b off n cap i : Nat} {z : Int} (hx : f x = .slice (some ⟨b, off, none⟩) n cap) (hy : f y = .int .i64 z) (hz : z = (i : Int)) (hi : i < n) (w : World) :
  (execOp f o).run Tryz.prog w = .ok (.value (.pointer (some ⟨b, off + i, none⟩))) w := by
 subst hz
 have hi2 : (i : Int) < n := by omega
 unfold execOp
 rw [ho]
 dsimp only
 rw [hx, hy]
 go_simp
def sN (b : Nat → Bool) : Nat → Int
 | 0 => 0
 | k + 1 => sN b k + (if b k then 2 ^ k else 0)
theorem sN_four (b : Nat → Bool) : sN b 4 = inN b := by
 show 0 + _ + _ + _ + _ = _
 unfold inN
 rw [Int.zero_add]
 rfl
theorem sN_in (b : Nat → Bool) {k : Nat} (hk : k ≤ 4) : 0 ≤ sN b k ∧ sN b k ≤ 15 ∧ (k < 4 → 0 ≤ (if b k then (2 : Int) ^ k else 0) ∧ (if b k then (2 : Int) ^ k else 0) ≤ 8) := by
 have h1 : ∀ (x : Bool) (i : Nat), 0 ≤ (if x then (2 : Int) ^ i else 0) ∧ (if x then (2 : Int) ^ i else 0) ≤ (2 : Int) ^ i := fun x i => by
  have : (0 : Int) ≤ 2 ^ i := Int.pow_nonneg (by decide)
  cases x
  ·exact ⟨Int.le_refl _, this⟩
  ·exact ⟨this, Int.le_refl _⟩
 have e0 := h1 (b 0) 0; have e1 := h1 (b 1) 1; have e2 := h1 (b 2) 2; have e3 := h1 (b 3) 3
 rw [show (2 : Int) ^ 0 = 1 from rfl] at e0
 rw [show (2 : Int) ^ 1 = 2 from rfl] at e1
 rw [show (2 : Int) ^ 2 = 4 from rfl] at e2
 rw [show (2 : Int) ^ 3 = 8 from rfl] at e3
 match k, hk with
 | 0, _ => exact ⟨Int.le_refl _, by show (0 : Int) ≤ 15; decide, fun _ => ⟨e0.1, by show (if b 0 then (1 : Int) else 0) ≤ 8; omega⟩⟩
 | 1, _ => exact ⟨by show 0 ≤ 0 + (if b 0 then (1 : Int) else 0); omega, by show 0 + (if b 0 then (1 : Int) else 0) ≤ 15; omega, fun _ => ⟨e1.1, by show (if b 1 then (2 : Int) else 0) ≤ 8; omega⟩⟩
 | 2, _ => exact ⟨by show 0 ≤ 0 + (if b 0 then (1 : Int) else 0) + (if b 1 then (2 : Int) else 0); omega, by show 0 + (if b 0 then (1 : Int) else 0) + (if b 1 then (2 : Int) else 0) ≤ 15; omega, fun _ => ⟨e2.1, by show (if b 2 then (4 : Int) else 0) ≤ 8; omega⟩⟩
 | 3, _ => exact ⟨by show 0 ≤ 0 + (if b 0 then (1 : Int) else 0) + (if b 1 then (2 : Int) else 0) + (if b 2 then (4 : Int) else 0); omega, by show 0 + (if b 0 then (1 : Int) else 0) + (if b 1 then (2 : Int) else 0) + (if b 2 then (4 : Int) else 0) ≤ 15; omega, fun _ => ⟨e3.1, e3.2⟩⟩
 | 4, _ => exact ⟨by show 0 ≤ 0 + (if b 0 then (1 : Int) else 0) + (if b 1 then (2 : Int) else 0) + (if b 2 then (4 : Int) else 0) + (if b 3 then (8 : Int) else 0); omega, by show 0 + (if b 0 then (1 : Int) else 0) + (if b 1 then (2 : Int) else 0) + (if b 2 then (4 : Int) else 0) + (if b 3 then (8 : Int) else 0) ≤ 15; omega, fun h => absurd h (by omega)⟩
theorem setNumber_any (b o N cap : Nat) (t : TypeId) (g : Nat → Value) (c : Nat → Bool) (w : World) (hm : Vh t w b N cap g) (ho : o + 4 ≤ N) (hg : ∀ i, i < 4 → g (o + i) = .bool (c i)) :
  Calls Tryz.prog 109 #[.slice (some ⟨b, o, none⟩) 4 4] w fun e w' => e = .returned (.int .i64 (inN c)) ∧ Below w.heap.size w w' := by
 refine enterF Tryz.func109 rfl 21 rfl (of_decide_eq_true rfl) (fun A hs hd hb => ?_)
 have b0 := hb 0 _ rfl
 clear hb
 refine c_rs (m_start ?_)
 refine Yp ?_
 refine l_nx ?_
 refine c_rs ?_
 refine Yp ?_
 refine l_nx ?_
 refine c_nx ?_
 refine c_rs ?_
 refine Yp ?_
 refine Yq (run_lenT _ rfl (Ye rfl) _) ?_
 refine Yp ?_
 refine l_nx ?_
 refine c_block ?_
 refine c_loop (fun r a W => ∃ i : Nat, i ≤ 4 ∧ 4 - i ≤ r ∧ a.tmps.size = 21 ∧ a.defers = [] ∧ a.eval (.tmp 6) = .slice (some ⟨b, o, none⟩) 4 4 ∧ a.eval (.tmp 7) = .int .i64 ((4 : Nat) : Int) ∧ a.eval (.tmp 8) = .int .i64 (i : Int) ∧ a.eval (.tmp 3) = .int .i64 (sN c i) ∧ Below w.heap.size w W) 4 ⟨0, by omega, by omega, (szL _ _).trans hs, (defL _ _).trans hd, (Ye rfl), (Ye rfl), (Ye rfl), (Ye rfl), Below.refl _ _⟩ (fun r B W hI => ?_)
 clear b0 hs hd
 obtain ⟨i, hi, hr2, hs, hd, b6, b7, b8, b3, kB⟩ := hI
 have hWs := kB.size
 by_cases hin : i < 4
 ·refine c_rs (m_start ?_)
  refine Yq (run_lssI (b := true) _ _ rfl (ev_out rfl b8) (ev_out rfl b7) (decide_eq_true (by omega)) _) ?_
  refine l_nx ?_
  refine c_nx (c_true (Ye rfl) (c_fin ?_))
  refine c_nx (c_block ?_)
  refine c_rs ?_
  refine Yp ?_
  refine Yq (run_ixT _ _ rfl (ev_out rfl b6) (ev_out rfl b8) rfl hin _) ?_
  refine Yq (run_lod1 _ _ rfl oneB (Ye rfl) (hm.below kB) (by omega) (hg i hin)) ?_
  iterate 2 refine Yp ?_
  refine l_nx ?_
  refine c_region ?_
  iterate 2 refine Yp ?_
  refine m_do rfl (wanted_rd rfl) (fun K hK => ?_)
  refine wp_call1 _ 108 _ _ rfl (Ye rfl) (enter_pbit _ _) (pbit_any _ _) ?_
  rintro e w1 ⟨rfl, k1⟩
  have n1 := k1.size
  refine ⟨_, rfl, ?_⟩
  refine hK _ _ ?_
  clear hK K
  refine Yp ?_
  refine Yq (run_shl1 _ _ rfl (Ye rfl) (Ye rfl) hin _) ?_
  refine Yq (run_addI _ _ rfl (Ye rfl) (Ye rfl) (by have := sN_in c hi; have := this.2.2 hin; omega) (by have := sN_in c hi; have := this.2.2 hin; omega) _) ?_
  refine Yp ?_
  refine l_finB ?_
  refine c_region ?_
  refine Yq (run_addI _ _ rfl (ev_out rfl b8) (ev_const _ _) (by omega) (by omega) _) ?_
  refine Yp ?_
  exact l_round ⟨4 - (i + 1), by omega, i + 1, by omega, by omega, (szL _ _).trans hs, (defL _ _).trans hd, (ev_out rfl b6), (ev_out rfl b7), (Ye rfl).trans (by rw [Int.natCast_add]; rfl), (Ye rfl), kB.trans (k1.mono (by omega))⟩
 ·refine c_rs (m_start ?_)
  refine Yq (run_lssI (b := false) _ _ rfl (ev_out rfl b8) (ev_out rfl b7) (decide_eq_false (by omega)) _) ?_
  obtain rfl : i = 4 := by omega
  refine l_nx ?_
  refine c_nx (c_false (Ye rfl) (c_exit (x_out ?_)))
  refine c_rs ?_
  iterate 2 refine Yp ?_
  refine l_nx ?_
  exact c_ret (ret_of ((defL _ _).trans hd) (res_t rfl (Ye rfl)) ⟨by rw [sN_four], kB⟩)
theorem countNumber_any (b o N cap : Nat) (t : TypeId) (g : Nat → Value) (c : Nat → Int) (w : World) (hm : Vh t w b N cap g) (ho : o + 4 ≤ N) (hg : ∀ i, i < 4 → g (o + i) = .int .i64 (c i)) :
  Calls Tryz.prog 110 #[.slice (some ⟨b, o, none⟩) 4 4] w fun e w' => e = .returned (.int .i64 (ctN8 c 4)) ∧ Below w.heap.size w w' := by
 refine enterF Tryz.func110 rfl 18 rfl (of_decide_eq_true rfl) (fun A hs hd hb => ?_)
 have b0 := hb 0 _ rfl
 clear hb
 refine c_rs (m_start ?_)
 refine Yp ?_
 refine l_nx ?_
 refine c_rs ?_
 refine Yp ?_
 refine l_nx ?_
 refine c_nx ?_
 refine c_rs ?_
 refine Yp ?_
 refine Yq (run_lenI _ rfl (Ye rfl) _) ?_
 refine Yp ?_
 refine l_nx ?_
 refine c_block ?_
 refine c_loop (fun r a W => ∃ i : Nat, i ≤ 4 ∧ 4 - i ≤ r ∧ a.tmps.size = 18 ∧ a.defers = [] ∧ a.eval (.tmp 6) = .slice (some ⟨b, o, none⟩) 4 4 ∧ a.eval (.tmp 7) = .int .i64 ((4 : Nat) : Int) ∧ a.eval (.tmp 8) = .int .i64 (i : Int) ∧ a.eval (.tmp 3) = .int .i64 (ctN8 c i) ∧ Below w.heap.size w W) 4 ⟨0, by omega, by omega, (szL _ _).trans hs, (defL _ _).trans hd, (Ye rfl), (Ye rfl), (Ye rfl), (Ye rfl), Below.refl _ _⟩ (fun r B W hI => ?_)
 clear b0 hs hd
 obtain ⟨i, hi, hr2, hs, hd, b6, b7, b8, b3, kB⟩ := hI
 have hWs := kB.size
 by_cases hin : i < 4
 ·refine c_rs (m_start ?_)
  refine Yq (run_lssI (b := true) _ _ rfl (ev_out rfl b8) (ev_out rfl b7) (decide_eq_true (by omega)) _) ?_
  refine l_nx ?_
  refine c_nx (c_true (Ye rfl) (c_fin ?_))
  refine c_nx (c_block ?_)
  refine c_rs ?_
  refine Yq (run_ixIa _ _ rfl (ev_out rfl b6) (ev_out rfl b8) rfl hin _) ?_
  refine Yq (run_lod1 _ _ rfl oneI (Ye rfl) (hm.below kB) (by omega) (hg i hin)) ?_
  refine Yp ?_
  refine l_nx ?_
  refine c_region ?_
  refine Yp ?_
  refine Yq (run_mulW _ _ rfl (Ye rfl) (ev_const _ _) _) ?_
  refine Yp ?_
  refine Yq (run_addW _ _ rfl (Ye rfl) (Ye rfl) _) ?_
  refine Yp ?_
  refine l_finB ?_
  refine c_region ?_
  refine Yq (run_addI _ _ rfl (ev_out rfl b8) (ev_const _ _) (by omega) (by omega) _) ?_
  refine Yp ?_
  exact l_round ⟨4 - (i + 1), by omega, i + 1, by omega, by omega, (szL _ _).trans hs, (defL _ _).trans hd, (ev_out rfl b6), (ev_out rfl b7), (Ye rfl).trans (by rw [Int.natCast_add]; rfl), (Ye rfl).trans (by show Value.int .i64 (wrap64 (wrap64 (ctN8 c i * 8) + c i)) = .int .i64 (wrap64 (wrap64 (8 * ctN8 c i) + c i)); rw [Int.mul_comm]), kB⟩
 ·refine c_rs (m_start ?_)
  refine Yq (run_lssI (b := false) _ _ rfl (ev_out rfl b8) (ev_out rfl b7) (decide_eq_false (by omega)) _) ?_
  obtain rfl : i = 4 := by omega
  refine l_nx ?_
  refine c_nx (c_false (Ye rfl) (c_exit (x_out ?_)))
  refine c_rs ?_
  iterate 2 refine Yp ?_
  refine l_nx ?_
  exact c_ret (ret_of ((defL _ _).trans hd) (res_t rfl (Ye rfl)) ⟨rfl, kB⟩)
def naxF (ax : Nat → St) (j : Nat) : Value := nstF (ax (j / 7)) (j % 7)
theorem nax_part (ax : Nat → St) {x : Nat} : agV (naxF ax) (x * 7) 7 = agV (nstF (ax x)) 0 7 := by
 unfold agV naxF
 congr 2
 refine List.map_congr_left (fun j hj => ?_)
 have := List.mem_range.1 hj
 rw [show (x * 7 + j) / 7 = x by omega, show (x * 7 + j) % 7 = j by omega, Nat.zero_add]
theorem pk_allS (ax : Nat → St) (r : Rl) : (pck ax r).map iV = (pkL ax 3).map iV ++ rowV (fun i => iV (gL [inN r.I, ctN8 r.M 4, ctN8 r.J 4] i)) 3 := by
 unfold pck
 rw [List.map_append]
 rfl
theorem nrl_in (r : Rl) {i : Nat} (hi : i < 4) : nrlF r (0 + 0 + i) = .bool (r.I i) := by unfold nrlF; rw [if_pos (by omega), show 0 + 0 + i = i by omega]
theorem nrl_mi (r : Rl) {i : Nat} (hi : i < 4) : nrlF r (0 + 4 + i) = .int .i64 (r.M i) := by unfold nrlF; rw [if_neg (by omega), if_pos (by omega), show 0 + 4 + i - 4 = i by omega]; rfl
theorem nrl_jo (r : Rl) {i : Nat} (hi : i < 4) : nrlF r (0 + 8 + i) = .int .i64 (r.J i) := by unfold nrlF; rw [if_neg (by omega), if_neg (by omega), show 0 + 8 + i - 8 = i by omega]; rfl
set_option maxHeartbeats 2000000 in
theorem numbers_any (ax : Nat → St) (r : Rl) (w : World) : Calls Tryz.prog 76 #[agV (naxF ax) 0 21, agV (nrlF r) 0 12] w fun e w' => ∃ ao c, e = .returned (.slice ao 24 c) ∧ w'.ownsRow w.heap.size 3 1 (.slice ao 24 c) 24 (rowV (iF (gL (pck ax r))) 24) ∧ Below w.heap.size w w' := by
 refine enterF Tryz.func76 rfl 43 rfl (of_decide_eq_true rfl) (fun A hs hd hb => ?_)
 have b0 := hb 0 _ rfl
 have b1 := hb 1 _ rfl
 clear hb
 refine c_rs (m_start ?_)
 refine m_do rfl (wanted_rd rfl) (fun K hK => ?_)
 refine wp_boxG _ _ _ rfl (ev_out rfl b0) (of_decide_eq_true rfl) ?_
 intro w1 m1 k1 z1
 refine hK _ _ ?_
 clear hK K
 refine m_do rfl (wanted_rd rfl) (fun K hK => ?_)
 refine wp_boxG _ _ _ rfl (ev_out rfl b1) (of_decide_eq_true rfl) ?_
 intro w2 m2 k2 z2
 have mx2 := m1.below k2
 refine hK _ _ ?_
 clear hK K
 refine Yp ?_
 refine l_nx ?_
 refine c_rs ?_
 refine Yp ?_
 refine l_nx ?_
 refine c_nx ?_
 refine c_rs ?_
 refine Yq (run_loadP _ _ rfl manyAx (Ye rfl) mx2 (by decide)) ?_
 refine Yp ?_
 refine l_nx ?_
 refine c_block ?_
 refine c_loop (fun q a W => ∃ (x : Nat) (v : Value), x ≤ 3 ∧ 3 - x ≤ q ∧ a.tmps.size = 43 ∧ a.defers = [] ∧ a.eval (.tmp 3) = .pointer (some ⟨w1.heap.size, 0, none⟩) ∧ a.eval (.tmp 8) = agV (naxF ax) 0 21 ∧ a.eval (.tmp 9) = .int .i64 (x : Int) ∧ a.eval (.tmp 5) = v ∧ Vh 30 W w1.heap.size 12 12 (nrlF r) ∧ W.ownsRow w2.heap.size 3 1 v (7 * x) ((pkL ax x).map iV) ∧ Below w.heap.size w W ∧ w2.heap.size ≤ W.heap.size) 3 ⟨0, _, by omega, by omega, (szL _ _).trans hs, (defL _ _).trans hd, (Ye rfl), (Ye rfl), (Ye rfl), (Ye rfl), m2, World.ownsRow_nil _ _ _ _, k1.trans (k2.mono (by omega)), by omega⟩ (fun q B W hI => ?_)
 clear b0 b1 hs hd
 obtain ⟨x, v, hx, hr2, hs, hd, b3, b8, b9, b5, mr, ov, kB, hW⟩ := hI
 by_cases hin : x < 3
 ·refine c_rs (m_start ?_)
  refine Yq (run_lssI (b := true) _ _ rfl (ev_out rfl b9) (ev_const _ _) (decide_eq_true (by omega)) _) ?_
  refine l_nx ?_
  refine c_nx (c_true (Ye rfl) (c_fin ?_))
  refine c_nx (c_block ?_)
  refine c_rs ?_
  refine Yq ((run_ixVM _ _ _ _ rfl Tryz.underlying26 manySt (ev_out rfl b8) rfl (ev_out rfl b9) rfl hin _).trans (by rw [nax_part ax])) ?_
  refine m_do rfl (wanted_rd rfl) (fun K hK => ?_)
  refine wp_allocG _ _ rfl zeroSt (of_decide_eq_true rfl) ?_
  intro w11 m11 k11 z11
  have mr11 := mr.below k11
  have ov11 := rw_below ov k11
  refine hK _ _ ?_
  clear hK K
  refine m_st (wanted_rd rfl) (fun K hK => ?_)
  refine wp_storeP _ _ _ _ rfl manySt (Ye rfl) (Ye rfl) m11 (by decide) (nstF_one _) rfl ?_
  intro w12 mm12 k12 z12
  have ms12 := Vh.congr mm12 (stP_all7 _ _)
  have mr12 := mr11.kept k12 (by omega)
  have ov12 := rw_kept ov11 k12 (fun e => by have e2 := (ov.lt _ e).2; omega)
  refine hK _ ?_
  clear hK K
  refine l_nx ?_
  have hS0 : (fun Z => Vh 25 Z W.heap.size 7 7 (nstF (ax x))) w12.drew := ms12
  have mr0 : Vh _ w12.drew _ _ _ _ := mr12
  have ms0 : Vh _ w12.drew _ _ _ _ := ms12
  have ov0 := (show World.ownsRow w12.drew _ _ _ _ _ _ from ov12)
  have ez : w12.drew.heap.size = w12.heap.size := rfl
  refine c_rj (S := fun Z => Vh 25 Z W.heap.size 7 7 (nstF (ax x))) (.mv 0 (.mv 1 (.rd 2 (.mv 3 (.rd 4 (.mv 5 (.rd 6 (.mv 7 (.rd 8 (.mv 9 (.rd 10 (.mv 11 (.rd 12 (.mv 14 (.rd 15 (.go 13 (.go 16 (.go 17 (.mv 18 .fin))))))))))))))))))) [17] (by kernel_rfl) (by kernel_rfl) ?_
  refine Yj ?_
  refine Yk rfl (fun _ => fldSt0 rfl (Ye rfl) _) ?_
  refine Yr rfl hS0 (fun _ hS => run_lod1 _ _ rfl oneI (Ye rfl) hS (by decide) rfl) ?_
  refine Yk rfl (fun _ => fldSt1 rfl (Ye rfl) _) ?_
  refine Yr rfl hS0 (fun _ hS => run_lod1 _ _ rfl oneI (Ye rfl) hS (by decide) rfl) ?_
  refine Yk rfl (fun _ => fldSt2 rfl (Ye rfl) _) ?_
  refine Yr rfl hS0 (fun _ hS => run_lod1 _ _ rfl oneI (Ye rfl) hS (by decide) rfl) ?_
  refine Yk rfl (fun _ => fldSt3 rfl (Ye rfl) _) ?_
  refine Yr rfl hS0 (fun _ hS => run_lod1 _ _ rfl oneI (Ye rfl) hS (by decide) rfl) ?_
  refine Yk rfl (fun _ => fldSt4 rfl (Ye rfl) _) ?_
  refine Yr rfl hS0 (fun _ hS => run_lod1 _ _ rfl oneI (Ye rfl) hS (by decide) rfl) ?_
  refine Yk rfl (fun _ => fldSt5 rfl (Ye rfl) _) ?_
  refine Yr rfl hS0 (fun _ hS => run_lod1 _ _ rfl oneB (Ye rfl) hS (by decide) rfl) ?_
  refine Yk rfl (fun _ => fldSt6 rfl (Ye rfl) _) ?_
  refine Yr rfl hS0 (fun _ hS => run_lod1 _ _ rfl oneI (Ye rfl) hS (by decide) rfl) ?_
  refine j_do rfl rfl (wanted_rd rfl) (fun K hK => ?_)
  refine wp_call1 _ 108 _ _ rfl (Ye rfl) (enter_pbit _ _) (pbit_any (ax x).B _) ?_
  rintro e w13 ⟨rfl, k13⟩
  have n13 := k13.size
  have mr13 := mr0.below k13
  have ms13 := hS0.below k13
  have ov13 := rw_below ov0 k13
  have hS13 : (fun Z => Vh 25 Z W.heap.size 7 7 (nstF (ax x))) w13 := ms13
  refine ⟨_, rfl, ?_⟩
  refine hK _ _ (fun _ _ => hS13) ?_
  clear hK K
  refine j_do rfl rfl (wanted_rd rfl) (fun K hK => ?_)
  refine wp_row7 _ _ _ _ _ _ _ _ rfl (g := gL (axL (ax x))) (Ye rfl) (Ye rfl) (Ye rfl) (Ye rfl) (Ye rfl) (Ye rfl) (Ye rfl) ?_
  intro w14 m14 k14 z14
  have mr14 := mr13.below k14
  have ms14 := ms13.below k14
  have ov14 := rw_below ov13 k14
  have hS14 : (fun Z => Vh 25 Z W.heap.size 7 7 (nstF (ax x))) w14 := ms14
  refine hK _ _ (fun _ _ => hS14) ?_
  clear hK K
  refine j_do rfl rfl (wanted_rd rfl) (fun K hK => ?_)
  refine ⟨wp_joinI _ _ _ rfl w2.heap.size (by omega) v _ _ (Ye rfl) ov14 _ 7 7 _ (Ye rfl) (Or.inr ⟨_, rfl, fun i hi => by rw [add_at, Nat.zero_add]; exact m14.cell hi⟩) (fun i _ => rfl) (by omega) ?_⟩
  intro v15 w15 ov15 k15
  have n15 := k15.size
  have mr15 := mr14.same (k15.block _ (by omega))
  rw [← pk_next] at ov15
  refine hK _ _ (fun h => absurd h (by decide)) ?_
  clear hK K
  refine Yj ?_
  refine j_finB ?_
  refine c_region ?_
  refine Yq (run_addI _ _ rfl (ev_out rfl b9) (ev_const _ _) (by omega) (by omega) _) ?_
  refine Yp ?_
  exact l_round ⟨3 - (x + 1), by omega, x + 1, _, by omega, by omega, (szL _ _).trans hs, (defL _ _).trans hd, (ev_out rfl b3), (ev_out rfl b8), (Ye rfl).trans (by rw [Int.natCast_add]; rfl), (Ye rfl), mr15, ov15, (((below_drew (below_of_kept (kB.trans (k11.mono (by omega))) k12 (by omega) (by omega))).trans (k13.mono (by omega))).trans (k14.mono (by omega))).trans (k15.mono (by omega)), by omega⟩
 ·refine c_rs (m_start ?_)
  refine Yq (run_lssI (b := false) _ _ rfl (ev_out rfl b9) (ev_const _ _) (decide_eq_false (by omega)) _) ?_
  obtain rfl : x = 3 := by omega
  refine l_nx ?_
  refine c_nx (c_false (Ye rfl) (c_exit (x_out ?_)))
  refine c_nx ?_
  have hS0 : (fun Z => Vh 30 Z w1.heap.size 12 12 (nrlF r)) W.drew := mr
  have mr0 : Vh _ W.drew _ _ _ _ := mr
  have ov0 := (show World.ownsRow W.drew _ _ _ _ _ _ from ov)
  have ez : W.drew.heap.size = W.heap.size := rfl
  refine c_rj (S := fun Z => Vh 30 Z w1.heap.size 12 12 (nrlF r)) (.mv 0 (.mv 1 (.mv 2 (.mv 4 (.mv 5 (.mv 7 (.mv 8 (.go 3 (.go 6 (.go 9 (.go 10 (.go 11 (.mv 12 .fin))))))))))))) [] (by kernel_rfl) (by kernel_rfl) ?_
  refine Yj ?_
  refine Yk rfl (fun _ => fldRl0 rfl (ev_out rfl b3) _) ?_
  refine Yk rfl (fun _ => run_cutB4 _ rfl (Ye rfl) _) ?_
  refine Yk rfl (fun _ => fldRl1 rfl (ev_out rfl b3) _) ?_
  refine Yk rfl (fun _ => run_cut4 _ rfl (Ye rfl) _) ?_
  refine Yk rfl (fun _ => fldRl2 rfl (ev_out rfl b3) _) ?_
  refine Yk rfl (fun _ => run_cut4 _ rfl (Ye rfl) _) ?_
  refine j_do rfl rfl (wanted_rd rfl) (fun K hK => ?_)
  refine wp_call1 _ 109 _ _ rfl (Ye rfl) (enter_psetNumber _ _) (setNumber_any _ (0 + 0) 12 12 _ _ r.I _ hS0 (by decide) (fun i hi => nrl_in r hi)) ?_
  rintro e w11 ⟨rfl, k11⟩
  have n11 := k11.size
  have mr11 := hS0.below k11
  have ov11 := rw_below ov0 k11
  have hS11 : (fun Z => Vh 30 Z w1.heap.size 12 12 (nrlF r)) w11 := mr11
  refine ⟨_, rfl, ?_⟩
  refine hK _ _ (fun _ _ => hS11) ?_
  clear hK K
  refine j_do rfl rfl (wanted_rd rfl) (fun K hK => ?_)
  refine wp_call1 _ 110 _ _ rfl (Ye rfl) (enter_pcountNumber _ _) (countNumber_any _ (0 + 4) 12 12 _ _ r.M _ mr11 (by decide) (fun i hi => nrl_mi r hi)) ?_
  rintro e w12 ⟨rfl, k12⟩
  have n12 := k12.size
  have mr12 := mr11.below k12
  have ov12 := rw_below ov11 k12
  have hS12 : (fun Z => Vh 30 Z w1.heap.size 12 12 (nrlF r)) w12 := mr12
  refine ⟨_, rfl, ?_⟩
  refine hK _ _ (fun _ _ => hS12) ?_
  clear hK K
  refine j_do rfl rfl (wanted_rd rfl) (fun K hK => ?_)
  refine wp_call1 _ 110 _ _ rfl (Ye rfl) (enter_pcountNumber _ _) (countNumber_any _ (0 + 8) 12 12 _ _ r.J _ mr12 (by decide) (fun i hi => nrl_jo r hi)) ?_
  rintro e w13 ⟨rfl, k13⟩
  have n13 := k13.size
  have mr13 := mr12.below k13
  have ov13 := rw_below ov12 k13
  have hS13 : (fun Z => Vh 30 Z w1.heap.size 12 12 (nrlF r)) w13 := mr13
  refine ⟨_, rfl, ?_⟩
  refine hK _ _ (fun _ _ => hS13) ?_
  clear hK K
  refine j_do rfl rfl (wanted_rd rfl) (fun K hK => ?_)
  refine wp_row3 _ _ _ _ rfl (g := gL [inN r.I, ctN8 r.M 4, ctN8 r.J 4]) (Ye rfl) (Ye rfl) (Ye rfl) ?_
  intro w14 m14 k14 z14
  have mr14 := mr13.below k14
  have ov14 := rw_below ov13 k14
  have hS14 : (fun Z => Vh 30 Z w1.heap.size 12 12 (nrlF r)) w14 := mr14
  refine hK _ _ (fun _ _ => hS14) ?_
  clear hK K
  refine j_do rfl rfl (wanted_rd rfl) (fun K hK => ?_)
  refine ⟨wp_joinI _ _ _ rfl w2.heap.size (by omega) v _ _ (Ye rfl) ov14 _ 3 3 _ (Ye rfl) (Or.inr ⟨_, rfl, fun i hi => by rw [add_at, Nat.zero_add]; exact m14.cell hi⟩) (fun i _ => rfl) (by omega) ?_⟩
  intro v15 w15 ov15 k15
  have n15 := k15.size
  have mr15 := mr14.same (k15.block _ (by omega))
  have hS15 : (fun Z => Vh 30 Z w1.heap.size 12 12 (nrlF r)) w15 := mr15
  rw [← pk_allS] at ov15
  obtain ⟨a2, c2, rfl, hc2⟩ := rw_slice ov15
  refine hK _ _ (fun _ _ => hS15) ?_
  clear hK K
  refine Yj ?_
  refine j_nx ?_
  refine c_ret (ret_of ((defL _ _).trans hd) (res_t rfl (Ye rfl)) ⟨a2, c2, rfl, ?_, (((((below_drew kB).trans (k11.mono (by omega))).trans (k12.mono (by omega))).trans (k13.mono (by omega))).trans (k14.mono (by omega))).trans (k15.mono (by omega))⟩)
  rw [gL_map] at ov15
  exact rw_base ov15 (by omega)
end Go.Proofs.YtdhblehhgpdpdaaGreat
namespace Go.Proofs.YtdhblehhgpdpdaaGreat
open Go.RowKit
def DeOK (fn : Nat) : Prop := ∀ (a b c : Int) (w : World), R64 a → R64 b → R64 c →
 Calls Tryz.prog fn #[.int .i64 a, .int .i64 b, .int .i64 c] w fun e w' => e = .returned (.int .i64 (dc3 a b c)) ∧ Below w.heap.size w w'
end Go.Proofs.YtdhblehhgpdpdaaGreat
namespace Go.Proofs.YtdhblehhgpdpdaaGreat
open Go.RowKit
theorem ce_next (f : Nat → Int) (n : Nat) (v : Int) : ce f (n + 1) v = ce f n v + if f n = v then 1 else 0 := by
 show cn _ n + (if decide (f n = v) = true then 1 else 0) = _
 by_cases h : f n = v
 ·rw [if_pos (decide_eq_true h), if_pos h]; rfl
 ·rw [if_neg (by rw [decide_eq_false h]; decide), if_neg h]; rfl
end Go.Proofs.YtdhblehhgpdpdaaGreat
namespace Go.Proofs.YtdhblehhgpdpdaaGreat
open Go.RowKit
theorem tld_some {n : Nd} {L : List Lm} {i k many : Nat} {c : Lm} (h : fL n.id n.fr L (i : Int) 2 (many : Int) = some c) : tldN n (L.map Lm.m) i k many = gL c.m.L k := by
 have := fL_frst n L i 2 many
 rw [h] at this
 unfold tldN
 rw [← this]
 rfl
theorem tld_none {n : Nd} {L : List Lm} {i k many : Nat} (h : fL n.id n.fr L (i : Int) 2 (many : Int) = none) : tldN n (L.map Lm.m) i k many = 0 := by
 have := fL_frst n L i 2 many
 rw [h] at this
 unfold tldN
 rw [← this]
 rfl
end Go.Proofs.YtdhblehhgpdpdaaGreat
