/- Joined: NodCpy, Call4, NodPr7, AgrOK, RefAgr1, RefNod5. -/
import Derived.Test.YtngmeaaglogieabGreatNear79
import Derived.Laws.IdiomCopy
import Derived.Test.YtngmeaaglogieabGreatNear65
import Derived.Test.YtngmeaaglogieabGreatNodPr4
import Derived.Test.YtngmeaaglogieabGreatNear81
import Derived.Test.YtngmeaaglogieabGreatNear49
import Derived.Test.YtngmeaaglogieabGreatNear78
import Derived.Test.YtngmeaaglogieabGreatNear51
import Derived.Test.YtngmeaaglogieabGreatNear72
namespace Go.Proofs.YtngmeaaglogieabGreat
open Go.RowKit

theorem sizeI1 : (Tryz.prog.info? 3).map (·.size) = some 1 := by kernel_rfl
theorem wp_copyP (w : World) {o : Oper} {a : Act} {K : Act → World → Prop} {Q : Exit → Act → World → Prop} (d s : Operand)
    (ho : o.op = .call { callee := .builtin .copy, args := #[d, s], argTypes := #[39, 39] }) {b k m N cap cv l : Nat} {t : TypeId} {g f : Nat → Value} {y : Addr} (hd : a.eval d = .slice (some ⟨b, k, none⟩) m m) (hv : Vh t w b N cap g) (hn : k + m ≤ N)
    (hs : a.eval s = .slice (some y) l cv) (hl : l = m) (hc : ∀ i, i < m → w.cell? (y.add i) = some (f i)) (h1 : ∀ i, i < m → (f i).oneCell' = true)
    (h : ∀ w', Vh t w' b N cap (stP g k m f) → Kept b w w' → w'.heap.size = w.heap.size → K (a.put o.dst (goInt m)) w') : WpI Tryz.prog o a w K Q := by
  subst hl
  obtain ⟨w', e, hv', hk, hz⟩ := run_storeCellsP (P := Tryz.prog) b k t N cap f l 0 g w hv (by omega) (fun j hj => by rw [Nat.zero_add]; exact h1 j hj)
  have hh := h w' (hv'.congr (fun j _ => by rw [Nat.add_zero]; congr 1; funext i; rw [Nat.zero_add])) hk hz
  have hld := run_loadCells (P := Tryz.prog) w y l f hc
  have e2 : (storeCells ⟨b, k, none⟩ ((List.range l).map f)).run Tryz.prog w = .ok () w' := by
    refine Eq.trans ?_ e
    congr 2
    refine List.map_congr_left (fun j _ => ?_)
    rw [Nat.zero_add]
  have hrun : (Builtin.copy_ #[39, 39] o.type #[.slice (some ⟨b, k, none⟩) l l, .slice (some y) l cv]).run Tryz.prog w = .ok (goInt l) w' := by
    simp only [Builtin.copy_, run_underlying Tryz.underlying39, Builtin.lenOf, Builtin.firstCells, Nat.min_self, Sem.run_bind, Sem.run_pure, Result.andThen_ok, oneI.size, Nat.mul_one, hld, e2, List.getElem?_toArray, List.getElem?_cons_zero, List.getElem?_cons_succ]
  refine ⟨?_⟩
  unfold Oper.wp execOp
  simp only [ho, resolve, invoke, builtin, Sem.run_bind, Sem.run_pure, Result.andThen_ok, List.map_toArray, List.map_cons, List.map_nil, hd, hs, hrun]
  exact hh
theorem wp_copy0 (w : World) {o : Oper} {a : Act} {K : Act → World → Prop} {Q : Exit → Act → World → Prop} (d s : Operand)
    (ho : o.op = .call { callee := .builtin .copy, args := #[d, s], argTypes := #[39, 39] }) {ad : Option Addr} {m c : Nat} (hd : a.eval d = .slice ad m c) (hs : a.eval s = .slice none 0 0) (h : K (a.put o.dst (goInt 0)) w) : WpI Tryz.prog o a w K Q := by
  have hrun := run_copy_none (P := Tryz.prog) w 39 39 o.type 3 ad none m c 0 0 Tryz.underlying39 sizeI1 (by simp)
  refine ⟨?_⟩
  unfold Oper.wp execOp
  simp only [ho, resolve, invoke, builtin, Sem.run_bind, Sem.run_pure, Result.andThen_ok, List.map_toArray, List.map_cons, List.map_nil, hd, hs, hrun]
  exact h

end Go.Proofs.YtngmeaaglogieabGreat

namespace Go.Proofs.YtngmeaaglogieabGreat
open Go

theorem wp_call4n (w : World) {P : Program} {Q : Exit → Act → World → Prop} {o : Oper} {a : Act} {K : Act → World → Prop} (n : Nat) (x y z u : Operand) (T : Array TypeId) (ho : o.op = .call { callee := .value (.func n), args := #[x, y, z, u], argTypes := T }) {p q r s : Value} (hx : a.eval x = p) (hy : a.eval y = q) (hz : a.eval z = r) (hu : a.eval u = s) (hf : (callFunc n #[p, q, r, s]).run P w = .ok (.enter n #[p, q, r, s]) w) {R : Ending → World → Prop} (hc : Calls P n #[p, q, r, s] w R)
    (h : ∀ e w', R e w' → ∃ r, e = .returned r ∧ K (a.put o.dst r) w') : WpI P o a w K Q := by
  refine ⟨?_⟩
  have e : (execOp a.eval o).run P w = .ok (.enter n #[p, q, r, s]) w := by
    unfold execOp
    rw [ho]
    have hv2 : a.eval (Operand.func n) = .func (.func n) #[] #[] := rfl
    simp only [resolve, invoke, Sem.run_bind, List.map_toArray, List.map_cons, List.map_nil, hx, hy, hz, hu, hv2]
    go_simp
  unfold Oper.wp
  rw [e, Oper.upon_enter]
  refine hc.mono ?_
  intro e w' hr
  obtain ⟨r, rfl, hk⟩ := h e w' hr
  exact hk

end Go.Proofs.YtngmeaaglogieabGreat

namespace Go.Proofs.YtngmeaaglogieabGreat
open Go.RowKit

/-- A row of one's own, read. -/
theorem rw_sr {w : World} {B n c : Nat} {a : Option Addr} {g : Nat → Value} {t : TypeId} (h : w.ownsRow B t 1 (.slice a n c) n (rowV g n)) : Sr w a n c g := by
  obtain ⟨ao, cap, e, hs, _⟩ := owns_sr h
  cases e
  exact hs
set_option maxHeartbeats 2000000 in
theorem nodeRelay_ok : PhOK relN relM 5 := by
  intro n ao c mo mc L w hok hag hmr hN hmc hRL
  have hag : Sr w ao n.vA.length c (tF (bA n)) := hag
  refine enterF Tryz.func5 rfl 36 rfl (of_decide_eq_true rfl) (fun A hs hd hb => ?_)
  have b0 : A.eval (.tmp 0) = ndV n (.slice ao n.vA.length c) := hb 0 _ rfl
  have b1 : A.eval (.tmp 1) = .slice mo L.length mc := hb 1 _ rfl
  clear hb
  refine c_rs (m_start ?_)
  refine m_do rfl (wanted_rd rfl) (fun K hK => ?_)
  refine wp_boxG _ _ _ rfl (ev_out rfl b0) (of_decide_eq_true rfl) ?_
  intro w1 m1 k1 z1
  have sr1 := hag.below k1
  refine hK _ _ ?_
  clear hK K
  refine m_do rfl (wanted_rd rfl) (fun K hK => ?_)
  refine wp_allocG _ _ rfl zeroNd (of_decide_eq_true rfl) ?_
  intro w2 m2 k2 z2
  have mn2 := m1.below k2
  have sr2 := sr1.below k2
  refine hK _ _ ?_
  clear hK K
  refine m_do rfl (wanted_rd rfl) (fun K hK => ?_)
  refine wp_allocG _ _ rfl zeroMs (of_decide_eq_true rfl) ?_
  intro w3 m3 k3 z3
  have mn3 := mn2.below k3
  have mr3 := m2.below k3
  have sr3 := sr2.below k3
  refine hK _ _ ?_
  clear hK K
  refine l_nx ?_
  refine c_rs ?_
  refine m_mv rfl (wanted_rd rfl) (run_loadP _ _ rfl manyNd (ev_in rfl (by omega)) mn3 (by decide)) ?_
  refine m_do rfl (wanted_rd rfl) (fun K hK => ?_)
  refine wp_call1 _ 13 _ _ rfl (ev_in rfl (by omega)) (enter_pown _ _) (own_any n ao c _ sr3 hok.vA) ?_
  rintro e w4 ⟨a3, c3, rfl, o4, k4⟩
  have n4 := k4.size
  have mn4 := mn3.below k4
  have mr4 := mr3.below k4
  have mq4 := m3.below k4
  refine ⟨_, rfl, ?_⟩
  refine hK _ _ ?_
  clear hK K
  refine m_st (wanted_rd rfl) (fun K hK => ?_)
  refine wp_storeP _ _ _ _ rfl manyNd (ev_in rfl (by omega)) (ev_in rfl (by omega)) mn4 (by decide) (ndF_one _ _ _ _) rfl ?_
  intro w5 mm5 k5 z5
  have mn5 := Vh.congr mm5 (stP_all _ _)
  have mr5 := mr4.kept k5 (by omega)
  have mq5 := mq4.kept k5 (by omega)
  have ow5 := rw_kept o4 k5 (fun e => by have e1 := (o4.lt _ e).1; have e2 := (o4.lt _ e).2; omega)
  refine hK _ ?_
  clear hK K
  refine l_nx ?_
  refine c_nx ?_
  refine c_rs ?_
  refine m_mv rfl (wanted_rd rfl) (fldNd0 rfl (ev_in rfl (by omega)) _) ?_
  refine m_mv rfl (wanted_rd rfl) (run_lod1 _ _ rfl oneI (ev_in rfl (by omega)) mn5 (by decide) rfl) ?_
  refine m_do rfl (wanted_rd rfl) (fun K hK => ?_)
  refine wp_call1 _ 14 _ _ rfl (ev_in rfl (by omega)) (enter_pisNode _ _) (isNode_any n.id _) ?_
  rintro e w6 ⟨rfl, k6⟩
  have n6 := k6.size
  have mn6 := mn5.below k6
  have mr6 := mr5.below k6
  have mq6 := mq5.below k6
  have ow6 := rw_below ow5 k6
  refine ⟨_, rfl, ?_⟩
  refine hK _ _ ?_
  clear hK K
  refine m_mv rfl (wanted_rd rfl) (run_notB _ _ rfl (ev_in rfl (by omega)) _) ?_
  refine l_nx ?_
  have kA : Below w.heap.size w w6 := (below_of_kept ((((k1).trans (k2.mono (by omega))).trans (k3.mono (by omega))).trans (k4.mono (by omega))) k5 (by omega) (by omega)).trans (k6.mono (by omega))
  refine c_cond (t := noN n.id) ((ev_in rfl (by omega)).trans (by rw [Bool.not_not])) (fun hno => ?_) (fun hno => ?_)
  · refine c_rs ?_
    refine m_mv rfl (wanted_rd rfl) (run_loadP _ _ rfl manyNd (ev_in rfl (by omega)) mn6 (by decide)) ?_
    refine m_mv rfl (wanted_rd rfl) (run_bld0 rfl _) ?_
    refine m_st (wanted_rd rfl) (fun K hK => ?_)
    refine wp_storeP _ _ _ _ rfl manyNd (ev_in rfl (by omega)) (ev_in rfl (by omega)) mr6 (by decide) (ndF_one _ _ _ _) rfl ?_
    intro w7 mm7 k7 z7
    have mr7 := Vh.congr mm7 (stP_all _ _)
    have mn7 := mn6.kept k7 (by omega)
    have mq7 := mq6.kept k7 (by omega)
    have ow7 := rw_kept ow6 k7 (fun e => by have e1 := (o4.lt _ e).1; have e2 := (o4.lt _ e).2; omega)
    refine hK _ ?_
    clear hK K
    refine m_st (wanted_rd rfl) (fun K hK => ?_)
    refine wp_storeP _ _ _ _ rfl manyMs (ev_in rfl (by omega)) (ev_in rfl (by omega)) mq7 (by decide) (msF_one _ _ _ _ _ _) rfl ?_
    intro w8 mm8 k8 z8
    have mq8 := Vh.congr mm8 (stP_all4 _ _)
    have mn8 := mn7.kept k8 (by omega)
    have mr8 := mr7.kept k8 (by omega)
    have ow8 := rw_kept ow7 k8 (fun e => by have e1 := (o4.lt _ e).1; have e2 := (o4.lt _ e).2; omega)
    refine hK _ ?_
    clear hK K
    refine l_nx ?_
    refine c_ret ?_
    simp only [Nx, Exit.then]
    have e1 : relN n (L.map Lm.m) = n := by unfold relN; rw [if_pos hno]
    have e2 : relM n (L.map Lm.m) = zeroM := by unfold relM; rw [if_pos hno]
    rw [e1, e2]
    refine ret_of ((defL _ _).trans hd) (res_cc rfl (ev_in rfl (by omega)) (ev_in rfl (by omega)) manyNd manyMs mr8 (Nat.le_refl _) mq8 (Nat.le_refl _)) ⟨a3, c3, none, 0, rfl, rw_base ow8 (by omega), World.ownsRow_nil _ _ _ _, below_of_kept (below_of_kept kA k7 (by omega) (by omega)) k8 (by omega) (by omega)⟩
  · obtain ⟨h0, h3⟩ := noN_in hno
    refine c_fin ?_
    refine c_nx ?_
    refine c_rs ?_
    refine m_mv rfl (wanted_rd rfl) (run_loadP _ _ rfl manyNd (ev_in rfl (by omega)) mn6 (by decide)) ?_
    refine m_mv rfl (wanted_rd rfl) (run_move _ rfl (ev_out rfl b1) _) ?_
    refine m_do rfl (wanted_rd rfl) (fun K hK => ?_)
    refine wp_call4n _ 15 _ _ _ _ _ rfl (ev_in rfl (by omega)) (ev_in rfl (by omega)) (ev_const _ _) (ev_const _ _) (enter_phear _ _ _ _ _) (hear_any n _ mo mc L 1 3 _ (hmr.below kA) hN (by decide)) ?_
    rintro e w7 ⟨rfl, k7⟩
    have n7 := k7.size
    have mn7 := mn6.below k7
    have mr7 := mr6.below k7
    have mq7 := mq6.below k7
    have ow7 := rw_below ow6 k7
    refine ⟨_, rfl, ?_⟩
    refine hK _ _ ?_
    clear hK K
    refine m_mv rfl (wanted_rd rfl) (run_move _ rfl (ev_const _ _) _) ?_
    refine l_nx ?_
    refine c_block ?_
    refine c_loop (fun r a W => ∃ i : Nat, i ≤ 4 ∧ 4 - i ≤ r ∧ a.tmps.size = 36 ∧ a.defers = [] ∧ a.eval (.tmp 2) = .pointer (some ⟨w.heap.size, 0, none⟩) ∧ a.eval (.tmp 4) = .pointer (some ⟨w1.heap.size, 0, none⟩) ∧ a.eval (.tmp 5) = .pointer (some ⟨w2.heap.size, 0, none⟩) ∧ a.eval (.tmp 18) = agV (hrO n.id n.fr L 1 3) 0 4 ∧ a.eval (.tmp 19) = .int .i64 (i : Int) ∧ Vh 37 W w.heap.size 74 74 (ndF { n with di := relI n (L.map Lm.m) i } (.slice a3 n.vA.length c3)) ∧ Vh 37 W w1.heap.size 74 74 (ndF zeroN (.slice none 0 0)) ∧ Vh 41 W w2.heap.size 4 4 (msF 0 0 0 (.slice none 0 0)) ∧ W.ownsRow w3.heap.size 4 1 (.slice a3 n.vA.length c3) n.vA.length (rowV (tF (bA n)) n.vA.length) ∧ Below w.heap.size w W ∧ w7.heap.size ≤ W.heap.size) 4 ⟨0, by omega, by omega, (szL _ _).trans hs, (defL _ _).trans hd, (ev_in rfl (by omega)), (ev_in rfl (by omega)), (ev_in rfl (by omega)), (ev_in rfl (by omega)), (ev_in rfl (by omega)), mn7, mr7, mq7, ow7, kA.trans (k7.mono (by omega)), by omega⟩ (fun r B W hI => ?_)
    clear b0 b1 hs hd
    obtain ⟨i, hi, hr2, hs, hd, b2, b4, b5, b18, b19, mn, mr, mq, ow, kB, hW⟩ := hI
    by_cases hin : i < 4
    · have hi4 : i < 4 := hin
      rcases hfl : fL n.id n.fr L (i : Int) 1 3 with _ | cm
      · have hho : hrO n.id n.fr L 1 3 i = .slice none 0 0 := by unfold hrO; rw [hfl]
        refine c_rs (m_start ?_)
        refine m_mv rfl (wanted_rd rfl) (run_lssI (b := true) _ _ rfl (ev_out rfl b19) (ev_const _ _) (decide_eq_true (by omega)) _) ?_
        refine l_nx ?_
        refine c_nx (c_true (ev_in rfl (by omega)) (c_fin ?_))
        refine c_nx (c_block ?_)
        refine c_rs ?_
        refine m_mv rfl (wanted_rd rfl) (run_move _ rfl (ev_out rfl b19) _) ?_
        refine m_mv rfl (wanted_rd rfl) ((run_ixV1 _ _ _ _ rfl Tryz.underlying59 oneIs (ev_out rfl b18) (ev_out rfl b19) rfl hi4 _).trans (by rw [hho])) ?_
        refine m_mv rfl (wanted_rd rfl) (run_assign _ rfl (ev_in rfl (by omega)) _) ?_
        refine m_mv rfl (wanted_rd rfl) (run_assign _ rfl (ev_in rfl (by omega)) _) ?_
        refine l_nx ?_
        refine c_region ?_
        refine m_mv rfl (wanted_rd rfl) (run_move _ rfl (ev_in rfl (by omega)) _) ?_
        refine m_mv rfl (wanted_rd rfl) (fldNd5 rfl (ev_out rfl b2) _) ?_
        refine m_mv rfl (wanted_rd rfl) (run_ixG _ _ _ _ rfl Tryz.underlying32 many3.size (ev_in rfl (by omega)) (ev_in rfl (by omega)) rfl hi4 _) ?_
        refine m_mv rfl (wanted_rd rfl) (run_cutI3 _ rfl (ev_in rfl (by omega)) _) ?_
        refine m_mv rfl (wanted_rd rfl) (run_move _ rfl (ev_in rfl (by omega)) _) ?_
        refine m_do rfl (wanted_rd rfl) (fun K hK => ?_)
        refine wp_copy0 _ _ _ rfl (ev_in rfl (by omega)) (ev_in rfl (by omega)) ?_
        refine hK _ _ ?_
        clear hK K
        refine l_finB ?_
        refine c_region ?_
        refine m_mv rfl (wanted_rd rfl) (run_addI _ _ rfl (ev_out rfl b19) (ev_const _ _) (by omega) (by omega) _) ?_
        refine m_mv rfl (wanted_rd rfl) (run_move _ rfl (ev_in rfl (by omega)) _) ?_
        have en := rel_none (n := n) hfl
        exact l_round ⟨4 - (i + 1), by omega, i + 1, by omega, by omega, (szL _ _).trans hs, (defL _ _).trans hd, (ev_out rfl b2), (ev_out rfl b4), (ev_out rfl b5), (ev_out rfl b18), (ev_in rfl (by omega)).trans (by rw [Int.natCast_add]; rfl), by rw [← en]; exact mn, mr, mq, ow, kB, by omega⟩
      · have hho0 : hrO n.id n.fr L 1 3 i = lmV cm := by unfold hrO; rw [hfl]
        obtain ⟨cmem, cfit⟩ := fL_mem hfl
        have clen := fit_len cfit
        obtain ⟨ca, cmy, hy⟩ : ∃ y, cm.ao = some y ∧ ∀ W', Below w.heap.size w W' → ∀ i, i < cm.m.L.length → W'.cell? (y.add i) = some (.int .i64 (gL cm.m.L i)) := by
          obtain ⟨y, e, _⟩ := (hmr.2 cm cmem).at (by omega)
          refine ⟨y, e, fun W' k => ?_⟩
          obtain ⟨y', e', hy'⟩ := ((hmr.2 cm cmem).below k).at (by omega)
          rw [e] at e'; cases e'
          exact hy'
        obtain ⟨mm, mo2, mc2⟩ := cm
        dsimp only at cmy hy clen
        subst cmy
        have hho : hrO n.id n.fr L 1 3 i = .slice (some ca) mm.L.length mc2 := hho0
        refine c_rs (m_start ?_)
        refine m_mv rfl (wanted_rd rfl) (run_lssI (b := true) _ _ rfl (ev_out rfl b19) (ev_const _ _) (decide_eq_true (by omega)) _) ?_
        refine l_nx ?_
        refine c_nx (c_true (ev_in rfl (by omega)) (c_fin ?_))
        refine c_nx (c_block ?_)
        refine c_rs ?_
        refine m_mv rfl (wanted_rd rfl) (run_move _ rfl (ev_out rfl b19) _) ?_
        refine m_mv rfl (wanted_rd rfl) ((run_ixV1 _ _ _ _ rfl Tryz.underlying59 oneIs (ev_out rfl b18) (ev_out rfl b19) rfl hi4 _).trans (by rw [hho])) ?_
        refine m_mv rfl (wanted_rd rfl) (run_assign _ rfl (ev_in rfl (by omega)) _) ?_
        refine m_mv rfl (wanted_rd rfl) (run_assign _ rfl (ev_in rfl (by omega)) _) ?_
        refine l_nx ?_
        refine c_region ?_
        refine m_mv rfl (wanted_rd rfl) (run_move _ rfl (ev_in rfl (by omega)) _) ?_
        refine m_mv rfl (wanted_rd rfl) (fldNd5 rfl (ev_out rfl b2) _) ?_
        refine m_mv rfl (wanted_rd rfl) (run_ixG _ _ _ _ rfl Tryz.underlying32 many3.size (ev_in rfl (by omega)) (ev_in rfl (by omega)) rfl hi4 _) ?_
        refine m_mv rfl (wanted_rd rfl) (run_cutI3 _ rfl (ev_in rfl (by omega)) _) ?_
        refine m_mv rfl (wanted_rd rfl) (run_move _ rfl (ev_in rfl (by omega)) _) ?_
        refine m_do rfl (wanted_rd rfl) (fun K hK => ?_)
        refine wp_copyP _ _ _ rfl (f := fun a => iV (gL mm.L a)) (ev_in rfl (by omega)) mn (by omega) (ev_in rfl (by omega)) (by omega) (fun a ha => hy _ kB a (by omega)) (fun _ _ => rfl) ?_
        intro w8 mm8 k8 z8
        have mn8 := Vh.congr mm8 (upd_drAt _ _ _ i hi4)
        have mr8 := mr.kept k8 (by omega)
        have mq8 := mq.kept k8 (by omega)
        have ow8 := rw_kept ow k8 (fun e => by have e1 := (o4.lt _ e).1; have e2 := (o4.lt _ e).2; omega)
        refine hK _ _ ?_
        clear hK K
        refine l_finB ?_
        refine c_region ?_
        refine m_mv rfl (wanted_rd rfl) (run_addI _ _ rfl (ev_out rfl b19) (ev_const _ _) (by omega) (by omega) _) ?_
        refine m_mv rfl (wanted_rd rfl) (run_move _ rfl (ev_in rfl (by omega)) _) ?_
        have en := rel_some (n := n) hfl
        exact l_round ⟨4 - (i + 1), by omega, i + 1, by omega, by omega, (szL _ _).trans hs, (defL _ _).trans hd, (ev_out rfl b2), (ev_out rfl b4), (ev_out rfl b5), (ev_out rfl b18), (ev_in rfl (by omega)).trans (by rw [Int.natCast_add]; rfl), by rw [← en]; exact mn8, mr8, mq8, ow8, below_of_kept kB k8 (by omega) (by omega), by omega⟩
    · refine c_rs (m_start ?_)
      refine m_mv rfl (wanted_rd rfl) (run_lssI (b := false) _ _ rfl (ev_out rfl b19) (ev_const _ _) (decide_eq_false (by omega)) _) ?_
      obtain rfl : i = 4 := by omega
      refine l_nx ?_
      refine c_nx (c_false (ev_in rfl (by omega)) (c_exit (x_out ?_)))
      refine c_nx ?_
      rw [ndF_diC (rel_four n (L.map Lm.m))] at mn
      have hS0 : (fun W => Vh 37 W w.heap.size 74 74 (ndF { n with di := relD n (L.map Lm.m) } (.slice a3 n.vA.length c3))) W.drew := mn
      have mn0 : Vh _ W.drew _ _ _ _ := mn
      have mr0 : Vh _ W.drew _ _ _ _ := mr
      have mq0 : Vh _ W.drew _ _ _ _ := mq
      have ow0 := (show World.ownsRow W.drew _ _ _ _ _ _ from ow)
      have ez : W.drew.heap.size = W.heap.size := rfl
      refine c_rj (S := fun W => Vh 37 W w.heap.size 74 74 (ndF { n with di := relD n (L.map Lm.m) } (.slice a3 n.vA.length c3))) (.rd 0 (.rd 1 (.mv 2 (.mv 3 (.go 4 (.go 5 (.go 6 (.go 7 .fin)))))))) [] (by kernel_rfl) (by kernel_rfl) ?_
      refine j_rd rfl rfl (fun _ _ _ h => h) (wanted_rd rfl) hS0 (fun _ hS => run_loadP _ _ rfl manyNd (ev_out rfl b2) hS (by decide)) ?_
      refine j_rd rfl rfl (fun _ _ _ h => h) (wanted_rd rfl) hS0 (fun _ hS => run_loadP _ _ rfl manyNd (ev_out rfl b2) hS (by decide)) ?_
      refine j_mv rfl rfl (fun _ _ _ h => h) (wanted_rd rfl) (fun _ => fldNd5 rfl (ev_out rfl b2) _) ?_
      refine j_mv rfl rfl (fun _ _ _ h => h) (wanted_rd rfl) (fun _ => run_cut43 _ rfl (ev_in rfl (by omega)) _) ?_
      refine j_do rfl rfl (wanted_rd rfl) (fun K hK => ?_)
      refine wp_call1 _ 17 _ _ rfl (ev_in rfl (by omega)) (enter_pflat _ _) (flat_any _ (0 + 39) 74 74 _ _ (relD n (L.map Lm.m)) _ hS0 (by omega) (fun i k hi hk => by have := ndF_di { n with di := relD n (L.map Lm.m) } (.slice a3 n.vA.length c3) hi hk; rw [Nat.mul_one] at this; exact this)) ?_
      rintro e w8 ⟨fa, fc, rfl, of8, k8⟩
      have n8 := k8.size
      have mn8 := hS0.below k8
      have mr8 := mr0.below k8
      have mq8 := mq0.below k8
      have ow8 := rw_below ow0 k8
      have hS8 : (fun W => Vh 37 W w.heap.size 74 74 (ndF { n with di := relD n (L.map Lm.m) } (.slice a3 n.vA.length c3))) w8 := mn8
      have srf := rw_sr of8
      refine ⟨_, rfl, ?_⟩
      refine hK _ _ (fun _ _ => hS8) ?_
      clear hK K
      refine j_do rfl rfl (wanted_rd rfl) (fun K hK => ?_)
      refine wp_call3n _ 16 _ _ _ _ rfl (ev_in rfl (by omega)) (ev_const _ _) (ev_in rfl (by omega)) (enter_ptell _ _ _ _) (tell_any { n with di := relD n (L.map Lm.m) } (.slice a3 n.vA.length c3) 2 _ 12 _ _ _ srf (by decide)) ?_
      rintro e w9 ⟨a2, c2, rfl, ov9, k9⟩
      have n9 := k9.size
      have mn9 := mn8.below k9
      have mr9 := mr8.below k9
      have mq9 := mq8.below k9
      have ow9 := rw_below ow8 k9
      have hS9 : (fun W => Vh 37 W w.heap.size 74 74 (ndF { n with di := relD n (L.map Lm.m) } (.slice a3 n.vA.length c3))) w9 := mn9
      refine ⟨_, rfl, ?_⟩
      refine hK _ _ (fun _ _ => hS9) ?_
      clear hK K
      refine j_st rfl (wanted_rd rfl) (fun K hK => ?_)
      refine wp_storeP _ _ _ _ rfl manyNd (ev_out rfl b4) (ev_in rfl (by omega)) mr9 (by decide) (ndF_one _ _ _ _) rfl ?_
      intro w10 mm10 k10 z10
      have mr10 := Vh.congr mm10 (stP_all _ _)
      have mn10 := mn9.kept k10 (by omega)
      have mq10 := mq9.kept k10 (by omega)
      have ow10 := rw_kept ow9 k10 (fun e => by have e1 := (o4.lt _ e).1; have e2 := (o4.lt _ e).2; omega)
      have ov10 := rw_under ov9 k10 (by omega)
      have hS10 : (fun W => Vh 37 W w.heap.size 74 74 (ndF { n with di := relD n (L.map Lm.m) } (.slice a3 n.vA.length c3))) w10 := mn10
      refine hK _ (fun _ _ => hS10) ?_
      clear hK K
      refine j_st rfl (wanted_rd rfl) (fun K hK => ?_)
      refine wp_storeP _ _ _ _ rfl manyMs (ev_out rfl b5) (ev_in rfl (by omega)) mq10 (by decide) (msF_one _ _ _ _ _ _) rfl ?_
      intro w11 mm11 k11 z11
      have mq11 := Vh.congr mm11 (stP_all4 _ _)
      have mn11 := mn10.kept k11 (by omega)
      have mr11 := mr10.kept k11 (by omega)
      have ow11 := rw_kept ow10 k11 (fun e => by have e1 := (o4.lt _ e).1; have e2 := (o4.lt _ e).2; omega)
      have ov11 := rw_under ov10 k11 (by omega)
      have hS11 : (fun W => Vh 37 W w.heap.size 74 74 (ndF { n with di := relD n (L.map Lm.m) } (.slice a3 n.vA.length c3))) w11 := mn11
      refine hK _ (fun _ _ => hS11) ?_
      clear hK K
      refine j_nx ?_
      refine c_ret ?_
      have e1 : relN n (L.map Lm.m) = { n with di := relD n (L.map Lm.m) } := by unfold relN; rw [if_neg (by rw [hno]; decide)]
      have e2 : relM n (L.map Lm.m) = ⟨2, n.id, n.fr, (List.range 12).map (relR n (L.map Lm.m))⟩ := by unfold relM; rw [if_neg (by rw [hno]; decide)]; rfl
      rw [e1, e2]
      refine ret_of ((defL _ _).trans hd) (res_cc rfl (ev_out rfl b4) (ev_out rfl b5) manyNd manyMs mr11 (Nat.le_refl _) mq11 (Nat.le_refl _)) ⟨a3, c3, a2, c2, rfl, rw_base ow11 (by omega), ?_, below_of_kept (below_of_kept (((below_drew kB).trans (k8.mono (by omega))).trans (k9.mono (by omega))) k10 (by omega) (by omega)) k11 (by omega) (by omega)⟩
      refine rw_base (B := w8.heap.size) ?_ (by omega)
      have ovl := ov11
      have eg := gL_row (relR n (L.map Lm.m)) 12
      unfold relR at eg
      rw [← eg] at ovl
      exact ovl

end Go.Proofs.YtngmeaaglogieabGreat

namespace Go.Proofs.YtngmeaaglogieabGreat
open Go.RowKit

def MjOK (fn : Nat) : Prop := ∀ (ao : Option Addr) (n cap : Nat) (f : Nat → Int) (other : Int) (w : World), (∀ i, R64 (f i)) → R64 other → n * 8 ≤ 140737488351232 → n ≤ cap → Sr w ao n cap (iF f) →
  Calls Tryz.prog fn #[.slice ao n cap, .int .i64 other] w fun e w' => ∃ m, IsMaj f n other m ∧ e = .returned (.int .i64 m) ∧ Below w.heap.size w w'
def DeOK (fn : Nat) : Prop := ∀ (a b c : Int) (w : World), R64 a → R64 b → R64 c →
  Calls Tryz.prog fn #[.int .i64 a, .int .i64 b, .int .i64 c] w fun e w' => e = .returned (.int .i64 (dc3 a b c)) ∧ Below w.heap.size w w'
/-- The i-th lie. -/
def liF (g : Nat → Int) (n i : Nat) : Int := if i < n then g i else 0
/-- Four times four numbers as one value. -/
def gridV (x : Nat → Nat → Int) : Value := .agg #[.int .i64 (x 0 0), .int .i64 (x 0 1), .int .i64 (x 0 2), .int .i64 (x 0 3), .int .i64 (x 1 0), .int .i64 (x 1 1), .int .i64 (x 1 2), .int .i64 (x 1 3), .int .i64 (x 2 0), .int .i64 (x 2 1), .int .i64 (x 2 2), .int .i64 (x 2 3), .int .i64 (x 3 0), .int .i64 (x 3 1), .int .i64 (x 3 2), .int .i64 (x 3 3)]
def VcOK (fn : Nat) : Prop := ∀ (v : Nat → Int) (bad : Int) (lo : Option Addr) (ln lc : Nat) (g : Nat → Int) (w : World), (∀ i, R64 (v i)) → R64 bad → (∀ i, R64 (g i)) → ln * 8 ≤ 140737488351232 → ln ≤ lc → Sr w lo ln lc (iF g) →
  Calls Tryz.prog fn #[fourV v, .int .i64 bad, .slice lo ln lc] w fun e w' => e = .returned (gridV (vcF v bad (liF g ln))) ∧ Below w.heap.size w w'

end Go.Proofs.YtngmeaaglogieabGreat

namespace Go.Proofs.YtngmeaaglogieabGreat
open Go.RowKit

theorem ce_next (f : Nat → Int) (n : Nat) (v : Int) : ce f (n + 1) v = ce f n v + if f n = v then 1 else 0 := by
  show cn _ n + (if decide (f n = v) = true then 1 else 0) = _
  by_cases h : f n = v
  · rw [if_pos (decide_eq_true h), if_pos h]; rfl
  · rw [if_neg (by rw [decide_eq_false h]; decide), if_neg h]; rfl
theorem maj_none {f : Nat → Int} {n : Nat} (h : ∀ j, j < n → ¬ n < 2 * ce f n (f j)) (other : Int) : IsMaj f n other other := by
  refine Or.inr ⟨fun v hv => ?_, rfl⟩
  obtain ⟨i, hi, hp⟩ := cn_pos (p := fun i => decide (f i = v)) (n := n) (by show 0 < ce f n v; omega)
  have e := of_decide_eq_true hp
  have := h i hi
  rw [e] at this
  exact this hv

end Go.Proofs.YtngmeaaglogieabGreat

namespace Go.Proofs.YtngmeaaglogieabGreat
open Go.RowKit

/-- The list that is voted on. -/
def tkL (I s : Nat) (T : Nat → Int) (h : Int) : Nat → List Int
  | 0 => [h]
  | i + 1 => tkL I s T h i ++ if i = I ∨ i = s then [] else [T i]
theorem tkL_len (I s : Nat) (T : Nat → Int) (h : Int) (i : Nat) : (tkL I s T h i).length ≤ i + 1 := by
  induction i with
  | zero => exact Nat.le_refl 1
  | succ i ih =>
    show (tkL I s T h i ++ _).length ≤ _
    rw [List.length_append]
    split
    · show _ + 0 ≤ _; omega
    · show _ + 1 ≤ _; omega
theorem tk_skip {I s i : Nat} {T : Nat → Int} {h : Int} (e : i = I ∨ i = s) : tkL I s T h (i + 1) = tkL I s T h i := by
  show tkL I s T h i ++ _ = _
  rw [if_pos e, List.append_nil]
theorem tk_take {I s i : Nat} {T : Nat → Int} {h x : Int} (e1 : i ≠ I) (e2 : i ≠ s) (ex : T i = x) : tkL I s T h (i + 1) = tkL I s T h i ++ [x] := by
  show tkL I s T h i ++ _ = _
  rw [if_neg (fun c => c.elim e1 e2), ex]
theorem tk_four {I s : Nat} {T : Nat → Int} {h : Int} (hI : I < 4) (hs : s < 4) (e : I ≠ s) : tkL I s T h 4 = [h, T (o1 I s), T (o2 I s)] := by
  have : I = 0 ∨ I = 1 ∨ I = 2 ∨ I = 3 := by omega
  have : s = 0 ∨ s = 1 ∨ s = 2 ∨ s = 3 := by omega
  rcases ‹I = 0 ∨ _› with rfl | rfl | rfl | rfl <;> rcases ‹s = 0 ∨ _› with rfl | rfl | rfl | rfl <;> first | (exact absurd rfl e) | rfl
theorem tld_some {n : Nd} {L : List Lm} {i k many : Nat} {c : Lm} (h : fL n.id n.fr L (i : Int) 2 (many : Int) = some c) : tldN n (L.map Lm.m) i k many = gL c.m.L k := by
  have := fL_frst n L i 2 many
  rw [h] at this
  unfold tldN
  rw [← this]
  rfl
theorem tld_none {n : Nd} {L : List Lm} {i k many : Nat} (h : fL n.id n.fr L (i : Int) 2 (many : Int) = none) : tldN n (L.map Lm.m) i k many = 0 := by
  have := fL_frst n L i 2 many
  rw [h] at this
  unfold tldN
  rw [← this]
  rfl
end Go.Proofs.YtngmeaaglogieabGreat
