import Derived.Test.YtdhblehhgpdpdaaGreatNear123
import Derived.Test.YtdhblehhgpdpdaaGreatNear73
import Derived.Test.YtdhblehhgpdpdaaGreatNear102
import Derived.Test.YtdhblehhgpdpdaaGreatNear136
import Derived.Test.YtdhblehhgpdpdaaGreatNear127
import Derived.Test.YtdhblehhgpdpdaaGreatNear35
import Derived.Test.YtdhblehhgpdpdaaGreatNear15
import Derived.Test.YtdhblehhgpdpdaaGreatJoin
namespace Go.Proofs.YtdhblehhgpdpdaaGreat
open Go.RowKit
theorem gL_range {f : Nat → Int} {n i : Nat} (hi : i < n) : gL ((List.range n).map f) i = f i := by
 unfold gL
 rw [List.getD_eq_getElem?_getD, List.getElem?_map, List.getElem?_range hi]
 rfl
theorem decoded_any (ao : Option Addr) (len cap : Nat) (g : Nat → Nat) (w : World) (hg : ∀ i, g i < 256) (hl : len ≤ 140737488351232) (hc : len ≤ cap) (hr : Sr w ao len cap (bF g)) :
  Calls Tryz.prog 115 #[.slice ao len cap] w fun e w' => ∃ mo mc M, e = .returned (.slice mo M.length mc) ∧ M.map Lm.m = dcM len g ∧ OwnM w' w.heap.size (.slice mo M.length mc) M ∧ Below w.heap.size w w' := by
 refine enterF Tryz.func115 rfl 14 rfl (of_decide_eq_true rfl) (fun A hs hd hb => ?_)
 have b0 : A.eval (.tmp 0) = .slice ao len cap := hb 0 _ rfl
 clear hb
 have H := Cx.start w
 refine c_rs (m_start ?_)
 repeat first | refine qa ?_ | refine l_nx ?_ | refine c_rs ?_
 refine q_c1 (wireDecode_ok ao len cap g w hg hl hc hr) ?_
 rintro e w1 ⟨E, v, hE, rfl, o1, k1⟩
 obtain ⟨a1, c1, rfl, hc1⟩ := rw_slice o1
 refine ⟨.tuple #[agV (msF (dN E (g 1) : Nat) (dN E (g 2) : Nat) (dN E (dR g) : Nat) (.slice a1 (dN E (g 7)) c1)) 0 4, .int .i64 E], rfl, ?_⟩
 replace H := H.add k1 (ownI _ _ _ _ _ _) o1 (fun j e => (o1.lt j e).1)
 repeat refine qa ?_
 refine q_al H ?_
 intro w2 H z2
 refine q_sp0 H stP_whole (msF_one _ _ _ _ _ _) ?_
 intro w3 H z3
 repeat first | refine qa ?_ | refine l_nx ?_ | refine c_rs ?_ | refine c_nx ?_
 refine q_if (fun h => ?_) (fun h => ?_)
 ·have hE0 : E ≠ 0 := of_decide_eq_true h
  repeat first | refine qa ?_ | refine l_nx ?_ | refine c_rs ?_ | refine c_nx ?_
  exact c_ret (r_nx (ret_of ((defL _ _).trans hd) (res_t rfl Qv) ⟨none, 0, [], rfl, by unfold dcM; rw [dcB_no hE hE0]; rfl, OwnM.nil _ _, H.bel⟩))
 ·have hE0 : E = 0 := by simpa using h
  subst hE0
  repeat first | refine qa ?_ | refine l_nx ?_ | refine c_rs ?_ | refine c_nx ?_ | refine c_fin ?_
  have hdc := dcB_iff.2 hE
  refine m_do rfl (wanted_rd rfl) (fun K hK => ?_)
  have hln : ((List.range (g 7)).map (dV g)).length = g 7 := by rw [List.length_map, List.length_range]
  refine wp_oneMs _ _ rfl (c := ⟨⟨(g 1 : Nat), (g 2 : Nat), (dR g : Nat), (List.range (g 7)).map (dV g)⟩, a1, c1⟩) (Eq.trans Qv (by unfold lmF lmV; rw [hln]; rfl)) ?_
  intro w4 m4 k4 z4
  refine hK _ _ ?_
  clear hK K
  have ho := rw_below H.o1 k4
  repeat first | refine qa ?_ | refine l_nx ?_
  refine c_ret (ret_of ((defL _ _).trans hd) (res_t rfl Qv) ⟨_, _, [⟨⟨(g 1 : Nat), (g 2 : Nat), (dR g : Nat), (List.range (g 7)).map (dV g)⟩, a1, c1⟩], rfl, by unfold dcM; rw [hdc]; rfl, ⟨?_, fun c hc => ?_⟩, (H.call k4).bel⟩)
  ·exact own_oneM m4 (by have := H.size; omega)
  ·simp only [List.mem_cons, List.not_mem_nil, or_false] at hc
   subst hc
   unfold OwnV lmV
   dsimp only
   rw [hln, rowV_congr (fun i hi => show iF (gL ((List.range (g 7)).map (dV g))) i = iF (dV g) i by unfold iF; rw [gL_range hi])]
   exact ho
theorem liM_len (bad wo ph : Int) (l : List Ly) : (liM bad wo ph l).length ≤ l.length := by
 unfold liM
 induction l with
 | nil => exact Nat.le_refl _
 | cons y l ih =>
  rw [List.flatMap_cons, List.length_append, List.length_cons]
  have : (if y.ph = ph ∧ y.wo = wo then (dcM y.n y.g).filter fun m => decide (m.F = bad) else []).length ≤ 1 := by
   split
   ·refine Nat.le_trans (List.length_filter_le _ _) ?_
    unfold dcM
    split <;> simp
   ·exact Nat.zero_le _
  omega
theorem carried_any (m : Ms) (ao : Option Addr) (cap : Nat) (w : World) (hm : MsOK m) (hc : m.L.length ≤ cap) (hr : Sr w ao m.L.length cap (iF (gL m.L))) :
  Calls Tryz.prog 81 #[lsV m (.slice ao m.L.length cap)] w fun e w' => ∃ mo mc M, e = .returned (.slice mo M.length mc) ∧ M.map Lm.m = wrM m ∧ OwnM w' w.heap.size (.slice mo M.length mc) M ∧ Below w.heap.size w w' := by
 refine enterF Tryz.func81 rfl 14 rfl (of_decide_eq_true rfl) (fun A hs hd hb => ?_)
 have b0 : A.eval (.tmp 0) = agV (msF m.K m.F m.R (.slice ao m.L.length cap)) 0 4 := hb 0 _ rfl
 clear hb
 have hn := hm.n
 have H := Cx.start w
 refine c_rs (m_start ?_)
 refine q_box H ?_
 intro w1 H z1
 repeat first | refine qa ?_ | refine l_nx ?_ | refine c_rs ?_
 refine q_c1 (wireEncode_ok m.K m.F m.R ao m.L.length cap (gL m.L) w1 hm.K hm.F hm.R hm.L (by omega) hc (hr.below H.bel)) ?_
 rintro e w2 ⟨v, rfl, o2, k2⟩
 obtain ⟨a2, c2, rfl, hc2⟩ := rw_slice o2
 refine ⟨_, rfl, ?_⟩
 replace H := H.add k2 (ownI _ _ _ _ _ _) o2 (fun j e => (o2.lt j e).1)
 repeat first | refine qa ?_ | refine l_nx ?_ | refine c_rs ?_ | refine c_nx ?_
 refine q_if (fun h => ?_) (fun h => ?_)
 ·have hE0 : wrongM m.K m.F m.R m.L.length ≠ 0 := of_decide_eq_true h
  repeat first | refine qa ?_ | refine l_nx ?_ | refine c_rs ?_ | refine c_nx ?_
  exact c_ret (r_nx (ret_of ((defL _ _).trans hd) (res_t rfl Qv) ⟨none, 0, [], rfl, by unfold wrM; rw [if_neg hE0]; rfl, OwnM.nil _ _, H.bel⟩))
 ·have hE0 : wrongM m.K m.F m.R m.L.length = 0 := by simpa using h
  have eL : enL m.K m.F m.R m.L.length = 12 + 8 * m.L.length := by unfold enL; rw [if_pos hE0]
  repeat first | refine qa ?_ | refine l_nx ?_ | refine c_rs ?_ | refine c_nx ?_ | refine c_fin ?_
  have hsr : Sr w2 a2 (enL m.K m.F m.R m.L.length) c2 (bF (enS m.K m.F m.R m.L.length (gL m.L))) := by
   obtain ⟨a3, c3, e, hs3, _⟩ := owns_sr o2
   cases e
   exact hs3
  refine q_c1 (decoded_any a2 (enL m.K m.F m.R m.L.length) c2 _ w2 (enS_lt _ _ _ _ _) (by omega) hc2 hsr) ?_
  rintro e w3 ⟨mo, mc, M, rfl, hM, oM, k3⟩
  refine ⟨_, rfl, ?_⟩
  replace H := H.call k3
  repeat first | refine qa ?_ | refine l_nx ?_ | refine c_rs ?_
  refine c_ret (ret_of ((defL _ _).trans hd) (res_t rfl Qv) ⟨mo, mc, M, rfl, ?_, oM.base (by have := k2.size; omega), H.bel⟩)
  rw [hM]
  unfold dcM wrM
  obtain ⟨e1, e2, e3, e4, e5⟩ := enS_back (f := gL m.L) hE0 hm.L
  rw [eL, dcB_iff.2 (enS_dc hE0), if_pos rfl, if_pos hE0, e1, e2, e3, e4]
  obtain ⟨K, F, R, L⟩ := m
  congr 2
  refine List.ext_getElem? (fun i => ?_)
  rw [List.getElem?_map]
  rcases Nat.lt_or_ge i L.length with c | c
  ·rw [List.getElem?_range c, List.getElem?_eq_getElem c]
   show some (dV _ i) = _
   rw [e5 i c]
   unfold gL
   rw [List.getD_eq_getElem?_getD, List.getElem?_eq_getElem c]
   rfl
  ·rw [List.getElem?_eq_none c, List.getElem?_eq_none (by simpa using c)]
   rfl
end Go.Proofs.YtdhblehhgpdpdaaGreat
namespace Go.Proofs.YtdhblehhgpdpdaaGreat
open Go.RowKit
theorem liM_take {bad wo ph : Int} {l : List Ly} {i : Nat} {y : Ly} (h : l[i]? = some y) : liM bad wo ph (l.take (i + 1)) = liM bad wo ph (l.take i) ++ (if y.ph = ph ∧ y.wo = wo then (dcM y.n y.g).filter fun m => decide (m.F = bad) else []) := by
 unfold liM
 rw [List.take_add_one, h, List.flatMap_append]
 simp
theorem dcM_len (n : Nat) (g : Nat → Nat) : (dcM n g).length ≤ 1 := by
 unfold dcM
 split <;> simp
theorem liesTo_any (b : Nat) (fr : Int) (nd : Nat → Nd) (v : Nat → Value) (bad : Int) (lo : Option Addr) (lc : Nat) (LL : List Lj) (bx : Nat → Value) (wo ph : Int) (w : World) (G0 : Vh 88 w b 303 303 (wkF fr nd v bad (.slice lo LL.length lc) bx)) (hj : JRd w lo LL) (hl : LL.length ≤ 400) :
  Calls Tryz.prog 80 #[.pointer (some ⟨b, 0, none⟩), .int .i64 wo, .int .i64 ph] w fun e w' => ∃ mo mc M, e = .returned (.slice mo M.length mc) ∧ M.map Lm.m = liM bad wo ph (LL.map Lj.y) ∧ OwnM w' w.heap.size (.slice mo M.length mc) M ∧ Below w.heap.size w w' := by
 refine enterF Tryz.func80 rfl 53 rfl (of_decide_eq_true rfl) (fun A hs hd hb => ?_)
 have b0 : A.eval (.tmp 0) = .pointer (some ⟨b, 0, none⟩) := hb 0 _ rfl
 have b1 : A.eval (.tmp 1) = .int .i64 wo := hb 1 _ rfl
 have b2 : A.eval (.tmp 2) = .int .i64 ph := hb 2 _ rfl
 clear hb
 have H := Cx.start w
 refine c_rs (m_start ?_)
 repeat first | refine qa ?_ | refine l_nx ?_ | refine c_rs ?_ | refine c_nx ?_
 refine c_block ?_
 refine c_loop (fun r A W => ∃ (i : Nat) (u : Value) (M : List Lm), i ≤ LL.length ∧ LL.length - i ≤ r ∧ A.tmps.size = 53 ∧ A.defers = [] ∧ A.eval (.tmp 0) = .pointer (some ⟨b, 0, none⟩) ∧ A.eval (.tmp 1) = .int .i64 wo ∧ A.eval (.tmp 2) = .int .i64 ph ∧ A.eval (.tmp 15) = .slice lo LL.length lc ∧ A.eval (.tmp 16) = .int .i64 (LL.length : Int) ∧ A.eval (.tmp 17) = .int .i64 (i : Int) ∧ A.eval (.tmp 7) = u ∧ M.map Lm.m = liM bad wo ph ((LL.map Lj.y).take i) ∧ Cx w W [omI w.heap.size u M]) LL.length
  ⟨0, _, [], Nat.zero_le _, by omega, (szL _ _).trans hs, (defL _ _).trans hd, Qv, Qv, Qv, Qv, Qv, Qv, Qv, rfl, H.add (Below.refl _ _) (omI _ _ _) (OwnM.nil _ _) (om_up (OwnM.nil w _))⟩ (fun r B W hI => ?_)
 clear b0 b1 b2 hs hd H
 obtain ⟨i, u, M, hi, hr, hs, hd, b0, b1, b2, b15, b16, b17, b7, hM, H⟩ := hI
 have hMl : M.length ≤ 400 := by
  have h1 := congrArg List.length hM
  have h2 := liM_len bad wo ph ((LL.map Lj.y).take i)
  rw [List.length_map] at h1
  rw [List.length_take, List.length_map] at h2
  omega
 refine c_rs (m_start ?_)
 repeat first | refine qa ?_ | refine l_nx ?_ | refine c_rs ?_ | refine c_nx ?_
 refine q_if (fun h => ?_) (fun h => ?_)
 ·have hin : i < LL.length := by have := of_decide_eq_true h; omega
  have hc := List.getElem?_eq_getElem hin
  obtain ⟨cc, ec⟩ : ∃ cc, cc = LL[i] := ⟨_, rfl⟩
  rw [← ec] at hc
  have hy : (LL.map Lj.y)[i]? = some cc.y := by rw [List.getElem?_map, hc]; rfl
  obtain ⟨pb, po, rfl, hcell⟩ := hj.1 (by omega)
  have hcell := hcell i cc hc
  have hlb := hj.2 cc (by rw [ec]; exact List.getElem_mem hin)
  refine c_fin ?_
  refine c_nx (c_block ?_)
  refine c_rs ?_
  refine qa ?_
  refine qg (run_lodCs (g := ljF cc) ManyK.out (fun k hk => at_below (hcell k hk) H.bel) rfl Qv) ?_
  refine q_al H ?_
  intro w1 H z1
  refine q_sp0 H stP_whole (lyF_one _ _ _ _ _) ?_
  intro w2 H z2
  refine l_nx ?_
  refine c_nx ?_
  refine c_rs ?_
  iterate 3 refine qa ?_
  by_cases h1 : cc.y.ph = ph
  ·refine qg (run_neqI (b := false) _ _ rfl Qv Qv (decide_eq_false (fun e => e h1)) _) ?_
   iterate 4 refine qa ?_
   by_cases h2 : cc.y.wo = wo
   ·refine qg (run_neqI (b := false) _ _ rfl Qv Qv (decide_eq_false (fun e => e h2)) _) ?_
    refine qg (run_pickF _ _ _ rfl Qv Qv _) ?_
    refine l_nx ?_
    refine q_no rfl (c_fin ?_)
    refine c_rs ?_
    iterate 2 refine qa ?_
    refine q_c1 (decoded_any cc.ao cc.y.n cc.cap cc.y.g _ hlb.2.2.2 hlb.2.2.1 hlb.2.1 (hlb.1.below H.bel)) ?_
    rintro e w3 ⟨mo, mc, M1, rfl, hM1, oM1, k3⟩
    refine ⟨_, rfl, ?_⟩
    have hs2 := H.size
    replace H := H.tl.add k3 (omI w.heap.size _ M1) (oM1.base hs2) (fun j e => om_up oM1 j e)
    repeat first | refine qa ?_ | refine l_nx ?_ | refine c_rs ?_
    have hl1 : M1.length ≤ 1 := by
     have h3 := congrArg List.length hM1
     rw [List.length_map] at h3
     have := dcM_len cc.y.n cc.y.g
     omega
    refine c_block ?_
    refine c_loop (fun r A W => ∃ (j : Nat) (u : Value) (M2 : List Lm), j ≤ M1.length ∧ M1.length - j ≤ r ∧ A.tmps.size = 53 ∧ A.defers = [] ∧ A.eval (.tmp 0) = .pointer (some ⟨b, 0, none⟩) ∧ A.eval (.tmp 1) = .int .i64 wo ∧ A.eval (.tmp 2) = .int .i64 ph ∧ A.eval (.tmp 15) = .slice (some ⟨pb, po, none⟩) LL.length lc ∧ A.eval (.tmp 16) = .int .i64 (LL.length : Int) ∧ A.eval (.tmp 17) = .int .i64 (i : Int) ∧ A.eval (.tmp 33) = .slice mo M1.length mc ∧ A.eval (.tmp 34) = .int .i64 (M1.length : Int) ∧ A.eval (.tmp 35) = .int .i64 (j : Int) ∧ A.eval (.tmp 7) = u ∧ M2.map Lm.m = liM bad wo ph ((LL.map Lj.y).take i) ++ ((dcM cc.y.n cc.y.g).take j).filter (fun m => decide (m.F = bad)) ∧ Cx w W (omI w.heap.size u M2 :: if j = 0 then [omI w.heap.size (.slice mo M1.length mc) M1] else [])) M1.length
     ⟨0, _, M, Nat.zero_le _, by omega, (szL _ _).trans hs, (defL _ _).trans hd, Qv, Qv, Qv, Qv, Qv, Qv, Qv, Qv, Qv, Qv, by rw [hM]; exact (List.append_nil _).symm, H.perm (List.Perm.swap _ _ _)⟩ (fun r2 B2 W2 hI => ?_)
    clear b0 b1 b2 b15 b16 b17 b7 hs hd H
    obtain ⟨j, u2, M2, hj1, hr2, hs, hd, b0, b1, b2, b15, b16, b17, b33, b34, b35, b7, hM2, H⟩ := hI
    have hM2l : M2.length ≤ 400 + 1 := by
     have h3 := congrArg List.length hM2
     rw [List.length_append, List.length_map, ← hM, List.length_map] at h3
     have h4 := List.length_filter_le (fun m : Ms => decide (m.F = bad)) ((dcM cc.y.n cc.y.g).take j)
     rw [List.length_take] at h4
     have := dcM_len cc.y.n cc.y.g
     omega
    refine c_rs (m_start ?_)
    repeat first | refine qa ?_ | refine l_nx ?_ | refine c_rs ?_ | refine c_nx ?_
    refine q_if (fun h => ?_) (fun h => ?_)
    ·have hjn : j < M1.length := by have := of_decide_eq_true h; omega
     obtain rfl : j = 0 := by omega
     obtain ⟨c1, rfl⟩ : ∃ c1, M1 = [c1] := by
      match M1, hjn, hl1 with
      | [c1], _, _ => exact ⟨c1, rfl⟩
     have hdm : dcM cc.y.n cc.y.g = [c1.m] := hM1.symm
     rw [if_pos rfl] at H
     have hO : OwnM W2 w.heap.size (.slice mo 1 mc) [c1] := H.o1
     have hln : c1.m.L.length ≤ 24 := by
      have := (dcM_ok hlb.2.2.2 c1.m (by rw [hdm]; exact List.mem_cons_self)).n
      exact this
     obtain ⟨pm, qm, rfl, hcm⟩ := (hO.rd (fun c hc => by simp at hc; subst hc; omega)).1 (Nat.succ_pos 0)
     have hcm := hcm 0 c1 rfl
     refine c_fin ?_
     refine c_nx (c_block ?_)
     refine c_rs ?_
     refine qa ?_
     refine qg (run_lodCs (g := lmF c1) ManyK.out hcm rfl Qv) ?_
     refine q_al H ?_
     intro w5 H z5
     refine q_sp0 H stP_whole (lmF_one _) ?_
     intro w6 H z6
     refine l_nx ?_
     refine c_nx ?_
     replace H := H.drew
     have hS : Its [vhI 81 W2.heap.size 4 4 (lmF c1), vhI 88 b 303 303 (wkF fr nd v bad (.slice (some ⟨pb, po, none⟩) LL.length lc) bx)] w6.drew := Its.cons H.o0 (Its.cons (Vh.below G0 H.bel) (Its.nil _))
     refine c_rj (S := Its [vhI 81 W2.heap.size 4 4 (lmF c1), vhI 88 b 303 303 (wkF fr nd v bad (.slice (some ⟨pb, po, none⟩) LL.length lc) bx)]) (.mv 0 (.rd 1 (.mv 2 (.mv 3 (.mv 4 (.rd 5 (.mv 6 .fin))))))) [] (by kernel_rfl) (by kernel_rfl) ?_
     repeat first | refine qj ?_ | refine qr hS ?_
     refine j_nx ?_
     refine q_if (fun hq => ?_) (fun hq => ?_)
     ·have hF : c1.m.F = bad := of_decide_eq_true hq
      refine c_region ?_
      iterate 2 refine qa ?_
      refine m_do rfl (wanted_rd rfl) (fun K hK => ?_)
      refine wp_oneMs _ _ rfl (c := c1) Qv ?_
      intro w7 m7 k7 z7
      refine hK _ _ ?_
      clear hK K
      replace H := om_swap H.tl k7 m7
      refine q_apM H (by show M2.length + 1 ≤ _; omega) ?_
      intro u8 w8 H
      refine qa ?_
      refine l_finB ?_
      refine c_region ?_
      repeat refine qa ?_
      exact l_round ⟨0, by omega, 1, _, M2 ++ [c1], Nat.le_refl _, Nat.le_of_eq (Nat.sub_self _), (szL _ _).trans hs, (defL _ _).trans hd, Qv, Qv, Qv, Qv, Qv, Qv, Qv, Qv, Qv, Qv, by rw [List.map_append, hM2, hdm, List.append_assoc]; simp [hF], H⟩
     ·have hF : c1.m.F ≠ bad := of_decide_eq_false hq
      refine c_finB ?_
      refine c_region ?_
      repeat refine qa ?_
      exact l_round ⟨0, by omega, 1, _, M2, Nat.le_refl _, Nat.le_of_eq (Nat.sub_self _), (szL _ _).trans hs, (defL _ _).trans hd, Qv, Qv, Qv, Qv, Qv, Qv, Qv, Qv, Qv, Qv, by rw [hM2, hdm]; simp [hF], H.tl.sub (List.Sublist.cons_cons _ (List.nil_sublist _))⟩
    ·obtain rfl : j = M1.length := by have := of_decide_eq_false h; omega
     refine c_exit (x_out2 ?_)
     refine c_region ?_
     repeat refine qa ?_
     exact l_round ⟨LL.length - (i + 1), by omega, i + 1, _, M2, by omega, by omega, (szL _ _).trans hs, (defL _ _).trans hd, Qv, Qv, Qv, Qv, Qv, Eq.trans Qv (by rw [Int.natCast_add]; rfl), Qv, by
      have e : (dcM cc.y.n cc.y.g).take M1.length = dcM cc.y.n cc.y.g := List.take_of_length_le (by rw [← hM1, List.length_map]; exact Nat.le_refl _)
      rw [liM_take hy, if_pos ⟨h1, h2⟩, hM2, e], H.sub (List.Sublist.cons_cons _ (List.nil_sublist _))⟩
   ·refine qg (run_neqI (b := true) _ _ rfl Qv Qv (decide_eq_true h2) _) ?_
    refine qg (run_pickF _ _ _ rfl Qv Qv _) ?_
    refine l_nx ?_
    refine q_yes rfl ?_
    refine c_exit (x_in ?_)
    refine c_region ?_
    repeat refine qa ?_
    exact l_round ⟨LL.length - (i + 1), by omega, i + 1, _, M, by omega, by omega, (szL _ _).trans hs, (defL _ _).trans hd, Qv, Qv, Qv, Qv, Qv, Eq.trans Qv (by rw [Int.natCast_add]; rfl), Qv, by rw [liM_take hy, if_neg (fun e => h2 e.2), List.append_nil]; exact hM, H.tl⟩
  ·refine qg (run_neqI (b := true) _ _ rfl Qv Qv (decide_eq_true h1) _) ?_
   refine qa ?_
   iterate 4 refine q_skip ?_
   refine qg (run_pickT' _ _ _ rfl Qv Qv _) ?_
   refine l_nx ?_
   refine q_yes rfl ?_
   refine c_exit (x_in ?_)
   refine c_region ?_
   repeat refine qa ?_
   exact l_round ⟨LL.length - (i + 1), by omega, i + 1, _, M, by omega, by omega, (szL _ _).trans hs, (defL _ _).trans hd, Qv, Qv, Qv, Qv, Qv, Eq.trans Qv (by rw [Int.natCast_add]; rfl), Qv, by rw [liM_take hy, if_neg (fun e => h1 e.1), List.append_nil]; exact hM, H.tl⟩
 ·obtain rfl : i = LL.length := by have := of_decide_eq_false h; omega
  refine c_exit (x_out ?_)
  refine c_rs ?_
  repeat first | refine qa ?_ | refine l_nx ?_ | refine c_rs ?_ | refine c_nx ?_
  have hO : OwnM W w.heap.size u M := H.o0
  obtain ⟨mo, mc, rfl, hmc⟩ := rw_slice hO.1
  rw [List.take_of_length_le (by rw [List.length_map]; exact Nat.le_refl _)] at hM
  exact c_ret (ret_of ((defL _ _).trans hd) (res_t rfl Qv) ⟨mo, mc, M, rfl, hM, hO, H.bel⟩)
end Go.Proofs.YtdhblehhgpdpdaaGreat
namespace Go.Proofs.YtdhblehhgpdpdaaGreat
open Go.RowKit
theorem wrM_len (m : Ms) : (wrM m).length ≤ 1 := by
 unfold wrM
 split <;> simp
theorem bxM_len {x : Ip} (h : x.ly.length ≤ 400) (told : Nat → Ms) (wo ph : Nat) : ∀ k, (bxM x told wo ph k).length ≤ 400 * k
 | 0 => Nat.le_refl _
 | k + 1 => by
  have ih := bxM_len h told wo ph k
  show (bxM x told wo ph k ++ _).length ≤ _
  rw [List.length_append]
  have : (if k = wo then [] else if (k : Int) = x.bad then liM x.bad wo ph x.ly else wrM (told k)).length ≤ 400 := by
   split
   ·exact Nat.zero_le _
   ·split
    ·exact Nat.le_trans (liM_len _ _ _ _) h
    ·exact Nat.le_trans (wrM_len _) (by decide)
  omega
theorem sentTo_any (x : Ip) (b : Nat) (fr : Int) (nd : Nat → Nd) (v : Nat → Value) (lo : Option Addr) (lc : Nat) (LL : List Lj) (bx : Nat → Value) (wo ph : Nat) (told : Nat → Ms) (ta : Nat → Option Addr × Nat) (w : World) (G0 : Vh 88 w b 303 303 (wkF fr nd v x.bad (.slice lo LL.length lc) bx)) (hx : x.ly = LL.map Lj.y) (hj : JRd w lo LL) (hl : LL.length ≤ 400) (_ : wo < 4)
  (ht : ∀ j : Nat, j < 4 → (j : Int) ≠ x.bad → MsOK (told j) ∧ (told j).L.length ≤ (ta j).2 ∧ Sr w (ta j).1 (told j).L.length (ta j).2 (iF (gL (told j).L))) :
  Calls Tryz.prog 47 #[.pointer (some ⟨b, 0, none⟩), .int .i64 (wo : Int), .int .i64 (ph : Int), agV (m4F told (fun j => slV (ta j) (told j).L.length)) 0 16] w fun e w' => ∃ mo mc M, e = .returned (.slice mo M.length mc) ∧ M.map Lm.m = bxM x told wo ph 4 ∧ OwnM w' w.heap.size (.slice mo M.length mc) M ∧ Below w.heap.size w w' := by
 refine enterF Tryz.func47 rfl 39 rfl (of_decide_eq_true rfl) (fun A hs hd hb => ?_)
 have b0 : A.eval (.tmp 0) = .pointer (some ⟨b, 0, none⟩) := hb 0 _ rfl
 have b1 : A.eval (.tmp 1) = .int .i64 (wo : Int) := hb 1 _ rfl
 have b2 : A.eval (.tmp 2) = .int .i64 (ph : Int) := hb 2 _ rfl
 have b3 : A.eval (.tmp 3) = agV (m4F told (fun j => slV (ta j) (told j).L.length)) 0 16 := hb 3 _ rfl
 clear hb
 have H := Cx.start w
 refine c_rs (m_start ?_)
 refine q_box H ?_
 intro w1 H z1
 repeat first | refine qa ?_ | refine l_nx ?_ | refine c_rs ?_ | refine c_nx ?_
 refine c_block ?_
 refine c_loop (fun r A W => ∃ (i : Nat) (u : Value) (M : List Lm), i ≤ 4 ∧ 4 - i ≤ r ∧ A.tmps.size = 39 ∧ A.defers = [] ∧ A.eval (.tmp 0) = .pointer (some ⟨b, 0, none⟩) ∧ A.eval (.tmp 1) = .int .i64 (wo : Int) ∧ A.eval (.tmp 2) = .int .i64 (ph : Int) ∧ A.eval (.tmp 12) = agV (m4F told (fun j => slV (ta j) (told j).L.length)) 0 16 ∧ A.eval (.tmp 13) = .int .i64 (i : Int) ∧ A.eval (.tmp 9) = u ∧ M.map Lm.m = bxM x told wo ph i ∧ Cx w W [omI w.heap.size u M]) 4
  ⟨0, _, [], Nat.zero_le _, by omega, (szL _ _).trans hs, (defL _ _).trans hd, Qv, Qv, Qv, Qv, Qv, Qv, rfl, H.tl.add (Below.refl _ _) (omI _ _ _) (OwnM.nil _ _) (fun j e => om_up (OwnM.nil w1 w1.heap.size) j e)⟩ (fun r B W hI => ?_)
 clear b0 b1 b2 b3 hs hd H
 obtain ⟨i, u, M, hi, hr, hs, hd, b0, b1, b2, b12, b13, b9, hM, H⟩ := hI
 have hMl : M.length ≤ 400 * i := by
  have h1 := congrArg List.length hM
  rw [List.length_map] at h1
  rw [h1]
  exact bxM_len (by rw [hx, List.length_map]; exact hl) told wo ph i
 refine c_rs (m_start ?_)
 repeat first | refine qa ?_ | refine l_nx ?_ | refine c_rs ?_ | refine c_nx ?_
 refine q_if (fun h => ?_) (fun h => ?_)
 ·have hin : i < 4 := by have := of_decide_eq_true h; omega
  refine c_fin ?_
  refine c_nx (c_block ?_)
  refine c_rs ?_
  refine qa ?_
  refine qg (Eq.trans (run_ixVM _ _ _ _ rfl ArrK.out ManyK.out Qv rfl Qv rfl hin _) (by rw [agV_cong (fun j hj => m4F_at told (fun j => slV (ta j) (told j).L.length) hj)])) ?_
  refine q_al H ?_
  intro w2 H z2
  refine qa ?_
  refine q_sp0 H stP_whole (msF_one _ _ _ _ _ _) ?_
  intro w3 H z3
  repeat first | refine qa ?_ | refine l_nx ?_ | refine c_rs ?_
  refine c_block ?_
  refine c_rs ?_
  repeat first | refine qa ?_ | refine l_nx ?_
  refine q_if (fun h1 => ?_) (fun h1 => ?_)
  ·have e1 : i = wo := by have := of_decide_eq_true h1; omega
   refine c_fin2 ?_
   refine c_region ?_
   repeat refine qa ?_
   exact l_round ⟨4 - (i + 1), by omega, i + 1, _, M, by omega, by omega, (szL _ _).trans hs, (defL _ _).trans hd, Qv, Qv, Qv, Qv, Eq.trans Qv (by rw [Int.natCast_add]; rfl), Qv, by rw [hM]; show _ = bxM x told wo ph i ++ _; rw [if_pos e1, List.append_nil], H.tl⟩
  ·have e1 : i ≠ wo := by have := of_decide_eq_false h1; omega
   refine c_rs ?_
   repeat first | refine qa ?_ | refine l_nx ?_
   refine q_if (fun h2 => ?_) (fun h2 => ?_)
   ·have e2 : (i : Int) = x.bad := of_decide_eq_true h2
    refine c_region ?_
    iterate 4 refine qa ?_
    have hsz := H.size
    refine q_c3 (liesTo_any b fr nd v x.bad lo lc LL bx (wo : Int) (ph : Int) _ (Vh.below G0 H.bel) (hj.below H.bel) hl) ?_
    rintro e w4 ⟨mo, mc, M1, rfl, hM1, oM1, k4⟩
    refine ⟨_, rfl, ?_⟩
    replace H := (H.tl.add k4 (omI w.heap.size _ M1) (oM1.base hsz) (fun j e => om_up oM1 j e)).perm (List.Perm.swap _ _ _)
    have hl1 : M1.length ≤ 400 := by
     have h3 := congrArg List.length hM1
     rw [List.length_map] at h3
     have h4 := liM_len x.bad wo ph (LL.map Lj.y)
     rw [List.length_map] at h4
     omega
    refine q_apM H (by omega) ?_
    intro u5 w5 H
    refine qa ?_
    refine l_fin2 ?_
    refine c_region ?_
    repeat refine qa ?_
    exact l_round ⟨4 - (i + 1), by omega, i + 1, _, M ++ M1, by omega, by omega, (szL _ _).trans hs, (defL _ _).trans hd, Qv, Qv, Qv, Qv, Eq.trans Qv (by rw [Int.natCast_add]; rfl), Qv, by rw [List.map_append, hM, hM1]; show _ = bxM x told wo ph i ++ _; rw [if_neg e1, if_pos e2, hx], H⟩
   ·have e2 : (i : Int) ≠ x.bad := of_decide_eq_false h2
    obtain ⟨t1, t2, t3⟩ := ht i hin e2
    refine c_region ?_
    iterate 2 refine qa ?_
    have hsz := H.size
    refine q_c1 (carried_any (told i) (ta i).1 (ta i).2 _ t1 t2 (t3.below H.bel)) ?_
    rintro e w4 ⟨mo, mc, M1, rfl, hM1, oM1, k4⟩
    refine ⟨_, rfl, ?_⟩
    replace H := (H.tl.add k4 (omI w.heap.size _ M1) (oM1.base hsz) (fun j e => om_up oM1 j e)).perm (List.Perm.swap _ _ _)
    have hl1 : M1.length ≤ 1 := by
     have h3 := congrArg List.length hM1
     rw [List.length_map] at h3
     have h4 := wrM_len (told i)
     omega
    refine q_apM H (by omega) ?_
    intro u5 w5 H
    refine qa ?_
    refine l_fin2 ?_
    refine c_region ?_
    repeat refine qa ?_
    exact l_round ⟨4 - (i + 1), by omega, i + 1, _, M ++ M1, by omega, by omega, (szL _ _).trans hs, (defL _ _).trans hd, Qv, Qv, Qv, Qv, Eq.trans Qv (by rw [Int.natCast_add]; rfl), Qv, by rw [List.map_append, hM, hM1]; show _ = bxM x told wo ph i ++ _; rw [if_neg e1, if_neg e2], H⟩
 ·obtain rfl : i = 4 := by have := of_decide_eq_false h; omega
  refine c_exit (x_out ?_)
  refine c_rs ?_
  repeat first | refine qa ?_ | refine l_nx ?_ | refine c_rs ?_ | refine c_nx ?_
  have hO : OwnM W w.heap.size u M := H.o0
  obtain ⟨mo, mc, rfl, hmc⟩ := rw_slice hO.1
  exact c_ret (ret_of ((defL _ _).trans hd) (res_t rfl Qv) ⟨mo, mc, M, rfl, hM, hO, H.bel⟩)
end Go.Proofs.YtdhblehhgpdpdaaGreat
namespace Go.Proofs.YtdhblehhgpdpdaaGreat
open Go.RowKit
def fourI (f : Nat → It) : It := ⟨fun w => ∀ i, i < 4 → (f i).p w, fun k => ∃ i, i < 4 ∧ (f i).foot k, fun h e i hi => (f i).ok (h i hi) (fun k h1 h2 => e k h1 ⟨i, hi, h2⟩), fun h ⟨i, hi, e⟩ => (f i).lt (h i hi) e⟩
theorem Cx.wk {w0 w : World} {x y : It} {l : List It} (H : Cx w0 w (x :: l)) (h1 : x.p w → y.p w) (h2 : ∀ k, y.foot k → x.foot k) : Cx w0 w (y :: l) := by
 obtain ⟨d1, d2⟩ := List.pairwise_cons.1 H.dis
 refine ⟨H.bel, fun z hz => ?_, fun z hz j hj => ?_, List.pairwise_cons.2 ⟨fun z hz j h3 => d1 z hz j (h2 j h3), d2⟩⟩
 ·rcases List.mem_cons.1 hz with rfl | hz
  ·exact h1 H.o0
  ·exact H.it z (List.mem_cons_of_mem _ hz)
 ·rcases List.mem_cons.1 hz with rfl | hz
  ·exact H.up x List.mem_cons_self j (h2 j hj)
  ·exact H.up z (List.mem_cons_of_mem _ hz) j hj
theorem four_set {w0 w : World} {α : Type} {g : α → It} {D : Nat → α} {y : α} {l : List It} (i : Nat) (H : Cx w0 w (g y :: fourI (fun j => g (D j)) :: l)) : Cx w0 w (fourI (fun j => g (upM D i y j)) :: l) := by
 refine H.merge.wk (fun h j hj => ?_) (fun k hk => ?_)
 ·show (g (upM D i y j)).p w
  by_cases e : j = i
  ·rw [e, upM_same]; exact h.1
  ·rw [upM_other _ _ e]; exact h.2 j hj
 ·obtain ⟨j, hj, hk⟩ := hk
  have hk : (g (upM D i y j)).foot k := hk
  by_cases e : j = i
  ·rw [e, upM_same] at hk; exact Or.inl hk
  ·rw [upM_other _ _ e] at hk; exact Or.inr ⟨j, hj, hk⟩
abbrev Ad := Option Addr × Nat
def agJ (B : Nat) (d : Nd × Ad) : It := ownI B 4 1 (slV d.2 d.1.vA.length) d.1.vA.length (rowV (tF (bA d.1)) d.1.vA.length)
def tlJ (B : Nat) (d : Ms × Ad) : It := ownI B 3 1 (slV d.2 d.1.L.length) d.1.L.length (rowV (iF (gL d.1.L)) d.1.L.length)
def bxJ (B : Nat) (d : List Lm × Ad) : It := omI B (slV d.2 d.1.length) d.1
def agI (B : Nat) (D : Nat → Nd × Ad) : It := fourI (fun i => agJ B (D i))
def tlI (B : Nat) (T : Nat → Ms × Ad) : It := fourI (fun i => tlJ B (T i))
def bxI (B : Nat) (X : Nat → List Lm × Ad) : It := fourI (fun i => bxJ B (X i))
def wkG (fr : Int) (D : Nat → Nd × Ad) (bad : Int) (lv : Value) (X : Nat → List Lm × Ad) : Nat → Value := wkF fr (fun i => (D i).1) (fun i => slV (D i).2 (D i).1.vA.length) bad lv (fun i => slV (X i).2 (X i).1.length)
def m4G (T : Nat → Ms × Ad) : Nat → Value := m4F (fun i => (T i).1) (fun i => slV (T i).2 (T i).1.L.length)
def clG (fr : Int) (D : Nat → Nd × Ad) : Nat → Value := clF fr (fun i => (D i).1) (fun i => slV (D i).2 (D i).1.vA.length)
theorem upM_ap {α β : Type} (f : α → β) (D : Nat → α) (i : Nat) (y : α) : (fun j => f (upM D i y j)) = upM (fun j => f (D j)) i (f y) := by
 funext j
 unfold upM
 split <;> rfl
theorem wkG_nd (fr : Int) (D : Nat → Nd × Ad) (bad : Int) (lv : Value) (X : Nat → List Lm × Ad) {i : Nat} (hi : i < 4) (d : Nd × Ad) : ∀ j, j < 303 → stP (wkG fr D bad lv X) (1 + i * 74) 74 (ndF d.1 (slV d.2 d.1.vA.length)) j = wkG fr (upM D i d) bad lv X j := by
 unfold wkG
 rw [upM_ap (fun d : Nd × Ad => d.1), upM_ap (fun d : Nd × Ad => slV d.2 d.1.vA.length)]
 exact wkF_set _ _ _ _ _ _ hi _ _
theorem wkG_bx (fr : Int) (D : Nat → Nd × Ad) (bad : Int) (lv : Value) (X : Nat → List Lm × Ad) (i : Nat) (d : List Lm × Ad) : ∀ j, j < 303 → stW (wkG fr D bad lv X) (299 + i) (slV d.2 d.1.length) j = wkG fr D bad lv (upM X i d) j := by
 unfold wkG
 rw [upM_ap (fun d : List Lm × Ad => slV d.2 d.1.length)]
 exact wkF_bx _ _ _ _ _ _ _ _
theorem m4G_set (T : Nat → Ms × Ad) (i : Nat) (d : Ms × Ad) : ∀ j, j < 16 → stP (m4G T) (i * 4) 4 (msF d.1.K d.1.F d.1.R (slV d.2 d.1.L.length)) j = m4G (upM T i d) j := by
 unfold m4G
 rw [upM_ap (fun d : Ms × Ad => d.1), upM_ap (fun d : Ms × Ad => slV d.2 d.1.L.length)]
 exact m4F_set _ _ _ _ _
theorem clG_set (fr : Int) (D : Nat → Nd × Ad) (i : Nat) (d : Nd × Ad) : ∀ j, j < 297 → stP (clG fr D) (1 + i * 74) 74 (ndF d.1 (slV d.2 d.1.vA.length)) j = clG fr (upM D i d) j := by
 unfold clG
 rw [upM_ap (fun d : Nd × Ad => d.1), upM_ap (fun d : Nd × Ad => slV d.2 d.1.vA.length)]
 exact clF_set _ _ _ _ _ _
theorem clG_one (fr : Int) (D : Nat → Nd × Ad) : ∀ j, j < 297 → (clG fr D j).oneCell' = true := clF_one _ _ _ _
theorem m4G_one (T : Nat → Ms × Ad) : ∀ j, j < 16 → (m4G T j).oneCell' = true := m4F_one _ _ _
section
variable {P : Program} {Q : Exit → Act → World → Prop} {J : Act → World → Prop} {a : Act} {w : World} {x : Code} {id : Nat} {fn : Func} {R : Ending → World → Prop}
theorem x_end (h : Q .normal a w) : Nx P x (Exit.then J (Exit.inBlock id Q)) (.exit id) a w := by
 show (if id = id then _ else _)
 rw [if_pos rfl]
 exact h
theorem end_of (hd : a.defers = []) (hr : fn.results = #[]) (h : R (.returned (.tuple #[])) w) : bodyPost P fn R .normal a w := ⟨hd, .tuple #[], by simp [results, hr], h⟩
theorem wp_callG {o : Oper} {K : Act → World → Prop} (c x y : Operand) (T : Array TypeId) (ho : o.op = .call { callee := .value c, args := #[x, y], argTypes := T }) (n : Nat) [E : EntK P n] {caps : Array Value} {u v : Value} (hc : a.eval c = .func (.func n) #[] caps) (hx : a.eval x = u) (hy : a.eval y = v) (hk : Calls P n (#[u, v] ++ caps) w R)
  (h : ∀ e w', R e w' → ∃ r, e = .returned r ∧ K (a.put o.dst r) w') : WpI P o a w K Q := by
 refine ⟨?_⟩
 have e : (execOp a.eval o).run P w = .ok (.enter n (#[u, v] ++ caps)) w := by
  unfold execOp
  rw [ho]
  simp only [resolve, invoke, Sem.run_bind, List.map_toArray, List.map_cons, List.map_nil, hc, hx, hy]
  have := E.out (#[u, v] ++ caps) w
  go_simp
 unfold Oper.wp
 rw [e, Oper.upon_enter]
 refine hk.mono ?_
 intro e w' hr
 obtain ⟨r, rfl, hh⟩ := h e w' hr
 exact hh
end
end Go.Proofs.YtdhblehhgpdpdaaGreat
namespace Go.Proofs.YtdhblehhgpdpdaaGreat
open Go.RowKit
theorem send_any (x : Ip) (b : Nat) (fr : Int) (D : Nat → Nd × Ad) (lo : Option Addr) (lc : Nat) (LL : List Lj) (X : Nat → List Lm × Ad) (ph : Nat) (T : Nat → Ms × Ad) (w0 w : World) (l : List It) (H : Cx w0 w (vhI 88 b 303 303 (wkG fr D x.bad (.slice lo LL.length lc) X) :: bxI w0.heap.size X :: tlI w0.heap.size T :: l)) (hx : x.ly = LL.map Lj.y) (hj : JRd w0 lo LL) (hl : LL.length ≤ 400)
  (hT : ∀ j : Nat, j < 4 → (j : Int) ≠ x.bad → MsOK (T j).1) :
  Calls Tryz.prog 26 #[.pointer (some ⟨b, 0, none⟩), .int .i64 (ph : Int), agV (m4G T) 0 16] w fun e w' => e = .returned (.tuple #[]) ∧ ∃ X', (∀ i, i < 4 → (X' i).1.map Lm.m = bxM x (fun j => (T j).1) i ph 4) ∧ Cx w0 w' (vhI 88 b 303 303 (wkG fr D x.bad (.slice lo LL.length lc) X') :: bxI w0.heap.size X' :: tlI w0.heap.size T :: l) := by
 refine enterF Tryz.func26 rfl 21 rfl (of_decide_eq_true rfl) (fun A hs hd hb => ?_)
 have b0 : A.eval (.tmp 0) = .pointer (some ⟨b, 0, none⟩) := hb 0 _ rfl
 have b1 : A.eval (.tmp 1) = .int .i64 (ph : Int) := hb 1 _ rfl
 have b2 : A.eval (.tmp 2) = agV (m4G T) 0 16 := hb 2 _ rfl
 clear hb
 refine c_rs (m_start ?_)
 refine q_box H ?_
 intro w1 H z1
 repeat first | refine qa ?_ | refine l_nx ?_ | refine c_rs ?_
 refine c_block ?_
 refine c_loop (fun r A W => ∃ (i : Nat) (X' : Nat → List Lm × Ad), i ≤ 4 ∧ 4 - i ≤ r ∧ A.tmps.size = 21 ∧ A.defers = [] ∧ A.eval (.tmp 0) = .pointer (some ⟨b, 0, none⟩) ∧ A.eval (.tmp 1) = .int .i64 (ph : Int) ∧ A.eval (.tmp 5) = .pointer (some ⟨w.heap.size, 0, none⟩) ∧ A.eval (.tmp 7) = .int .i64 (i : Int) ∧ (∀ j, j < i → (X' j).1.map Lm.m = bxM x (fun j => (T j).1) j ph 4) ∧ Cx w0 W (vhI 82 w.heap.size 16 16 (m4G T) :: vhI 88 b 303 303 (wkG fr D x.bad (.slice lo LL.length lc) X') :: bxI w0.heap.size X' :: tlI w0.heap.size T :: l)) 4
  ⟨0, X, Nat.zero_le _, by omega, (szL _ _).trans hs, (defL _ _).trans hd, Qv, Qv, Qv, Qv, fun j h => absurd h (Nat.not_lt_zero j), H⟩ (fun r B W hI => ?_)
 clear b0 b1 b2 hs hd H
 obtain ⟨i, X', hi, hr, hs, hd, b0, b1, b5, b7, hX, H⟩ := hI
 refine c_rs (m_start ?_)
 repeat first | refine qa ?_ | refine l_nx ?_ | refine c_rs ?_ | refine c_nx ?_
 refine q_if (fun h => ?_) (fun h => ?_)
 ·have hin : i < 4 := by have := of_decide_eq_true h; omega
  refine c_fin ?_
  refine c_nx (c_block ?_)
  refine c_rs ?_
  repeat first | refine qa ?_ | refine l_nx ?_
  replace H := H.drew
  have hS : Its [vhI 82 w.heap.size 16 16 (m4G T)] W.drew := Its.cons H.o0 (Its.nil _)
  refine c_rj (S := Its [vhI 82 w.heap.size 16 16 (m4G T)]) (.mv 0 (.mv 1 (.mv 2 (.mv 3 (.mv 4 (.rd 5 (.mv 7 (.mv 8 (.go 6 (.mv 9 (.go 10 .fin))))))))))) [10] (by kernel_rfl) (by kernel_rfl) ?_
  repeat first | refine qj ?_ | refine qr hS ?_
  refine j_do rfl rfl (wanted_rd rfl) (fun K hK => ?_)
  have hsz := H.size
  refine wp_call4n _ 47 _ _ _ _ _ rfl Qv Qv Qv Qv (EntK.out _ _) (sentTo_any x b fr _ _ lo lc LL _ i ph (fun j => (T j).1) (fun j => (T j).2) _ H.v1 hx (hj.below H.bel) hl hin (fun j h4 hb => ?_)) ?_
  ·have ho : World.ownsRow _ _ _ _ _ _ _ := H.o3 j h4
   obtain ⟨a3, c3, e, hs3, hc3⟩ := owns_sr ho
   obtain ⟨e1, e2⟩ : (T j).2.1 = a3 ∧ (T j).2.2 = c3 := by cases e; exact ⟨rfl, rfl⟩
   exact ⟨hT j h4 hb, by rw [e2]; exact hc3, by rw [e1, e2]; exact hs3⟩
  ·rintro e w2 ⟨mo, mc, M1, rfl, hM1, oM1, k2⟩
   replace H := H.add k2 (bxJ w0.heap.size (M1, (mo, mc))) (oM1.base hsz) (fun j e => om_up oM1 j e)
   refine ⟨_, rfl, hK _ _ (fun _ _ => Its.cons H.o1 (Its.nil _)) ?_⟩
   clear hK K
   repeat refine qj ?_
   refine j_st rfl (wanted_rd rfl) (fun K hK => ?_)
   refine wp_sto1 _ _ _ _ rfl OneK.out Qv Qv H.v2 (by omega) rfl rfl rfl ?_
   intro w3 m3 k3 z3
   replace H := H.s2 k3 (m3.congr (fun j hj => Eq.trans (by rw [show 0 + 299 + i * 1 = 299 + i by omega]; rfl) (wkG_bx fr D x.bad (.slice lo LL.length lc) X' i (M1, (mo, mc)) j hj)))
   refine hK _ (fun h => absurd h (by decide)) ?_
   clear hK K
   refine j_finB ?_
   refine c_region ?_
   repeat refine qa ?_
   exact l_round ⟨4 - (i + 1), by omega, i + 1, _, by omega, by omega, (szL _ _).trans hs, (defL _ _).trans hd, Qv, Qv, Qv, Eq.trans Qv (by rw [Int.natCast_add]; rfl), fun j hj => (by
    by_cases e : j = i
    ·rw [e, upM_same]; exact hM1
    ·rw [upM_other _ _ e]; exact hX j (by omega)), (four_set (g := bxJ w0.heap.size) i H.f3.f1).b2⟩
 ·obtain rfl : i = 4 := by have := of_decide_eq_false h; omega
  refine c_exit (x_end ?_)
  exact end_of ((defL _ _).trans hd) rfl ⟨rfl, X', hX, H.tl⟩
end Go.Proofs.YtdhblehhgpdpdaaGreat
namespace Go.Proofs.YtdhblehhgpdpdaaGreat
open Go.RowKit
def ndsG (D : Nat → Nd × Ad) (j : Nat) : Value := ndF (D (j / 74)).1 (slV (D (j / 74)).2 (D (j / 74)).1.vA.length) (j % 74)
theorem ndsG_at (D : Nat → Nd × Ad) {i j : Nat} (hj : j < 74) : ndsG D (i * 74 + j) = ndF (D i).1 (slV (D i).2 (D i).1.vA.length) j := by
 unfold ndsG
 rw [show (i * 74 + j) / 74 = i by omega, show (i * 74 + j) % 74 = j by omega]
theorem wkG_nds (fr : Int) (D : Nat → Nd × Ad) (bad : Int) (lv : Value) (X : Nat → List Lm × Ad) {j : Nat} (hj : j < 296) : wkG fr D bad lv X (0 + 0 + 1 + j) = ndsG D j := by
 unfold wkG
 rw [wkF_cl (by omega)]
 unfold clF ndsG
 rw [if_neg (by omega), show 0 + 0 + 1 + j - 1 = j by omega]
theorem clG_nds (fr : Int) (D : Nat → Nd × Ad) {j : Nat} (hj : j < 296) : clG fr D (0 + 1 + j) = ndsG D j := by
 unfold clG clF ndsG
 rw [if_neg (by omega), show 0 + 1 + j - 1 = j by omega]
theorem wkG_at (fr : Int) (D : Nat → Nd × Ad) (bad : Int) (lv : Value) (X : Nat → List Lm × Ad) {i : Nat} (_ : i < 4) : wkG fr D bad lv X (299 + i) = slV (X i).2 (X i).1.length := by
 unfold wkG wkF
 rw [if_neg (by omega), if_neg (by omega), if_neg (by omega), Nat.add_sub_cancel_left]
def emI : It := ⟨fun _ => True, fun _ => False, fun h _ => h, fun _ e => e.elim⟩
theorem Cx.add2 {w0 w w' : World} {l : List It} (H : Cx w0 w l) (k : Below w.heap.size w w') (x y : It) (hx : x.p w') (hy : y.p w') (fx : ∀ j, x.foot j → w.heap.size ≤ j) (fy : ∀ j, y.foot j → w.heap.size ≤ j) (hd : ∀ j, x.foot j → ¬ y.foot j) : Cx w0 w' (x :: y :: l) := by
 have H2 := H.add k y hy fy
 have hs := H.size
 refine ⟨H2.bel, fun z hz => ?_, fun z hz j hj => ?_, List.pairwise_cons.2 ⟨fun z hz j h1 h2 => ?_, H2.dis⟩⟩
 ·rcases List.mem_cons.1 hz with rfl | hz
  ·exact hx
  ·exact H2.it z hz
 ·rcases List.mem_cons.1 hz with rfl | hz
  ·have := fx j hj; omega
  ·exact H2.up z hz j hj
 ·rcases List.mem_cons.1 hz with rfl | hz
  ·exact hd j h1 h2
  ·have h3 := fx j h1
   have h4 := z.lt (H.it z hz) h2
   omega
def PvC (w0 : World) (bad : Int) (n : Nat) (caps : Array Value) (N : Nat → Nd → List Ms → Nd) (M : Nat → Nd → List Ms → Ms) (Ys : Nat → It → Prop) (Dn : Nat → Nd) (Bn : Nat → List Ms) : Prop := ∀ (i : Nat) (nd : Nd) (ao : Option Addr) (c : Nat) (mo : Option Addr) (mc : Nat) (L : List Lm) (w : World) (y : It) (l : List It), i < 4 → (i : Int) ≠ bad → nd = Dn i → L.map Lm.m = Bn i → nd.id = (i : Nat) → NdOK nd → AgRd w nd ao c → MRd w mo L → L.length ≤ 1600 → L.length ≤ mc → (∀ m, m ∈ L → MsOK m.m) → Ys i y → Cx w0 w (y :: l) →
 Calls Tryz.prog n (#[ndV nd (.slice ao nd.vA.length c), .slice mo L.length mc] ++ caps) w fun e w' => ∃ (a1 a2 : Ad) (y' : It), Ys (i + 1) y' ∧ e = .returned (.tuple #[ndV (N i nd (L.map Lm.m)) (slV a1 (N i nd (L.map Lm.m)).vA.length), lsV (M i nd (L.map Lm.m)) (slV a2 (M i nd (L.map Lm.m)).L.length)]) ∧ Cx w0 w' (agJ w0.heap.size (N i nd (L.map Lm.m), a1) :: tlJ w0.heap.size (M i nd (L.map Lm.m), a2) :: y' :: l)
theorem rows_new {w0 w w' : World} {l : List It} (H : Cx w0 w l) (k : Below w.heap.size w w') {n : Nd} {m : Ms} {a1 a2 : Ad} (h1 : AgNew w.heap.size w' n a1.1 a1.2) (h2 : VaNew w.heap.size w' m a2.1 a2.2) : Cx w0 w' (agJ w0.heap.size (n, a1) :: tlJ w0.heap.size (m, a2) :: l) := by
 have hs := H.size
 refine H.add2 k _ _ (rw_base h1 hs) (rw_base h2 hs) (fun j e => (h1.lt j e).1) (fun j e => (h2.lt j e).1) (fun j e1 e2 => ?_)
 obtain ⟨u1, g1⟩ := own_type h1 e1
 obtain ⟨u2, g2⟩ := own_type h2 e2
 rw [g1] at g2
 cases g2
theorem pvc_pure {w0 : World} {bad : Int} {fn : Nat} {N : Nd → List Ms → Nd} {M : Nd → List Ms → Ms} {Dn : Nat → Nd} {Bn : Nat → List Ms} (h : PhOK N M fn) : PvC w0 bad fn #[] (fun _ => N) (fun _ => M) (fun _ y => y = emI) Dn Bn := by
 intro i nd ao c mo mc L w y l hi _ _ _ _ hok hag hmr hl hlc hms hy H
 refine (h nd ao c mo mc L w hok hag hmr (by omega) hlc (fun m hm => (hms m hm).L)).mono ?_
 rintro e w' ⟨a', c', a2, c2, rfl, g1, g2, g3⟩
 exact ⟨(a', c'), (a2, c2), y, hy, rfl, rows_new H g3 g1 g2⟩
def doN (bad : Int) (N : Nat → Nd → List Ms → Nd) (D : Nat → Nd × Ad) (X : Nat → List Lm × Ad) (i : Nat) : Nd := if (i : Int) = bad then (D i).1 else N i (D i).1 ((X i).1.map Lm.m)
def doM (bad : Int) (M : Nat → Nd → List Ms → Ms) (D : Nat → Nd × Ad) (X : Nat → List Lm × Ad) (i : Nat) : Ms := if (i : Int) = bad then zeroM else M i (D i).1 ((X i).1.map Lm.m)
set_option maxHeartbeats 1000000 in
theorem do_any (b : Nat) (fr : Int) (D : Nat → Nd × Ad) (bad : Int) (lv : Value) (X : Nat → List Lm × Ad) (n : Nat) (caps : Array Value) (N : Nat → Nd → List Ms → Nd) (M : Nat → Nd → List Ms → Ms) (Ys : Nat → It → Prop) (w0 w : World) (y0 : It) (l : List It) [EntK Tryz.prog n] (hp : PvC w0 bad n caps N M Ys (fun i => (D i).1) (fun i => (X i).1.map Lm.m)) (hy0 : Ys 0 y0) (hXp : ∀ i : Nat, (i : Int) = bad → ∀ y, Ys i y → Ys (i + 1) y)
  (hid : ∀ i, i < 4 → (D i).1.id = (i : Nat)) (hok : ∀ i, i < 4 → NdOK (D i).1) (hX : ∀ i, i < 4 → (X i).1.length ≤ 1600 ∧ ∀ c, c ∈ (X i).1 → MsOK c.m)
  (H : Cx w0 w (agI w0.heap.size D :: y0 :: vhI 88 b 303 303 (wkG fr D bad lv X) :: bxI w0.heap.size X :: l)) :
  Calls Tryz.prog 27 #[.pointer (some ⟨b, 0, none⟩), .func (.func n) #[] caps] w fun e w' => ∃ (D' : Nat → Nd × Ad) (T : Nat → Ms × Ad) (y' : It), Ys 4 y' ∧ e = .returned (agV (m4G T) 0 16) ∧ (∀ i, i < 4 → (D' i).1 = doN bad N D X i) ∧ (∀ i, i < 4 → (T i).1 = doM bad M D X i) ∧
   Cx w0 w' (tlI w0.heap.size T :: agI w0.heap.size D' :: y' :: vhI 88 b 303 303 (wkG fr D' bad lv X) :: bxI w0.heap.size X :: l) := by
 refine enterF Tryz.func27 rfl 45 rfl (of_decide_eq_true rfl) (fun A hs hd hb => ?_)
 have b0 : A.eval (.tmp 0) = .pointer (some ⟨b, 0, none⟩) := hb 0 _ rfl
 have b1 : A.eval (.tmp 1) = .func (.func n) #[] caps := hb 1 _ rfl
 clear hb
 refine c_rs (m_start ?_)
 refine q_al H ?_
 intro w1 H z1
 refine l_nx ?_
 refine c_rs ?_
 refine q_al H ?_
 intro w2 H z2
 refine l_nx ?_
 refine c_nx ?_
 refine c_rs ?_
 iterate 4 refine qa ?_
 refine qg (Eq.trans (run_loadP _ _ rfl ManyK.out Qv H.v4 (by omega)) (by rw [agV_cong (fun j hj => wkG_nds fr D bad lv X hj)])) ?_
 repeat first | refine qa ?_ | refine l_nx ?_
 refine c_block ?_
 refine c_loop (fun r A W => ∃ (i : Nat) (D' : Nat → Nd × Ad) (T : Nat → Ms × Ad) (y : It), Ys i y ∧ i ≤ 4 ∧ 4 - i ≤ r ∧ A.tmps.size = 45 ∧ A.defers = [] ∧ A.eval (.tmp 0) = .pointer (some ⟨b, 0, none⟩) ∧ A.eval (.tmp 1) = .func (.func n) #[] caps ∧ A.eval (.tmp 4) = .pointer (some ⟨w.heap.size, 0, none⟩) ∧ A.eval (.tmp 5) = .pointer (some ⟨w1.heap.size, 0, none⟩) ∧ A.eval (.tmp 12) = agV (ndsG D) 0 296 ∧ A.eval (.tmp 13) = .int .i64 (i : Int) ∧
   (∀ j, j < 4 → (D' j).1 = if j < i then doN bad N D X j else (D j).1) ∧ (∀ j, i ≤ j → D' j = D j) ∧ (∀ j, j < 4 → (T j).1 = if j < i then doM bad M D X j else zeroM) ∧
   Cx w0 W (tlI w0.heap.size T :: agI w0.heap.size D' :: y :: vhI 82 w1.heap.size 16 16 (m4G T) :: vhI 82 w.heap.size 16 16 (m4G (fun _ => (zeroM, (none, 0)))) :: vhI 88 b 303 303 (wkG fr D' bad lv X) :: bxI w0.heap.size X :: l)) 4
  ⟨0, D, fun _ => (zeroM, (none, 0)), y0, hy0, Nat.zero_le _, by omega, (szL _ _).trans hs, (defL _ _).trans hd, Qv, Qv, Qv, Qv, Qv, Qv, fun j _ => (if_neg (Nat.not_lt_zero j)).symm, fun _ _ => rfl, fun j _ => (if_neg (Nat.not_lt_zero j)).symm,
   (H.add (Below.refl _ _) (tlI w0.heap.size (fun _ => (zeroM, (none, 0)))) (fun _ _ => World.ownsRow_nil _ _ _ _) (fun j ⟨_, _, e⟩ => absurd e (fun e => nomatch e))).f4.f4.f2⟩ (fun r B W hI => ?_)
 clear b0 b1 hs hd H
 obtain ⟨i, D', T, y, hy, hi, hr, hs, hd, b0, b1, b4, b5, b12, b13, hD, hDr, hT, H⟩ := hI
 refine c_rs (m_start ?_)
 repeat first | refine qa ?_ | refine l_nx ?_ | refine c_rs ?_ | refine c_nx ?_
 refine q_if (fun h => ?_) (fun h => ?_)
 ·have hin : i < 4 := by have := of_decide_eq_true h; omega
  refine c_fin ?_
  refine c_nx (c_block ?_)
  refine c_rs ?_
  refine qa ?_
  refine qg (Eq.trans (run_ixVM _ _ _ _ rfl ArrK.out ManyK.out Qv rfl Qv rfl hin _) (by rw [agV_cong (fun j hj => ndsG_at D hj)])) ?_
  refine q_al H ?_
  intro w3 H z3
  refine qa ?_
  refine q_sp0 H stP_whole (ndF_one _ _ _ _) ?_
  intro w4 H z4
  repeat first | refine qa ?_ | refine l_nx ?_ | refine c_rs ?_
  refine q_if (fun h1 => ?_) (fun h1 => ?_)
  ·have e1 : (i : Int) ≠ bad := of_decide_eq_true h1
   replace H := H.drew
   have hS : Its [vhI 37 W.heap.size 74 74 (ndF (D i).1 (slV (D i).2 (D i).1.vA.length)), vhI 88 b 303 303 (wkG fr D' bad lv X)] w4.drew := Its.cons H.o0 (Its.cons H.o6 (Its.nil _))
   have hXi := hX i hin
   have hAg : AgRd w4.drew (D i).1 (D i).2.1 (D i).2.2 := by
    have ho : World.ownsRow _ _ _ _ _ _ _ := H.o2 i hin
    obtain ⟨a3, c3, e, hs3, _⟩ := owns_sr ho
    rw [hDr i (Nat.le_refl _)] at e hs3
    cases e
    exact hs3
   have hBx : OwnM w4.drew w0.heap.size (slV (X i).2 (X i).1.length) (X i).1 := H.o7 i hin
   have hBc : (X i).1.length ≤ (X i).2.2 := by
    obtain ⟨a3, c3, e, h3⟩ := rw_slice hBx.1
    cases e
    exact h3
   refine c_rj (S := Its [vhI 37 W.heap.size 74 74 (ndF (D i).1 (slV (D i).2 (D i).1.vA.length)), vhI 88 b 303 303 (wkG fr D' bad lv X)]) (.mv 0 (.mv 1 (.mv 2 (.mv 3 (.rd 4 (.mv 5 (.mv 6 (.mv 7 (.mv 8 (.mv 9 (.rd 10 (.mv 15 (.mv 16 (.mv 17 (.go 11 (.mv 12 (.mv 13 (.mv 14 (.mv 18 (.go 19 (.mv 20 (.go 21 .fin)))))))))))))))))))))) [19, 21] (by kernel_rfl) (by kernel_rfl) ?_
   iterate 10 first | refine qj ?_ | refine qr hS ?_
   refine Yr rfl hS (fun _ H => Eq.trans (run_lod1 _ _ rfl OneK.out Qv H.v1 (by omega) rfl) (by rw [show 0 + 299 + i * 1 = 299 + i by omega, wkG_at _ _ _ _ _ hin])) ?_
   repeat refine qj ?_
   refine j_do rfl rfl (wanted_rd rfl) (fun K hK => ?_)
   refine wp_callG _ _ _ _ rfl n Qv Qv Qv (hp i (D i).1 (D i).2.1 (D i).2.2 (X i).2.1 (X i).2.2 (X i).1 _ _ _ hin e1 rfl rfl (hid i hin) (hok i hin) hAg (hBx.rd (fun c hc => by have := (hXi.2 c hc).n; omega)) hXi.1 hBc hXi.2 hy H.f3) ?_
   rintro e w5 ⟨a1, a2, y2, hy2, rfl, H⟩
   refine ⟨_, rfl, hK _ _ (fun _ _ => Its.cons H.o3 (Its.cons H.o8 (Its.nil _))) ?_⟩
   clear hK K
   repeat refine qj ?_
   refine j_st rfl (wanted_rd rfl) (fun K hK => ?_)
   refine wp_storeP _ _ _ _ rfl ManyK.out Qv Qv H.v8 (by omega) (ndF_one _ _ _ _) rfl ?_
   intro w6 m6 k6 z6
   replace H := H.s8 k6 (m6.congr (fun j hj => Eq.trans (by rw [show 0 + 0 + 1 + i * 74 = 1 + i * 74 by omega]; rfl) (wkG_nd fr D' bad lv X hin (N i (D i).1 ((X i).1.map Lm.m), a1) j hj)))
   refine hK _ (fun h => absurd h (by decide)) ?_
   clear hK K
   repeat refine qj ?_
   refine j_st rfl (wanted_rd rfl) (fun K hK => ?_)
   refine wp_storeP _ _ _ _ rfl ManyK.out Qv Qv H.v6 (by omega) (msF_one _ _ _ _ _ _) rfl ?_
   intro w7 m7 k7 z7
   replace H := H.s6 k7 (m7.congr (fun j hj => Eq.trans (by rw [show 0 + i * 4 = i * 4 by omega]; rfl) (m4G_set T i (M i (D i).1 ((X i).1.map Lm.m), a2) j hj)))
   refine hK _ (fun h => absurd h (by decide)) ?_
   clear hK K
   refine j_finB ?_
   refine c_region ?_
   repeat refine qa ?_
   refine l_round ⟨4 - (i + 1), by omega, i + 1, upM D' i (N i (D i).1 ((X i).1.map Lm.m), a1), upM T i (M i (D i).1 ((X i).1.map Lm.m), a2), y2, hy2, by omega, by omega, (szL _ _).trans hs, (defL _ _).trans hd, Qv, Qv, Qv, Qv, Qv, Eq.trans Qv (by rw [Int.natCast_add]; rfl), fun j hj => ?_, fun j hj => (upM_other _ _ (by omega)).trans (hDr j (by omega)), fun j hj => ?_,
    (four_set (g := tlJ w0.heap.size) i (four_set (g := agJ w0.heap.size) i H.f5.f1).f4.f2).f3.tl⟩
   ·by_cases e : j = i
    ·rw [e, upM_same, if_pos (by omega)]
     unfold doN
     rw [if_neg e1]
    ·rw [upM_other _ _ e, hD j hj]
     by_cases e2 : j < i
     ·rw [if_pos e2, if_pos (by omega)]
     ·rw [if_neg e2, if_neg (by omega)]
   ·by_cases e : j = i
    ·rw [e, upM_same, if_pos (by omega)]
     unfold doM
     rw [if_neg e1]
    ·rw [upM_other _ _ e, hT j hj]
     by_cases e2 : j < i
     ·rw [if_pos e2, if_pos (by omega)]
     ·rw [if_neg e2, if_neg (by omega)]
  ·have e1 : (i : Int) = bad := by have := of_decide_eq_false h1; omega
   refine c_finB ?_
   refine c_region ?_
   repeat refine qa ?_
   refine l_round ⟨4 - (i + 1), by omega, i + 1, D', T, y, hXp i e1 y hy, by omega, by omega, (szL _ _).trans hs, (defL _ _).trans hd, Qv, Qv, Qv, Qv, Qv, Eq.trans Qv (by rw [Int.natCast_add]; rfl), fun j hj => ?_, fun j hj => hDr j (by omega), fun j hj => ?_, H.tl⟩
   ·rw [hD j hj]
    by_cases e : j = i
    ·rw [if_neg (by omega), if_pos (by omega)]
     unfold doN
     rw [e, if_pos e1]
    ·by_cases e2 : j < i
     ·rw [if_pos e2, if_pos (by omega)]
     ·rw [if_neg e2, if_neg (by omega)]
   ·rw [hT j hj]
    by_cases e : j = i
    ·rw [if_neg (by omega), if_pos (by omega)]
     unfold doM
     rw [e, if_pos e1]
    ·by_cases e2 : j < i
     ·rw [if_pos e2, if_pos (by omega)]
     ·rw [if_neg e2, if_neg (by omega)]
 ·obtain rfl : i = 4 := by have := of_decide_eq_false h; omega
  refine c_exit (x_out ?_)
  refine c_rs ?_
  refine qa ?_
  refine q_sp4 H stP_whole (m4G_one T) ?_
  intro w5 H z5
  refine l_nx ?_
  refine c_ret (ret_of ((defL _ _).trans hd) (res_c rfl Qv ManyK.out H.v4 (Nat.le_refl _)) ⟨D', T, y, hy, rfl, fun j hj => ?_, fun j hj => ?_, H.f4.tl.f3.tl⟩)
  ·rw [hD j hj, if_pos hj]
  ·rw [hT j hj, if_pos hj]
end Go.Proofs.YtdhblehhgpdpdaaGreat
namespace Go.Proofs.YtdhblehhgpdpdaaGreat
open Go.RowKit
theorem run_bld43 {f : Operand → Value} {o : Oper} (ho : o.op = .build 32 #[]) (w : World) : (execOp f o).run Tryz.prog w = .ok (.value (agV (fun _ => iV 0) 0 12)) w := by
 unfold execOp
 rw [ho]
 go_simp
 rfl
set_option maxHeartbeats 2000000 in
theorem nodeSense_ok : SnOK 42 := by
 intro n ao c frame rd w hok hag hfr hrd
 have hag : Sr w ao n.vA.length c (tF (bA n)) := hag
 refine enterF Tryz.func42 rfl 31 rfl (of_decide_eq_true rfl) (fun A hs hd hb => ?_)
 have b0 : A.eval (.tmp 0) = ndV n (.slice ao n.vA.length c) := hb 0 _ rfl
 have b1 : A.eval (.tmp 1) = .int .i64 frame := hb 1 _ rfl
 have b2 : A.eval (.tmp 2) = agV (fun a => iV (rd a)) 0 3 := hb 2 _ rfl
 clear hb
 refine c_rs (m_start ?_)
 refine m_do rfl (wanted_rd rfl) (fun K hK => ?_)
 refine wp_boxG _ _ _ rfl (ev_out rfl b0) (of_decide_eq_true rfl) ?_
 intro w1 m1 k1 z1
 have sr1 := hag.below k1
 refine hK _ _ ?_
 clear hK K
 refine m_do rfl (wanted_rd rfl) (fun K hK => ?_)
 refine wp_boxG _ _ _ rfl (ev_out rfl b2) (of_decide_eq_true rfl) ?_
 intro w2 m2 k2 z2
 have mn2 := m1.below k2
 have sr2 := sr1.below k2
 refine hK _ _ ?_
 clear hK K
 refine m_do rfl (wanted_rd rfl) (fun K hK => ?_)
 refine wp_allocG _ _ rfl zeroNd (of_decide_eq_true rfl) ?_
 intro w3 m3 k3 z3
 have mn3 := mn2.below k3
 have mrd3 := m2.below k3
 have sr3 := sr2.below k3
 refine hK _ _ ?_
 clear hK K
 refine m_do rfl (wanted_rd rfl) (fun K hK => ?_)
 refine wp_allocG _ _ rfl zeroMs (of_decide_eq_true rfl) ?_
 intro w4 m4 k4 z4
 have mn4 := mn3.below k4
 have mrd4 := mrd3.below k4
 have mr4 := m3.below k4
 have sr4 := sr3.below k4
 refine hK _ _ ?_
 clear hK K
 refine l_nx ?_
 refine c_rs ?_
 refine Yq (run_loadP _ _ rfl manyNd (Ye rfl) mn4 (by decide)) ?_
 refine m_do rfl (wanted_rd rfl) (fun K hK => ?_)
 refine wp_call1 _ 67 _ _ rfl (Ye rfl) (enter_pown _ _) (own_any n ao c _ sr4 hok.vA) ?_
 rintro e w5 ⟨a3, c3, rfl, o5, k5⟩
 have n5 := k5.size
 have mn5 := mn4.below k5
 have mrd5 := mrd4.below k5
 have mr5 := mr4.below k5
 have mq5 := m4.below k5
 refine ⟨_, rfl, ?_⟩
 refine hK _ _ ?_
 clear hK K
 refine m_st (wanted_rd rfl) (fun K hK => ?_)
 refine wp_storeP _ _ _ _ rfl manyNd (Ye rfl) (Ye rfl) mn5 (by decide) (ndF_one _ _ _ _) rfl ?_
 intro w6 mm6 k6 z6
 have mn6 := Vh.congr mm6 (stP_all _ _)
 have mrd6 := mrd5.kept k6 (by omega)
 have mr6 := mr5.kept k6 (by omega)
 have mq6 := mq5.kept k6 (by omega)
 have ow6 := rw_kept o5 k6 (fun e => by have e1 := (o5.lt _ e).1; have e2 := (o5.lt _ e).2; omega)
 refine hK _ ?_
 clear hK K
 refine l_nx ?_
 refine c_nx ?_
 refine c_rs ?_
 refine Yq (fldNd0 rfl (Ye rfl) _) ?_
 refine Yq (run_lod1 _ _ rfl oneI (Ye rfl) mn6 (by decide) rfl) ?_
 refine m_do rfl (wanted_rd rfl) (fun K hK => ?_)
 refine wp_call1 _ 68 _ _ rfl (Ye rfl) (enter_pisNode _ _) (isNode_any n.id _) ?_
 rintro e w7 ⟨rfl, k7⟩
 have n7 := k7.size
 have mn7 := mn6.below k7
 have mrd7 := mrd6.below k7
 have mr7 := mr6.below k7
 have mq7 := mq6.below k7
 have ow7 := rw_below ow6 k7
 refine ⟨_, rfl, ?_⟩
 refine hK _ _ ?_
 clear hK K
 refine Yq (run_notB _ _ rfl (Ye rfl) _) ?_
 refine l_nx ?_
 have kA : Below w.heap.size w w7 := (below_of_kept (((((k1).trans (k2.mono (by omega))).trans (k3.mono (by omega))).trans (k4.mono (by omega))).trans (k5.mono (by omega))) k6 (by omega) (by omega)).trans (k7.mono (by omega))
 refine c_cond (t := noN n.id) ((Ye rfl).trans (by rw [Bool.not_not])) (fun hno => ?_) (fun hno => ?_)
 ·refine c_rs ?_
  refine Yq (run_loadP _ _ rfl manyNd (Ye rfl) mn7 (by decide)) ?_
  refine Yq (run_bld0 rfl _) ?_
  refine m_st (wanted_rd rfl) (fun K hK => ?_)
  refine wp_storeP _ _ _ _ rfl manyNd (Ye rfl) (Ye rfl) mr7 (by decide) (ndF_one _ _ _ _) rfl ?_
  intro w8 mm8 k8 z8
  have mr8 := Vh.congr mm8 (stP_all _ _)
  have mn8 := mn7.kept k8 (by omega)
  have mrd8 := mrd7.kept k8 (by omega)
  have mq8 := mq7.kept k8 (by omega)
  have ow8 := rw_kept ow7 k8 (fun e => by have e1 := (o5.lt _ e).1; have e2 := (o5.lt _ e).2; omega)
  refine hK _ ?_
  clear hK K
  refine m_st (wanted_rd rfl) (fun K hK => ?_)
  refine wp_storeP _ _ _ _ rfl manyMs (Ye rfl) (Ye rfl) mq8 (by decide) (msF_one _ _ _ _ _ _) rfl ?_
  intro w9 mm9 k9 z9
  have mq9 := Vh.congr mm9 (stP_all4 _ _)
  have mn9 := mn8.kept k9 (by omega)
  have mrd9 := mrd8.kept k9 (by omega)
  have mr9 := mr8.kept k9 (by omega)
  have ow9 := rw_kept ow8 k9 (fun e => by have e1 := (o5.lt _ e).1; have e2 := (o5.lt _ e).2; omega)
  refine hK _ ?_
  clear hK K
  refine l_nx ?_
  refine c_ret ?_
  simp only [Nx, Exit.then]
  refine ret_of ((defL _ _).trans hd) (res_cc rfl (Ye rfl) (Ye rfl) manyNd manyMs mr9 (Nat.le_refl _) mq9 (Nat.le_refl _)) ⟨a3, c3, none, 0, ?_, rw_base ow9 (by omega), ?_, ?_⟩
  ·unfold senN senM
   rw [if_pos hno, if_pos hno]
   rfl
  ·unfold VaNew senM
   rw [if_pos hno]
   exact World.ownsRow_nil _ _ _ _
  ·exact below_of_kept (below_of_kept kA k8 (by omega) (by omega)) k9 (by omega) (by omega)
 ·obtain ⟨h0, h3⟩ := noN_in hno
  obtain ⟨I, hI⟩ : ∃ I : Nat, n.id = (I : Int) := ⟨n.id.toNat, by omega⟩
  have hi4 : I < 4 := by omega
  refine c_fin ?_
  refine c_rs ?_
  refine Yp ?_
  refine Yq (fldNd1 rfl (Ye rfl) _) ?_
  refine m_st (wanted_rd rfl) (fun K hK => ?_)
  refine wp_sto1 _ _ _ _ rfl oneI (Ye rfl) (Ye rfl) mn7 (by decide) rfl rfl rfl ?_
  intro w8 mm8 k8 z8
  have mn8 := Vh.congr mm8 (upd_fr _ _ _)
  have mrd8 := mrd7.kept k8 (by omega)
  have mr8 := mr7.kept k8 (by omega)
  have mq8 := mq7.kept k8 (by omega)
  have ow8 := rw_kept ow7 k8 (fun e => by have e1 := (o5.lt _ e).1; have e2 := (o5.lt _ e).2; omega)
  refine hK _ ?_
  clear hK K
  refine l_nx ?_
  refine c_rs ?_
  refine Yq (run_bld43 rfl _) ?_
  refine Yq (fldNd5 rfl (Ye rfl) _) ?_
  refine m_st (wanted_rd rfl) (fun K hK => ?_)
  refine wp_storeP _ _ _ _ rfl many43 (Ye rfl) (Ye rfl) mn8 (by decide) (fun j hj => rfl) rfl ?_
  intro w9 mm9 k9 z9
  have mn9 := Vh.congr mm9 (upd_di _ _ (fun _ _ => 0))
  have mrd9 := mrd8.kept k9 (by omega)
  have mr9 := mr8.kept k9 (by omega)
  have mq9 := mq8.kept k9 (by omega)
  have ow9 := rw_kept ow8 k9 (fun e => by have e1 := (o5.lt _ e).1; have e2 := (o5.lt _ e).2; omega)
  refine hK _ ?_
  clear hK K
  refine l_nx ?_
  refine c_rs ?_
  refine Yq (fldNd0 rfl (Ye rfl) _) ?_
  refine Yq (run_lod1 _ _ rfl oneI (Ye rfl) mn9 (by decide) rfl) ?_
  refine Yq (run_loadP _ _ rfl many3 (Ye rfl) mrd9 (by decide)) ?_
  refine Yq (fldNd5 rfl (Ye rfl) _) ?_
  refine Yq (run_ixG _ _ _ _ rfl Tryz.underlying32 many3.size (Ye rfl) (Ye rfl) hI hi4 _) ?_
  refine m_st (wanted_rd rfl) (fun K hK => ?_)
  refine wp_storeP _ _ _ _ rfl many3 (Ye rfl) (Ye rfl) mn9 (by omega) (fun j hj => rfl) rfl ?_
  intro w10 mm10 k10 z10
  have mn10 := Vh.congr mm10 (upd_drAt _ _ rd I hi4)
  have mrd10 := mrd9.kept k10 (by omega)
  have mr10 := mr9.kept k10 (by omega)
  have mq10 := mq9.kept k10 (by omega)
  have ow10 := rw_kept ow9 k10 (fun e => by have e1 := (o5.lt _ e).1; have e2 := (o5.lt _ e).2; omega)
  refine hK _ ?_
  clear hK K
  refine l_nx ?_
  refine c_rs ?_
  refine Yq (run_bld4 rfl _) ?_
  refine Yq (fldNd6 rfl (Ye rfl) _) ?_
  refine m_st (wanted_rd rfl) (fun K hK => ?_)
  refine wp_storeP _ _ _ _ rfl many4 (Ye rfl) (Ye rfl) mn10 (by decide) (fun j hj => rfl) rfl ?_
  intro w11 mm11 k11 z11
  have mn11 := Vh.congr mm11 (upd_he _ _ (fun _ => 0))
  have mrd11 := mrd10.kept k11 (by omega)
  have mr11 := mr10.kept k11 (by omega)
  have mq11 := mq10.kept k11 (by omega)
  have ow11 := rw_kept ow10 k11 (fun e => by have e1 := (o5.lt _ e).1; have e2 := (o5.lt _ e).2; omega)
  refine hK _ ?_
  clear hK K
  refine l_nx ?_
  refine c_nx ?_
  have hS0 : (fun W => Vh 37 W w.heap.size 74 74 (ndF { n with fr := frame, di := fun s a => if s = I then rd a else 0, he := fun _ => 0 } (.slice a3 n.vA.length c3))) w11.drew := mn11
  have mn0 : Vh _ w11.drew _ _ _ _ := mn11
  have mrd0 : Vh _ w11.drew _ _ _ _ := mrd11
  have mr0 : Vh _ w11.drew _ _ _ _ := mr11
  have mq0 : Vh _ w11.drew _ _ _ _ := mq11
  have ow0 := (show World.ownsRow w11.drew _ _ _ _ _ _ from ow11)
  have ez : w11.drew.heap.size = w11.heap.size := rfl
  refine c_rj (S := fun W => Vh 37 W w.heap.size 74 74 (ndF { n with fr := frame, di := fun s a => if s = I then rd a else 0, he := fun _ => 0 } (.slice a3 n.vA.length c3))) (.rd 0 (.rd 1 (.mv 2 (.go 3 (.go 4 (.go 5 .fin)))))) [] (by kernel_rfl) (by kernel_rfl) ?_
  refine Yr rfl hS0 (fun _ hS => run_loadP _ _ rfl manyNd (Ye rfl) hS (by decide)) ?_
  refine Yr rfl hS0 (fun _ hS => run_loadP _ _ rfl manyNd (Ye rfl) hS (by decide)) ?_
  refine Yk rfl (fun _ => run_cutI3 _ rfl (Ye rfl) _) ?_
  refine j_do rfl rfl (wanted_rd rfl) (fun K hK => ?_)
  refine wp_call3n _ 69 _ _ _ _ rfl (Ye rfl) (ev_const _ _) (Ye rfl) (enter_ptell _ _ _ _) (tell_any { n with fr := frame, di := fun s a => if s = I then rd a else 0, he := fun _ => 0 } (.slice a3 n.vA.length c3) 1 (some ⟨w1.heap.size, 0, none⟩) 3 3 rd _ (Or.inr ⟨_, rfl, fun i hi => by rw [add_at, Nat.zero_add]; exact mrd0.cell hi⟩) (by decide)) ?_
  rintro e w12 ⟨a2, c2, rfl, ov12, k12⟩
  have n12 := k12.size
  have mn12 := hS0.below k12
  have mrd12 := mrd0.below k12
  have mr12 := mr0.below k12
  have mq12 := mq0.below k12
  have ow12 := rw_below ow0 k12
  have hS12 : (fun W => Vh 37 W w.heap.size 74 74 (ndF { n with fr := frame, di := fun s a => if s = I then rd a else 0, he := fun _ => 0 } (.slice a3 n.vA.length c3))) w12 := mn12
  refine ⟨_, rfl, ?_⟩
  refine hK _ _ (fun _ _ => hS12) ?_
  clear hK K
  refine j_st rfl (wanted_rd rfl) (fun K hK => ?_)
  refine wp_storeP _ _ _ _ rfl manyNd (Ye rfl) (Ye rfl) mr12 (by decide) (ndF_one _ _ _ _) rfl ?_
  intro w13 mm13 k13 z13
  have mr13 := Vh.congr mm13 (stP_all _ _)
  have mn13 := mn12.kept k13 (by omega)
  have mrd13 := mrd12.kept k13 (by omega)
  have mq13 := mq12.kept k13 (by omega)
  have ow13 := rw_kept ow12 k13 (fun e => by have e1 := (o5.lt _ e).1; have e2 := (o5.lt _ e).2; omega)
  have ov13 := rw_under ov12 k13 (by omega)
  have hS13 : (fun W => Vh 37 W w.heap.size 74 74 (ndF { n with fr := frame, di := fun s a => if s = I then rd a else 0, he := fun _ => 0 } (.slice a3 n.vA.length c3))) w13 := mn13
  refine hK _ (fun _ _ => hS13) ?_
  clear hK K
  refine j_st rfl (wanted_rd rfl) (fun K hK => ?_)
  refine wp_storeP _ _ _ _ rfl manyMs (Ye rfl) (Ye rfl) mq13 (by decide) (msF_one _ _ _ _ _ _) rfl ?_
  intro w14 mm14 k14 z14
  have mq14 := Vh.congr mm14 (stP_all4 _ _)
  have mn14 := mn13.kept k14 (by omega)
  have mrd14 := mrd13.kept k14 (by omega)
  have mr14 := mr13.kept k14 (by omega)
  have ow14 := rw_kept ow13 k14 (fun e => by have e1 := (o5.lt _ e).1; have e2 := (o5.lt _ e).2; omega)
  have ov14 := rw_under ov13 k14 (by omega)
  have hS14 : (fun W => Vh 37 W w.heap.size 74 74 (ndF { n with fr := frame, di := fun s a => if s = I then rd a else 0, he := fun _ => 0 } (.slice a3 n.vA.length c3))) w14 := mn14
  refine hK _ (fun _ _ => hS14) ?_
  clear hK K
  refine j_nx ?_
  refine c_ret ?_
  have e1 : senN n frame rd = { n with fr := frame, di := fun s a => if s = I then rd a else 0, he := fun _ => 0 } := by
   unfold senN
   rw [if_neg (by rw [hno]; decide)]
   congr 1
   funext s a
   rw [hI]
   by_cases c : s = I
   ·rw [if_pos c, if_pos (by omega)]
   ·rw [if_neg c, if_neg (by omega)]
  have e2 : senM n frame rd = ⟨1, n.id, frame, [rd 0, rd 1, rd 2]⟩ := by unfold senM; rw [if_neg (by rw [hno]; decide)]
  rw [e1, e2]
  refine ret_of ((defL _ _).trans hd) (res_cc rfl (Ye rfl) (Ye rfl) manyNd manyMs mr14 (Nat.le_refl _) mq14 (Nat.le_refl _)) ⟨a3, c3, a2, c2, rfl, rw_base ow14 (by omega), rw_base ov14 (by omega), below_of_kept (below_of_kept ((below_drew (below_of_kept (below_of_kept (below_of_kept (below_of_kept (kA) k8 (by omega) (by omega)) k9 (by omega) (by omega)) k10 (by omega) (by omega)) k11 (by omega) (by omega))).trans (k12.mono (by omega))) k13 (by omega) (by omega)) k14 (by omega) (by omega)⟩
end Go.Proofs.YtdhblehhgpdpdaaGreat
namespace Go.Proofs.YtdhblehhgpdpdaaGreat
open Go.RowKit
theorem gL_ext {k l : List Int} (h : k.length = l.length) (hg : ∀ j, j < k.length → gL k j = gL l j) : k = l := by
 refine List.ext_getElem h (fun j h1 h2 => ?_)
 have := hg j h1
 unfold gL at this
 rw [List.getD_eq_getElem?_getD, List.getElem?_eq_getElem h1, List.getD_eq_getElem?_getD, List.getElem?_eq_getElem h2] at this
 exact this
theorem enter_eqInts (x y : Value) (w : World) : (callFunc 118 #[x, y]).run Tryz.prog w = .ok (.enter 118 #[x, y]) w := by go_simp
set_option maxHeartbeats 1000000 in
theorem eqInts_any (k l : List Int) (ao bo : Option Addr) (ac bc : Nat) (w : World) (hk : k.length ≤ 140737488351232) (hka : Sr w ao k.length ac (iF (gL k))) (hlb : Sr w bo l.length bc (iF (gL l))) :
  Calls Tryz.prog 118 #[.slice ao k.length ac, .slice bo l.length bc] w fun e w' => e = .returned (.bool (decide (k = l))) ∧ Below w.heap.size w w' := by
 refine enterF Tryz.func118 rfl 26 rfl (of_decide_eq_true rfl) (fun A hs hd hb => ?_)
 have b0 : A.eval (.tmp 0) = .slice ao k.length ac := hb 0 _ rfl
 have b1 : A.eval (.tmp 1) = .slice bo l.length bc := hb 1 _ rfl
 clear hb
 refine c_rs (m_start ?_)
 refine Yp ?_
 refine l_nx ?_
 refine c_nx ?_
 refine c_rs ?_
 by_cases hne : k.length = l.length
 ·refine Yp ?_
  refine Yq (run_lenI _ rfl (Ye rfl) _) ?_
  refine Yp ?_
  refine Yq (run_lenI _ rfl (Ye rfl) _) ?_
  refine Yq (run_neqI (b := false) _ _ rfl (Ye rfl) (Ye rfl) (decide_eq_false (by omega)) _) ?_
  refine l_nx ?_
  refine c_false (Ye rfl) (c_fin ?_)
  refine c_nx ?_
  refine c_rs ?_
  refine Yp ?_
  refine Yq (run_lenI _ rfl (Ye rfl) _) ?_
  refine Yp ?_
  refine l_nx ?_
  refine c_block ?_
  refine c_loop (fun q A W => ∃ i : Nat, i ≤ k.length ∧ k.length - i ≤ q ∧ A.tmps.size = 26 ∧ A.defers = [] ∧ A.eval (.tmp 0) = .slice ao k.length ac ∧ A.eval (.tmp 1) = .slice bo l.length bc ∧ A.eval (.tmp 12) = .int .i64 ((k.length : Nat) : Int) ∧ A.eval (.tmp 13) = .int .i64 (i : Int) ∧ (∀ j, j < i → gL k j = gL l j) ∧ Below w.heap.size w W) k.length ⟨0, Nat.zero_le _, by omega, (szL _ _).trans hs, (defL _ _).trans hd, (ev_out rfl b0), (ev_out rfl b1), (Ye rfl), (Ye rfl), fun j h => absurd h (by omega), Below.refl _ _⟩ (fun q B W hI2 => ?_)
  clear b0 b1 hs hd
  obtain ⟨i, hi, hr2, hs, hd, b0, b1, b12, b13, hal, kB⟩ := hI2
  by_cases hin : i < k.length
  ·obtain ⟨x, rfl, hx⟩ : ∃ x, ao = some x ∧ ∀ i, i < k.length → w.cell? (x.add i) = some (.int .i64 (gL k i)) := by
    rcases hka with ⟨_, e, _⟩ | ⟨x, e, hc⟩
    ·omega
    ·exact ⟨x, e, fun i hi => hc i hi⟩
   obtain ⟨y, rfl, hy⟩ : ∃ y, bo = some y ∧ ∀ i, i < l.length → w.cell? (y.add i) = some (.int .i64 (gL l i)) := by
    rcases hlb with ⟨_, e, _⟩ | ⟨y, e, hc⟩
    ·omega
    ·exact ⟨y, e, fun i hi => hc i hi⟩
   by_cases hd2 : gL k i = gL l i
   ·refine c_rs (m_start ?_)
    refine Yq (run_lssI (b := true) _ _ rfl (ev_out rfl b13) (ev_out rfl b12) (decide_eq_true (by omega)) _) ?_
    refine l_nx ?_
    refine c_nx (c_true (Ye rfl) (c_fin ?_))
    refine c_nx (c_block ?_)
    refine c_rs ?_
    iterate 2 refine Yp ?_
    refine l_nx ?_
    refine c_nx ?_
    have hS0 : (fun Z => Z.cell? (x.add i) = some (.int .i64 (gL k i)) ∧ Z.cell? (y.add i) = some (.int .i64 (gL l i))) W.drew := ⟨at_below (hx i hin) (below_drew kB), at_below (hy i (by omega)) (below_drew kB)⟩
    have ez : W.drew.heap.size = W.heap.size := rfl
    refine c_rj (S := fun Z => Z.cell? (x.add i) = some (.int .i64 (gL k i)) ∧ Z.cell? (y.add i) = some (.int .i64 (gL l i))) (.mv 0 (.mv 1 (.mv 2 (.rd 3 (.mv 4 (.mv 5 (.mv 6 (.rd 7 (.mv 8 .fin))))))))) [] (by kernel_rfl) (by kernel_rfl) ?_
    iterate 2 refine Yj ?_
    refine Yk rfl (fun _ => run_ixN _ _ rfl (a := x) (n := k.length) (cap := ac) (Ye rfl) (Ye rfl) (i := i) rfl (by omega) _) ?_
    refine Yr rfl hS0 (fun _ hS => run_ldI _ rfl (Ye rfl) hS.1) ?_
    iterate 2 refine Yj ?_
    refine Yk rfl (fun _ => run_ixN _ _ rfl (a := y) (n := l.length) (cap := bc) (Ye rfl) (Ye rfl) (i := i) rfl (by omega) _) ?_
    refine Yr rfl hS0 (fun _ hS => run_ldI _ rfl (Ye rfl) hS.2) ?_
    refine Yk rfl (fun _ => run_neqI (b := false) _ _ rfl (Ye rfl) (Ye rfl) (decide_eq_false (fun e => e hd2)) _) ?_
    refine j_nx ?_
    refine c_false (Ye rfl) (c_finB ?_)
    refine c_region ?_
    refine Yq (run_addI _ _ rfl (ev_out rfl b13) (ev_const _ _) (by omega) (by omega) _) ?_
    refine Yp ?_
    exact l_round ⟨k.length - (i + 1), by omega, i + 1, by omega, by omega, (szL _ _).trans hs, (defL _ _).trans hd, (ev_out rfl b0), (ev_out rfl b1), (ev_out rfl b12), (Ye rfl).trans (by rw [Int.natCast_add]; rfl), (fun j hj => by
     by_cases e : j = i
     ·rw [e]; exact hd2
     ·exact hal j (by omega)), below_drew kB⟩
   ·refine c_rs (m_start ?_)
    refine Yq (run_lssI (b := true) _ _ rfl (ev_out rfl b13) (ev_out rfl b12) (decide_eq_true (by omega)) _) ?_
    refine l_nx ?_
    refine c_nx (c_true (Ye rfl) (c_fin ?_))
    refine c_nx (c_block ?_)
    refine c_rs ?_
    iterate 2 refine Yp ?_
    refine l_nx ?_
    refine c_nx ?_
    have hS0 : (fun Z => Z.cell? (x.add i) = some (.int .i64 (gL k i)) ∧ Z.cell? (y.add i) = some (.int .i64 (gL l i))) W.drew := ⟨at_below (hx i hin) (below_drew kB), at_below (hy i (by omega)) (below_drew kB)⟩
    have ez : W.drew.heap.size = W.heap.size := rfl
    refine c_rj (S := fun Z => Z.cell? (x.add i) = some (.int .i64 (gL k i)) ∧ Z.cell? (y.add i) = some (.int .i64 (gL l i))) (.mv 0 (.mv 1 (.mv 2 (.rd 3 (.mv 4 (.mv 5 (.mv 6 (.rd 7 (.mv 8 .fin))))))))) [] (by kernel_rfl) (by kernel_rfl) ?_
    iterate 2 refine Yj ?_
    refine Yk rfl (fun _ => run_ixN _ _ rfl (a := x) (n := k.length) (cap := ac) (Ye rfl) (Ye rfl) (i := i) rfl (by omega) _) ?_
    refine Yr rfl hS0 (fun _ hS => run_ldI _ rfl (Ye rfl) hS.1) ?_
    iterate 2 refine Yj ?_
    refine Yk rfl (fun _ => run_ixN _ _ rfl (a := y) (n := l.length) (cap := bc) (Ye rfl) (Ye rfl) (i := i) rfl (by omega) _) ?_
    refine Yr rfl hS0 (fun _ hS => run_ldI _ rfl (Ye rfl) hS.2) ?_
    refine Yk rfl (fun _ => run_neqI (b := true) _ _ rfl (Ye rfl) (Ye rfl) (decide_eq_true hd2) _) ?_
    refine j_nx ?_
    refine c_true (Ye rfl) ?_
    refine c_rs ?_
    refine Yp ?_
    refine l_nx ?_
    refine c_ret ?_
    simp only [Nx, Exit.inBlock, Exit.then]
    refine ret_of ((defL _ _).trans hd) (res_t rfl (Ye rfl)) ⟨?_, below_drew kB⟩
    rw [decide_eq_false (fun e => hd2 (by rw [e]))]
  ·refine c_rs (m_start ?_)
   refine Yq (run_lssI (b := false) _ _ rfl (ev_out rfl b13) (ev_out rfl b12) (decide_eq_false (by omega)) _) ?_
   refine l_nx ?_
   refine c_nx (c_false (Ye rfl) (c_exit (x_out ?_)))
   refine c_rs ?_
   refine Yp ?_
   refine l_nx ?_
   refine c_ret (ret_of ((defL _ _).trans hd) (res_t rfl (Ye rfl)) ⟨?_, kB⟩)
   rw [decide_eq_true (gL_ext hne (fun j hj => hal j (by omega)))]
 ·refine Yp ?_
  refine Yq (run_lenI _ rfl (Ye rfl) _) ?_
  refine Yp ?_
  refine Yq (run_lenI _ rfl (Ye rfl) _) ?_
  refine Yq (run_neqI (b := true) _ _ rfl (Ye rfl) (Ye rfl) (decide_eq_true (by omega)) _) ?_
  refine l_nx ?_
  refine c_true (Ye rfl) ?_
  refine c_rs ?_
  refine Yp ?_
  refine l_nx ?_
  refine c_ret ?_
  simp only [Nx, Exit.then]
  refine ret_of ((defL _ _).trans hd) (res_t rfl (Ye rfl)) ⟨?_, Below.refl _ _⟩
  rw [decide_eq_false (fun e => hne (by rw [e]))]
end Go.Proofs.YtdhblehhgpdpdaaGreat
namespace Go.Proofs.YtdhblehhgpdpdaaGreat
open Go.RowKit
def hrO (id fr : Int) (L : List Lm) (kind many : Int) (s : Nat) : Value := match fL id fr L (s : Int) kind many with | some c => lmV c | none => .slice none 0 0
theorem hrO_one (id fr : Int) (L : List Lm) (kind many : Int) : ∀ j, j < 4 → (hrO id fr L kind many j).oneCell' = true := by
 intro j _
 unfold hrO lmV
 split <;> rfl
theorem take_snoc {L : List Lm} {i : Nat} {c : Lm} (hc : L[i]? = some c) : L.take (i + 1) = L.take i ++ [c] := by rw [List.take_add_one, hc]; rfl
theorem fL_snoc {id fr s kind many : Int} {L : List Lm} {c : Lm} : fL id fr (L ++ [c]) s kind many = (fL id fr L s kind many).or (if fitB id fr s kind many c.m then some c else none) := by
 unfold fL
 rw [List.find?_append, List.find?_cons]
 congr 1
 cases h : fitB id fr s kind many c.m
 ·rfl
 ·rfl
theorem hr_keep {id fr kind many : Int} {L : List Lm} {c : Lm} (h : ∀ s : Nat, s < 4 → fitB id fr (s : Int) kind many c.m = false ∨ (fL id fr L (s : Int) kind many).isSome = true) : ∀ j, j < 4 → hrO id fr L kind many j = hrO id fr (L ++ [c]) kind many j := by
 intro j hj
 unfold hrO
 rw [fL_snoc]
 rcases h j hj with e | e
 ·rw [e]
  cases fL id fr L (j : Int) kind many <;> rfl
 ·cases h2 : fL id fr L (j : Int) kind many with
  | none => rw [h2] at e; cases e
  | some x => rfl
theorem hr_set {id fr kind many : Int} {L : List Lm} {c : Lm} {f : Nat} (hF : c.m.F = (f : Int)) (hn : fL id fr L (f : Int) kind many = none) (hfit : fitB id fr (f : Int) kind many c.m = true) : ∀ j, j < 4 → stW (hrO id fr L kind many) (0 + f * 1) (lmV c) j = hrO id fr (L ++ [c]) kind many j := by
 intro j hj
 by_cases e : j = 0 + f * 1
 ·subst e
  rw [stW_same]
  unfold hrO
  rw [fL_snoc, Nat.zero_add, Nat.mul_one, hn, hfit]
  rfl
 ·rw [stW_other _ _ e]
  unfold hrO
  rw [fL_snoc]
  have e2 : fitB id fr (j : Int) kind many c.m = false := by unfold fitB; rw [decide_eq_false (show ¬ c.m.F = (j : Int) by omega)]; simp
  rw [e2]
  cases fL id fr L (j : Int) kind many <;> rfl
set_option maxHeartbeats 2000000 in
theorem hear_any (n : Nd) (nv : Value) (mo : Option Addr) (mc : Nat) (L : List Lm) (kind many : Int) (w : World) (hr : MRd w mo L) (hN : L.length ≤ 140737488351232) (hm : 0 < many) :
  Calls Tryz.prog 70 #[ndV n nv, .slice mo L.length mc, .int .i64 kind, .int .i64 many] w fun e w' => e = .returned (agV (hrO n.id n.fr L kind many) 0 4) ∧ Below w.heap.size w w' := by
 refine enterF Tryz.func70 rfl 65 rfl (of_decide_eq_true rfl) (fun A hs hd hb => ?_)
 have b0 := hb 0 _ rfl
 have b1 := hb 1 _ rfl
 have b2 := hb 2 _ rfl
 have b3 := hb 3 _ rfl
 clear hb
 refine c_rs (m_start ?_)
 refine m_do rfl (wanted_rd rfl) (fun K hK => ?_)
 refine wp_boxG _ _ _ rfl (ev_out rfl b0) (of_decide_eq_true rfl) ?_
 intro w1 m1 k1 z1
 refine hK _ _ ?_
 clear hK K
 refine m_do rfl (wanted_rd rfl) (fun K hK => ?_)
 refine wp_allocG _ _ rfl zeroHr (of_decide_eq_true rfl) ?_
 intro w2 m2 k2 z2
 have mn2 := m1.below k2
 refine hK _ _ ?_
 clear hK K
 refine l_nx ?_
 refine c_rs ?_
 refine m_do rfl (wanted_rd rfl) (fun K hK => ?_)
 refine wp_allocG _ _ rfl zeroHr (of_decide_eq_true rfl) ?_
 intro w3 m3 k3 z3
 have mn3 := mn2.below k3
 have mr3 := m2.below k3
 refine hK _ _ ?_
 clear hK K
 refine l_nx ?_
 refine c_nx ?_
 refine c_rs ?_
 refine Yp ?_
 refine Yq (run_lenM _ rfl (Ye rfl) _) ?_
 refine Yp ?_
 refine l_nx ?_
 refine c_block ?_
 refine c_loop (fun r a W => ∃ i : Nat, i ≤ L.length ∧ L.length - i ≤ r ∧ a.tmps.size = 65 ∧ a.defers = [] ∧ a.eval (.tmp 2) = .int .i64 kind ∧ a.eval (.tmp 3) = .int .i64 many ∧ a.eval (.tmp 4) = .pointer (some ⟨w.heap.size, 0, none⟩) ∧ a.eval (.tmp 8) = .pointer (some ⟨w1.heap.size, 0, none⟩) ∧ a.eval (.tmp 9) = .pointer (some ⟨w2.heap.size, 0, none⟩) ∧ a.eval (.tmp 13) = .slice mo L.length mc ∧ a.eval (.tmp 14) = .int .i64 (L.length : Int) ∧ a.eval (.tmp 15) = .int .i64 (i : Int) ∧ Vh 37 W w.heap.size 74 74 (ndF n nv) ∧ Vh 129 W w1.heap.size 4 4 (fun _ => .slice none 0 0) ∧ Vh 129 W w2.heap.size 4 4 (hrO n.id n.fr (L.take i) kind many) ∧ Below w.heap.size w W ∧ w3.heap.size ≤ W.heap.size) L.length ⟨0, Nat.zero_le _, by omega, (szL _ _).trans hs, (defL _ _).trans hd, (ev_out rfl b2), (ev_out rfl b3), (Ye rfl), (Ye rfl), (Ye rfl), (Ye rfl), (Ye rfl), (Ye rfl), mn3, mr3, m3, (k1.trans (k2.mono (by omega))).trans (k3.mono (by omega)), by omega⟩ (fun r B W hI => ?_)
 clear b0 b1 b2 b3 hs hd
 obtain ⟨i, hi, hr2, hs, hd, b2, b3, b4, b8, b9, b13, b14, b15, mn, mr, mh, kB, hW⟩ := hI
 by_cases hin : i < L.length
 ·have hc := List.getElem?_eq_getElem hin
  obtain ⟨c, ec⟩ : ∃ c, c = L[i] := ⟨_, rfl⟩
  rw [← ec] at hc
  obtain ⟨bl, of, rfl, hq⟩ := (hr.below kB).1 (by omega)
  have hcell := hq i c hc
  by_cases h1 : c.m.K = kind
  ·by_cases h2 : c.m.R = n.fr
   ·by_cases h3 : (c.m.L.length : Int) = many
    ·rcases h4 : noN c.m.F with _ | _
     ·obtain ⟨f, hF, hf4⟩ : ∃ f : Nat, c.m.F = (f : Int) ∧ f < 4 := ⟨c.m.F.toNat, by have := noN_in h4; omega, by have := noN_in h4; omega⟩
      by_cases h5 : c.m.F ≠ n.id
      ·rcases hfl : fL n.id n.fr (L.take i) (f : Int) kind many with _ | c2
       ·have hfit : fitB n.id n.fr (f : Int) kind many c.m = true := by unfold fitB; rw [decide_eq_true hF, decide_eq_true h5, decide_eq_true h1, decide_eq_true h2, decide_eq_true h3]; rfl
        have hho : hrO n.id n.fr (L.take i) kind many (0 + f * 1) = .slice none 0 0 := by unfold hrO; rw [Nat.zero_add, Nat.mul_one, hfl]
        refine c_rs (m_start ?_)
        refine Yq (run_lssI (b := true) _ _ rfl (ev_out rfl b15) (ev_out rfl b14) (decide_eq_true (by omega)) _) ?_
        refine l_nx ?_
        refine c_nx (c_true (Ye rfl) (c_fin ?_))
        refine c_nx (c_block ?_)
        refine c_rs ?_
        refine Yq (run_ixM _ _ rfl (ev_out rfl b13) (ev_out rfl b15) rfl hin _) ?_
        refine Yq (run_lodM _ rfl (Ye rfl) hcell) ?_
        refine m_do rfl (wanted_rd rfl) (fun K hK => ?_)
        refine wp_allocG _ _ rfl zeroMs (of_decide_eq_true rfl) ?_
        intro w4 m4 k4 z4
        have mn4 := mn.below k4
        have mr4 := mr.below k4
        have mh4 := mh.below k4
        refine hK _ _ ?_
        clear hK K
        refine m_st (wanted_rd rfl) (fun K hK => ?_)
        refine wp_storeP _ _ _ _ rfl manyMs (Ye rfl) (Ye rfl) m4 (by decide) (lmF_one _) rfl ?_
        intro w5 mm5 k5 z5
        have mm5 := Vh.congr mm5 (stP_all4 _ _)
        have mn5 := mn4.kept k5 (by omega)
        have mr5 := mr4.kept k5 (by omega)
        have mh5 := mh4.kept k5 (by omega)
        refine hK _ ?_
        clear hK K
        refine l_nx ?_
        refine c_rs ?_
        refine Yq (fldMs0 rfl (Ye rfl) _) ?_
        refine Yq (run_lod1 _ _ rfl oneI (Ye rfl) mm5 (by decide) rfl) ?_
        refine Yp ?_
        refine Yq (run_eqlI (b := true) _ _ rfl (Ye rfl) (Ye rfl) (decide_eq_true h1) _) ?_
        refine Yp ?_
        refine Yq (fldMs2 rfl (Ye rfl) _) ?_
        refine Yq (run_lod1 _ _ rfl oneI (Ye rfl) mm5 (by decide) rfl) ?_
        refine Yq (fldNd1 rfl (ev_out rfl b4) _) ?_
        refine Yq (run_lod1 _ _ rfl oneI (Ye rfl) mn5 (by decide) rfl) ?_
        refine Yq (run_eqlI (b := true) _ _ rfl (Ye rfl) (Ye rfl) (decide_eq_true h2) _) ?_
        refine Yq (run_pickT' _ _ _ rfl (Ye rfl) (Ye rfl) _) ?_
        refine Yp ?_
        refine Yq (fldMs3 rfl (Ye rfl) _) ?_
        refine Yq (run_lod1 _ _ rfl oneIs (Ye rfl) mm5 (by decide) rfl) ?_
        refine Yq (run_lenI _ rfl (Ye rfl) _) ?_
        refine Yp ?_
        refine Yq (run_eqlI (b := true) _ _ rfl (Ye rfl) (Ye rfl) (decide_eq_true h3) _) ?_
        refine Yq (run_pickT' _ _ _ rfl (Ye rfl) (Ye rfl) _) ?_
        refine Yp ?_
        refine l_nx ?_
        refine c_rs ?_
        iterate 2 refine Yp ?_
        refine Yq (fldMs1 rfl (Ye rfl) _) ?_
        refine Yq (run_lod1 _ _ rfl oneI (Ye rfl) mm5 (by decide) rfl) ?_
        refine m_do rfl (wanted_g (j := 1) rfl rfl rfl (Ye rfl)) (fun K hK => ?_)
        have C1 := isNode_any c.m.F w5
        rw [h4] at C1
        refine wp_call1 _ 68 _ _ rfl (Ye rfl) (enter_pisNode _ _) C1 ?_
        rintro e w6 ⟨rfl, k6⟩
        have n6 := k6.size
        have mn6 := mn5.below k6
        have mr6 := mr5.below k6
        have mh6 := mh5.below k6
        have mm6 := mm5.below k6
        refine ⟨_, rfl, ?_⟩
        refine hK _ _ ?_
        clear hK K
        refine Yq (run_pickT' _ _ _ rfl (Ye rfl) (Ye rfl) _) ?_
        refine Yp ?_
        refine Yq (fldMs1 rfl (Ye rfl) _) ?_
        refine Yq (run_lod1 _ _ rfl oneI (Ye rfl) mm6 (by decide) rfl) ?_
        refine Yq (fldNd0 rfl (ev_out rfl b4) _) ?_
        refine Yq (run_lod1 _ _ rfl oneI (Ye rfl) mn6 (by decide) rfl) ?_
        refine Yq (run_neqI (b := true) _ _ rfl (Ye rfl) (Ye rfl) (decide_eq_true h5) _) ?_
        refine Yq (run_pickT' _ _ _ rfl (Ye rfl) (Ye rfl) _) ?_
        refine Yp ?_
        refine Yq (fldMs1 rfl (Ye rfl) _) ?_
        refine Yq (run_lod1 _ _ rfl oneI (Ye rfl) mm6 (by decide) rfl) ?_
        refine Yq (run_ixG _ _ _ _ rfl Tryz.underlying129 oneIs.size (ev_out rfl b9) (Ye rfl) hF hf4 _) ?_
        refine Yq (run_lod1 _ _ rfl oneIs (Ye rfl) mh6 (by omega) hho) ?_
        refine Yq (run_lenI _ rfl (Ye rfl) _) ?_
        refine Yq (run_eqlI (b := true) _ _ rfl (Ye rfl) (ev_const _ _) (decide_eq_true rfl) _) ?_
        refine Yq (run_pickT' _ _ _ rfl (Ye rfl) (Ye rfl) _) ?_
        refine l_nx ?_
        refine c_true (Ye rfl) ?_
        refine c_region ?_
        refine Yq (fldMs1 rfl (Ye rfl) _) ?_
        refine Yq (run_lod1 _ _ rfl oneI (Ye rfl) mm6 (by decide) rfl) ?_
        refine Yq (fldMs3 rfl (Ye rfl) _) ?_
        refine Yq (run_lod1 _ _ rfl oneIs (Ye rfl) mm6 (by decide) rfl) ?_
        refine Yq (run_ixG _ _ _ _ rfl Tryz.underlying129 oneIs.size (ev_out rfl b9) (Ye rfl) hF hf4 _) ?_
        refine m_st (wanted_rd rfl) (fun K hK => ?_)
        refine wp_sto1 _ _ _ _ rfl oneIs (Ye rfl) (Ye rfl) mh6 (by omega) rfl rfl rfl ?_
        intro w7 mm7 k7 z7
        have mh7 := Vh.congr mm7 (hr_set hF hfl hfit)
        have mn7 := mn6.kept k7 (by omega)
        have mr7 := mr6.kept k7 (by omega)
        have mm7 := mm6.kept k7 (by omega)
        refine hK _ ?_
        clear hK K
        refine l_finB ?_
        refine c_region ?_
        refine Yq (run_addI _ _ rfl (ev_out rfl b15) (ev_const _ _) (by omega) (by omega) _) ?_
        refine Yp ?_
        exact l_round ⟨L.length - (i + 1), by omega, i + 1, by omega, by omega, (szL _ _).trans hs, (defL _ _).trans hd, (ev_out rfl b2), (ev_out rfl b3), (ev_out rfl b4), (ev_out rfl b8), (ev_out rfl b9), (ev_out rfl b13), (ev_out rfl b14), (Ye rfl).trans (by rw [Int.natCast_add]; rfl), mn7, mr7, by rw [take_snoc hc]; exact mh7, below_of_kept ((below_of_kept (kB.trans (k4.mono (by omega))) k5 (by omega) (by omega)).trans (k6.mono (by omega))) k7 (by omega) (by omega), by omega⟩
       ·have hkeep : ∀ s : Nat, s < 4 → fitB n.id n.fr (s : Int) kind many c.m = false ∨ (fL n.id n.fr (L.take i) (s : Int) kind many).isSome = true := fun s hs => by
         by_cases e : s = f
         ·right; rw [e, hfl]; rfl
         ·left; unfold fitB; rw [decide_eq_false (show ¬ c.m.F = (s : Int) by omega)]; simp
        obtain ⟨_, cfit⟩ := fL_mem hfl
        have clen := fit_len cfit
        have hho : hrO n.id n.fr (L.take i) kind many (0 + f * 1) = .slice c2.ao c2.m.L.length c2.cap := by unfold hrO; rw [Nat.zero_add, Nat.mul_one, hfl]; rfl
        refine c_rs (m_start ?_)
        refine Yq (run_lssI (b := true) _ _ rfl (ev_out rfl b15) (ev_out rfl b14) (decide_eq_true (by omega)) _) ?_
        refine l_nx ?_
        refine c_nx (c_true (Ye rfl) (c_fin ?_))
        refine c_nx (c_block ?_)
        refine c_rs ?_
        refine Yq (run_ixM _ _ rfl (ev_out rfl b13) (ev_out rfl b15) rfl hin _) ?_
        refine Yq (run_lodM _ rfl (Ye rfl) hcell) ?_
        refine m_do rfl (wanted_rd rfl) (fun K hK => ?_)
        refine wp_allocG _ _ rfl zeroMs (of_decide_eq_true rfl) ?_
        intro w4 m4 k4 z4
        have mn4 := mn.below k4
        have mr4 := mr.below k4
        have mh4 := mh.below k4
        refine hK _ _ ?_
        clear hK K
        refine m_st (wanted_rd rfl) (fun K hK => ?_)
        refine wp_storeP _ _ _ _ rfl manyMs (Ye rfl) (Ye rfl) m4 (by decide) (lmF_one _) rfl ?_
        intro w5 mm5 k5 z5
        have mm5 := Vh.congr mm5 (stP_all4 _ _)
        have mn5 := mn4.kept k5 (by omega)
        have mr5 := mr4.kept k5 (by omega)
        have mh5 := mh4.kept k5 (by omega)
        refine hK _ ?_
        clear hK K
        refine l_nx ?_
        refine c_rs ?_
        refine Yq (fldMs0 rfl (Ye rfl) _) ?_
        refine Yq (run_lod1 _ _ rfl oneI (Ye rfl) mm5 (by decide) rfl) ?_
        refine Yp ?_
        refine Yq (run_eqlI (b := true) _ _ rfl (Ye rfl) (Ye rfl) (decide_eq_true h1) _) ?_
        refine Yp ?_
        refine Yq (fldMs2 rfl (Ye rfl) _) ?_
        refine Yq (run_lod1 _ _ rfl oneI (Ye rfl) mm5 (by decide) rfl) ?_
        refine Yq (fldNd1 rfl (ev_out rfl b4) _) ?_
        refine Yq (run_lod1 _ _ rfl oneI (Ye rfl) mn5 (by decide) rfl) ?_
        refine Yq (run_eqlI (b := true) _ _ rfl (Ye rfl) (Ye rfl) (decide_eq_true h2) _) ?_
        refine Yq (run_pickT' _ _ _ rfl (Ye rfl) (Ye rfl) _) ?_
        refine Yp ?_
        refine Yq (fldMs3 rfl (Ye rfl) _) ?_
        refine Yq (run_lod1 _ _ rfl oneIs (Ye rfl) mm5 (by decide) rfl) ?_
        refine Yq (run_lenI _ rfl (Ye rfl) _) ?_
        refine Yp ?_
        refine Yq (run_eqlI (b := true) _ _ rfl (Ye rfl) (Ye rfl) (decide_eq_true h3) _) ?_
        refine Yq (run_pickT' _ _ _ rfl (Ye rfl) (Ye rfl) _) ?_
        refine Yp ?_
        refine l_nx ?_
        refine c_rs ?_
        iterate 2 refine Yp ?_
        refine Yq (fldMs1 rfl (Ye rfl) _) ?_
        refine Yq (run_lod1 _ _ rfl oneI (Ye rfl) mm5 (by decide) rfl) ?_
        refine m_do rfl (wanted_g (j := 1) rfl rfl rfl (Ye rfl)) (fun K hK => ?_)
        have C1 := isNode_any c.m.F w5
        rw [h4] at C1
        refine wp_call1 _ 68 _ _ rfl (Ye rfl) (enter_pisNode _ _) C1 ?_
        rintro e w6 ⟨rfl, k6⟩
        have n6 := k6.size
        have mn6 := mn5.below k6
        have mr6 := mr5.below k6
        have mh6 := mh5.below k6
        have mm6 := mm5.below k6
        refine ⟨_, rfl, ?_⟩
        refine hK _ _ ?_
        clear hK K
        refine Yq (run_pickT' _ _ _ rfl (Ye rfl) (Ye rfl) _) ?_
        refine Yp ?_
        refine Yq (fldMs1 rfl (Ye rfl) _) ?_
        refine Yq (run_lod1 _ _ rfl oneI (Ye rfl) mm6 (by decide) rfl) ?_
        refine Yq (fldNd0 rfl (ev_out rfl b4) _) ?_
        refine Yq (run_lod1 _ _ rfl oneI (Ye rfl) mn6 (by decide) rfl) ?_
        refine Yq (run_neqI (b := true) _ _ rfl (Ye rfl) (Ye rfl) (decide_eq_true h5) _) ?_
        refine Yq (run_pickT' _ _ _ rfl (Ye rfl) (Ye rfl) _) ?_
        refine Yp ?_
        refine Yq (fldMs1 rfl (Ye rfl) _) ?_
        refine Yq (run_lod1 _ _ rfl oneI (Ye rfl) mm6 (by decide) rfl) ?_
        refine Yq (run_ixG _ _ _ _ rfl Tryz.underlying129 oneIs.size (ev_out rfl b9) (Ye rfl) hF hf4 _) ?_
        refine Yq (run_lod1 _ _ rfl oneIs (Ye rfl) mh6 (by omega) hho) ?_
        refine Yq (run_lenI _ rfl (Ye rfl) _) ?_
        refine Yq (run_eqlI (b := false) _ _ rfl (Ye rfl) (ev_const _ _) (decide_eq_false (by omega)) _) ?_
        refine Yq (run_pickT' _ _ _ rfl (Ye rfl) (Ye rfl) _) ?_
        refine l_nx ?_
        refine c_false (Ye rfl) (c_finB ?_)
        refine c_region ?_
        refine Yq (run_addI _ _ rfl (ev_out rfl b15) (ev_const _ _) (by omega) (by omega) _) ?_
        refine Yp ?_
        exact l_round ⟨L.length - (i + 1), by omega, i + 1, by omega, by omega, (szL _ _).trans hs, (defL _ _).trans hd, (ev_out rfl b2), (ev_out rfl b3), (ev_out rfl b4), (ev_out rfl b8), (ev_out rfl b9), (ev_out rfl b13), (ev_out rfl b14), (Ye rfl).trans (by rw [Int.natCast_add]; rfl), mn6, mr6, by rw [take_snoc hc]; exact Vh.congr mh6 (hr_keep hkeep), (below_of_kept (kB.trans (k4.mono (by omega))) k5 (by omega) (by omega)).trans (k6.mono (by omega)), by omega⟩
      ·have hkeep : ∀ s : Nat, s < 4 → fitB n.id n.fr (s : Int) kind many c.m = false ∨ (fL n.id n.fr (L.take i) (s : Int) kind many).isSome = true := fun s hs => Or.inl (by unfold fitB; rw [decide_eq_false (show ¬ c.m.F ≠ n.id from h5)]; simp)
       refine c_rs (m_start ?_)
       refine Yq (run_lssI (b := true) _ _ rfl (ev_out rfl b15) (ev_out rfl b14) (decide_eq_true (by omega)) _) ?_
       refine l_nx ?_
       refine c_nx (c_true (Ye rfl) (c_fin ?_))
       refine c_nx (c_block ?_)
       refine c_rs ?_
       refine Yq (run_ixM _ _ rfl (ev_out rfl b13) (ev_out rfl b15) rfl hin _) ?_
       refine Yq (run_lodM _ rfl (Ye rfl) hcell) ?_
       refine m_do rfl (wanted_rd rfl) (fun K hK => ?_)
       refine wp_allocG _ _ rfl zeroMs (of_decide_eq_true rfl) ?_
       intro w4 m4 k4 z4
       have mn4 := mn.below k4
       have mr4 := mr.below k4
       have mh4 := mh.below k4
       refine hK _ _ ?_
       clear hK K
       refine m_st (wanted_rd rfl) (fun K hK => ?_)
       refine wp_storeP _ _ _ _ rfl manyMs (Ye rfl) (Ye rfl) m4 (by decide) (lmF_one _) rfl ?_
       intro w5 mm5 k5 z5
       have mm5 := Vh.congr mm5 (stP_all4 _ _)
       have mn5 := mn4.kept k5 (by omega)
       have mr5 := mr4.kept k5 (by omega)
       have mh5 := mh4.kept k5 (by omega)
       refine hK _ ?_
       clear hK K
       refine l_nx ?_
       refine c_rs ?_
       refine Yq (fldMs0 rfl (Ye rfl) _) ?_
       refine Yq (run_lod1 _ _ rfl oneI (Ye rfl) mm5 (by decide) rfl) ?_
       refine Yp ?_
       refine Yq (run_eqlI (b := true) _ _ rfl (Ye rfl) (Ye rfl) (decide_eq_true h1) _) ?_
       refine Yp ?_
       refine Yq (fldMs2 rfl (Ye rfl) _) ?_
       refine Yq (run_lod1 _ _ rfl oneI (Ye rfl) mm5 (by decide) rfl) ?_
       refine Yq (fldNd1 rfl (ev_out rfl b4) _) ?_
       refine Yq (run_lod1 _ _ rfl oneI (Ye rfl) mn5 (by decide) rfl) ?_
       refine Yq (run_eqlI (b := true) _ _ rfl (Ye rfl) (Ye rfl) (decide_eq_true h2) _) ?_
       refine Yq (run_pickT' _ _ _ rfl (Ye rfl) (Ye rfl) _) ?_
       refine Yp ?_
       refine Yq (fldMs3 rfl (Ye rfl) _) ?_
       refine Yq (run_lod1 _ _ rfl oneIs (Ye rfl) mm5 (by decide) rfl) ?_
       refine Yq (run_lenI _ rfl (Ye rfl) _) ?_
       refine Yp ?_
       refine Yq (run_eqlI (b := true) _ _ rfl (Ye rfl) (Ye rfl) (decide_eq_true h3) _) ?_
       refine Yq (run_pickT' _ _ _ rfl (Ye rfl) (Ye rfl) _) ?_
       refine Yp ?_
       refine l_nx ?_
       refine c_rs ?_
       iterate 2 refine Yp ?_
       refine Yq (fldMs1 rfl (Ye rfl) _) ?_
       refine Yq (run_lod1 _ _ rfl oneI (Ye rfl) mm5 (by decide) rfl) ?_
       refine m_do rfl (wanted_g (j := 1) rfl rfl rfl (Ye rfl)) (fun K hK => ?_)
       have C1 := isNode_any c.m.F w5
       rw [h4] at C1
       refine wp_call1 _ 68 _ _ rfl (Ye rfl) (enter_pisNode _ _) C1 ?_
       rintro e w6 ⟨rfl, k6⟩
       have n6 := k6.size
       have mn6 := mn5.below k6
       have mr6 := mr5.below k6
       have mh6 := mh5.below k6
       have mm6 := mm5.below k6
       refine ⟨_, rfl, ?_⟩
       refine hK _ _ ?_
       clear hK K
       refine Yq (run_pickT' _ _ _ rfl (Ye rfl) (Ye rfl) _) ?_
       refine Yp ?_
       refine Yq (fldMs1 rfl (Ye rfl) _) ?_
       refine Yq (run_lod1 _ _ rfl oneI (Ye rfl) mm6 (by decide) rfl) ?_
       refine Yq (fldNd0 rfl (ev_out rfl b4) _) ?_
       refine Yq (run_lod1 _ _ rfl oneI (Ye rfl) mn6 (by decide) rfl) ?_
       refine Yq (run_neqI (b := false) _ _ rfl (Ye rfl) (Ye rfl) (decide_eq_false h5) _) ?_
       refine Yq (run_pickT' _ _ _ rfl (Ye rfl) (Ye rfl) _) ?_
       refine Yp ?_
       iterate 6 refine Yu ?_
       refine Yq (run_pickF _ _ _ rfl (Ye rfl) (ev_const _ _) _) ?_
       refine l_nx ?_
       refine c_false (Ye rfl) (c_finB ?_)
       refine c_region ?_
       refine Yq (run_addI _ _ rfl (ev_out rfl b15) (ev_const _ _) (by omega) (by omega) _) ?_
       refine Yp ?_
       exact l_round ⟨L.length - (i + 1), by omega, i + 1, by omega, by omega, (szL _ _).trans hs, (defL _ _).trans hd, (ev_out rfl b2), (ev_out rfl b3), (ev_out rfl b4), (ev_out rfl b8), (ev_out rfl b9), (ev_out rfl b13), (ev_out rfl b14), (Ye rfl).trans (by rw [Int.natCast_add]; rfl), mn6, mr6, by rw [take_snoc hc]; exact Vh.congr mh6 (hr_keep hkeep), (below_of_kept (kB.trans (k4.mono (by omega))) k5 (by omega) (by omega)).trans (k6.mono (by omega)), by omega⟩
     ·have hkeep : ∀ s : Nat, s < 4 → fitB n.id n.fr (s : Int) kind many c.m = false ∨ (fL n.id n.fr (L.take i) (s : Int) kind many).isSome = true := fun s hs => Or.inl (by unfold fitB; rw [decide_eq_false (show ¬ c.m.F = (s : Int) from fun e => by rw [e] at h4; unfold noN at h4; simp at h4; omega)]; simp)
      refine c_rs (m_start ?_)
      refine Yq (run_lssI (b := true) _ _ rfl (ev_out rfl b15) (ev_out rfl b14) (decide_eq_true (by omega)) _) ?_
      refine l_nx ?_
      refine c_nx (c_true (Ye rfl) (c_fin ?_))
      refine c_nx (c_block ?_)
      refine c_rs ?_
      refine Yq (run_ixM _ _ rfl (ev_out rfl b13) (ev_out rfl b15) rfl hin _) ?_
      refine Yq (run_lodM _ rfl (Ye rfl) hcell) ?_
      refine m_do rfl (wanted_rd rfl) (fun K hK => ?_)
      refine wp_allocG _ _ rfl zeroMs (of_decide_eq_true rfl) ?_
      intro w4 m4 k4 z4
      have mn4 := mn.below k4
      have mr4 := mr.below k4
      have mh4 := mh.below k4
      refine hK _ _ ?_
      clear hK K
      refine m_st (wanted_rd rfl) (fun K hK => ?_)
      refine wp_storeP _ _ _ _ rfl manyMs (Ye rfl) (Ye rfl) m4 (by decide) (lmF_one _) rfl ?_
      intro w5 mm5 k5 z5
      have mm5 := Vh.congr mm5 (stP_all4 _ _)
      have mn5 := mn4.kept k5 (by omega)
      have mr5 := mr4.kept k5 (by omega)
      have mh5 := mh4.kept k5 (by omega)
      refine hK _ ?_
      clear hK K
      refine l_nx ?_
      refine c_rs ?_
      refine Yq (fldMs0 rfl (Ye rfl) _) ?_
      refine Yq (run_lod1 _ _ rfl oneI (Ye rfl) mm5 (by decide) rfl) ?_
      refine Yp ?_
      refine Yq (run_eqlI (b := true) _ _ rfl (Ye rfl) (Ye rfl) (decide_eq_true h1) _) ?_
      refine Yp ?_
      refine Yq (fldMs2 rfl (Ye rfl) _) ?_
      refine Yq (run_lod1 _ _ rfl oneI (Ye rfl) mm5 (by decide) rfl) ?_
      refine Yq (fldNd1 rfl (ev_out rfl b4) _) ?_
      refine Yq (run_lod1 _ _ rfl oneI (Ye rfl) mn5 (by decide) rfl) ?_
      refine Yq (run_eqlI (b := true) _ _ rfl (Ye rfl) (Ye rfl) (decide_eq_true h2) _) ?_
      refine Yq (run_pickT' _ _ _ rfl (Ye rfl) (Ye rfl) _) ?_
      refine Yp ?_
      refine Yq (fldMs3 rfl (Ye rfl) _) ?_
      refine Yq (run_lod1 _ _ rfl oneIs (Ye rfl) mm5 (by decide) rfl) ?_
      refine Yq (run_lenI _ rfl (Ye rfl) _) ?_
      refine Yp ?_
      refine Yq (run_eqlI (b := true) _ _ rfl (Ye rfl) (Ye rfl) (decide_eq_true h3) _) ?_
      refine Yq (run_pickT' _ _ _ rfl (Ye rfl) (Ye rfl) _) ?_
      refine Yp ?_
      refine l_nx ?_
      refine c_rs ?_
      iterate 2 refine Yp ?_
      refine Yq (fldMs1 rfl (Ye rfl) _) ?_
      refine Yq (run_lod1 _ _ rfl oneI (Ye rfl) mm5 (by decide) rfl) ?_
      refine m_do rfl (wanted_g (j := 1) rfl rfl rfl (Ye rfl)) (fun K hK => ?_)
      have C1 := isNode_any c.m.F w5
      rw [h4] at C1
      refine wp_call1 _ 68 _ _ rfl (Ye rfl) (enter_pisNode _ _) C1 ?_
      rintro e w6 ⟨rfl, k6⟩
      have n6 := k6.size
      have mn6 := mn5.below k6
      have mr6 := mr5.below k6
      have mh6 := mh5.below k6
      have mm6 := mm5.below k6
      refine ⟨_, rfl, ?_⟩
      refine hK _ _ ?_
      clear hK K
      refine Yq (run_pickT' _ _ _ rfl (Ye rfl) (Ye rfl) _) ?_
      refine Yp ?_
      iterate 5 refine Yu ?_
      refine Yq (run_pickF _ _ _ rfl (Ye rfl) (ev_const _ _) _) ?_
      refine Yp ?_
      iterate 6 refine Yu ?_
      refine Yq (run_pickF _ _ _ rfl (Ye rfl) (ev_const _ _) _) ?_
      refine l_nx ?_
      refine c_false (Ye rfl) (c_finB ?_)
      refine c_region ?_
      refine Yq (run_addI _ _ rfl (ev_out rfl b15) (ev_const _ _) (by omega) (by omega) _) ?_
      refine Yp ?_
      exact l_round ⟨L.length - (i + 1), by omega, i + 1, by omega, by omega, (szL _ _).trans hs, (defL _ _).trans hd, (ev_out rfl b2), (ev_out rfl b3), (ev_out rfl b4), (ev_out rfl b8), (ev_out rfl b9), (ev_out rfl b13), (ev_out rfl b14), (Ye rfl).trans (by rw [Int.natCast_add]; rfl), mn6, mr6, by rw [take_snoc hc]; exact Vh.congr mh6 (hr_keep hkeep), (below_of_kept (kB.trans (k4.mono (by omega))) k5 (by omega) (by omega)).trans (k6.mono (by omega)), by omega⟩
    ·have hkeep : ∀ s : Nat, s < 4 → fitB n.id n.fr (s : Int) kind many c.m = false ∨ (fL n.id n.fr (L.take i) (s : Int) kind many).isSome = true := fun s hs => Or.inl (by unfold fitB; rw [decide_eq_false (show ¬ (c.m.L.length : Int) = many from h3)]; simp)
     refine c_rs (m_start ?_)
     refine Yq (run_lssI (b := true) _ _ rfl (ev_out rfl b15) (ev_out rfl b14) (decide_eq_true (by omega)) _) ?_
     refine l_nx ?_
     refine c_nx (c_true (Ye rfl) (c_fin ?_))
     refine c_nx (c_block ?_)
     refine c_rs ?_
     refine Yq (run_ixM _ _ rfl (ev_out rfl b13) (ev_out rfl b15) rfl hin _) ?_
     refine Yq (run_lodM _ rfl (Ye rfl) hcell) ?_
     refine m_do rfl (wanted_rd rfl) (fun K hK => ?_)
     refine wp_allocG _ _ rfl zeroMs (of_decide_eq_true rfl) ?_
     intro w4 m4 k4 z4
     have mn4 := mn.below k4
     have mr4 := mr.below k4
     have mh4 := mh.below k4
     refine hK _ _ ?_
     clear hK K
     refine m_st (wanted_rd rfl) (fun K hK => ?_)
     refine wp_storeP _ _ _ _ rfl manyMs (Ye rfl) (Ye rfl) m4 (by decide) (lmF_one _) rfl ?_
     intro w5 mm5 k5 z5
     have mm5 := Vh.congr mm5 (stP_all4 _ _)
     have mn5 := mn4.kept k5 (by omega)
     have mr5 := mr4.kept k5 (by omega)
     have mh5 := mh4.kept k5 (by omega)
     refine hK _ ?_
     clear hK K
     refine l_nx ?_
     refine c_rs ?_
     refine Yq (fldMs0 rfl (Ye rfl) _) ?_
     refine Yq (run_lod1 _ _ rfl oneI (Ye rfl) mm5 (by decide) rfl) ?_
     refine Yp ?_
     refine Yq (run_eqlI (b := true) _ _ rfl (Ye rfl) (Ye rfl) (decide_eq_true h1) _) ?_
     refine Yp ?_
     refine Yq (fldMs2 rfl (Ye rfl) _) ?_
     refine Yq (run_lod1 _ _ rfl oneI (Ye rfl) mm5 (by decide) rfl) ?_
     refine Yq (fldNd1 rfl (ev_out rfl b4) _) ?_
     refine Yq (run_lod1 _ _ rfl oneI (Ye rfl) mn5 (by decide) rfl) ?_
     refine Yq (run_eqlI (b := true) _ _ rfl (Ye rfl) (Ye rfl) (decide_eq_true h2) _) ?_
     refine Yq (run_pickT' _ _ _ rfl (Ye rfl) (Ye rfl) _) ?_
     refine Yp ?_
     refine Yq (fldMs3 rfl (Ye rfl) _) ?_
     refine Yq (run_lod1 _ _ rfl oneIs (Ye rfl) mm5 (by decide) rfl) ?_
     refine Yq (run_lenI _ rfl (Ye rfl) _) ?_
     refine Yp ?_
     refine Yq (run_eqlI (b := false) _ _ rfl (Ye rfl) (Ye rfl) (decide_eq_false h3) _) ?_
     refine Yq (run_pickT' _ _ _ rfl (Ye rfl) (Ye rfl) _) ?_
     refine Yp ?_
     refine l_nx ?_
     refine c_rs ?_
     iterate 2 refine Yp ?_
     iterate 3 refine Yu ?_
     refine Yq (run_pickF _ _ _ rfl (Ye rfl) (ev_const _ _) _) ?_
     refine Yp ?_
     iterate 5 refine Yu ?_
     refine Yq (run_pickF _ _ _ rfl (Ye rfl) (ev_const _ _) _) ?_
     refine Yp ?_
     iterate 6 refine Yu ?_
     refine Yq (run_pickF _ _ _ rfl (Ye rfl) (ev_const _ _) _) ?_
     refine l_nx ?_
     refine c_false (Ye rfl) (c_finB ?_)
     refine c_region ?_
     refine Yq (run_addI _ _ rfl (ev_out rfl b15) (ev_const _ _) (by omega) (by omega) _) ?_
     refine Yp ?_
     exact l_round ⟨L.length - (i + 1), by omega, i + 1, by omega, by omega, (szL _ _).trans hs, (defL _ _).trans hd, (ev_out rfl b2), (ev_out rfl b3), (ev_out rfl b4), (ev_out rfl b8), (ev_out rfl b9), (ev_out rfl b13), (ev_out rfl b14), (Ye rfl).trans (by rw [Int.natCast_add]; rfl), mn5, mr5, by rw [take_snoc hc]; exact Vh.congr mh5 (hr_keep hkeep), below_of_kept (kB.trans (k4.mono (by omega))) k5 (by omega) (by omega), by omega⟩
   ·have hkeep : ∀ s : Nat, s < 4 → fitB n.id n.fr (s : Int) kind many c.m = false ∨ (fL n.id n.fr (L.take i) (s : Int) kind many).isSome = true := fun s hs => Or.inl (by unfold fitB; rw [decide_eq_false (show ¬ c.m.R = n.fr from h2)]; simp)
    refine c_rs (m_start ?_)
    refine Yq (run_lssI (b := true) _ _ rfl (ev_out rfl b15) (ev_out rfl b14) (decide_eq_true (by omega)) _) ?_
    refine l_nx ?_
    refine c_nx (c_true (Ye rfl) (c_fin ?_))
    refine c_nx (c_block ?_)
    refine c_rs ?_
    refine Yq (run_ixM _ _ rfl (ev_out rfl b13) (ev_out rfl b15) rfl hin _) ?_
    refine Yq (run_lodM _ rfl (Ye rfl) hcell) ?_
    refine m_do rfl (wanted_rd rfl) (fun K hK => ?_)
    refine wp_allocG _ _ rfl zeroMs (of_decide_eq_true rfl) ?_
    intro w4 m4 k4 z4
    have mn4 := mn.below k4
    have mr4 := mr.below k4
    have mh4 := mh.below k4
    refine hK _ _ ?_
    clear hK K
    refine m_st (wanted_rd rfl) (fun K hK => ?_)
    refine wp_storeP _ _ _ _ rfl manyMs (Ye rfl) (Ye rfl) m4 (by decide) (lmF_one _) rfl ?_
    intro w5 mm5 k5 z5
    have mm5 := Vh.congr mm5 (stP_all4 _ _)
    have mn5 := mn4.kept k5 (by omega)
    have mr5 := mr4.kept k5 (by omega)
    have mh5 := mh4.kept k5 (by omega)
    refine hK _ ?_
    clear hK K
    refine l_nx ?_
    refine c_rs ?_
    refine Yq (fldMs0 rfl (Ye rfl) _) ?_
    refine Yq (run_lod1 _ _ rfl oneI (Ye rfl) mm5 (by decide) rfl) ?_
    refine Yp ?_
    refine Yq (run_eqlI (b := true) _ _ rfl (Ye rfl) (Ye rfl) (decide_eq_true h1) _) ?_
    refine Yp ?_
    refine Yq (fldMs2 rfl (Ye rfl) _) ?_
    refine Yq (run_lod1 _ _ rfl oneI (Ye rfl) mm5 (by decide) rfl) ?_
    refine Yq (fldNd1 rfl (ev_out rfl b4) _) ?_
    refine Yq (run_lod1 _ _ rfl oneI (Ye rfl) mn5 (by decide) rfl) ?_
    refine Yq (run_eqlI (b := false) _ _ rfl (Ye rfl) (Ye rfl) (decide_eq_false h2) _) ?_
    refine Yq (run_pickT' _ _ _ rfl (Ye rfl) (Ye rfl) _) ?_
    refine Yp ?_
    iterate 5 refine Yu ?_
    refine Yq (run_pickF _ _ _ rfl (Ye rfl) (ev_const _ _) _) ?_
    refine Yp ?_
    refine l_nx ?_
    refine c_rs ?_
    iterate 2 refine Yp ?_
    iterate 3 refine Yu ?_
    refine Yq (run_pickF _ _ _ rfl (Ye rfl) (ev_const _ _) _) ?_
    refine Yp ?_
    iterate 5 refine Yu ?_
    refine Yq (run_pickF _ _ _ rfl (Ye rfl) (ev_const _ _) _) ?_
    refine Yp ?_
    iterate 6 refine Yu ?_
    refine Yq (run_pickF _ _ _ rfl (Ye rfl) (ev_const _ _) _) ?_
    refine l_nx ?_
    refine c_false (Ye rfl) (c_finB ?_)
    refine c_region ?_
    refine Yq (run_addI _ _ rfl (ev_out rfl b15) (ev_const _ _) (by omega) (by omega) _) ?_
    refine Yp ?_
    exact l_round ⟨L.length - (i + 1), by omega, i + 1, by omega, by omega, (szL _ _).trans hs, (defL _ _).trans hd, (ev_out rfl b2), (ev_out rfl b3), (ev_out rfl b4), (ev_out rfl b8), (ev_out rfl b9), (ev_out rfl b13), (ev_out rfl b14), (Ye rfl).trans (by rw [Int.natCast_add]; rfl), mn5, mr5, by rw [take_snoc hc]; exact Vh.congr mh5 (hr_keep hkeep), below_of_kept (kB.trans (k4.mono (by omega))) k5 (by omega) (by omega), by omega⟩
  ·have hkeep : ∀ s : Nat, s < 4 → fitB n.id n.fr (s : Int) kind many c.m = false ∨ (fL n.id n.fr (L.take i) (s : Int) kind many).isSome = true := fun s hs => Or.inl (by unfold fitB; rw [decide_eq_false (show ¬ c.m.K = kind from h1)]; simp)
   refine c_rs (m_start ?_)
   refine Yq (run_lssI (b := true) _ _ rfl (ev_out rfl b15) (ev_out rfl b14) (decide_eq_true (by omega)) _) ?_
   refine l_nx ?_
   refine c_nx (c_true (Ye rfl) (c_fin ?_))
   refine c_nx (c_block ?_)
   refine c_rs ?_
   refine Yq (run_ixM _ _ rfl (ev_out rfl b13) (ev_out rfl b15) rfl hin _) ?_
   refine Yq (run_lodM _ rfl (Ye rfl) hcell) ?_
   refine m_do rfl (wanted_rd rfl) (fun K hK => ?_)
   refine wp_allocG _ _ rfl zeroMs (of_decide_eq_true rfl) ?_
   intro w4 m4 k4 z4
   have mn4 := mn.below k4
   have mr4 := mr.below k4
   have mh4 := mh.below k4
   refine hK _ _ ?_
   clear hK K
   refine m_st (wanted_rd rfl) (fun K hK => ?_)
   refine wp_storeP _ _ _ _ rfl manyMs (Ye rfl) (Ye rfl) m4 (by decide) (lmF_one _) rfl ?_
   intro w5 mm5 k5 z5
   have mm5 := Vh.congr mm5 (stP_all4 _ _)
   have mn5 := mn4.kept k5 (by omega)
   have mr5 := mr4.kept k5 (by omega)
   have mh5 := mh4.kept k5 (by omega)
   refine hK _ ?_
   clear hK K
   refine l_nx ?_
   refine c_rs ?_
   refine Yq (fldMs0 rfl (Ye rfl) _) ?_
   refine Yq (run_lod1 _ _ rfl oneI (Ye rfl) mm5 (by decide) rfl) ?_
   refine Yp ?_
   refine Yq (run_eqlI (b := false) _ _ rfl (Ye rfl) (Ye rfl) (decide_eq_false h1) _) ?_
   refine Yp ?_
   iterate 5 refine Yu ?_
   refine Yq (run_pickF _ _ _ rfl (Ye rfl) (ev_const _ _) _) ?_
   refine Yp ?_
   iterate 5 refine Yu ?_
   refine Yq (run_pickF _ _ _ rfl (Ye rfl) (ev_const _ _) _) ?_
   refine Yp ?_
   refine l_nx ?_
   refine c_rs ?_
   iterate 2 refine Yp ?_
   iterate 3 refine Yu ?_
   refine Yq (run_pickF _ _ _ rfl (Ye rfl) (ev_const _ _) _) ?_
   refine Yp ?_
   iterate 5 refine Yu ?_
   refine Yq (run_pickF _ _ _ rfl (Ye rfl) (ev_const _ _) _) ?_
   refine Yp ?_
   iterate 6 refine Yu ?_
   refine Yq (run_pickF _ _ _ rfl (Ye rfl) (ev_const _ _) _) ?_
   refine l_nx ?_
   refine c_false (Ye rfl) (c_finB ?_)
   refine c_region ?_
   refine Yq (run_addI _ _ rfl (ev_out rfl b15) (ev_const _ _) (by omega) (by omega) _) ?_
   refine Yp ?_
   exact l_round ⟨L.length - (i + 1), by omega, i + 1, by omega, by omega, (szL _ _).trans hs, (defL _ _).trans hd, (ev_out rfl b2), (ev_out rfl b3), (ev_out rfl b4), (ev_out rfl b8), (ev_out rfl b9), (ev_out rfl b13), (ev_out rfl b14), (Ye rfl).trans (by rw [Int.natCast_add]; rfl), mn5, mr5, by rw [take_snoc hc]; exact Vh.congr mh5 (hr_keep hkeep), below_of_kept (kB.trans (k4.mono (by omega))) k5 (by omega) (by omega), by omega⟩
 ·refine c_rs (m_start ?_)
  refine Yq (run_lssI (b := false) _ _ rfl (ev_out rfl b15) (ev_out rfl b14) (decide_eq_false (by omega)) _) ?_
  obtain rfl : i = L.length := by omega
  rw [List.take_length] at mh
  refine l_nx ?_
  refine c_nx (c_false (Ye rfl) (c_exit (x_out ?_)))
  refine c_rs ?_
  refine Yq (run_loadP _ _ rfl manyHr (ev_out rfl b9) mh (by decide)) ?_
  refine m_st (wanted_rd rfl) (fun K hK => ?_)
  refine wp_storeP _ _ _ _ rfl manyHr (ev_out rfl b8) (Ye rfl) mr (by decide) (hrO_one _ _ _ _ _) rfl ?_
  intro w4 mm4 k4 z4
  have mr4 := Vh.congr mm4 (stP_all4 _ _)
  have mn4 := mn.kept k4 (by omega)
  have mh4 := mh.kept k4 (by omega)
  refine hK _ ?_
  clear hK K
  refine l_nx ?_
  refine c_ret (ret_of ((defL _ _).trans hd) (res_c rfl (ev_out rfl b8) manyHr mr4 (Nat.le_refl _)) ⟨rfl, below_of_kept kB k4 (by omega) (by omega)⟩)
end Go.Proofs.YtdhblehhgpdpdaaGreat
namespace Go.Proofs.YtdhblehhgpdpdaaGreat
open Go.RowKit
theorem enter_calike (x : Value) (w : World) : (callFunc 83 #[x]).run Tryz.prog w = .ok (.enter 83 #[x]) w := by go_simp
def pairL (n : Nd) (L : List Lm) (p q : Nat) : Option Lm := match fL n.id n.fr L (p : Int) 5 24, fL n.id n.fr L (q : Int) 5 24 with | some a, some b => if a.m.L = b.m.L then some a else none | _, _ => none
def alk (n : Nd) (L : List Lm) : Option Lm := prs.findSome? fun p => pairL n L p.1 p.2
def alkV : Option Lm → Value
 | some c => lmV c
 | none => .slice none 0 0
theorem alk_none {n : Nd} {L : List Lm} (h : ∀ p q, p < q → q < 4 → pairL n L p q = none) : alk n L = none := by
 unfold alk
 rw [List.findSome?_eq_none_iff]
 intro p hp
 unfold prs at hp
 simp only [List.mem_cons, List.not_mem_nil, or_false] at hp
 rcases hp with rfl | rfl | rfl | rfl | rfl | rfl <;> exact h _ _ (by decide) (by decide)
theorem alk_found {n : Nd} {L : List Lm} {i k : Nat} {c : Lm} (hik : i < k) (hk : k < 4) (h : pairL n L i k = some c) (hb : ∀ p q, p < q → q < 4 → (p < i ∨ (p = i ∧ q < k)) → pairL n L p q = none) : alk n L = some c := by
 unfold alk prs
 match i, k, hik, hk with
 | 0, 1, _, _ => simp only [List.findSome?, h]
 | 0, 2, _, _ => simp only [List.findSome?, hb 0 1 (by decide) (by decide) (by omega), h]
 | 0, 3, _, _ => simp only [List.findSome?, hb 0 1 (by decide) (by decide) (by omega), hb 0 2 (by decide) (by decide) (by omega), h]
 | 1, 2, _, _ => simp only [List.findSome?, hb 0 1 (by decide) (by decide) (by omega), hb 0 2 (by decide) (by decide) (by omega), hb 0 3 (by decide) (by decide) (by omega), h]
 | 1, 3, _, _ => simp only [List.findSome?, hb 0 1 (by decide) (by decide) (by omega), hb 0 2 (by decide) (by decide) (by omega), hb 0 3 (by decide) (by decide) (by omega), hb 1 2 (by decide) (by decide) (by omega), h]
 | 2, 3, _, _ => simp only [List.findSome?, hb 0 1 (by decide) (by decide) (by omega), hb 0 2 (by decide) (by decide) (by omega), hb 0 3 (by decide) (by decide) (by omega), hb 1 2 (by decide) (by decide) (by omega), hb 1 3 (by decide) (by decide) (by omega), h]
 | i + 3, k, h1, h2 => exact absurd h1 (by omega)
def sO (i : Nat) : Nat := if 4 = i then 0 else i
theorem sO_at {i : Nat} (h : i ≠ 4) : sO i = i := if_neg (Ne.symm h)
section
variable {f : Operand → Value} {o : Oper}
theorem run_cutH (x y : Operand) (ho : o.op = .slice 129 x (some y) none none) {b i : Nat} {z : Int} (hx : f x = .pointer (some ⟨b, 0, none⟩)) (hy : f y = .int .i64 z) (hz : z = (i : Int)) (hi : i ≤ 4) (w : World) :
  (execOp f o).run Tryz.prog w = .ok (.value (.slice (some ⟨b, sO i, none⟩) (4 - i) (4 - i))) w := by
 subst hz
 have : i = 0 ∨ i = 1 ∨ i = 2 ∨ i = 3 ∨ i = 4 := by omega
 unfold execOp
 rw [ho]
 simp only [Option.map_some, Option.map_none]
 rw [hx, hy]
 clear hx hy ho hi
 rcases this with rfl | rfl | rfl | rfl | rfl <;> go_simp <;> rfl
theorem run_lenLL (x : Operand) (ho : o.op = .call { callee := .builtin .len, args := #[x], argTypes := #[174] }) {ao : Option Addr} {n c : Nat} (hx : f x = .slice ao n c) (w : World) : (execOp f o).run Tryz.prog w = .ok (.value (.int .i64 ((n : Nat) : Int))) w := by
 unfold execOp
 rw [ho]
 dsimp only
 go_simp
theorem run_ixLL (x y : Operand) (ho : o.op = .indexAddr 174 x y) {b off n cap i : Nat} {z : Int} (hx : f x = .slice (some ⟨b, off, none⟩) n cap) (hy : f y = .int .i64 z) (hz : z = (i : Int)) (hi : i < n) (w : World) :
  (execOp f o).run Tryz.prog w = .ok (.value (.pointer (some ⟨b, off + i, none⟩))) w := by
 subst hz
 have hi2 : (i : Int) < n := by omega
 unfold execOp
 rw [ho]
 dsimp only
 rw [hx, hy]
 go_simp
end
set_option maxHeartbeats 4000000 in
theorem alike_any (n : Nd) (mo : Option Addr) (L : List Lm) (w : World) (hmr : MRd w mo L) :
  Calls Tryz.prog 83 #[agV (hrO n.id n.fr L 5 24) 0 4] w fun e w' => e = .returned (alkV (alk n L)) ∧ Below w.heap.size w w' := by
 refine enterF Tryz.func83 rfl 31 rfl (of_decide_eq_true rfl) (fun A hs hd hb => ?_)
 have b0 : A.eval (.tmp 0) = agV (hrO n.id n.fr L 5 24) 0 4 := hb 0 _ rfl
 clear hb
 refine c_rs (m_start ?_)
 refine m_do rfl (wanted_rd rfl) (fun K hK => ?_)
 refine wp_boxG _ _ _ rfl (ev_out rfl b0) (of_decide_eq_true rfl) ?_
 intro w1 m1 k1 z1
 refine hK _ _ ?_
 clear hK K
 refine Yp ?_
 refine l_nx ?_
 refine c_nx ?_
 refine c_rs ?_
 refine Yq (run_loadP _ _ rfl manyHr (Ye rfl) m1 (by decide)) ?_
 refine Yp ?_
 refine l_nx ?_
 refine c_block ?_
 refine c_loop (fun q A W => ∃ i : Nat, i ≤ 4 ∧ 4 - i ≤ q ∧ A.tmps.size = 31 ∧ A.defers = [] ∧ A.eval (.tmp 1) = .pointer (some ⟨w.heap.size, 0, none⟩) ∧ A.eval (.tmp 7) = agV (hrO n.id n.fr L 5 24) 0 4 ∧ A.eval (.tmp 8) = .int .i64 (i : Int) ∧ (∀ p q, p < q → q < 4 → p < i → pairL n L p q = none) ∧ Vh 129 W w.heap.size 4 4 (hrO n.id n.fr L 5 24) ∧ Below w.heap.size w W ∧ w1.heap.size ≤ W.heap.size) 4 ⟨0, by omega, by omega, (szL _ _).trans hs, (defL _ _).trans hd, (Ye rfl), (Ye rfl), (Ye rfl), fun p q _ _ h => absurd h (by omega), m1, k1, by omega⟩ (fun q B W hI2 => ?_)
 clear b0 hs hd
 obtain ⟨i, hi, hr2, hs, hd, b1, b7, b8, hno, mh, kB, hW⟩ := hI2
 by_cases hin : i < 4
 ·refine c_rs (m_start ?_)
  refine Yq (run_lssI (b := true) _ _ rfl (ev_out rfl b8) (ev_const _ _) (decide_eq_true (by omega)) _) ?_
  refine l_nx ?_
  refine c_nx (c_true (Ye rfl) (c_fin ?_))
  refine c_nx (c_block ?_)
  refine c_rs ?_
  refine Yp ?_
  refine Yq (run_ixV1 _ _ _ _ rfl Tryz.underlying129 oneIs (ev_out rfl b7) (ev_out rfl b8) rfl hin _) ?_
  iterate 2 refine Yp ?_
  refine l_nx ?_
  refine c_rs ?_
  refine Yp ?_
  refine Yq (run_addI _ _ rfl (Ye rfl) (ev_const _ _) (by omega) (by omega) _) ?_
  refine Yq (run_cutH (i := i + 1) _ _ rfl (ev_out rfl b1) (Ye rfl) (by rw [Int.natCast_add]; rfl) (by omega) _) ?_
  refine Yq (run_lenLL _ rfl (Ye rfl) _) ?_
  refine Yp ?_
  refine l_nx ?_
  refine c_block ?_
  refine c_loop (fun q A W => ∃ x : Nat, x ≤ 3 - i ∧ 3 - i - x ≤ q ∧ A.tmps.size = 31 ∧ A.defers = [] ∧ A.eval (.tmp 1) = .pointer (some ⟨w.heap.size, 0, none⟩) ∧ A.eval (.tmp 7) = agV (hrO n.id n.fr L 5 24) 0 4 ∧ A.eval (.tmp 8) = .int .i64 (i : Int) ∧ A.eval (.tmp 3) = .int .i64 (i : Int) ∧ A.eval (.tmp 4) = hrO n.id n.fr L 5 24 i ∧ A.eval (.tmp 14) = .slice (some ⟨w.heap.size, sO (i + 1), none⟩) (4 - (i + 1)) (4 - (i + 1)) ∧ A.eval (.tmp 15) = .int .i64 ((4 - (i + 1) : Nat) : Int) ∧ A.eval (.tmp 16) = .int .i64 (x : Int) ∧ (∀ p q, p < q → q < 4 → (p < i ∨ (p = i ∧ q < i + 1 + x)) → pairL n L p q = none) ∧ Vh 129 W w.heap.size 4 4 (hrO n.id n.fr L 5 24) ∧ Below w.heap.size w W ∧ w1.heap.size ≤ W.heap.size) (3 - i) ⟨0, by omega, by omega, (szL _ _).trans hs, (defL _ _).trans hd, (ev_out rfl b1), (ev_out rfl b7), (ev_out rfl b8), (Ye rfl), (Ye rfl), (Ye rfl), (Ye rfl), (Ye rfl), (fun p q h1 h2 h3 => hno p q h1 h2 (by omega)), mh, kB, hW⟩ (fun q3 B3 W3 hI3 => ?_)
  clear b1 b7 b8 hs hd mh hno
  obtain ⟨x, hx, hr3, hs, hd, b1, b7, b8, b3, b4, b14, b15, b16, hno, mh, kB3, hW3⟩ := hI3
  by_cases hin3 : x < 3 - i
  ·have hi3 : i + 1 ≠ 4 := by omega
   have hin3b : x < 4 - (i + 1) := by omega
   have esO : sO (i + 1) + x = i + 1 + x := by rw [sO_at hi3]
   have b4r := b4
   rcases hfi : fL n.id n.fr L (i : Int) 5 24 with _ | ci
   ·have b4 : B3.eval (.tmp 4) = .slice none 0 0 := b4.trans (by unfold hrO; rw [hfi])
    have hpk : pairL n L i (i + 1 + x) = none := by unfold pairL; rw [hfi]
    obtain ⟨ok, hok⟩ : ∃ v, hrO n.id n.fr L 5 24 (sO (i + 1) + x) = v := ⟨_, rfl⟩
    refine c_rs (m_start ?_)
    refine Yq (run_lssI (b := true) _ _ rfl (ev_out rfl b16) (ev_out rfl b15) (decide_eq_true (by omega)) _) ?_
    refine l_nx ?_
    refine c_nx (c_true (Ye rfl) (c_fin ?_))
    refine c_nx (c_block ?_)
    refine c_rs ?_
    refine Yq (run_ixLL _ _ rfl (ev_out rfl b14) (ev_out rfl b16) rfl hin3b _) ?_
    refine Yq (run_lod1 _ _ rfl oneIs (Ye rfl) mh (by rw [sO_at hi3]; omega) hok) ?_
    refine Yp ?_
    refine l_nx ?_
    refine c_rs ?_
    refine Yp ?_
    refine Yq (run_lenI _ rfl (Ye rfl) _) ?_
    refine Yq (run_gtrI (b := false) _ _ rfl (Ye rfl) (ev_const _ _) (decide_eq_false (by omega)) _) ?_
    refine Yp ?_
    iterate 3 refine Yu ?_
    refine Yq (run_pickF _ _ _ rfl (Ye rfl) (ev_const _ _) _) ?_
    refine l_nx ?_
    refine c_false (Ye rfl) (c_finB ?_)
    refine c_region ?_
    refine Yq (run_addI _ _ rfl (ev_out rfl b16) (ev_const _ _) (by omega) (by omega) _) ?_
    refine Yp ?_
    exact l_round ⟨3 - i - (x + 1), by omega, x + 1, by omega, by omega, (szL _ _).trans hs, (defL _ _).trans hd, (ev_out rfl b1), (ev_out rfl b7), (ev_out rfl b8), (ev_out rfl b3), (ev_out rfl b4r), (ev_out rfl b14), (ev_out rfl b15), (Ye rfl).trans (by rw [Int.natCast_add]; rfl), (fun p q h1 h2 h3 => by
     by_cases e : p = i ∧ q = i + 1 + x
     ·rw [e.1, e.2]; exact hpk
     ·exact hno p q h1 h2 (by omega)), mh, kB3, by omega⟩
   ·obtain ⟨mci, fci⟩ := fL_mem hfi
    have lci := fit_len fci
    have b4 : B3.eval (.tmp 4) = .slice ci.ao ci.m.L.length ci.cap := b4.trans (by unfold hrO; rw [hfi]; rfl)
    rcases hfk : fL n.id n.fr L ((i + 1 + x : Nat) : Int) 5 24 with _ | ck
    ·have hok : hrO n.id n.fr L 5 24 (sO (i + 1) + x) = .slice none 0 0 := by rw [esO]; unfold hrO; rw [hfk]
     have hpk : pairL n L i (i + 1 + x) = none := by unfold pairL; rw [hfi, hfk]
     have hnil : ¬ ci.m.L = [] := fun e => by rw [e] at lci; exact absurd lci (by decide)
     refine c_rs (m_start ?_)
     refine Yq (run_lssI (b := true) _ _ rfl (ev_out rfl b16) (ev_out rfl b15) (decide_eq_true (by omega)) _) ?_
     refine l_nx ?_
     refine c_nx (c_true (Ye rfl) (c_fin ?_))
     refine c_nx (c_block ?_)
     refine c_rs ?_
     refine Yq (run_ixLL _ _ rfl (ev_out rfl b14) (ev_out rfl b16) rfl hin3b _) ?_
     refine Yq (run_lod1 _ _ rfl oneIs (Ye rfl) mh (by rw [sO_at hi3]; omega) hok) ?_
     refine Yp ?_
     refine l_nx ?_
     refine c_rs ?_
     refine Yp ?_
     refine Yq (run_lenI _ rfl (Ye rfl) _) ?_
     refine Yq (run_gtrI (b := true) _ _ rfl (Ye rfl) (ev_const _ _) (decide_eq_true (by omega)) _) ?_
     iterate 3 refine Yp ?_
     refine m_do rfl (wanted_g (j := 3) rfl rfl rfl (Ye rfl)) (fun K hK => ?_)
     have C21 := eqInts_any ci.m.L [] ci.ao none ci.cap 0 W3 (by have := (hmr.2 ci mci).2.2; omega) ((hmr.2 ci mci).below kB3).1 (Or.inl ⟨rfl, rfl, rfl⟩)
     rw [decide_eq_false hnil] at C21
     refine wp_call2 _ 118 _ _ _ rfl (Ye rfl) (Ye rfl) (enter_eqInts _ _ _) C21 ?_
     rintro e w21 ⟨rfl, k21⟩
     have n21 := k21.size
     have mh21 := mh.below k21
     refine ⟨_, rfl, ?_⟩
     refine hK _ _ ?_
     clear hK K
     refine Yq (run_pickT' _ _ _ rfl (Ye rfl) (Ye rfl) _) ?_
     refine l_nx ?_
     refine c_false (Ye rfl) (c_finB ?_)
     refine c_region ?_
     refine Yq (run_addI _ _ rfl (ev_out rfl b16) (ev_const _ _) (by omega) (by omega) _) ?_
     refine Yp ?_
     exact l_round ⟨3 - i - (x + 1), by omega, x + 1, by omega, by omega, (szL _ _).trans hs, (defL _ _).trans hd, (ev_out rfl b1), (ev_out rfl b7), (ev_out rfl b8), (ev_out rfl b3), (ev_out rfl b4r), (ev_out rfl b14), (ev_out rfl b15), (Ye rfl).trans (by rw [Int.natCast_add]; rfl), (fun p q h1 h2 h3 => by
      by_cases e : p = i ∧ q = i + 1 + x
      ·rw [e.1, e.2]; exact hpk
      ·exact hno p q h1 h2 (by omega)), mh21, kB3.trans (k21.mono (by omega)), by omega⟩
    ·obtain ⟨mck, fck⟩ := fL_mem hfk
     have hok : hrO n.id n.fr L 5 24 (sO (i + 1) + x) = .slice ck.ao ck.m.L.length ck.cap := by rw [esO]; unfold hrO; rw [hfk]; rfl
     by_cases he : ci.m.L = ck.m.L
     ·have hpk : pairL n L i (i + 1 + x) = some ci := by unfold pairL; rw [hfi, hfk]; exact if_pos he
      refine c_rs (m_start ?_)
      refine Yq (run_lssI (b := true) _ _ rfl (ev_out rfl b16) (ev_out rfl b15) (decide_eq_true (by omega)) _) ?_
      refine l_nx ?_
      refine c_nx (c_true (Ye rfl) (c_fin ?_))
      refine c_nx (c_block ?_)
      refine c_rs ?_
      refine Yq (run_ixLL _ _ rfl (ev_out rfl b14) (ev_out rfl b16) rfl hin3b _) ?_
      refine Yq (run_lod1 _ _ rfl oneIs (Ye rfl) mh (by rw [sO_at hi3]; omega) hok) ?_
      refine Yp ?_
      refine l_nx ?_
      refine c_rs ?_
      refine Yp ?_
      refine Yq (run_lenI _ rfl (Ye rfl) _) ?_
      refine Yq (run_gtrI (b := true) _ _ rfl (Ye rfl) (ev_const _ _) (decide_eq_true (by omega)) _) ?_
      iterate 3 refine Yp ?_
      refine m_do rfl (wanted_g (j := 3) rfl rfl rfl (Ye rfl)) (fun K hK => ?_)
      have C21 := eqInts_any ci.m.L ck.m.L ci.ao ck.ao ci.cap ck.cap W3 (by have := (hmr.2 ci mci).2.2; omega) ((hmr.2 ci mci).below kB3).1 ((hmr.2 ck mck).below kB3).1
      rw [decide_eq_true he] at C21
      refine wp_call2 _ 118 _ _ _ rfl (Ye rfl) (Ye rfl) (enter_eqInts _ _ _) C21 ?_
      rintro e w21 ⟨rfl, k21⟩
      have n21 := k21.size
      have mh21 := mh.below k21
      refine ⟨_, rfl, ?_⟩
      refine hK _ _ ?_
      clear hK K
      refine Yq (run_pickT' _ _ _ rfl (Ye rfl) (Ye rfl) _) ?_
      refine l_nx ?_
      refine c_true (Ye rfl) ?_
      refine c_rs ?_
      iterate 2 refine Yp ?_
      refine l_nx ?_
      refine c_ret ?_
      simp only [Nx, Exit.inBlock, Exit.then]
      refine ret_of ((defL _ _).trans hd) (res_t rfl (Ye rfl)) ⟨?_, kB3.trans (k21.mono (by omega))⟩
      unfold alkV
      rw [alk_found (show i < i + 1 + x by omega) (by omega) hpk (fun p q h1 h2 h3 => hno p q h1 h2 h3)]
      rfl
     ·have hpk : pairL n L i (i + 1 + x) = none := by unfold pairL; rw [hfi, hfk]; exact if_neg he
      refine c_rs (m_start ?_)
      refine Yq (run_lssI (b := true) _ _ rfl (ev_out rfl b16) (ev_out rfl b15) (decide_eq_true (by omega)) _) ?_
      refine l_nx ?_
      refine c_nx (c_true (Ye rfl) (c_fin ?_))
      refine c_nx (c_block ?_)
      refine c_rs ?_
      refine Yq (run_ixLL _ _ rfl (ev_out rfl b14) (ev_out rfl b16) rfl hin3b _) ?_
      refine Yq (run_lod1 _ _ rfl oneIs (Ye rfl) mh (by rw [sO_at hi3]; omega) hok) ?_
      refine Yp ?_
      refine l_nx ?_
      refine c_rs ?_
      refine Yp ?_
      refine Yq (run_lenI _ rfl (Ye rfl) _) ?_
      refine Yq (run_gtrI (b := true) _ _ rfl (Ye rfl) (ev_const _ _) (decide_eq_true (by omega)) _) ?_
      iterate 3 refine Yp ?_
      refine m_do rfl (wanted_g (j := 3) rfl rfl rfl (Ye rfl)) (fun K hK => ?_)
      have C21 := eqInts_any ci.m.L ck.m.L ci.ao ck.ao ci.cap ck.cap W3 (by have := (hmr.2 ci mci).2.2; omega) ((hmr.2 ci mci).below kB3).1 ((hmr.2 ck mck).below kB3).1
      rw [decide_eq_false he] at C21
      refine wp_call2 _ 118 _ _ _ rfl (Ye rfl) (Ye rfl) (enter_eqInts _ _ _) C21 ?_
      rintro e w21 ⟨rfl, k21⟩
      have n21 := k21.size
      have mh21 := mh.below k21
      refine ⟨_, rfl, ?_⟩
      refine hK _ _ ?_
      clear hK K
      refine Yq (run_pickT' _ _ _ rfl (Ye rfl) (Ye rfl) _) ?_
      refine l_nx ?_
      refine c_false (Ye rfl) (c_finB ?_)
      refine c_region ?_
      refine Yq (run_addI _ _ rfl (ev_out rfl b16) (ev_const _ _) (by omega) (by omega) _) ?_
      refine Yp ?_
      exact l_round ⟨3 - i - (x + 1), by omega, x + 1, by omega, by omega, (szL _ _).trans hs, (defL _ _).trans hd, (ev_out rfl b1), (ev_out rfl b7), (ev_out rfl b8), (ev_out rfl b3), (ev_out rfl b4r), (ev_out rfl b14), (ev_out rfl b15), (Ye rfl).trans (by rw [Int.natCast_add]; rfl), (fun p q h1 h2 h3 => by
       by_cases e : p = i ∧ q = i + 1 + x
       ·rw [e.1, e.2]; exact hpk
       ·exact hno p q h1 h2 (by omega)), mh21, kB3.trans (k21.mono (by omega)), by omega⟩
  ·refine c_rs (m_start ?_)
   refine Yq (run_lssI (b := false) _ _ rfl (ev_out rfl b16) (ev_out rfl b15) (decide_eq_false (by omega)) _) ?_
   refine l_nx ?_
   refine c_nx (c_false (Ye rfl) (c_exit (x_out2 ?_)))
   refine c_region ?_
   refine Yq (run_addI _ _ rfl (ev_out rfl b8) (ev_const _ _) (by omega) (by omega) _) ?_
   refine Yp ?_
   exact l_round ⟨4 - (i + 1), by omega, i + 1, by omega, by omega, (szL _ _).trans hs, (defL _ _).trans hd, (ev_out rfl b1), (ev_out rfl b7), (Ye rfl).trans (by rw [Int.natCast_add]; rfl), (fun p q h1 h2 h3 => hno p q h1 h2 (by omega)), mh, kB3, hW3⟩
 ·refine c_rs (m_start ?_)
  refine Yq (run_lssI (b := false) _ _ rfl (ev_out rfl b8) (ev_const _ _) (decide_eq_false (by omega)) _) ?_
  refine l_nx ?_
  refine c_nx (c_false (Ye rfl) (c_exit (x_out ?_)))
  refine c_rs ?_
  refine Yp ?_
  refine l_nx ?_
  refine c_ret (ret_of ((defL _ _).trans hd) (res_t rfl (Ye rfl)) ⟨?_, kB⟩)
  unfold alkV
  rw [alk_none (fun p q h1 h2 => hno p q h1 h2 (by omega))]
end Go.Proofs.YtdhblehhgpdpdaaGreat
namespace Go.Proofs.YtdhblehhgpdpdaaGreat
open Go.RowKit
def cloR (n : Nd) (l : List Ms) : Nd := if noN n.id then zeroN else cloN n l
def ClOK (fn : Nat) : Prop := ∀ (n : Nd) (ao : Option Addr) (c : Nat) (mo : Option Addr) (mc : Nat) (L : List Lm) (w : World), NdOK n → AgRd w n ao c → MRd w mo L → L.length ≤ 140737488351232 → L.length ≤ mc → (∀ m, m ∈ L → ∀ i, R64 (gL m.m.L i)) →
 Calls Tryz.prog fn #[ndV n (.slice ao n.vA.length c), .slice mo L.length mc] w fun e w' => ∃ a' c', e = .returned (.tuple #[ndV (cloN n (L.map Lm.m)) (.slice a' (cloN n (L.map Lm.m)).vA.length c'), agV (rpF (cloR n (L.map Lm.m))) 0 14]) ∧ AgNew w.heap.size w' (cloN n (L.map Lm.m)) a' c' ∧ Below w.heap.size w w'
def cloT (n : Nd) (L : List Lm) : Nd := match alk n L with | some c => if unOK c.m.L then { n with ax := unA c.m.L, rl := unR c.m.L } else n | none => n
theorem cloT_vA (n : Nd) (L : List Lm) : (cloT n L).vA = n.vA := by
 unfold cloT
 split
 ·split <;> rfl
 ·rfl
theorem pair_map (n : Nd) (L : List Lm) (p : Nat × Nat) : pairN n (L.map Lm.m) p = (pairL n L p.1 p.2).map (fun c => c.m.L) := by
 unfold pairN pairL
 have h1 := fL_frst n L p.1 5 24
 have h2 := fL_frst n L p.2 5 24
 rw [show ((24 : Nat) : Int) = 24 from rfl] at h1 h2
 rw [← h1, ← h2]
 cases fL n.id n.fr L (p.1 : Int) 5 24 with
 | none => rfl
 | some a =>
  cases fL n.id n.fr L (p.2 : Int) 5 24 with
  | none => rfl
  | some b =>
   show (if a.m.L = b.m.L then some a.m.L else none) = Option.map _ (if a.m.L = b.m.L then some a else none)
   split <;> rfl
theorem find_map {α β γ : Type} (g : α → Option β) (f : β → γ) (l : List α) : l.findSome? (fun p => (g p).map f) = (l.findSome? g).map f := by
 induction l with
 | nil => rfl
 | cons x l ih =>
  rw [List.findSome?_cons, List.findSome?_cons]
  cases g x with
  | none => exact ih
  | some b => rfl
theorem alk_map (n : Nd) (L : List Lm) : prs.findSome? (pairN n (L.map Lm.m)) = (alk n L).map (fun c => c.m.L) := by
 unfold alk
 rw [← find_map]
 congr 1
 funext p
 exact pair_map n L p
theorem clo_still {n : Nd} {l : List Ms} (hno : noN n.id = false) (h : ¬ (n.vS = true ∧ n.vX ≠ n.dg)) : cloN n l = n := by
 unfold cloN cloV
 rw [if_neg (by rw [hno]; decide), if_neg h]
theorem clo_take {n : Nd} {L : List Lm} (hno : noN n.id = false) (h : n.vS = true ∧ n.vX ≠ n.dg) : cloN n (L.map Lm.m) = cloT n L := by
 unfold cloN cloV cloT
 rw [if_neg (by rw [hno]; decide), if_pos h, alk_map]
 cases alk n L <;> rfl
theorem pair_mem {n : Nd} {L : List Lm} {p q : Nat} {c : Lm} (h : pairL n L p q = some c) : c ∈ L ∧ c.m.L.length = 24 := by
 unfold pairL at h
 cases h1 : fL n.id n.fr L (p : Int) 5 24 with
 | none => rw [h1] at h; cases h
 | some a =>
  rw [h1] at h
  cases h2 : fL n.id n.fr L (q : Int) 5 24 with
  | none => rw [h2] at h; cases h
  | some b =>
   rw [h2] at h
   dsimp only at h
   split at h
   ·cases h
    obtain ⟨m, f⟩ := fL_mem h1
    exact ⟨m, by have := fit_len f; omega⟩
   ·cases h
theorem alk_mem {n : Nd} {L : List Lm} {c : Lm} (h : alk n L = some c) : c ∈ L ∧ c.m.L.length = 24 := by
 unfold alk at h
 obtain ⟨p, _, hp⟩ := List.exists_of_findSome?_eq_some h
 exact pair_mem hp
theorem alk_row {n : Nd} {L : List Lm} {mo : Option Addr} {w : World} (hmr : MRd w mo L) : ∃ (to : Option Addr) (tc : Nat) (v : List Int), alkV (alk n L) = .slice to v.length tc ∧ Sr w to v.length tc (iF (gL v)) ∧ v.length ≤ tc ∧ movN n v = cloT n L := by
 cases h : alk n L with
 | none => exact ⟨none, 0, [], rfl, Or.inl ⟨rfl, rfl, rfl⟩, Nat.le_refl _, by unfold movN cloT; rw [h]; rfl⟩
 | some c =>
  obtain ⟨m, hl⟩ := alk_mem h
  refine ⟨c.ao, c.cap, c.m.L, rfl, (hmr.2 c m).1, (hmr.2 c m).2.1, ?_⟩
  unfold movN cloT
  rw [h, decide_eq_true hl, Bool.true_and]
end Go.Proofs.YtdhblehhgpdpdaaGreat
namespace Go.Proofs.YtdhblehhgpdpdaaGreat
open Go.RowKit
set_option maxHeartbeats 4000000 in
theorem nodeClose_ok : ClOK 49 := by
 intro n ao c mo mc L w hok hag hmr hN hmc hRL
 have hag : Sr w ao n.vA.length c (tF (bA n)) := hag
 refine enterF Tryz.func49 rfl 34 rfl (of_decide_eq_true rfl) (fun A hs hd hb => ?_)
 have b0 : A.eval (.tmp 0) = ndV n (.slice ao n.vA.length c) := hb 0 _ rfl
 have b1 : A.eval (.tmp 1) = .slice mo L.length mc := hb 1 _ rfl
 clear hb
 refine c_rs (m_start ?_)
 refine m_do rfl (wanted_rd rfl) (fun K hK => ?_)
 refine wp_boxG _ _ _ rfl (ev_out rfl b0) (of_decide_eq_true rfl) ?_
 intro w1 m1 k1 z1
 have sr1 := hag.below k1
 refine hK _ _ ?_
 clear hK K
 refine m_do rfl (wanted_rd rfl) (fun K hK => ?_)
 refine wp_allocG _ _ rfl zeroNd (of_decide_eq_true rfl) ?_
 intro w2 m2 k2 z2
 have mn2 := m1.below k2
 have sr2 := sr1.below k2
 refine hK _ _ ?_
 clear hK K
 refine m_do rfl (wanted_rd rfl) (fun K hK => ?_)
 refine wp_allocG _ _ rfl zeroRp (of_decide_eq_true rfl) ?_
 intro w3 m3 k3 z3
 have mn3 := mn2.below k3
 have mr3 := m2.below k3
 have sr3 := sr2.below k3
 refine hK _ _ ?_
 clear hK K
 refine l_nx ?_
 refine c_rs ?_
 refine Yq (run_loadP _ _ rfl manyNd (Ye rfl) mn3 (by decide)) ?_
 refine m_do rfl (wanted_rd rfl) (fun K hK => ?_)
 refine wp_call1 _ 67 _ _ rfl (Ye rfl) (enter_pown _ _) (own_any n ao c _ sr3 hok.vA) ?_
 rintro e w4 ⟨a3, c3, rfl, o4, k4⟩
 have n4 := k4.size
 have mn4 := mn3.below k4
 have mr4 := mr3.below k4
 have mq4 := m3.below k4
 refine ⟨_, rfl, ?_⟩
 refine hK _ _ ?_
 clear hK K
 refine m_st (wanted_rd rfl) (fun K hK => ?_)
 refine wp_storeP _ _ _ _ rfl manyNd (Ye rfl) (Ye rfl) mn4 (by decide) (ndF_one _ _ _ _) rfl ?_
 intro w5 mm5 k5 z5
 have mn5 := Vh.congr mm5 (stP_all _ _)
 have mr5 := mr4.kept k5 (by omega)
 have mq5 := mq4.kept k5 (by omega)
 have ow5 := rw_kept o4 k5 (fun e => by have e1 := (o4.lt _ e).1; have e2 := (o4.lt _ e).2; omega)
 refine hK _ ?_
 clear hK K
 refine l_nx ?_
 refine c_nx ?_
 refine c_rs ?_
 refine Yq (fldNd0 rfl (Ye rfl) _) ?_
 refine Yq (run_lod1 _ _ rfl oneI (Ye rfl) mn5 (by decide) rfl) ?_
 refine m_do rfl (wanted_rd rfl) (fun K hK => ?_)
 refine wp_call1 _ 68 _ _ rfl (Ye rfl) (enter_pisNode _ _) (isNode_any n.id _) ?_
 rintro e w6 ⟨rfl, k6⟩
 have n6 := k6.size
 have mn6 := mn5.below k6
 have mr6 := mr5.below k6
 have mq6 := mq5.below k6
 have ow6 := rw_below ow5 k6
 refine ⟨_, rfl, ?_⟩
 refine hK _ _ ?_
 clear hK K
 refine Yq (run_notB _ _ rfl (Ye rfl) _) ?_
 refine l_nx ?_
 have kA : Below w.heap.size w w6 := (below_of_kept ((((k1).trans (k2.mono (by omega))).trans (k3.mono (by omega))).trans (k4.mono (by omega))) k5 (by omega) (by omega)).trans (k6.mono (by omega))
 refine c_cond (t := noN n.id) ((Ye rfl).trans (by rw [Bool.not_not])) (fun hno => ?_) (fun hno => ?_)
 ·refine c_rs ?_
  refine Yq (run_loadP _ _ rfl manyNd (Ye rfl) mn6 (by decide)) ?_
  refine Yq (run_bldRp0 rfl _) ?_
  refine m_st (wanted_rd rfl) (fun K hK => ?_)
  refine wp_storeP _ _ _ _ rfl manyNd (Ye rfl) (Ye rfl) mr6 (by decide) (ndF_one _ _ _ _) rfl ?_
  intro w7 mm7 k7 z7
  have mr7 := Vh.congr mm7 (stP_all _ _)
  have mn7 := mn6.kept k7 (by omega)
  have mq7 := mq6.kept k7 (by omega)
  have ow7 := rw_kept ow6 k7 (fun e => by have e1 := (o4.lt _ e).1; have e2 := (o4.lt _ e).2; omega)
  refine hK _ ?_
  clear hK K
  refine m_st (wanted_rd rfl) (fun K hK => ?_)
  refine wp_storeP _ _ _ _ rfl manyRp (Ye rfl) (Ye rfl) mq7 (by decide) (rpP_one _ _) rfl ?_
  intro w8 mm8 k8 z8
  have mq8 := Vh.congr mm8 (stP_all14 _ _)
  have mn8 := mn7.kept k8 (by omega)
  have mr8 := mr7.kept k8 (by omega)
  have ow8 := rw_kept ow7 k8 (fun e => by have e1 := (o4.lt _ e).1; have e2 := (o4.lt _ e).2; omega)
  refine hK _ ?_
  clear hK K
  refine l_nx ?_
  refine c_ret ?_
  simp only [Nx, Exit.then]
  have e1 : cloN n (L.map Lm.m) = n := by unfold cloN; rw [if_pos hno]
  have e2 : cloR n (L.map Lm.m) = zeroN := by unfold cloR; rw [if_pos hno]
  rw [e1, e2]
  refine ret_of ((defL _ _).trans hd) (res_cc rfl (Ye rfl) (Ye rfl) manyNd manyRp mr8 (Nat.le_refl _) mq8 (Nat.le_refl _)) ⟨a3, c3, rfl, rw_base ow8 (by omega), below_of_kept (below_of_kept kA k7 (by omega) (by omega)) k8 (by omega) (by omega)⟩
 ·rcases hvs : n.vS with _ | _
  ·refine c_fin ?_
   refine c_nx ?_
   refine c_rs ?_
   refine Yq (fldNd10 rfl (Ye rfl) _) ?_
   refine Yq (fldVd1 rfl (Ye rfl) _) ?_
   refine Yq (run_lod1 (v := .bool false) _ _ rfl oneB (Ye rfl) mn6 (by decide) (by show Value.bool n.vS = _; rw [hvs])) ?_
   refine Yp ?_
   iterate 6 refine Yu ?_
   refine Yq (run_pickF _ _ _ rfl (Ye rfl) (ev_const _ _) _) ?_
   refine l_nx ?_
   refine c_false (Ye rfl) (c_fin ?_)
   have eN : cloN n (L.map Lm.m) = n := clo_still hno (by rintro ⟨h, _⟩; rw [hvs] at h; cases h)
   have evA : n.vA = n.vA := rfl
   refine c_nx ?_
   have kD : Below w.heap.size w w6.drew := below_drew (kA)
   have hS0 : (fun W => Vh 37 W w.heap.size 74 74 (ndF n (.slice a3 n.vA.length c3))) w6.drew := mn6
   have mn0 : Vh _ w6.drew _ _ _ _ := mn6
   have mr0 : Vh _ w6.drew _ _ _ _ := mr6
   have mq0 : Vh _ w6.drew _ _ _ _ := mq6
   have ow0 := (show World.ownsRow w6.drew _ _ _ _ _ _ from ow6)
   have ez : w6.drew.heap.size = w6.heap.size := rfl
   refine c_rj (S := fun W => Vh 37 W w.heap.size 74 74 (ndF n (.slice a3 n.vA.length c3))) (.rd 0 (.rd 1 (.go 2 (.go 3 (.go 4 .fin))))) [] (by kernel_rfl) (by kernel_rfl) ?_
   refine Yr rfl hS0 (fun _ hS => run_loadP _ _ rfl manyNd (Ye rfl) hS (by decide)) ?_
   refine Yr rfl hS0 (fun _ hS => run_loadP _ _ rfl manyNd (Ye rfl) hS (by decide)) ?_
   refine j_do rfl rfl (wanted_rd rfl) (fun K hK => ?_)
   refine wp_call1 _ 84 _ _ rfl (Ye rfl) (enter_creport _ _) (report_any n (.slice a3 n.vA.length c3) _) ?_
   rintro e w7 ⟨rfl, k7⟩
   have n7 := k7.size
   have mn7 := hS0.below k7
   have mr7 := mr0.below k7
   have mq7 := mq0.below k7
   have ow7 := rw_below ow0 k7
   have hS7 : (fun W => Vh 37 W w.heap.size 74 74 (ndF n (.slice a3 n.vA.length c3))) w7 := mn7
   refine ⟨_, rfl, ?_⟩
   refine hK _ _ (fun _ _ => hS7) ?_
   clear hK K
   refine j_st rfl (wanted_rd rfl) (fun K hK => ?_)
   refine wp_storeP _ _ _ _ rfl manyNd (Ye rfl) (Ye rfl) mr7 (by decide) (ndF_one _ _ _ _) rfl ?_
   intro w8 mm8 k8 z8
   have mr8 := Vh.congr mm8 (stP_all _ _)
   have mn8 := mn7.kept k8 (by omega)
   have mq8 := mq7.kept k8 (by omega)
   have ow8 := rw_kept ow7 k8 (fun e => by have e1 := (o4.lt _ e).1; have e2 := (o4.lt _ e).2; omega)
   have hS8 : (fun W => Vh 37 W w.heap.size 74 74 (ndF n (.slice a3 n.vA.length c3))) w8 := mn8
   refine hK _ (fun _ _ => hS8) ?_
   clear hK K
   refine j_st rfl (wanted_rd rfl) (fun K hK => ?_)
   refine wp_storeP _ _ _ _ rfl manyRp (Ye rfl) (Ye rfl) mq8 (by decide) (rpP_one _ _) rfl ?_
   intro w9 mm9 k9 z9
   have mq9 := Vh.congr mm9 (stP_all14 _ _)
   have mn9 := mn8.kept k9 (by omega)
   have mr9 := mr8.kept k9 (by omega)
   have ow9 := rw_kept ow8 k9 (fun e => by have e1 := (o4.lt _ e).1; have e2 := (o4.lt _ e).2; omega)
   have hS9 : (fun W => Vh 37 W w.heap.size 74 74 (ndF n (.slice a3 n.vA.length c3))) w9 := mn9
   refine hK _ (fun _ _ => hS9) ?_
   clear hK K
   have e2 : cloR n (L.map Lm.m) = cloN n (L.map Lm.m) := by unfold cloR; rw [if_neg (by rw [hno]; decide)]
   refine j_nx ?_
   refine c_ret ?_
   rw [e2, eN]
   refine ret_of ((defL _ _).trans hd) (res_cc rfl (Ye rfl) (Ye rfl) manyNd manyRp mr9 (Nat.le_refl _) mq9 (Nat.le_refl _)) ⟨a3, c3, by rw [evA]; rfl, ?_, below_of_kept (below_of_kept (kD.trans (k7.mono (by omega))) k8 (by omega) (by omega)) k9 (by omega) (by omega)⟩
   unfold AgNew bA
   rw [evA]
   exact rw_base ow9 (by omega)
  ·by_cases hvd : n.vX ≠ n.dg
   ·refine c_fin ?_
    refine c_nx ?_
    refine c_rs ?_
    refine Yq (fldNd10 rfl (Ye rfl) _) ?_
    refine Yq (fldVd1 rfl (Ye rfl) _) ?_
    refine Yq (run_lod1 (v := .bool true) _ _ rfl oneB (Ye rfl) mn6 (by decide) (by show Value.bool n.vS = _; rw [hvs])) ?_
    refine Yp ?_
    refine Yq (fldNd10 rfl (Ye rfl) _) ?_
    refine Yq (fldVd0 rfl (Ye rfl) _) ?_
    refine Yq (run_lod1 _ _ rfl oneI (Ye rfl) mn6 (by decide) rfl) ?_
    refine Yq (fldNd9 rfl (Ye rfl) _) ?_
    refine Yq (run_lod1 _ _ rfl oneI (Ye rfl) mn6 (by decide) rfl) ?_
    refine Yq (run_neqI (b := true) _ _ rfl (Ye rfl) (Ye rfl) (decide_eq_true hvd) _) ?_
    refine Yq (run_pickT' _ _ _ rfl (Ye rfl) (Ye rfl) _) ?_
    refine l_nx ?_
    refine c_true (Ye rfl) ?_
    have kA0 : Below w.heap.size w w6.drew := below_drew kA
    have hS0 : (fun W => Vh 37 W w.heap.size 74 74 (ndF n (.slice a3 n.vA.length c3))) w6.drew := mn6
    have mn0 : Vh _ w6.drew _ _ _ _ := mn6
    have mr0 : Vh _ w6.drew _ _ _ _ := mr6
    have mq0 : Vh _ w6.drew _ _ _ _ := mq6
    have ow0 := (show World.ownsRow w6.drew _ _ _ _ _ _ from ow6)
    have ez : w6.drew.heap.size = w6.heap.size := rfl
    refine c_rj (S := fun W => Vh 37 W w.heap.size 74 74 (ndF n (.slice a3 n.vA.length c3))) (.rd 0 (.rd 1 (.mv 2 (.go 3 (.go 4 (.go 5 (.go 6 .fin))))))) [6] (by kernel_rfl) (by kernel_rfl) ?_
    refine Yr rfl hS0 (fun _ hS => run_loadP _ _ rfl manyNd (Ye rfl) hS (by decide)) ?_
    refine Yr rfl hS0 (fun _ hS => run_loadP _ _ rfl manyNd (Ye rfl) hS (by decide)) ?_
    refine Yj ?_
    refine j_do rfl rfl (wanted_rd rfl) (fun K hK => ?_)
    refine wp_call4n _ 70 _ _ _ _ _ rfl (Ye rfl) (Ye rfl) (ev_const _ _) (ev_const _ _) (enter_phear _ _ _ _ _) (hear_any n _ mo mc L 5 24 _ (hmr.below kA0) hN (by decide)) ?_
    rintro e w7 ⟨rfl, k7⟩
    have n7 := k7.size
    have mn7 := hS0.below k7
    have mr7 := mr0.below k7
    have mq7 := mq0.below k7
    have ow7 := rw_below ow0 k7
    have hS7 : (fun W => Vh 37 W w.heap.size 74 74 (ndF n (.slice a3 n.vA.length c3))) w7 := mn7
    refine ⟨_, rfl, ?_⟩
    refine hK _ _ (fun _ _ => hS7) ?_
    clear hK K
    refine j_do rfl rfl (wanted_rd rfl) (fun K hK => ?_)
    refine wp_call1 _ 83 _ _ rfl (Ye rfl) (enter_calike _ _) (alike_any n mo L _ (hmr.below (kA0.trans (k7.mono (by omega))))) ?_
    rintro e w8 ⟨rfl, k8⟩
    have n8 := k8.size
    have mn8 := mn7.below k8
    have mr8 := mr7.below k8
    have mq8 := mq7.below k8
    have ow8 := rw_below ow7 k8
    have hS8 : (fun W => Vh 37 W w.heap.size 74 74 (ndF n (.slice a3 n.vA.length c3))) w8 := mn8
    obtain ⟨to, tc, v, ev, hsr, htl, hmv⟩ := alk_row (n := n) (hmr.below ((kA0.trans (k7.mono (by omega))).trans (k8.mono (by omega))))
    refine ⟨_, rfl, ?_⟩
    refine hK _ _ (fun _ _ => hS8) ?_
    clear hK K
    refine j_do rfl rfl (wanted_rd rfl) (fun K hK => ?_)
    refine wp_call2 _ 82 _ _ _ rfl (Ye rfl) ((Ye rfl).trans ev) (enter_cmoved _ _ _) (moved_any n (.slice a3 n.vA.length c3) v to tc _ rfl hsr htl) ?_
    rintro e w9 ⟨rfl, k9⟩
    have n9 := k9.size
    have mn9 := mn8.below k9
    have mr9 := mr8.below k9
    have mq9 := mq8.below k9
    have ow9 := rw_below ow8 k9
    have hS9 : (fun W => Vh 37 W w.heap.size 74 74 (ndF n (.slice a3 n.vA.length c3))) w9 := mn9
    refine ⟨_, rfl, ?_⟩
    refine hK _ _ (fun _ _ => hS9) ?_
    clear hK K
    refine j_st rfl (wanted_rd rfl) (fun K hK => ?_)
    refine wp_storeP _ _ _ _ rfl manyNd (f := ndF (movN n v) (.slice a3 n.vA.length c3)) (Ye rfl) (Ye rfl) mn9 (by decide) (ndF_one _ _ _ _) rfl ?_
    intro w10 mm10 k10 z10
    have mn10 : Vh 37 w10 w.heap.size 74 74 (ndF (cloT n L) (.slice a3 n.vA.length c3)) := by rw [← hmv]; exact Vh.congr mm10 (stP_all _ _)
    have mr10 := mr9.kept k10 (by omega)
    have mq10 := mq9.kept k10 (by omega)
    have ow10 := rw_kept ow9 k10 (fun e => by have e1 := (o4.lt _ e).1; have e2 := (o4.lt _ e).2; omega)
    refine hK _ (fun h => absurd h (by decide)) ?_
    clear hK K
    refine j_nx ?_
    clear hS0 mr0 mq0 ow0
    have eN : cloN n (L.map Lm.m) = cloT n L := clo_take hno ⟨hvs, hvd⟩
    have evA : (cloT n L).vA = n.vA := cloT_vA n L
    refine c_nx ?_
    have kD : Below w.heap.size w w10.drew := below_drew (below_of_kept (((kA0.trans (k7.mono (by omega))).trans (k8.mono (by omega))).trans (k9.mono (by omega))) k10 (by omega) (by omega))
    have hS0 : (fun W => Vh 37 W w.heap.size 74 74 (ndF (cloT n L) (.slice a3 n.vA.length c3))) w10.drew := mn10
    have mn0 : Vh _ w10.drew _ _ _ _ := mn10
    have mr0 : Vh _ w10.drew _ _ _ _ := mr10
    have mq0 : Vh _ w10.drew _ _ _ _ := mq10
    have ow0 := (show World.ownsRow w10.drew _ _ _ _ _ _ from ow10)
    have ez : w10.drew.heap.size = w10.heap.size := rfl
    refine c_rj (S := fun W => Vh 37 W w.heap.size 74 74 (ndF (cloT n L) (.slice a3 n.vA.length c3))) (.rd 0 (.rd 1 (.go 2 (.go 3 (.go 4 .fin))))) [] (by kernel_rfl) (by kernel_rfl) ?_
    refine Yr rfl hS0 (fun _ hS => run_loadP _ _ rfl manyNd (Ye rfl) hS (by decide)) ?_
    refine Yr rfl hS0 (fun _ hS => run_loadP _ _ rfl manyNd (Ye rfl) hS (by decide)) ?_
    refine j_do rfl rfl (wanted_rd rfl) (fun K hK => ?_)
    refine wp_call1 _ 84 _ _ rfl (Ye rfl) (enter_creport _ _) (report_any (cloT n L) (.slice a3 n.vA.length c3) _) ?_
    rintro e w11 ⟨rfl, k11⟩
    have n11 := k11.size
    have mn11 := hS0.below k11
    have mr11 := mr0.below k11
    have mq11 := mq0.below k11
    have ow11 := rw_below ow0 k11
    have hS11 : (fun W => Vh 37 W w.heap.size 74 74 (ndF (cloT n L) (.slice a3 n.vA.length c3))) w11 := mn11
    refine ⟨_, rfl, ?_⟩
    refine hK _ _ (fun _ _ => hS11) ?_
    clear hK K
    refine j_st rfl (wanted_rd rfl) (fun K hK => ?_)
    refine wp_storeP _ _ _ _ rfl manyNd (Ye rfl) (Ye rfl) mr11 (by decide) (ndF_one _ _ _ _) rfl ?_
    intro w12 mm12 k12 z12
    have mr12 := Vh.congr mm12 (stP_all _ _)
    have mn12 := mn11.kept k12 (by omega)
    have mq12 := mq11.kept k12 (by omega)
    have ow12 := rw_kept ow11 k12 (fun e => by have e1 := (o4.lt _ e).1; have e2 := (o4.lt _ e).2; omega)
    have hS12 : (fun W => Vh 37 W w.heap.size 74 74 (ndF (cloT n L) (.slice a3 n.vA.length c3))) w12 := mn12
    refine hK _ (fun _ _ => hS12) ?_
    clear hK K
    refine j_st rfl (wanted_rd rfl) (fun K hK => ?_)
    refine wp_storeP _ _ _ _ rfl manyRp (Ye rfl) (Ye rfl) mq12 (by decide) (rpP_one _ _) rfl ?_
    intro w13 mm13 k13 z13
    have mq13 := Vh.congr mm13 (stP_all14 _ _)
    have mn13 := mn12.kept k13 (by omega)
    have mr13 := mr12.kept k13 (by omega)
    have ow13 := rw_kept ow12 k13 (fun e => by have e1 := (o4.lt _ e).1; have e2 := (o4.lt _ e).2; omega)
    have hS13 : (fun W => Vh 37 W w.heap.size 74 74 (ndF (cloT n L) (.slice a3 n.vA.length c3))) w13 := mn13
    refine hK _ (fun _ _ => hS13) ?_
    clear hK K
    have e2 : cloR n (L.map Lm.m) = cloN n (L.map Lm.m) := by unfold cloR; rw [if_neg (by rw [hno]; decide)]
    refine j_nx ?_
    refine c_ret ?_
    rw [e2, eN]
    refine ret_of ((defL _ _).trans hd) (res_cc rfl (Ye rfl) (Ye rfl) manyNd manyRp mr13 (Nat.le_refl _) mq13 (Nat.le_refl _)) ⟨a3, c3, by rw [evA]; rfl, ?_, below_of_kept (below_of_kept (kD.trans (k11.mono (by omega))) k12 (by omega) (by omega)) k13 (by omega) (by omega)⟩
    unfold AgNew bA
    rw [evA]
    exact rw_base ow13 (by omega)
   ·have hvd : n.vX = n.dg := Classical.not_not.1 hvd
    refine c_fin ?_
    refine c_nx ?_
    refine c_rs ?_
    refine Yq (fldNd10 rfl (Ye rfl) _) ?_
    refine Yq (fldVd1 rfl (Ye rfl) _) ?_
    refine Yq (run_lod1 (v := .bool true) _ _ rfl oneB (Ye rfl) mn6 (by decide) (by show Value.bool n.vS = _; rw [hvs])) ?_
    refine Yp ?_
    refine Yq (fldNd10 rfl (Ye rfl) _) ?_
    refine Yq (fldVd0 rfl (Ye rfl) _) ?_
    refine Yq (run_lod1 _ _ rfl oneI (Ye rfl) mn6 (by decide) rfl) ?_
    refine Yq (fldNd9 rfl (Ye rfl) _) ?_
    refine Yq (run_lod1 _ _ rfl oneI (Ye rfl) mn6 (by decide) rfl) ?_
    refine Yq (run_neqI (b := false) _ _ rfl (Ye rfl) (Ye rfl) (decide_eq_false (fun e => e hvd)) _) ?_
    refine Yq (run_pickT' _ _ _ rfl (Ye rfl) (Ye rfl) _) ?_
    refine l_nx ?_
    refine c_false (Ye rfl) (c_fin ?_)
    have eN : cloN n (L.map Lm.m) = n := clo_still hno (by exact fun h => h.2 hvd)
    have evA : n.vA = n.vA := rfl
    refine c_nx ?_
    have kD : Below w.heap.size w w6.drew := below_drew (kA)
    have hS0 : (fun W => Vh 37 W w.heap.size 74 74 (ndF n (.slice a3 n.vA.length c3))) w6.drew := mn6
    have mn0 : Vh _ w6.drew _ _ _ _ := mn6
    have mr0 : Vh _ w6.drew _ _ _ _ := mr6
    have mq0 : Vh _ w6.drew _ _ _ _ := mq6
    have ow0 := (show World.ownsRow w6.drew _ _ _ _ _ _ from ow6)
    have ez : w6.drew.heap.size = w6.heap.size := rfl
    refine c_rj (S := fun W => Vh 37 W w.heap.size 74 74 (ndF n (.slice a3 n.vA.length c3))) (.rd 0 (.rd 1 (.go 2 (.go 3 (.go 4 .fin))))) [] (by kernel_rfl) (by kernel_rfl) ?_
    refine Yr rfl hS0 (fun _ hS => run_loadP _ _ rfl manyNd (Ye rfl) hS (by decide)) ?_
    refine Yr rfl hS0 (fun _ hS => run_loadP _ _ rfl manyNd (Ye rfl) hS (by decide)) ?_
    refine j_do rfl rfl (wanted_rd rfl) (fun K hK => ?_)
    refine wp_call1 _ 84 _ _ rfl (Ye rfl) (enter_creport _ _) (report_any n (.slice a3 n.vA.length c3) _) ?_
    rintro e w7 ⟨rfl, k7⟩
    have n7 := k7.size
    have mn7 := hS0.below k7
    have mr7 := mr0.below k7
    have mq7 := mq0.below k7
    have ow7 := rw_below ow0 k7
    have hS7 : (fun W => Vh 37 W w.heap.size 74 74 (ndF n (.slice a3 n.vA.length c3))) w7 := mn7
    refine ⟨_, rfl, ?_⟩
    refine hK _ _ (fun _ _ => hS7) ?_
    clear hK K
    refine j_st rfl (wanted_rd rfl) (fun K hK => ?_)
    refine wp_storeP _ _ _ _ rfl manyNd (Ye rfl) (Ye rfl) mr7 (by decide) (ndF_one _ _ _ _) rfl ?_
    intro w8 mm8 k8 z8
    have mr8 := Vh.congr mm8 (stP_all _ _)
    have mn8 := mn7.kept k8 (by omega)
    have mq8 := mq7.kept k8 (by omega)
    have ow8 := rw_kept ow7 k8 (fun e => by have e1 := (o4.lt _ e).1; have e2 := (o4.lt _ e).2; omega)
    have hS8 : (fun W => Vh 37 W w.heap.size 74 74 (ndF n (.slice a3 n.vA.length c3))) w8 := mn8
    refine hK _ (fun _ _ => hS8) ?_
    clear hK K
    refine j_st rfl (wanted_rd rfl) (fun K hK => ?_)
    refine wp_storeP _ _ _ _ rfl manyRp (Ye rfl) (Ye rfl) mq8 (by decide) (rpP_one _ _) rfl ?_
    intro w9 mm9 k9 z9
    have mq9 := Vh.congr mm9 (stP_all14 _ _)
    have mn9 := mn8.kept k9 (by omega)
    have mr9 := mr8.kept k9 (by omega)
    have ow9 := rw_kept ow8 k9 (fun e => by have e1 := (o4.lt _ e).1; have e2 := (o4.lt _ e).2; omega)
    have hS9 : (fun W => Vh 37 W w.heap.size 74 74 (ndF n (.slice a3 n.vA.length c3))) w9 := mn9
    refine hK _ (fun _ _ => hS9) ?_
    clear hK K
    have e2 : cloR n (L.map Lm.m) = cloN n (L.map Lm.m) := by unfold cloR; rw [if_neg (by rw [hno]; decide)]
    refine j_nx ?_
    refine c_ret ?_
    rw [e2, eN]
    refine ret_of ((defL _ _).trans hd) (res_cc rfl (Ye rfl) (Ye rfl) manyNd manyRp mr9 (Nat.le_refl _) mq9 (Nat.le_refl _)) ⟨a3, c3, by rw [evA]; rfl, ?_, below_of_kept (below_of_kept (kD.trans (k7.mono (by omega))) k8 (by omega) (by omega)) k9 (by omega) (by omega)⟩
    unfold AgNew bA
    rw [evA]
    exact rw_base ow9 (by omega)
end Go.Proofs.YtdhblehhgpdpdaaGreat
namespace Go.Proofs.YtdhblehhgpdpdaaGreat
open Go.RowKit
theorem fold_set (o : Nat) : ∀ (l : List Value) (k : Nat) (ds : Array Value), o + k + l.length ≤ ds.size → ((l.zipIdx k).foldl (fun a p => a.setIfInBounds (o + p.2) p.1) ds).size = ds.size ∧ ∀ i, ((l.zipIdx k).foldl (fun a p => a.setIfInBounds (o + p.2) p.1) ds)[i]? = if o + k ≤ i ∧ i < o + k + l.length then l[i - (o + k)]? else ds[i]?
 | [], k, ds, _ => ⟨rfl, fun i => by rw [if_neg (by simp only [List.length_nil]; omega)]; rfl⟩
 | v :: l, k, ds, h => by
  rw [List.length_cons] at h
  obtain ⟨h1, h2⟩ := fold_set o l (k + 1) (ds.setIfInBounds (o + k) v) (by rw [Array.size_setIfInBounds]; omega)
  rw [Array.size_setIfInBounds] at h1
  refine ⟨h1, fun i => ?_⟩
  show ((l.zipIdx (k + 1)).foldl (fun a p => a.setIfInBounds (o + p.2) p.1) (ds.setIfInBounds (o + k) v))[i]? = _
  rw [h2 i, List.length_cons]
  by_cases c : o + (k + 1) ≤ i ∧ i < o + (k + 1) + l.length
  ·rw [if_pos c, if_pos (by omega), show i - (o + k) = (i - (o + (k + 1))) + 1 by omega, List.getElem?_cons_succ]
  ·rw [if_neg c]
   by_cases d : i = o + k
   ·subst d
    rw [if_pos (by omega), Nat.sub_self, Array.getElem?_setIfInBounds, if_pos rfl, if_pos (by omega)]
    rfl
   ·rw [if_neg (by omega), Array.getElem?_setIfInBounds, if_neg (fun e => d e.symm)]
section
variable {P : Program} {Q : Exit → Act → World → Prop} {o : Oper} {a : Act} {K : Act → World → Prop} {w : World}
theorem wp_oneG {s e : TypeId} {x : Operand} {n : Nat} {f z : Nat → Value} (hu : P.underlying s = some (.slice e)) (T : Many P e n) (hz : ∀ w, (zeroValue e).run P w = .ok (agV z 0 n) w) (hn : n ≤ 16777216) (hp : 0 < n) (ho : o.op = .buildSlice s 1 #[(0, x)]) (hx : a.eval x = agV f 0 n)
  (h : ∀ w', Vh e w' w.heap.size n n f → Below w.heap.size w w' → w'.heap.size = w.heap.size + 1 → K (a.put o.dst (.slice (some ⟨w.heap.size, 0, none⟩) 1 1)) w') : WpI P o a w K Q := by
 refine ⟨?_⟩
 have hh := h (w.alloc (.cells ((List.range n).map f).toArray e)) (Vh.of_row f n (by unfold maxLen; omega) (by show (w.heap.push _)[w.heap.size]? = _; rw [Array.getElem?_push_size])) (al_below _ _) (al_size _ _)
 have hc : (agV f 0 n).cells = ((List.range n).map f).toArray := by
  unfold agV
  show ((List.range n).map fun j => f (0 + j)).toArray = _
  congr 1
  exact List.map_congr_left fun j _ => by rw [Nat.zero_add]
 have hf : ∀ ds : Array Value, ds.size = n → Instr.fill (fun i => some (i * n, n)) ds [(0, agV f 0 n)] = some ((List.range n).map f).toArray := fun ds hds => by
  unfold Instr.fill
  simp only [hc, List.size_toArray, List.length_map, List.length_range, Nat.zero_mul, Nat.zero_add, hds, ne_eq, not_true_eq_false, decide_false, Bool.false_or, decide_eq_true_eq]
  rw [if_neg (by omega)]
  unfold Instr.fill
  congr 1
  obtain ⟨h1, h2⟩ := fold_set 0 ((List.range n).map f) 0 ds (by rw [List.length_map, List.length_range]; omega)
  have e1 : Array.foldl (fun cs x => cs.setIfInBounds x.2 x.1) ds ((List.range n).map f).toArray.zipIdx = (((List.range n).map f).zipIdx 0).foldl (fun a p => a.setIfInBounds (0 + p.2) p.1) ds := by
   rw [← Array.foldl_toList]
   simp
  rw [e1]
  refine Array.ext_getElem? (fun i => ?_)
  rw [h2 i, List.length_map, List.length_range]
  by_cases c : i < n
  ·rw [if_pos (by omega)]
   simp
  ·rw [if_neg (by omega), Array.getElem?_eq_none (show ds.size ≤ i by omega), Array.getElem?_eq_none (by simpa using c)]
 unfold Oper.wp execOp
 simp only [ho, List.map_toArray, List.map_cons, List.map_nil, hx, Instr.buildSlice, Sem.run_bind, run_underlying hu, Result.andThen_ok, T.size, Nat.one_mul, gt_iff_lt]
 rw [if_neg (by omega), if_neg (by omega)]
 simp only [Sem.run_bind, hz, Result.andThen_ok, Sem.run_pure]
 rw [hf _ (by simp)]
 simp only [newRow, newObj]
 go_simp
 exact hh
end
def rwS {α : Type} (F : α → Nat → Value) (s : Nat) (L : List α) : List Value := L.flatMap fun x => (List.range s).map (F x)
section
variable {α : Type} {F : α → Nat → Value} {s : Nat}
theorem rwS_app (L M : List α) : rwS F s (L ++ M) = rwS F s L ++ rwS F s M := List.flatMap_append
theorem rwS_len (L : List α) : (rwS F s L).length = L.length * s := by
 induction L with
 | nil => show 0 = 0 * s; omega
 | cons x L ih =>
  show ((List.range s).map (F x) ++ rwS F s L).length = (L.length + 1) * s
  rw [List.length_append, ih, List.length_map, List.length_range, Nat.succ_mul]
  omega
theorem rwS_one {L : List α} (h : ∀ x, x ∈ L → ∀ k, k < s → (F x k).oneCell' = true) : ∀ u, u ∈ rwS F s L → u.oneCell' = true := fun u hu => by
 obtain ⟨x, hx, hu⟩ := List.mem_flatMap.1 hu
 obtain ⟨k, hk, rfl⟩ := List.mem_map.1 hu
 exact h x hx k (List.mem_range.1 hk)
theorem rwS_at : ∀ (L : List α) (i : Nat) (x : α), L[i]? = some x → ∀ k, k < s → (rwS F s L)[i * s + k]? = some (F x k)
 | [], i, x, h, _, _ => by simp at h
 | y :: L, 0, x, h, k, hk => by
  obtain rfl : y = x := by simpa using h
  show ((List.range s).map (F y) ++ rwS F s L)[0 * s + k]? = _
  rw [Nat.zero_mul, Nat.zero_add, List.getElem?_append_left (by rw [List.length_map, List.length_range]; exact hk), List.getElem?_map, List.getElem?_range hk]
  rfl
 | y :: L, i + 1, x, h, k, hk => by
  show ((List.range s).map (F y) ++ rwS F s L)[(i + 1) * s + k]? = _
  have e : (i + 1) * s + k - s = i * s + k := by rw [Nat.succ_mul]; omega
  rw [List.getElem?_append_right (by rw [List.length_map, List.length_range, Nat.succ_mul]; omega), List.length_map, List.length_range, e]
  exact rwS_at L i x (by simpa using h) k hk
theorem rwS_own1 {e : TypeId} {w : World} {b B : Nat} {x : α} (h : Vh e w b s s (F x)) (hb : B ≤ b) : w.ownsRow B e s (.slice (some ⟨b, 0, none⟩) 1 1) 1 (rwS F s [x]) := by
 obtain ⟨cur, h1, h2, h3, h4, h5⟩ := h
 refine ⟨by rw [rwS_len]; rfl, Or.inr ⟨b, 1, cur, rfl, hb, h1, Nat.le_refl _, by decide, by omega, ?_⟩⟩
 apply List.ext_getElem?
 intro i
 rw [List.getElem?_take]
 by_cases hi : i < 1 * s
 ·rw [if_pos hi, Array.getElem?_toList, h5 i (by omega)]
  have := rwS_at (F := F) (s := s) [x] 0 x rfl i (by omega)
  rw [Nat.zero_mul, Nat.zero_add] at this
  exact this.symm
 ·rw [if_neg hi, List.getElem?_eq_none (by rw [rwS_len]; exact Nat.le_of_not_lt hi)]
theorem rwS_rd {e : TypeId} {w : World} {B n : Nat} {v : Value} {L : List α} (h : w.ownsRow B e s v n (rwS F s L)) (hp : 0 < L.length) (hs : 0 < s) : ∃ g cap, v = .slice (some ⟨g, 0, none⟩) n cap ∧ B ≤ g ∧ ∀ i x, L[i]? = some x → ∀ k, k < s → w.cell? ⟨g, 0 + i * s + k, none⟩ = some (F x k) := by
 have hl := h.1
 rw [rwS_len] at hl
 rcases h.2 with ⟨rfl, rfl⟩ | ⟨g, cap, cur, rfl, hb, hg, hc, hm, hsz, hcur⟩
 ·have := Nat.mul_pos hp hs
  omega
 ·refine ⟨g, cap, rfl, hb, fun i x hi k hk => ?_⟩
  have := h.cells (g := g) rfl (i * s + k) (F x k) (rwS_at L i x hi k hk)
  rw [add_at, ← Nat.add_assoc] at this
  exact this
end
end Go.Proofs.YtdhblehhgpdpdaaGreat
