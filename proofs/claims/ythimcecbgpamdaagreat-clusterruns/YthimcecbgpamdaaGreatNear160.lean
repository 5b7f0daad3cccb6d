/- Joined: ClPr1, ClPr2, ClPr3, ClFour, ClPr4, ClPr5, NodPr3, NodC2, NodPr4, NodC6, NodClo, NodC7, ClPr6, BldG, ClPr7, NodPr6. -/
import Derived.Test.YthimcecbgpamdaaGreatNear148
import Derived.Test.YthimcecbgpamdaaGreatNear88
import Derived.Test.YthimcecbgpamdaaGreatNear122
import Derived.Test.YthimcecbgpamdaaGreatNear157
import Derived.Test.YthimcecbgpamdaaGreatNear141
import Derived.Test.YthimcecbgpamdaaGreatNear172
import Derived.Test.YthimcecbgpamdaaGreatNear166
import Derived.Test.YthimcecbgpamdaaGreatNear91
namespace Go.Proofs.YthimcecbgpamdaaGreat
open Go.RowKit

theorem gL_range {f : Nat → Int} {n i : Nat} (hi : i < n) : gL ((List.range n).map f) i = f i := by
  unfold gL
  rw [List.getD_eq_getElem?_getD, List.getElem?_map, List.getElem?_range hi]
  rfl
/-- The message of bytes, in memory. -/
theorem decoded_any (ao : Option Addr) (len cap : Nat) (g : Nat → Nat) (w : World) (hg : ∀ i, g i < 256) (hl : len ≤ 140737488351232) (hc : len ≤ cap) (hr : Sr w ao len cap (bF g)) :
    Calls Tryz.prog 106 #[.slice ao len cap] w fun e w' => ∃ mo mc M, e = .returned (.slice mo M.length mc) ∧ M.map Lm.m = dcM len g ∧ OwnM w' w.heap.size (.slice mo M.length mc) M ∧ Below w.heap.size w w' := by
  refine enterF Tryz.func106 rfl 14 rfl (of_decide_eq_true rfl) (fun A hs hd hb => ?_)
  have b0 : A.eval (.tmp 0) = .slice ao len cap := hb 0 _ rfl
  clear hb
  have H := Cx.start w
  refine c_rs (m_start ?_)
  repeat first | refine qa ?_ | refine l_nx ?_ | refine c_rs ?_
  refine q_c1 (wireDecode_ok ao len cap g w hg hl hc hr) ?_
  rintro e w1 ⟨E, v, hE, rfl, o1, k1⟩
  obtain ⟨a1, c1, rfl, hc1⟩ := rw_slice o1
  refine ⟨.tuple #[agV (msF (dN E (g 1) : Nat) (dN E (g 2) : Nat) (dN E (dR g) : Nat) (.slice a1 (dN E (g 7)) c1)) 0 4, .int .i64 E], rfl, ?_⟩
  replace H := H.add k1 (ownI _ _ _ _ _ _) o1 (fun j e => (o1.lt j e).1)
  repeat refine qa ?_
  refine q_al H ?_
  intro w2 H z2
  refine q_sp H.a0 stP_whole (msF_one _ _ _ _ _ _) ?_
  intro w3 H z3
  repeat first | refine qa ?_ | refine l_nx ?_ | refine c_rs ?_ | refine c_nx ?_
  refine q_if (fun h => ?_) (fun h => ?_)
  · have hE0 : E ≠ 0 := of_decide_eq_true h
    repeat first | refine qa ?_ | refine l_nx ?_ | refine c_rs ?_ | refine c_nx ?_
    exact c_ret (r_nx (ret_of ((defL _ _).trans hd) (res_t rfl Qv) ⟨none, 0, [], rfl, by unfold dcM; rw [dcB_no hE hE0]; rfl, OwnM.nil _ _, H.bel⟩))
  · have hE0 : E = 0 := by simpa using h
    subst hE0
    repeat first | refine qa ?_ | refine l_nx ?_ | refine c_rs ?_ | refine c_nx ?_ | refine c_fin ?_
    have hdc := dcB_iff.2 hE
    refine m_do rfl (wanted_rd rfl) (fun K hK => ?_)
    have hln : ((List.range (g 7)).map (dV g)).length = g 7 := by rw [List.length_map, List.length_range]
    refine wp_oneMs _ _ rfl (c := ⟨⟨(g 1 : Nat), (g 2 : Nat), (dR g : Nat), (List.range (g 7)).map (dV g)⟩, a1, c1⟩) (Eq.trans Qv (by unfold lmF lmV; rw [hln]; rfl)) ?_
    intro w4 m4 k4 z4
    refine hK _ _ ?_
    clear hK K
    have ho := rw_below H.o1 k4
    repeat first | refine qa ?_ | refine l_nx ?_
    refine c_ret (ret_of ((defL _ _).trans hd) (res_t rfl Qv) ⟨_, _, [⟨⟨(g 1 : Nat), (g 2 : Nat), (dR g : Nat), (List.range (g 7)).map (dV g)⟩, a1, c1⟩], rfl, by unfold dcM; rw [hdc]; rfl, ⟨?_, fun c hc => ?_⟩, (H.call k4).bel⟩)
    · exact own_oneM m4 (by have := H.size; omega)
    · simp only [List.mem_cons, List.not_mem_nil, or_false] at hc
      subst hc
      unfold OwnV lmV
      dsimp only
      rw [hln, rowV_congr (fun i hi => show iF (gL ((List.range (g 7)).map (dV g))) i = iF (dV g) i by unfold iF; rw [gL_range hi])]
      exact ho
theorem liM_len (bad wo ph : Int) (l : List Ly) : (liM bad wo ph l).length ≤ l.length := by
  unfold liM
  induction l with
  | nil => exact Nat.le_refl _
  | cons y l ih =>
    rw [List.flatMap_cons, List.length_append, List.length_cons]
    have : (if y.ph = ph ∧ y.wo = wo then (dcM y.n y.g).filter fun m => decide (m.F = bad) else []).length ≤ 1 := by
      split
      · refine Nat.le_trans (List.length_filter_le _ _) ?_
        unfold dcM
        split <;> simp
      · exact Nat.zero_le _
    omega
/-- A message as it comes over the wire. -/
theorem carried_any (m : Ms) (ao : Option Addr) (cap : Nat) (w : World) (hm : MsOK m) (hc : m.L.length ≤ cap) (hr : Sr w ao m.L.length cap (iF (gL m.L))) :
    Calls Tryz.prog 72 #[lsV m (.slice ao m.L.length cap)] w fun e w' => ∃ mo mc M, e = .returned (.slice mo M.length mc) ∧ M.map Lm.m = wrM m ∧ OwnM w' w.heap.size (.slice mo M.length mc) M ∧ Below w.heap.size w w' := by
  refine enterF Tryz.func72 rfl 14 rfl (of_decide_eq_true rfl) (fun A hs hd hb => ?_)
  have b0 : A.eval (.tmp 0) = agV (msF m.K m.F m.R (.slice ao m.L.length cap)) 0 4 := hb 0 _ rfl
  clear hb
  have hn := hm.n
  have H := Cx.start w
  refine c_rs (m_start ?_)
  refine q_box H ?_
  intro w1 H z1
  repeat first | refine qa ?_ | refine l_nx ?_ | refine c_rs ?_
  refine q_c1 (wireEncode_ok m.K m.F m.R ao m.L.length cap (gL m.L) w1 hm.K hm.F hm.R hm.L (by omega) hc (hr.below H.bel)) ?_
  rintro e w2 ⟨v, rfl, o2, k2⟩
  obtain ⟨a2, c2, rfl, hc2⟩ := rw_slice o2
  refine ⟨_, rfl, ?_⟩
  replace H := H.add k2 (ownI _ _ _ _ _ _) o2 (fun j e => (o2.lt j e).1)
  repeat first | refine qa ?_ | refine l_nx ?_ | refine c_rs ?_ | refine c_nx ?_
  refine q_if (fun h => ?_) (fun h => ?_)
  · have hE0 : wrongM m.K m.F m.R m.L.length ≠ 0 := of_decide_eq_true h
    repeat first | refine qa ?_ | refine l_nx ?_ | refine c_rs ?_ | refine c_nx ?_
    exact c_ret (r_nx (ret_of ((defL _ _).trans hd) (res_t rfl Qv) ⟨none, 0, [], rfl, by unfold wrM; rw [if_neg hE0]; rfl, OwnM.nil _ _, H.bel⟩))
  · have hE0 : wrongM m.K m.F m.R m.L.length = 0 := by simpa using h
    have eL : enL m.K m.F m.R m.L.length = 12 + 8 * m.L.length := by unfold enL; rw [if_pos hE0]
    repeat first | refine qa ?_ | refine l_nx ?_ | refine c_rs ?_ | refine c_nx ?_ | refine c_fin ?_
    have hsr : Sr w2 a2 (enL m.K m.F m.R m.L.length) c2 (bF (enS m.K m.F m.R m.L.length (gL m.L))) := by
      obtain ⟨a3, c3, e, hs3, _⟩ := owns_sr o2
      cases e
      exact hs3
    refine q_c1 (decoded_any a2 (enL m.K m.F m.R m.L.length) c2 _ w2 (enS_lt _ _ _ _ _) (by omega) hc2 hsr) ?_
    rintro e w3 ⟨mo, mc, M, rfl, hM, oM, k3⟩
    refine ⟨_, rfl, ?_⟩
    replace H := H.call k3
    repeat first | refine qa ?_ | refine l_nx ?_ | refine c_rs ?_
    refine c_ret (ret_of ((defL _ _).trans hd) (res_t rfl Qv) ⟨mo, mc, M, rfl, ?_, oM.base (by have := k2.size; omega), H.bel⟩)
    rw [hM]
    unfold dcM wrM
    obtain ⟨e1, e2, e3, e4, e5⟩ := enS_back (f := gL m.L) hE0 hm.L
    rw [eL, dcB_iff.2 (enS_dc hE0), if_pos rfl, if_pos hE0, e1, e2, e3, e4]
    obtain ⟨K, F, R, L⟩ := m
    congr 2
    refine List.ext_getElem? (fun i => ?_)
    rw [List.getElem?_map]
    rcases Nat.lt_or_ge i L.length with c | c
    · rw [List.getElem?_range c, List.getElem?_eq_getElem c]
      show some (dV _ i) = _
      rw [e5 i c]
      unfold gL
      rw [List.getD_eq_getElem?_getD, List.getElem?_eq_getElem c]
      rfl
    · rw [List.getElem?_eq_none c, List.getElem?_eq_none (by simpa using c)]
      rfl

end Go.Proofs.YthimcecbgpamdaaGreat

namespace Go.Proofs.YthimcecbgpamdaaGreat
open Go.RowKit

theorem liM_take {bad wo ph : Int} {l : List Ly} {i : Nat} {y : Ly} (h : l[i]? = some y) : liM bad wo ph (l.take (i + 1)) = liM bad wo ph (l.take i) ++ (if y.ph = ph ∧ y.wo = wo then (dcM y.n y.g).filter fun m => decide (m.F = bad) else []) := by
  unfold liM
  rw [List.take_add_one, h, List.flatMap_append]
  simp
theorem dcM_len (n : Nat) (g : Nat → Nat) : (dcM n g).length ≤ 1 := by
  unfold dcM
  split <;> simp
/-- What the bad one sends to one in a phase. -/
theorem liesTo_any (b : Nat) (fr : Int) (nd : Nat → Nd) (v : Nat → Value) (bad : Int) (lo : Option Addr) (lc : Nat) (LL : List Lj) (bx : Nat → Value) (wo ph : Int) (w : World) (G0 : Vh 74 w b 303 303 (wkF fr nd v bad (.slice lo LL.length lc) bx)) (hj : JRd w lo LL) (hl : LL.length ≤ 400) :
    Calls Tryz.prog 71 #[.pointer (some ⟨b, 0, none⟩), .int .i64 wo, .int .i64 ph] w fun e w' => ∃ mo mc M, e = .returned (.slice mo M.length mc) ∧ M.map Lm.m = liM bad wo ph (LL.map Lj.y) ∧ OwnM w' w.heap.size (.slice mo M.length mc) M ∧ Below w.heap.size w w' := by
  refine enterF Tryz.func71 rfl 53 rfl (of_decide_eq_true rfl) (fun A hs hd hb => ?_)
  have b0 : A.eval (.tmp 0) = .pointer (some ⟨b, 0, none⟩) := hb 0 _ rfl
  have b1 : A.eval (.tmp 1) = .int .i64 wo := hb 1 _ rfl
  have b2 : A.eval (.tmp 2) = .int .i64 ph := hb 2 _ rfl
  clear hb
  have H := Cx.start w
  refine c_rs (m_start ?_)
  repeat first | refine qa ?_ | refine l_nx ?_ | refine c_rs ?_ | refine c_nx ?_
  refine c_block ?_
  refine c_loop (fun r A W => ∃ (i : Nat) (u : Value) (M : List Lm), i ≤ LL.length ∧ LL.length - i ≤ r ∧ A.tmps.size = 53 ∧ A.defers = [] ∧ A.eval (.tmp 0) = .pointer (some ⟨b, 0, none⟩) ∧ A.eval (.tmp 1) = .int .i64 wo ∧ A.eval (.tmp 2) = .int .i64 ph ∧ A.eval (.tmp 15) = .slice lo LL.length lc ∧ A.eval (.tmp 16) = .int .i64 (LL.length : Int) ∧ A.eval (.tmp 17) = .int .i64 (i : Int) ∧ A.eval (.tmp 7) = u ∧ M.map Lm.m = liM bad wo ph ((LL.map Lj.y).take i) ∧ Cx w W [omI w.heap.size u M]) LL.length
    ⟨0, _, [], Nat.zero_le _, by omega, (szL _ _).trans hs, (defL _ _).trans hd, Qv, Qv, Qv, Qv, Qv, Qv, Qv, rfl, H.add (Below.refl _ _) (omI _ _ _) (OwnM.nil _ _) (om_up (OwnM.nil w _))⟩ (fun r B W hI => ?_)
  clear b0 b1 b2 hs hd H
  obtain ⟨i, u, M, hi, hr, hs, hd, b0, b1, b2, b15, b16, b17, b7, hM, H⟩ := hI
  have hMl : M.length ≤ 400 := by
    have h1 := congrArg List.length hM
    have h2 := liM_len bad wo ph ((LL.map Lj.y).take i)
    rw [List.length_map] at h1
    rw [List.length_take, List.length_map] at h2
    omega
  refine c_rs (m_start ?_)
  repeat first | refine qa ?_ | refine l_nx ?_ | refine c_rs ?_ | refine c_nx ?_
  refine q_if (fun h => ?_) (fun h => ?_)
  · have hin : i < LL.length := by have := of_decide_eq_true h; omega
    have hc := List.getElem?_eq_getElem hin
    obtain ⟨cc, ec⟩ : ∃ cc, cc = LL[i] := ⟨_, rfl⟩
    rw [← ec] at hc
    have hy : (LL.map Lj.y)[i]? = some cc.y := by rw [List.getElem?_map, hc]; rfl
    obtain ⟨pb, po, rfl, hcell⟩ := hj.1 (by omega)
    have hcell := hcell i cc hc
    have hlb := hj.2 cc (by rw [ec]; exact List.getElem_mem hin)
    refine c_fin ?_
    refine c_nx (c_block ?_)
    refine c_rs ?_
    refine qa ?_
    refine qg (run_lodCs (g := ljF cc) ManyK.out (fun k hk => at_below (hcell k hk) H.bel) rfl Qv) ?_
    refine q_al H ?_
    intro w1 H z1
    refine q_sp H.a0 stP_whole (lyF_one _ _ _ _ _) ?_
    intro w2 H z2
    refine l_nx ?_
    refine c_nx ?_
    refine c_rs ?_
    iterate 3 refine qa ?_
    by_cases h1 : cc.y.ph = ph
    · refine qg (run_neqI (b := false) _ _ rfl Qv Qv (decide_eq_false (fun e => e h1)) _) ?_
      iterate 4 refine qa ?_
      by_cases h2 : cc.y.wo = wo
      · refine qg (run_neqI (b := false) _ _ rfl Qv Qv (decide_eq_false (fun e => e h2)) _) ?_
        refine qg (run_pickF _ _ _ rfl Qv Qv _) ?_
        refine l_nx ?_
        refine q_no rfl (c_fin ?_)
        refine c_rs ?_
        iterate 2 refine qa ?_
        refine q_c1 (decoded_any cc.ao cc.y.n cc.cap cc.y.g _ hlb.2.2.2 hlb.2.2.1 hlb.2.1 (hlb.1.below H.bel)) ?_
        rintro e w3 ⟨mo, mc, M1, rfl, hM1, oM1, k3⟩
        refine ⟨_, rfl, ?_⟩
        have hs2 := H.size
        replace H := H.tl.add k3 (omI w.heap.size _ M1) (oM1.base hs2) (fun j e => om_up oM1 j e)
        repeat first | refine qa ?_ | refine l_nx ?_ | refine c_rs ?_
        have hl1 : M1.length ≤ 1 := by
          have h3 := congrArg List.length hM1
          rw [List.length_map] at h3
          have := dcM_len cc.y.n cc.y.g
          omega
        refine c_block ?_
        refine c_loop (fun r A W => ∃ (j : Nat) (u : Value) (M2 : List Lm), j ≤ M1.length ∧ M1.length - j ≤ r ∧ A.tmps.size = 53 ∧ A.defers = [] ∧ A.eval (.tmp 0) = .pointer (some ⟨b, 0, none⟩) ∧ A.eval (.tmp 1) = .int .i64 wo ∧ A.eval (.tmp 2) = .int .i64 ph ∧ A.eval (.tmp 15) = .slice (some ⟨pb, po, none⟩) LL.length lc ∧ A.eval (.tmp 16) = .int .i64 (LL.length : Int) ∧ A.eval (.tmp 17) = .int .i64 (i : Int) ∧ A.eval (.tmp 33) = .slice mo M1.length mc ∧ A.eval (.tmp 34) = .int .i64 (M1.length : Int) ∧ A.eval (.tmp 35) = .int .i64 (j : Int) ∧ A.eval (.tmp 7) = u ∧ M2.map Lm.m = liM bad wo ph ((LL.map Lj.y).take i) ++ ((dcM cc.y.n cc.y.g).take j).filter (fun m => decide (m.F = bad)) ∧ Cx w W (omI w.heap.size u M2 :: if j = 0 then [omI w.heap.size (.slice mo M1.length mc) M1] else [])) M1.length
          ⟨0, _, M, Nat.zero_le _, by omega, (szL _ _).trans hs, (defL _ _).trans hd, Qv, Qv, Qv, Qv, Qv, Qv, Qv, Qv, Qv, Qv, by rw [hM]; exact (List.append_nil _).symm, H.perm (List.Perm.swap _ _ _)⟩ (fun r2 B2 W2 hI => ?_)
        clear b0 b1 b2 b15 b16 b17 b7 hs hd H
        obtain ⟨j, u2, M2, hj1, hr2, hs, hd, b0, b1, b2, b15, b16, b17, b33, b34, b35, b7, hM2, H⟩ := hI
        have hM2l : M2.length ≤ 400 + 1 := by
          have h3 := congrArg List.length hM2
          rw [List.length_append, List.length_map, ← hM, List.length_map] at h3
          have h4 := List.length_filter_le (fun m : Ms => decide (m.F = bad)) ((dcM cc.y.n cc.y.g).take j)
          rw [List.length_take] at h4
          have := dcM_len cc.y.n cc.y.g
          omega
        refine c_rs (m_start ?_)
        repeat first | refine qa ?_ | refine l_nx ?_ | refine c_rs ?_ | refine c_nx ?_
        refine q_if (fun h => ?_) (fun h => ?_)
        · have hjn : j < M1.length := by have := of_decide_eq_true h; omega
          obtain rfl : j = 0 := by omega
          obtain ⟨c1, rfl⟩ : ∃ c1, M1 = [c1] := by
            match M1, hjn, hl1 with
            | [c1], _, _ => exact ⟨c1, rfl⟩
          have hdm : dcM cc.y.n cc.y.g = [c1.m] := hM1.symm
          rw [if_pos rfl] at H
          have hO : OwnM W2 w.heap.size (.slice mo 1 mc) [c1] := H.o1
          have hln : c1.m.L.length ≤ 24 := by
            have := (dcM_ok hlb.2.2.2 c1.m (by rw [hdm]; exact List.mem_cons_self)).n
            exact this
          obtain ⟨pm, qm, rfl, hcm⟩ := (hO.rd (fun c hc => by simp at hc; subst hc; omega)).1 (Nat.succ_pos 0)
          have hcm := hcm 0 c1 rfl
          refine c_fin ?_
          refine c_nx (c_block ?_)
          refine c_rs ?_
          refine qa ?_
          refine qg (run_lodCs (g := lmF c1) ManyK.out hcm rfl Qv) ?_
          refine q_al H ?_
          intro w5 H z5
          refine q_sp H.a0 stP_whole (lmF_one _) ?_
          intro w6 H z6
          refine l_nx ?_
          refine c_nx ?_
          replace H := H.drew
          have hS : Its [vhI 67 W2.heap.size 4 4 (lmF c1), vhI 74 b 303 303 (wkF fr nd v bad (.slice (some ⟨pb, po, none⟩) LL.length lc) bx)] w6.drew := Its.cons H.o0 (Its.cons (Vh.below G0 H.bel) (Its.nil _))
          refine c_rj (S := Its [vhI 67 W2.heap.size 4 4 (lmF c1), vhI 74 b 303 303 (wkF fr nd v bad (.slice (some ⟨pb, po, none⟩) LL.length lc) bx)]) (.mv 0 (.rd 1 (.mv 2 (.mv 3 (.mv 4 (.rd 5 (.mv 6 .fin))))))) [] (by kernel_rfl) (by kernel_rfl) ?_
          repeat first | refine qj ?_ | refine qr hS ?_
          refine j_nx ?_
          refine q_if (fun hq => ?_) (fun hq => ?_)
          · have hF : c1.m.F = bad := of_decide_eq_true hq
            refine c_region ?_
            iterate 2 refine qa ?_
            refine m_do rfl (wanted_rd rfl) (fun K hK => ?_)
            refine wp_oneMs _ _ rfl (c := c1) Qv ?_
            intro w7 m7 k7 z7
            refine hK _ _ ?_
            clear hK K
            replace H := om_swap H.tl k7 m7
            refine q_apM H (by show M2.length + 1 ≤ _; omega) ?_
            intro u8 w8 H
            refine qa ?_
            refine l_finB ?_
            refine c_region ?_
            repeat refine qa ?_
            exact l_round ⟨0, by omega, 1, _, M2 ++ [c1], Nat.le_refl _, Nat.le_of_eq (Nat.sub_self _), (szL _ _).trans hs, (defL _ _).trans hd, Qv, Qv, Qv, Qv, Qv, Qv, Qv, Qv, Qv, Qv, by rw [List.map_append, hM2, hdm, List.append_assoc]; simp [hF], H⟩
          · have hF : c1.m.F ≠ bad := of_decide_eq_false hq
            refine c_finB ?_
            refine c_region ?_
            repeat refine qa ?_
            exact l_round ⟨0, by omega, 1, _, M2, Nat.le_refl _, Nat.le_of_eq (Nat.sub_self _), (szL _ _).trans hs, (defL _ _).trans hd, Qv, Qv, Qv, Qv, Qv, Qv, Qv, Qv, Qv, Qv, by rw [hM2, hdm]; simp [hF], H.tl.sub (List.Sublist.cons_cons _ (List.nil_sublist _))⟩
        · obtain rfl : j = M1.length := by have := of_decide_eq_false h; omega
          refine c_exit (x_out2 ?_)
          refine c_region ?_
          repeat refine qa ?_
          exact l_round ⟨LL.length - (i + 1), by omega, i + 1, _, M2, by omega, by omega, (szL _ _).trans hs, (defL _ _).trans hd, Qv, Qv, Qv, Qv, Qv, Eq.trans Qv (by rw [Int.natCast_add]; rfl), Qv, by
            have e : (dcM cc.y.n cc.y.g).take M1.length = dcM cc.y.n cc.y.g := List.take_of_length_le (by rw [← hM1, List.length_map]; exact Nat.le_refl _)
            rw [liM_take hy, if_pos ⟨h1, h2⟩, hM2, e], H.sub (List.Sublist.cons_cons _ (List.nil_sublist _))⟩
      · refine qg (run_neqI (b := true) _ _ rfl Qv Qv (decide_eq_true h2) _) ?_
        refine qg (run_pickF _ _ _ rfl Qv Qv _) ?_
        refine l_nx ?_
        refine q_yes rfl ?_
        refine c_exit (x_in ?_)
        refine c_region ?_
        repeat refine qa ?_
        exact l_round ⟨LL.length - (i + 1), by omega, i + 1, _, M, by omega, by omega, (szL _ _).trans hs, (defL _ _).trans hd, Qv, Qv, Qv, Qv, Qv, Eq.trans Qv (by rw [Int.natCast_add]; rfl), Qv, by rw [liM_take hy, if_neg (fun e => h2 e.2), List.append_nil]; exact hM, H.tl⟩
    · refine qg (run_neqI (b := true) _ _ rfl Qv Qv (decide_eq_true h1) _) ?_
      refine qa ?_
      iterate 4 refine q_skip ?_
      refine qg (run_pickT' _ _ _ rfl Qv Qv _) ?_
      refine l_nx ?_
      refine q_yes rfl ?_
      refine c_exit (x_in ?_)
      refine c_region ?_
      repeat refine qa ?_
      exact l_round ⟨LL.length - (i + 1), by omega, i + 1, _, M, by omega, by omega, (szL _ _).trans hs, (defL _ _).trans hd, Qv, Qv, Qv, Qv, Qv, Eq.trans Qv (by rw [Int.natCast_add]; rfl), Qv, by rw [liM_take hy, if_neg (fun e => h1 e.1), List.append_nil]; exact hM, H.tl⟩
  · obtain rfl : i = LL.length := by have := of_decide_eq_false h; omega
    refine c_exit (x_out ?_)
    refine c_rs ?_
    repeat first | refine qa ?_ | refine l_nx ?_ | refine c_rs ?_ | refine c_nx ?_
    have hO : OwnM W w.heap.size u M := H.o0
    obtain ⟨mo, mc, rfl, hmc⟩ := rw_slice hO.1
    rw [List.take_of_length_le (by rw [List.length_map]; exact Nat.le_refl _)] at hM
    exact c_ret (ret_of ((defL _ _).trans hd) (res_t rfl Qv) ⟨mo, mc, M, rfl, hM, hO, H.bel⟩)

end Go.Proofs.YthimcecbgpamdaaGreat

namespace Go.Proofs.YthimcecbgpamdaaGreat
open Go.RowKit

theorem wrM_len (m : Ms) : (wrM m).length ≤ 1 := by
  unfold wrM
  split <;> simp
theorem bxM_len {x : Ip} (h : x.ly.length ≤ 400) (told : Nat → Ms) (wo ph : Nat) : ∀ k, (bxM x told wo ph k).length ≤ 400 * k
  | 0 => Nat.le_refl _
  | k + 1 => by
    have ih := bxM_len h told wo ph k
    show (bxM x told wo ph k ++ _).length ≤ _
    rw [List.length_append]
    have : (if k = wo then [] else if (k : Int) = x.bad then liM x.bad wo ph x.ly else wrM (told k)).length ≤ 400 := by
      split
      · exact Nat.zero_le _
      · split
        · exact Nat.le_trans (liM_len _ _ _ _) h
        · exact Nat.le_trans (wrM_len _) (by decide)
    omega
/-- What the others send to one in a phase. -/
theorem sentTo_any (x : Ip) (b : Nat) (fr : Int) (nd : Nat → Nd) (v : Nat → Value) (lo : Option Addr) (lc : Nat) (LL : List Lj) (bx : Nat → Value) (wo ph : Nat) (told : Nat → Ms) (ta : Nat → Option Addr × Nat) (w : World) (G0 : Vh 74 w b 303 303 (wkF fr nd v x.bad (.slice lo LL.length lc) bx)) (hx : x.ly = LL.map Lj.y) (hj : JRd w lo LL) (hl : LL.length ≤ 400) (_ : wo < 4)
    (ht : ∀ j : Nat, j < 4 → (j : Int) ≠ x.bad → MsOK (told j) ∧ (told j).L.length ≤ (ta j).2 ∧ Sr w (ta j).1 (told j).L.length (ta j).2 (iF (gL (told j).L))) :
    Calls Tryz.prog 38 #[.pointer (some ⟨b, 0, none⟩), .int .i64 (wo : Int), .int .i64 (ph : Int), agV (m4F told (fun j => slV (ta j) (told j).L.length)) 0 16] w fun e w' => ∃ mo mc M, e = .returned (.slice mo M.length mc) ∧ M.map Lm.m = bxM x told wo ph 4 ∧ OwnM w' w.heap.size (.slice mo M.length mc) M ∧ Below w.heap.size w w' := by
  refine enterF Tryz.func38 rfl 39 rfl (of_decide_eq_true rfl) (fun A hs hd hb => ?_)
  have b0 : A.eval (.tmp 0) = .pointer (some ⟨b, 0, none⟩) := hb 0 _ rfl
  have b1 : A.eval (.tmp 1) = .int .i64 (wo : Int) := hb 1 _ rfl
  have b2 : A.eval (.tmp 2) = .int .i64 (ph : Int) := hb 2 _ rfl
  have b3 : A.eval (.tmp 3) = agV (m4F told (fun j => slV (ta j) (told j).L.length)) 0 16 := hb 3 _ rfl
  clear hb
  have H := Cx.start w
  refine c_rs (m_start ?_)
  refine q_box H ?_
  intro w1 H z1
  repeat first | refine qa ?_ | refine l_nx ?_ | refine c_rs ?_ | refine c_nx ?_
  refine c_block ?_
  refine c_loop (fun r A W => ∃ (i : Nat) (u : Value) (M : List Lm), i ≤ 4 ∧ 4 - i ≤ r ∧ A.tmps.size = 39 ∧ A.defers = [] ∧ A.eval (.tmp 0) = .pointer (some ⟨b, 0, none⟩) ∧ A.eval (.tmp 1) = .int .i64 (wo : Int) ∧ A.eval (.tmp 2) = .int .i64 (ph : Int) ∧ A.eval (.tmp 12) = agV (m4F told (fun j => slV (ta j) (told j).L.length)) 0 16 ∧ A.eval (.tmp 13) = .int .i64 (i : Int) ∧ A.eval (.tmp 9) = u ∧ M.map Lm.m = bxM x told wo ph i ∧ Cx w W [omI w.heap.size u M]) 4
    ⟨0, _, [], Nat.zero_le _, by omega, (szL _ _).trans hs, (defL _ _).trans hd, Qv, Qv, Qv, Qv, Qv, Qv, rfl, H.tl.add (Below.refl _ _) (omI _ _ _) (OwnM.nil _ _) (fun j e => om_up (OwnM.nil w1 w1.heap.size) j e)⟩ (fun r B W hI => ?_)
  clear b0 b1 b2 b3 hs hd H
  obtain ⟨i, u, M, hi, hr, hs, hd, b0, b1, b2, b12, b13, b9, hM, H⟩ := hI
  have hMl : M.length ≤ 400 * i := by
    have h1 := congrArg List.length hM
    rw [List.length_map] at h1
    rw [h1]
    exact bxM_len (by rw [hx, List.length_map]; exact hl) told wo ph i
  refine c_rs (m_start ?_)
  repeat first | refine qa ?_ | refine l_nx ?_ | refine c_rs ?_ | refine c_nx ?_
  refine q_if (fun h => ?_) (fun h => ?_)
  · have hin : i < 4 := by have := of_decide_eq_true h; omega
    refine c_fin ?_
    refine c_nx (c_block ?_)
    refine c_rs ?_
    refine qa ?_
    refine qg (Eq.trans (run_ixVM _ _ _ _ rfl ArrK.out ManyK.out Qv rfl Qv rfl hin _) (by rw [agV_cong (fun j hj => m4F_at told (fun j => slV (ta j) (told j).L.length) hj)])) ?_
    refine q_al H ?_
    intro w2 H z2
    refine qa ?_
    refine q_sp H.a0 stP_whole (msF_one _ _ _ _ _ _) ?_
    intro w3 H z3
    repeat first | refine qa ?_ | refine l_nx ?_ | refine c_rs ?_
    refine c_block ?_
    refine c_rs ?_
    repeat first | refine qa ?_ | refine l_nx ?_
    refine q_if (fun h1 => ?_) (fun h1 => ?_)
    · have e1 : i = wo := by have := of_decide_eq_true h1; omega
      refine c_fin2 ?_
      refine c_region ?_
      repeat refine qa ?_
      exact l_round ⟨4 - (i + 1), by omega, i + 1, _, M, by omega, by omega, (szL _ _).trans hs, (defL _ _).trans hd, Qv, Qv, Qv, Qv, Eq.trans Qv (by rw [Int.natCast_add]; rfl), Qv, by rw [hM]; show _ = bxM x told wo ph i ++ _; rw [if_pos e1, List.append_nil], H.tl⟩
    · have e1 : i ≠ wo := by have := of_decide_eq_false h1; omega
      refine c_rs ?_
      repeat first | refine qa ?_ | refine l_nx ?_
      refine q_if (fun h2 => ?_) (fun h2 => ?_)
      · have e2 : (i : Int) = x.bad := of_decide_eq_true h2
        refine c_region ?_
        iterate 4 refine qa ?_
        have hsz := H.size
        refine q_c3 (liesTo_any b fr nd v x.bad lo lc LL bx (wo : Int) (ph : Int) _ (Vh.below G0 H.bel) (hj.below H.bel) hl) ?_
        rintro e w4 ⟨mo, mc, M1, rfl, hM1, oM1, k4⟩
        refine ⟨_, rfl, ?_⟩
        replace H := (H.tl.add k4 (omI w.heap.size _ M1) (oM1.base hsz) (fun j e => om_up oM1 j e)).perm (List.Perm.swap _ _ _)
        have hl1 : M1.length ≤ 400 := by
          have h3 := congrArg List.length hM1
          rw [List.length_map] at h3
          have h4 := liM_len x.bad wo ph (LL.map Lj.y)
          rw [List.length_map] at h4
          omega
        refine q_apM H (by omega) ?_
        intro u5 w5 H
        refine qa ?_
        refine l_fin2 ?_
        refine c_region ?_
        repeat refine qa ?_
        exact l_round ⟨4 - (i + 1), by omega, i + 1, _, M ++ M1, by omega, by omega, (szL _ _).trans hs, (defL _ _).trans hd, Qv, Qv, Qv, Qv, Eq.trans Qv (by rw [Int.natCast_add]; rfl), Qv, by rw [List.map_append, hM, hM1]; show _ = bxM x told wo ph i ++ _; rw [if_neg e1, if_pos e2, hx], H⟩
      · have e2 : (i : Int) ≠ x.bad := of_decide_eq_false h2
        obtain ⟨t1, t2, t3⟩ := ht i hin e2
        refine c_region ?_
        iterate 2 refine qa ?_
        have hsz := H.size
        refine q_c1 (carried_any (told i) (ta i).1 (ta i).2 _ t1 t2 (t3.below H.bel)) ?_
        rintro e w4 ⟨mo, mc, M1, rfl, hM1, oM1, k4⟩
        refine ⟨_, rfl, ?_⟩
        replace H := (H.tl.add k4 (omI w.heap.size _ M1) (oM1.base hsz) (fun j e => om_up oM1 j e)).perm (List.Perm.swap _ _ _)
        have hl1 : M1.length ≤ 1 := by
          have h3 := congrArg List.length hM1
          rw [List.length_map] at h3
          have h4 := wrM_len (told i)
          omega
        refine q_apM H (by omega) ?_
        intro u5 w5 H
        refine qa ?_
        refine l_fin2 ?_
        refine c_region ?_
        repeat refine qa ?_
        exact l_round ⟨4 - (i + 1), by omega, i + 1, _, M ++ M1, by omega, by omega, (szL _ _).trans hs, (defL _ _).trans hd, Qv, Qv, Qv, Qv, Eq.trans Qv (by rw [Int.natCast_add]; rfl), Qv, by rw [List.map_append, hM, hM1]; show _ = bxM x told wo ph i ++ _; rw [if_neg e1, if_neg e2], H⟩
  · obtain rfl : i = 4 := by have := of_decide_eq_false h; omega
    refine c_exit (x_out ?_)
    refine c_rs ?_
    repeat first | refine qa ?_ | refine l_nx ?_ | refine c_rs ?_ | refine c_nx ?_
    have hO : OwnM W w.heap.size u M := H.o0
    obtain ⟨mo, mc, rfl, hmc⟩ := rw_slice hO.1
    exact c_ret (ret_of ((defL _ _).trans hd) (res_t rfl Qv) ⟨mo, mc, M, rfl, hM, hO, H.bel⟩)

end Go.Proofs.YthimcecbgpamdaaGreat

namespace Go.Proofs.YthimcecbgpamdaaGreat
open Go.RowKit

def fourI (f : Nat → It) : It := ⟨fun w => ∀ i, i < 4 → (f i).p w, fun k => ∃ i, i < 4 ∧ (f i).foot k, fun h e i hi => (f i).ok (h i hi) (fun k h1 h2 => e k h1 ⟨i, hi, h2⟩), fun h ⟨i, hi, e⟩ => (f i).lt (h i hi) e⟩
theorem Cx.wk {w0 w : World} {x y : It} {l : List It} (H : Cx w0 w (x :: l)) (h1 : x.p w → y.p w) (h2 : ∀ k, y.foot k → x.foot k) : Cx w0 w (y :: l) := by
  obtain ⟨d1, d2⟩ := List.pairwise_cons.1 H.dis
  refine ⟨H.bel, fun z hz => ?_, fun z hz j hj => ?_, List.pairwise_cons.2 ⟨fun z hz j h3 => d1 z hz j (h2 j h3), d2⟩⟩
  · rcases List.mem_cons.1 hz with rfl | hz
    · exact h1 H.o0
    · exact H.it z (List.mem_cons_of_mem _ hz)
  · rcases List.mem_cons.1 hz with rfl | hz
    · exact H.up x List.mem_cons_self j (h2 j hj)
    · exact H.up z (List.mem_cons_of_mem _ hz) j hj
theorem four_set {w0 w : World} {α : Type} {g : α → It} {D : Nat → α} {y : α} {l : List It} (i : Nat) (H : Cx w0 w (g y :: fourI (fun j => g (D j)) :: l)) : Cx w0 w (fourI (fun j => g (upM D i y j)) :: l) := by
  refine H.merge.wk (fun h j hj => ?_) (fun k hk => ?_)
  · show (g (upM D i y j)).p w
    by_cases e : j = i
    · rw [e, upM_same]; exact h.1
    · rw [upM_other _ _ e]; exact h.2 j hj
  · obtain ⟨j, hj, hk⟩ := hk
    have hk : (g (upM D i y j)).foot k := hk
    by_cases e : j = i
    · rw [e, upM_same] at hk; exact Or.inl hk
    · rw [upM_other _ _ e] at hk; exact Or.inr ⟨j, hj, hk⟩
abbrev Ad := Option Addr × Nat
/-- Computers with their verdicts' lists; messages with their numbers; boxes. -/
def agJ (B : Nat) (d : Nd × Ad) : It := ownI B 4 1 (slV d.2 d.1.vA.length) d.1.vA.length (rowV (tF (bA d.1)) d.1.vA.length)
def tlJ (B : Nat) (d : Ms × Ad) : It := ownI B 3 1 (slV d.2 d.1.L.length) d.1.L.length (rowV (iF (gL d.1.L)) d.1.L.length)
def bxJ (B : Nat) (d : List Lm × Ad) : It := omI B (slV d.2 d.1.length) d.1
def agI (B : Nat) (D : Nat → Nd × Ad) : It := fourI (fun i => agJ B (D i))
def tlI (B : Nat) (T : Nat → Ms × Ad) : It := fourI (fun i => tlJ B (T i))
def bxI (B : Nat) (X : Nat → List Lm × Ad) : It := fourI (fun i => bxJ B (X i))
def wkG (fr : Int) (D : Nat → Nd × Ad) (bad : Int) (lv : Value) (X : Nat → List Lm × Ad) : Nat → Value := wkF fr (fun i => (D i).1) (fun i => slV (D i).2 (D i).1.vA.length) bad lv (fun i => slV (X i).2 (X i).1.length)
def m4G (T : Nat → Ms × Ad) : Nat → Value := m4F (fun i => (T i).1) (fun i => slV (T i).2 (T i).1.L.length)
def clG (fr : Int) (D : Nat → Nd × Ad) : Nat → Value := clF fr (fun i => (D i).1) (fun i => slV (D i).2 (D i).1.vA.length)
theorem upM_ap {α β : Type} (f : α → β) (D : Nat → α) (i : Nat) (y : α) : (fun j => f (upM D i y j)) = upM (fun j => f (D j)) i (f y) := by
  funext j
  unfold upM
  split <;> rfl
theorem wkG_nd (fr : Int) (D : Nat → Nd × Ad) (bad : Int) (lv : Value) (X : Nat → List Lm × Ad) {i : Nat} (hi : i < 4) (d : Nd × Ad) : ∀ j, j < 303 → stP (wkG fr D bad lv X) (1 + i * 74) 74 (ndF d.1 (slV d.2 d.1.vA.length)) j = wkG fr (upM D i d) bad lv X j := by
  unfold wkG
  rw [upM_ap (fun d : Nd × Ad => d.1), upM_ap (fun d : Nd × Ad => slV d.2 d.1.vA.length)]
  exact wkF_set _ _ _ _ _ _ hi _ _
theorem wkG_bx (fr : Int) (D : Nat → Nd × Ad) (bad : Int) (lv : Value) (X : Nat → List Lm × Ad) (i : Nat) (d : List Lm × Ad) : ∀ j, j < 303 → stW (wkG fr D bad lv X) (299 + i) (slV d.2 d.1.length) j = wkG fr D bad lv (upM X i d) j := by
  unfold wkG
  rw [upM_ap (fun d : List Lm × Ad => slV d.2 d.1.length)]
  exact wkF_bx _ _ _ _ _ _ _ _
theorem m4G_set (T : Nat → Ms × Ad) (i : Nat) (d : Ms × Ad) : ∀ j, j < 16 → stP (m4G T) (i * 4) 4 (msF d.1.K d.1.F d.1.R (slV d.2 d.1.L.length)) j = m4G (upM T i d) j := by
  unfold m4G
  rw [upM_ap (fun d : Ms × Ad => d.1), upM_ap (fun d : Ms × Ad => slV d.2 d.1.L.length)]
  exact m4F_set _ _ _ _ _
theorem clG_set (fr : Int) (D : Nat → Nd × Ad) (i : Nat) (d : Nd × Ad) : ∀ j, j < 297 → stP (clG fr D) (1 + i * 74) 74 (ndF d.1 (slV d.2 d.1.vA.length)) j = clG fr (upM D i d) j := by
  unfold clG
  rw [upM_ap (fun d : Nd × Ad => d.1), upM_ap (fun d : Nd × Ad => slV d.2 d.1.vA.length)]
  exact clF_set _ _ _ _ _ _
theorem clG_one (fr : Int) (D : Nat → Nd × Ad) : ∀ j, j < 297 → (clG fr D j).oneCell' = true := clF_one _ _ _ _
theorem m4G_one (T : Nat → Ms × Ad) : ∀ j, j < 16 → (m4G T j).oneCell' = true := m4F_one _ _ _
theorem slV_one (a : Ad) (n : Nat) : (slV a n).oneCell' = true := rfl
section
variable {P : Program} {Q : Exit → Act → World → Prop} {J : Act → World → Prop} {a : Act} {w : World} {x : Code} {id : Nat} {fn : Func} {R : Ending → World → Prop}
/-- A body's end without a return. -/
theorem x_end (h : Q .normal a w) : Nx P x (Exit.then J (Exit.inBlock id Q)) (.exit id) a w := by
  show (if id = id then _ else _)
  rw [if_pos rfl]
  exact h
theorem end_of (hd : a.defers = []) (hr : fn.results = #[]) (h : R (.returned (.tuple #[])) w) : bodyPost P fn R .normal a w := ⟨hd, .tuple #[], by simp [results, hr], h⟩
/-- A function value called. -/
theorem wp_callG {o : Oper} {K : Act → World → Prop} (c x y : Operand) (T : Array TypeId) (ho : o.op = .call { callee := .value c, args := #[x, y], argTypes := T }) (n : Nat) [E : EntK P n] {caps : Array Value} {u v : Value} (hc : a.eval c = .func (.func n) #[] caps) (hx : a.eval x = u) (hy : a.eval y = v) (hk : Calls P n (#[u, v] ++ caps) w R)
    (h : ∀ e w', R e w' → ∃ r, e = .returned r ∧ K (a.put o.dst r) w') : WpI P o a w K Q := by
  refine ⟨?_⟩
  have e : (execOp a.eval o).run P w = .ok (.enter n (#[u, v] ++ caps)) w := by
    unfold execOp
    rw [ho]
    simp only [resolve, invoke, Sem.run_bind, List.map_toArray, List.map_cons, List.map_nil, hc, hx, hy]
    have := E.out (#[u, v] ++ caps) w
    go_simp
  unfold Oper.wp
  rw [e, Oper.upon_enter]
  refine hk.mono ?_
  intro e w' hr
  obtain ⟨r, rfl, hh⟩ := h e w' hr
  exact hh
end
/-- What lies in the cells of a frame at work. -/
theorem wkG_bad (fr : Int) (D : Nat → Nd × Ad) (bad : Int) (lv : Value) (X : Nat → List Lm × Ad) : wkG fr D bad lv X (0 + 297) = .int .i64 bad := rfl

end Go.Proofs.YthimcecbgpamdaaGreat

namespace Go.Proofs.YthimcecbgpamdaaGreat
open Go.RowKit

theorem send_any (x : Ip) (b : Nat) (fr : Int) (D : Nat → Nd × Ad) (lo : Option Addr) (lc : Nat) (LL : List Lj) (X : Nat → List Lm × Ad) (ph : Nat) (T : Nat → Ms × Ad) (w0 w : World) (l : List It) (H : Cx w0 w (vhI 74 b 303 303 (wkG fr D x.bad (.slice lo LL.length lc) X) :: bxI w0.heap.size X :: tlI w0.heap.size T :: l)) (hx : x.ly = LL.map Lj.y) (hj : JRd w0 lo LL) (hl : LL.length ≤ 400)
    (hT : ∀ j : Nat, j < 4 → (j : Int) ≠ x.bad → MsOK (T j).1) :
    Calls Tryz.prog 17 #[.pointer (some ⟨b, 0, none⟩), .int .i64 (ph : Int), agV (m4G T) 0 16] w fun e w' => e = .returned (.tuple #[]) ∧ ∃ X', (∀ i, i < 4 → (X' i).1.map Lm.m = bxM x (fun j => (T j).1) i ph 4) ∧ Cx w0 w' (vhI 74 b 303 303 (wkG fr D x.bad (.slice lo LL.length lc) X') :: bxI w0.heap.size X' :: tlI w0.heap.size T :: l) := by
  refine enterF Tryz.func17 rfl 21 rfl (of_decide_eq_true rfl) (fun A hs hd hb => ?_)
  have b0 : A.eval (.tmp 0) = .pointer (some ⟨b, 0, none⟩) := hb 0 _ rfl
  have b1 : A.eval (.tmp 1) = .int .i64 (ph : Int) := hb 1 _ rfl
  have b2 : A.eval (.tmp 2) = agV (m4G T) 0 16 := hb 2 _ rfl
  clear hb
  refine c_rs (m_start ?_)
  refine q_box H ?_
  intro w1 H z1
  repeat first | refine qa ?_ | refine l_nx ?_ | refine c_rs ?_
  refine c_block ?_
  refine c_loop (fun r A W => ∃ (i : Nat) (X' : Nat → List Lm × Ad), i ≤ 4 ∧ 4 - i ≤ r ∧ A.tmps.size = 21 ∧ A.defers = [] ∧ A.eval (.tmp 0) = .pointer (some ⟨b, 0, none⟩) ∧ A.eval (.tmp 1) = .int .i64 (ph : Int) ∧ A.eval (.tmp 5) = .pointer (some ⟨w.heap.size, 0, none⟩) ∧ A.eval (.tmp 7) = .int .i64 (i : Int) ∧ (∀ j, j < i → (X' j).1.map Lm.m = bxM x (fun j => (T j).1) j ph 4) ∧ Cx w0 W (vhI 68 w.heap.size 16 16 (m4G T) :: vhI 74 b 303 303 (wkG fr D x.bad (.slice lo LL.length lc) X') :: bxI w0.heap.size X' :: tlI w0.heap.size T :: l)) 4
    ⟨0, X, Nat.zero_le _, by omega, (szL _ _).trans hs, (defL _ _).trans hd, Qv, Qv, Qv, Qv, fun j h => absurd h (Nat.not_lt_zero j), H⟩ (fun r B W hI => ?_)
  clear b0 b1 b2 hs hd H
  obtain ⟨i, X', hi, hr, hs, hd, b0, b1, b5, b7, hX, H⟩ := hI
  refine c_rs (m_start ?_)
  repeat first | refine qa ?_ | refine l_nx ?_ | refine c_rs ?_ | refine c_nx ?_
  refine q_if (fun h => ?_) (fun h => ?_)
  · have hin : i < 4 := by have := of_decide_eq_true h; omega
    refine c_fin ?_
    refine c_nx (c_block ?_)
    refine c_rs ?_
    repeat first | refine qa ?_ | refine l_nx ?_
    replace H := H.drew
    have hS : Its [vhI 68 w.heap.size 16 16 (m4G T)] W.drew := Its.cons H.o0 (Its.nil _)
    refine c_rj (S := Its [vhI 68 w.heap.size 16 16 (m4G T)]) (.mv 0 (.mv 1 (.mv 2 (.mv 3 (.mv 4 (.rd 5 (.mv 7 (.mv 8 (.go 6 (.mv 9 (.go 10 .fin))))))))))) [10] (by kernel_rfl) (by kernel_rfl) ?_
    repeat first | refine qj ?_ | refine qr hS ?_
    refine j_do rfl rfl (wanted_rd rfl) (fun K hK => ?_)
    have hsz := H.size
    refine wp_call4n _ 38 _ _ _ _ _ rfl Qv Qv Qv Qv (EntK.out _ _) (sentTo_any x b fr _ _ lo lc LL _ i ph (fun j => (T j).1) (fun j => (T j).2) _ H.v1 hx (hj.below H.bel) hl hin (fun j h4 hb => ?_)) ?_
    · have ho : World.ownsRow _ _ _ _ _ _ _ := H.o3 j h4
      obtain ⟨a3, c3, e, hs3, hc3⟩ := owns_sr ho
      obtain ⟨e1, e2⟩ : (T j).2.1 = a3 ∧ (T j).2.2 = c3 := by cases e; exact ⟨rfl, rfl⟩
      exact ⟨hT j h4 hb, by rw [e2]; exact hc3, by rw [e1, e2]; exact hs3⟩
    · rintro e w2 ⟨mo, mc, M1, rfl, hM1, oM1, k2⟩
      replace H := H.add k2 (bxJ w0.heap.size (M1, (mo, mc))) (oM1.base hsz) (fun j e => om_up oM1 j e)
      refine ⟨_, rfl, hK _ _ (fun _ _ => Its.cons H.o1 (Its.nil _)) ?_⟩
      clear hK K
      repeat refine qj ?_
      refine j_st rfl (wanted_rd rfl) (fun K hK => ?_)
      refine wp_sto1 _ _ _ _ rfl OneK.out Qv Qv H.v2 (by omega) rfl rfl rfl ?_
      intro w3 m3 k3 z3
      replace H := H.a2.s k3 (m3.congr (fun j hj => Eq.trans (by rw [show 0 + 299 + i * 1 = 299 + i by omega]; rfl) (wkG_bx fr D x.bad (.slice lo LL.length lc) X' i (M1, (mo, mc)) j hj)))
      refine hK _ (fun h => absurd h (by decide)) ?_
      clear hK K
      refine j_finB ?_
      refine c_region ?_
      repeat refine qa ?_
      exact l_round ⟨4 - (i + 1), by omega, i + 1, _, by omega, by omega, (szL _ _).trans hs, (defL _ _).trans hd, Qv, Qv, Qv, Eq.trans Qv (by rw [Int.natCast_add]; rfl), fun j hj => (by
        by_cases e : j = i
        · rw [e, upM_same]; exact hM1
        · rw [upM_other _ _ e]; exact hX j (by omega)), (four_set (g := bxJ w0.heap.size) i H.f3.f1).b2⟩
  · obtain rfl : i = 4 := by have := of_decide_eq_false h; omega
    refine c_exit (x_end ?_)
    exact end_of ((defL _ _).trans hd) rfl ⟨rfl, X', hX, H.tl⟩

end Go.Proofs.YthimcecbgpamdaaGreat

namespace Go.Proofs.YthimcecbgpamdaaGreat
open Go.RowKit

/-- Four computers as one value. -/
def ndsG (D : Nat → Nd × Ad) (j : Nat) : Value := ndF (D (j / 74)).1 (slV (D (j / 74)).2 (D (j / 74)).1.vA.length) (j % 74)
theorem ndsG_at (D : Nat → Nd × Ad) {i j : Nat} (hj : j < 74) : ndsG D (i * 74 + j) = ndF (D i).1 (slV (D i).2 (D i).1.vA.length) j := by
  unfold ndsG
  rw [show (i * 74 + j) / 74 = i by omega, show (i * 74 + j) % 74 = j by omega]
theorem wkG_nds (fr : Int) (D : Nat → Nd × Ad) (bad : Int) (lv : Value) (X : Nat → List Lm × Ad) {j : Nat} (hj : j < 296) : wkG fr D bad lv X (0 + 0 + 1 + j) = ndsG D j := by
  unfold wkG
  rw [wkF_cl (by omega)]
  unfold clF ndsG
  rw [if_neg (by omega), show 0 + 0 + 1 + j - 1 = j by omega]
theorem clG_nds (fr : Int) (D : Nat → Nd × Ad) {j : Nat} (hj : j < 296) : clG fr D (0 + 1 + j) = ndsG D j := by
  unfold clG clF ndsG
  rw [if_neg (by omega), show 0 + 1 + j - 1 = j by omega]
theorem wkG_at (fr : Int) (D : Nat → Nd × Ad) (bad : Int) (lv : Value) (X : Nat → List Lm × Ad) {i : Nat} (_ : i < 4) : wkG fr D bad lv X (299 + i) = slV (X i).2 (X i).1.length := by
  unfold wkG wkF
  rw [if_neg (by omega), if_neg (by omega), if_neg (by omega), Nat.add_sub_cancel_left]
def emI : It := ⟨fun _ => True, fun _ => False, fun h _ => h, fun _ e => e.elim⟩
theorem Cx.add2 {w0 w w' : World} {l : List It} (H : Cx w0 w l) (k : Below w.heap.size w w') (x y : It) (hx : x.p w') (hy : y.p w') (fx : ∀ j, x.foot j → w.heap.size ≤ j) (fy : ∀ j, y.foot j → w.heap.size ≤ j) (hd : ∀ j, x.foot j → ¬ y.foot j) : Cx w0 w' (x :: y :: l) := by
  have H2 := H.add k y hy fy
  have hs := H.size
  refine ⟨H2.bel, fun z hz => ?_, fun z hz j hj => ?_, List.pairwise_cons.2 ⟨fun z hz j h1 h2 => ?_, H2.dis⟩⟩
  · rcases List.mem_cons.1 hz with rfl | hz
    · exact hx
    · exact H2.it z hz
  · rcases List.mem_cons.1 hz with rfl | hz
    · have := fx j hj; omega
    · exact H2.up z hz j hj
  · rcases List.mem_cons.1 hz with rfl | hz
    · exact hd j h1 h2
    · have h3 := fx j h1
      have h4 := z.lt (H.it z hz) h2
      omega
/-- What a phase is held to as a function that is handed on; Ys: what it keeps of its own. -/
def PvC (w0 : World) (bad : Int) (n : Nat) (caps : Array Value) (N : Nat → Nd → List Ms → Nd) (M : Nat → Nd → List Ms → Ms) (Ys : Nat → It → Prop) (Dn : Nat → Nd) (Bn : Nat → List Ms) : Prop := ∀ (i : Nat) (nd : Nd) (ao : Option Addr) (c : Nat) (mo : Option Addr) (mc : Nat) (L : List Lm) (w : World) (y : It) (l : List It), i < 4 → (i : Int) ≠ bad → nd = Dn i → L.map Lm.m = Bn i → nd.id = (i : Nat) → NdOK nd → AgRd w nd ao c → MRd w mo L → L.length ≤ 1600 → L.length ≤ mc → (∀ m, m ∈ L → MsOK m.m) → Ys i y → Cx w0 w (y :: l) →
  Calls Tryz.prog n (#[ndV nd (.slice ao nd.vA.length c), .slice mo L.length mc] ++ caps) w fun e w' => ∃ (a1 a2 : Ad) (y' : It), Ys (i + 1) y' ∧ e = .returned (.tuple #[ndV (N i nd (L.map Lm.m)) (slV a1 (N i nd (L.map Lm.m)).vA.length), lsV (M i nd (L.map Lm.m)) (slV a2 (M i nd (L.map Lm.m)).L.length)]) ∧ Cx w0 w' (agJ w0.heap.size (N i nd (L.map Lm.m), a1) :: tlJ w0.heap.size (M i nd (L.map Lm.m), a2) :: y' :: l)
theorem rows_new {w0 w w' : World} {l : List It} (H : Cx w0 w l) (k : Below w.heap.size w w') {n : Nd} {m : Ms} {a1 a2 : Ad} (h1 : AgNew w.heap.size w' n a1.1 a1.2) (h2 : VaNew w.heap.size w' m a2.1 a2.2) : Cx w0 w' (agJ w0.heap.size (n, a1) :: tlJ w0.heap.size (m, a2) :: l) := by
  have hs := H.size
  refine H.add2 k _ _ (rw_base h1 hs) (rw_base h2 hs) (fun j e => (h1.lt j e).1) (fun j e => (h2.lt j e).1) (fun j e1 e2 => ?_)
  obtain ⟨u1, g1⟩ := own_type h1 e1
  obtain ⟨u2, g2⟩ := own_type h2 e2
  rw [g1] at g2
  cases g2
theorem pvc_pure {w0 : World} {bad : Int} {fn : Nat} {N : Nd → List Ms → Nd} {M : Nd → List Ms → Ms} {Dn : Nat → Nd} {Bn : Nat → List Ms} (h : PhOK N M fn) : PvC w0 bad fn #[] (fun _ => N) (fun _ => M) (fun _ y => y = emI) Dn Bn := by
  intro i nd ao c mo mc L w y l hi _ _ _ _ hok hag hmr hl hlc hms hy H
  refine (h nd ao c mo mc L w hok hag hmr (by omega) hlc (fun m hm => (hms m hm).L)).mono ?_
  rintro e w' ⟨a', c', a2, c2, rfl, g1, g2, g3⟩
  exact ⟨(a', c'), (a2, c2), y, hy, rfl, rows_new H g3 g1 g2⟩
def doN (bad : Int) (N : Nat → Nd → List Ms → Nd) (D : Nat → Nd × Ad) (X : Nat → List Lm × Ad) (i : Nat) : Nd := if (i : Int) = bad then (D i).1 else N i (D i).1 ((X i).1.map Lm.m)
def doM (bad : Int) (M : Nat → Nd → List Ms → Ms) (D : Nat → Nd × Ad) (X : Nat → List Lm × Ad) (i : Nat) : Ms := if (i : Int) = bad then zeroM else M i (D i).1 ((X i).1.map Lm.m)
set_option maxHeartbeats 1000000 in
theorem do_any (b : Nat) (fr : Int) (D : Nat → Nd × Ad) (bad : Int) (lv : Value) (X : Nat → List Lm × Ad) (n : Nat) (caps : Array Value) (N : Nat → Nd → List Ms → Nd) (M : Nat → Nd → List Ms → Ms) (Ys : Nat → It → Prop) (w0 w : World) (y0 : It) (l : List It) [EntK Tryz.prog n] (hp : PvC w0 bad n caps N M Ys (fun i => (D i).1) (fun i => (X i).1.map Lm.m)) (hy0 : Ys 0 y0) (hXp : ∀ i : Nat, (i : Int) = bad → ∀ y, Ys i y → Ys (i + 1) y)
    (hid : ∀ i, i < 4 → (D i).1.id = (i : Nat)) (hok : ∀ i, i < 4 → NdOK (D i).1) (hX : ∀ i, i < 4 → (X i).1.length ≤ 1600 ∧ ∀ c, c ∈ (X i).1 → MsOK c.m)
    (H : Cx w0 w (agI w0.heap.size D :: y0 :: vhI 74 b 303 303 (wkG fr D bad lv X) :: bxI w0.heap.size X :: l)) :
    Calls Tryz.prog 18 #[.pointer (some ⟨b, 0, none⟩), .func (.func n) #[] caps] w fun e w' => ∃ (D' : Nat → Nd × Ad) (T : Nat → Ms × Ad) (y' : It), Ys 4 y' ∧ e = .returned (agV (m4G T) 0 16) ∧ (∀ i, i < 4 → (D' i).1 = doN bad N D X i) ∧ (∀ i, i < 4 → (T i).1 = doM bad M D X i) ∧
      Cx w0 w' (tlI w0.heap.size T :: agI w0.heap.size D' :: y' :: vhI 74 b 303 303 (wkG fr D' bad lv X) :: bxI w0.heap.size X :: l) := by
  refine enterF Tryz.func18 rfl 45 rfl (of_decide_eq_true rfl) (fun A hs hd hb => ?_)
  have b0 : A.eval (.tmp 0) = .pointer (some ⟨b, 0, none⟩) := hb 0 _ rfl
  have b1 : A.eval (.tmp 1) = .func (.func n) #[] caps := hb 1 _ rfl
  clear hb
  refine c_rs (m_start ?_)
  refine q_al H ?_
  intro w1 H z1
  refine l_nx ?_
  refine c_rs ?_
  refine q_al H ?_
  intro w2 H z2
  refine l_nx ?_
  refine c_nx ?_
  refine c_rs ?_
  iterate 4 refine qa ?_
  refine qg (Eq.trans (run_loadP _ _ rfl ManyK.out Qv H.v4 (by omega)) (by rw [agV_cong (fun j hj => wkG_nds fr D bad lv X hj)])) ?_
  repeat first | refine qa ?_ | refine l_nx ?_
  refine c_block ?_
  refine c_loop (fun r A W => ∃ (i : Nat) (D' : Nat → Nd × Ad) (T : Nat → Ms × Ad) (y : It), Ys i y ∧ i ≤ 4 ∧ 4 - i ≤ r ∧ A.tmps.size = 45 ∧ A.defers = [] ∧ A.eval (.tmp 0) = .pointer (some ⟨b, 0, none⟩) ∧ A.eval (.tmp 1) = .func (.func n) #[] caps ∧ A.eval (.tmp 4) = .pointer (some ⟨w.heap.size, 0, none⟩) ∧ A.eval (.tmp 5) = .pointer (some ⟨w1.heap.size, 0, none⟩) ∧ A.eval (.tmp 12) = agV (ndsG D) 0 296 ∧ A.eval (.tmp 13) = .int .i64 (i : Int) ∧
      (∀ j, j < 4 → (D' j).1 = if j < i then doN bad N D X j else (D j).1) ∧ (∀ j, i ≤ j → D' j = D j) ∧ (∀ j, j < 4 → (T j).1 = if j < i then doM bad M D X j else zeroM) ∧
      Cx w0 W (tlI w0.heap.size T :: agI w0.heap.size D' :: y :: vhI 68 w1.heap.size 16 16 (m4G T) :: vhI 68 w.heap.size 16 16 (m4G (fun _ => (zeroM, (none, 0)))) :: vhI 74 b 303 303 (wkG fr D' bad lv X) :: bxI w0.heap.size X :: l)) 4
    ⟨0, D, fun _ => (zeroM, (none, 0)), y0, hy0, Nat.zero_le _, by omega, (szL _ _).trans hs, (defL _ _).trans hd, Qv, Qv, Qv, Qv, Qv, Qv, fun j _ => (if_neg (Nat.not_lt_zero j)).symm, fun _ _ => rfl, fun j _ => (if_neg (Nat.not_lt_zero j)).symm,
      (H.add (Below.refl _ _) (tlI w0.heap.size (fun _ => (zeroM, (none, 0)))) (fun _ _ => World.ownsRow_nil _ _ _ _) (fun j ⟨_, _, e⟩ => absurd e (fun e => nomatch e))).f4.f4.f2⟩ (fun r B W hI => ?_)
  clear b0 b1 hs hd H
  obtain ⟨i, D', T, y, hy, hi, hr, hs, hd, b0, b1, b4, b5, b12, b13, hD, hDr, hT, H⟩ := hI
  refine c_rs (m_start ?_)
  repeat first | refine qa ?_ | refine l_nx ?_ | refine c_rs ?_ | refine c_nx ?_
  refine q_if (fun h => ?_) (fun h => ?_)
  · have hin : i < 4 := by have := of_decide_eq_true h; omega
    refine c_fin ?_
    refine c_nx (c_block ?_)
    refine c_rs ?_
    refine qa ?_
    refine qg (Eq.trans (run_ixVM _ _ _ _ rfl ArrK.out ManyK.out Qv rfl Qv rfl hin _) (by rw [agV_cong (fun j hj => ndsG_at D hj)])) ?_
    refine q_al H ?_
    intro w3 H z3
    refine qa ?_
    refine q_sp H.a0 stP_whole (ndF_one _ _ _ _) ?_
    intro w4 H z4
    repeat first | refine qa ?_ | refine l_nx ?_ | refine c_rs ?_
    refine q_if (fun h1 => ?_) (fun h1 => ?_)
    · have e1 : (i : Int) ≠ bad := of_decide_eq_true h1
      replace H := H.drew
      have hS : Its [vhI 37 W.heap.size 74 74 (ndF (D i).1 (slV (D i).2 (D i).1.vA.length)), vhI 74 b 303 303 (wkG fr D' bad lv X)] w4.drew := Its.cons H.o0 (Its.cons H.o6 (Its.nil _))
      have hXi := hX i hin
      have hAg : AgRd w4.drew (D i).1 (D i).2.1 (D i).2.2 := by
        have ho : World.ownsRow _ _ _ _ _ _ _ := H.o2 i hin
        obtain ⟨a3, c3, e, hs3, _⟩ := owns_sr ho
        rw [hDr i (Nat.le_refl _)] at e hs3
        cases e
        exact hs3
      have hBx : OwnM w4.drew w0.heap.size (slV (X i).2 (X i).1.length) (X i).1 := H.o7 i hin
      have hBc : (X i).1.length ≤ (X i).2.2 := by
        obtain ⟨a3, c3, e, h3⟩ := rw_slice hBx.1
        cases e
        exact h3
      refine c_rj (S := Its [vhI 37 W.heap.size 74 74 (ndF (D i).1 (slV (D i).2 (D i).1.vA.length)), vhI 74 b 303 303 (wkG fr D' bad lv X)]) (.mv 0 (.mv 1 (.mv 2 (.mv 3 (.rd 4 (.mv 5 (.mv 6 (.mv 7 (.mv 8 (.mv 9 (.rd 10 (.mv 15 (.mv 16 (.mv 17 (.go 11 (.mv 12 (.mv 13 (.mv 14 (.mv 18 (.go 19 (.mv 20 (.go 21 .fin)))))))))))))))))))))) [19, 21] (by kernel_rfl) (by kernel_rfl) ?_
      iterate 10 first | refine qj ?_ | refine qr hS ?_
      refine j_rd rfl rfl (fun _ _ _ h => h) (wanted_rd rfl) hS (fun _ H => Eq.trans (run_lod1 _ _ rfl OneK.out Qv H.v1 (by omega) rfl) (by rw [show 0 + 299 + i * 1 = 299 + i by omega, wkG_at _ _ _ _ _ hin])) ?_
      repeat refine qj ?_
      refine j_do rfl rfl (wanted_rd rfl) (fun K hK => ?_)
      refine wp_callG _ _ _ _ rfl n Qv Qv Qv (hp i (D i).1 (D i).2.1 (D i).2.2 (X i).2.1 (X i).2.2 (X i).1 _ _ _ hin e1 rfl rfl (hid i hin) (hok i hin) hAg (hBx.rd (fun c hc => by have := (hXi.2 c hc).n; omega)) hXi.1 hBc hXi.2 hy H.f3) ?_
      rintro e w5 ⟨a1, a2, y2, hy2, rfl, H⟩
      refine ⟨_, rfl, hK _ _ (fun _ _ => Its.cons H.o3 (Its.cons H.o8 (Its.nil _))) ?_⟩
      clear hK K
      repeat refine qj ?_
      refine j_st rfl (wanted_rd rfl) (fun K hK => ?_)
      refine wp_storeP _ _ _ _ rfl ManyK.out Qv Qv H.v8 (by omega) (ndF_one _ _ _ _) rfl ?_
      intro w6 m6 k6 z6
      replace H := H.a8.s k6 (m6.congr (fun j hj => Eq.trans (by rw [show 0 + 0 + 1 + i * 74 = 1 + i * 74 by omega]; rfl) (wkG_nd fr D' bad lv X hin (N i (D i).1 ((X i).1.map Lm.m), a1) j hj)))
      refine hK _ (fun h => absurd h (by decide)) ?_
      clear hK K
      repeat refine qj ?_
      refine j_st rfl (wanted_rd rfl) (fun K hK => ?_)
      refine wp_storeP _ _ _ _ rfl ManyK.out Qv Qv H.v6 (by omega) (msF_one _ _ _ _ _ _) rfl ?_
      intro w7 m7 k7 z7
      replace H := H.a6.s k7 (m7.congr (fun j hj => Eq.trans (by rw [show 0 + i * 4 = i * 4 by omega]; rfl) (m4G_set T i (M i (D i).1 ((X i).1.map Lm.m), a2) j hj)))
      refine hK _ (fun h => absurd h (by decide)) ?_
      clear hK K
      refine j_finB ?_
      refine c_region ?_
      repeat refine qa ?_
      refine l_round ⟨4 - (i + 1), by omega, i + 1, upM D' i (N i (D i).1 ((X i).1.map Lm.m), a1), upM T i (M i (D i).1 ((X i).1.map Lm.m), a2), y2, hy2, by omega, by omega, (szL _ _).trans hs, (defL _ _).trans hd, Qv, Qv, Qv, Qv, Qv, Eq.trans Qv (by rw [Int.natCast_add]; rfl), fun j hj => ?_, fun j hj => (upM_other _ _ (by omega)).trans (hDr j (by omega)), fun j hj => ?_,
        (four_set (g := tlJ w0.heap.size) i (four_set (g := agJ w0.heap.size) i H.f5.f1).f4.f2).f3.tl⟩
      · by_cases e : j = i
        · rw [e, upM_same, if_pos (by omega)]
          unfold doN
          rw [if_neg e1]
        · rw [upM_other _ _ e, hD j hj]
          by_cases e2 : j < i
          · rw [if_pos e2, if_pos (by omega)]
          · rw [if_neg e2, if_neg (by omega)]
      · by_cases e : j = i
        · rw [e, upM_same, if_pos (by omega)]
          unfold doM
          rw [if_neg e1]
        · rw [upM_other _ _ e, hT j hj]
          by_cases e2 : j < i
          · rw [if_pos e2, if_pos (by omega)]
          · rw [if_neg e2, if_neg (by omega)]
    · have e1 : (i : Int) = bad := by have := of_decide_eq_false h1; omega
      refine c_finB ?_
      refine c_region ?_
      repeat refine qa ?_
      refine l_round ⟨4 - (i + 1), by omega, i + 1, D', T, y, hXp i e1 y hy, by omega, by omega, (szL _ _).trans hs, (defL _ _).trans hd, Qv, Qv, Qv, Qv, Qv, Eq.trans Qv (by rw [Int.natCast_add]; rfl), fun j hj => ?_, fun j hj => hDr j (by omega), fun j hj => ?_, H.tl⟩
      · rw [hD j hj]
        by_cases e : j = i
        · rw [if_neg (by omega), if_pos (by omega)]
          unfold doN
          rw [e, if_pos e1]
        · by_cases e2 : j < i
          · rw [if_pos e2, if_pos (by omega)]
          · rw [if_neg e2, if_neg (by omega)]
      · rw [hT j hj]
        by_cases e : j = i
        · rw [if_neg (by omega), if_pos (by omega)]
          unfold doM
          rw [e, if_pos e1]
        · by_cases e2 : j < i
          · rw [if_pos e2, if_pos (by omega)]
          · rw [if_neg e2, if_neg (by omega)]
  · obtain rfl : i = 4 := by have := of_decide_eq_false h; omega
    refine c_exit (x_out ?_)
    refine c_rs ?_
    refine qa ?_
    refine q_sp H.a4 stP_whole (m4G_one T) ?_
    intro w5 H z5
    refine l_nx ?_
    refine c_ret (ret_of ((defL _ _).trans hd) (res_c rfl Qv ManyK.out H.v4 (Nat.le_refl _)) ⟨D', T, y, hy, rfl, fun j hj => ?_, fun j hj => ?_, H.f4.tl.f3.tl⟩)
    · rw [hD j hj, if_pos hj]
    · rw [hT j hj, if_pos hj]

end Go.Proofs.YthimcecbgpamdaaGreat

namespace Go.Proofs.YthimcecbgpamdaaGreat
open Go.RowKit

theorem run_bld43 {f : Operand → Value} {o : Oper} (ho : o.op = .build 32 #[]) (w : World) : (execOp f o).run Tryz.prog w = .ok (.value (agV (fun _ => iV 0) 0 12)) w := by
  unfold execOp
  rw [ho]
  go_simp
  rfl
set_option maxHeartbeats 2000000 in
theorem nodeSense_ok : SnOK 33 := by
  intro n ao c frame rd w hok hag hfr hrd
  have hag : Sr w ao n.vA.length c (tF (bA n)) := hag
  refine enterF Tryz.func33 rfl 31 rfl (of_decide_eq_true rfl) (fun A hs hd hb => ?_)
  have b0 : A.eval (.tmp 0) = ndV n (.slice ao n.vA.length c) := hb 0 _ rfl
  have b1 : A.eval (.tmp 1) = .int .i64 frame := hb 1 _ rfl
  have b2 : A.eval (.tmp 2) = agV (fun a => iV (rd a)) 0 3 := hb 2 _ rfl
  clear hb
  refine c_rs (m_start ?_)
  refine m_do rfl (wanted_rd rfl) (fun K hK => ?_)
  refine wp_boxG _ _ _ rfl (ev_out rfl b0) (of_decide_eq_true rfl) ?_
  intro w1 m1 k1 z1
  have sr1 := hag.below k1
  refine hK _ _ ?_
  clear hK K
  refine m_do rfl (wanted_rd rfl) (fun K hK => ?_)
  refine wp_boxG _ _ _ rfl (ev_out rfl b2) (of_decide_eq_true rfl) ?_
  intro w2 m2 k2 z2
  have mn2 := m1.below k2
  have sr2 := sr1.below k2
  refine hK _ _ ?_
  clear hK K
  refine m_do rfl (wanted_rd rfl) (fun K hK => ?_)
  refine wp_allocG _ _ rfl zeroNd (of_decide_eq_true rfl) ?_
  intro w3 m3 k3 z3
  have mn3 := mn2.below k3
  have mrd3 := m2.below k3
  have sr3 := sr2.below k3
  refine hK _ _ ?_
  clear hK K
  refine m_do rfl (wanted_rd rfl) (fun K hK => ?_)
  refine wp_allocG _ _ rfl zeroMs (of_decide_eq_true rfl) ?_
  intro w4 m4 k4 z4
  have mn4 := mn3.below k4
  have mrd4 := mrd3.below k4
  have mr4 := m3.below k4
  have sr4 := sr3.below k4
  refine hK _ _ ?_
  clear hK K
  refine l_nx ?_
  refine c_rs ?_
  refine m_mv rfl (wanted_rd rfl) (run_loadP _ _ rfl manyNd (ev_in rfl (by omega)) mn4 (by decide)) ?_
  refine m_do rfl (wanted_rd rfl) (fun K hK => ?_)
  refine wp_call1 _ 58 _ _ rfl (ev_in rfl (by omega)) (enter_pown _ _) (own_any n ao c _ sr4 hok.vA) ?_
  rintro e w5 ⟨a3, c3, rfl, o5, k5⟩
  have n5 := k5.size
  have mn5 := mn4.below k5
  have mrd5 := mrd4.below k5
  have mr5 := mr4.below k5
  have mq5 := m4.below k5
  refine ⟨_, rfl, ?_⟩
  refine hK _ _ ?_
  clear hK K
  refine m_st (wanted_rd rfl) (fun K hK => ?_)
  refine wp_storeP _ _ _ _ rfl manyNd (ev_in rfl (by omega)) (ev_in rfl (by omega)) mn5 (by decide) (ndF_one _ _ _ _) rfl ?_
  intro w6 mm6 k6 z6
  have mn6 := Vh.congr mm6 (stP_all _ _)
  have mrd6 := mrd5.kept k6 (by omega)
  have mr6 := mr5.kept k6 (by omega)
  have mq6 := mq5.kept k6 (by omega)
  have ow6 := rw_kept o5 k6 (fun e => by have e1 := (o5.lt _ e).1; have e2 := (o5.lt _ e).2; omega)
  refine hK _ ?_
  clear hK K
  refine l_nx ?_
  refine c_nx ?_
  refine c_rs ?_
  refine m_mv rfl (wanted_rd rfl) (fldNd0 rfl (ev_in rfl (by omega)) _) ?_
  refine m_mv rfl (wanted_rd rfl) (run_lod1 _ _ rfl oneI (ev_in rfl (by omega)) mn6 (by decide) rfl) ?_
  refine m_do rfl (wanted_rd rfl) (fun K hK => ?_)
  refine wp_call1 _ 59 _ _ rfl (ev_in rfl (by omega)) (enter_pisNode _ _) (isNode_any n.id _) ?_
  rintro e w7 ⟨rfl, k7⟩
  have n7 := k7.size
  have mn7 := mn6.below k7
  have mrd7 := mrd6.below k7
  have mr7 := mr6.below k7
  have mq7 := mq6.below k7
  have ow7 := rw_below ow6 k7
  refine ⟨_, rfl, ?_⟩
  refine hK _ _ ?_
  clear hK K
  refine m_mv rfl (wanted_rd rfl) (run_notB _ _ rfl (ev_in rfl (by omega)) _) ?_
  refine l_nx ?_
  have kA : Below w.heap.size w w7 := (below_of_kept (((((k1).trans (k2.mono (by omega))).trans (k3.mono (by omega))).trans (k4.mono (by omega))).trans (k5.mono (by omega))) k6 (by omega) (by omega)).trans (k7.mono (by omega))
  refine c_cond (t := noN n.id) ((ev_in rfl (by omega)).trans (by rw [Bool.not_not])) (fun hno => ?_) (fun hno => ?_)
  · refine c_rs ?_
    refine m_mv rfl (wanted_rd rfl) (run_loadP _ _ rfl manyNd (ev_in rfl (by omega)) mn7 (by decide)) ?_
    refine m_mv rfl (wanted_rd rfl) (run_bld0 rfl _) ?_
    refine m_st (wanted_rd rfl) (fun K hK => ?_)
    refine wp_storeP _ _ _ _ rfl manyNd (ev_in rfl (by omega)) (ev_in rfl (by omega)) mr7 (by decide) (ndF_one _ _ _ _) rfl ?_
    intro w8 mm8 k8 z8
    have mr8 := Vh.congr mm8 (stP_all _ _)
    have mn8 := mn7.kept k8 (by omega)
    have mrd8 := mrd7.kept k8 (by omega)
    have mq8 := mq7.kept k8 (by omega)
    have ow8 := rw_kept ow7 k8 (fun e => by have e1 := (o5.lt _ e).1; have e2 := (o5.lt _ e).2; omega)
    refine hK _ ?_
    clear hK K
    refine m_st (wanted_rd rfl) (fun K hK => ?_)
    refine wp_storeP _ _ _ _ rfl manyMs (ev_in rfl (by omega)) (ev_in rfl (by omega)) mq8 (by decide) (msF_one _ _ _ _ _ _) rfl ?_
    intro w9 mm9 k9 z9
    have mq9 := Vh.congr mm9 (stP_all4 _ _)
    have mn9 := mn8.kept k9 (by omega)
    have mrd9 := mrd8.kept k9 (by omega)
    have mr9 := mr8.kept k9 (by omega)
    have ow9 := rw_kept ow8 k9 (fun e => by have e1 := (o5.lt _ e).1; have e2 := (o5.lt _ e).2; omega)
    refine hK _ ?_
    clear hK K
    refine l_nx ?_
    refine c_ret ?_
    simp only [Nx, Exit.then]
    refine ret_of ((defL _ _).trans hd) (res_cc rfl (ev_in rfl (by omega)) (ev_in rfl (by omega)) manyNd manyMs mr9 (Nat.le_refl _) mq9 (Nat.le_refl _)) ⟨a3, c3, none, 0, ?_, rw_base ow9 (by omega), ?_, ?_⟩
    · unfold senN senM
      rw [if_pos hno, if_pos hno]
      rfl
    · unfold VaNew senM
      rw [if_pos hno]
      exact World.ownsRow_nil _ _ _ _
    · exact below_of_kept (below_of_kept kA k8 (by omega) (by omega)) k9 (by omega) (by omega)
  · obtain ⟨h0, h3⟩ := noN_in hno
    obtain ⟨I, hI⟩ : ∃ I : Nat, n.id = (I : Int) := ⟨n.id.toNat, by omega⟩
    have hi4 : I < 4 := by omega
    refine c_fin ?_
    refine c_rs ?_
    refine m_mv rfl (wanted_rd rfl) (run_move _ rfl (ev_out rfl b1) _) ?_
    refine m_mv rfl (wanted_rd rfl) (fldNd1 rfl (ev_in rfl (by omega)) _) ?_
    refine m_st (wanted_rd rfl) (fun K hK => ?_)
    refine wp_sto1 _ _ _ _ rfl oneI (ev_in rfl (by omega)) (ev_in rfl (by omega)) mn7 (by decide) rfl rfl rfl ?_
    intro w8 mm8 k8 z8
    have mn8 := Vh.congr mm8 (upd_fr _ _ _)
    have mrd8 := mrd7.kept k8 (by omega)
    have mr8 := mr7.kept k8 (by omega)
    have mq8 := mq7.kept k8 (by omega)
    have ow8 := rw_kept ow7 k8 (fun e => by have e1 := (o5.lt _ e).1; have e2 := (o5.lt _ e).2; omega)
    refine hK _ ?_
    clear hK K
    refine l_nx ?_
    refine c_rs ?_
    refine m_mv rfl (wanted_rd rfl) (run_bld43 rfl _) ?_
    refine m_mv rfl (wanted_rd rfl) (fldNd5 rfl (ev_in rfl (by omega)) _) ?_
    refine m_st (wanted_rd rfl) (fun K hK => ?_)
    refine wp_storeP _ _ _ _ rfl many43 (ev_in rfl (by omega)) (ev_in rfl (by omega)) mn8 (by decide) (fun j hj => rfl) rfl ?_
    intro w9 mm9 k9 z9
    have mn9 := Vh.congr mm9 (upd_di _ _ (fun _ _ => 0))
    have mrd9 := mrd8.kept k9 (by omega)
    have mr9 := mr8.kept k9 (by omega)
    have mq9 := mq8.kept k9 (by omega)
    have ow9 := rw_kept ow8 k9 (fun e => by have e1 := (o5.lt _ e).1; have e2 := (o5.lt _ e).2; omega)
    refine hK _ ?_
    clear hK K
    refine l_nx ?_
    refine c_rs ?_
    refine m_mv rfl (wanted_rd rfl) (fldNd0 rfl (ev_in rfl (by omega)) _) ?_
    refine m_mv rfl (wanted_rd rfl) (run_lod1 _ _ rfl oneI (ev_in rfl (by omega)) mn9 (by decide) rfl) ?_
    refine m_mv rfl (wanted_rd rfl) (run_loadP _ _ rfl many3 (ev_in rfl (by omega)) mrd9 (by decide)) ?_
    refine m_mv rfl (wanted_rd rfl) (fldNd5 rfl (ev_in rfl (by omega)) _) ?_
    refine m_mv rfl (wanted_rd rfl) (run_ixG _ _ _ _ rfl Tryz.underlying32 many3.size (ev_in rfl (by omega)) (ev_in rfl (by omega)) hI hi4 _) ?_
    refine m_st (wanted_rd rfl) (fun K hK => ?_)
    refine wp_storeP _ _ _ _ rfl many3 (ev_in rfl (by omega)) (ev_in rfl (by omega)) mn9 (by omega) (fun j hj => rfl) rfl ?_
    intro w10 mm10 k10 z10
    have mn10 := Vh.congr mm10 (upd_drAt _ _ rd I hi4)
    have mrd10 := mrd9.kept k10 (by omega)
    have mr10 := mr9.kept k10 (by omega)
    have mq10 := mq9.kept k10 (by omega)
    have ow10 := rw_kept ow9 k10 (fun e => by have e1 := (o5.lt _ e).1; have e2 := (o5.lt _ e).2; omega)
    refine hK _ ?_
    clear hK K
    refine l_nx ?_
    refine c_rs ?_
    refine m_mv rfl (wanted_rd rfl) (run_bld4 rfl _) ?_
    refine m_mv rfl (wanted_rd rfl) (fldNd6 rfl (ev_in rfl (by omega)) _) ?_
    refine m_st (wanted_rd rfl) (fun K hK => ?_)
    refine wp_storeP _ _ _ _ rfl many4 (ev_in rfl (by omega)) (ev_in rfl (by omega)) mn10 (by decide) (fun j hj => rfl) rfl ?_
    intro w11 mm11 k11 z11
    have mn11 := Vh.congr mm11 (upd_he _ _ (fun _ => 0))
    have mrd11 := mrd10.kept k11 (by omega)
    have mr11 := mr10.kept k11 (by omega)
    have mq11 := mq10.kept k11 (by omega)
    have ow11 := rw_kept ow10 k11 (fun e => by have e1 := (o5.lt _ e).1; have e2 := (o5.lt _ e).2; omega)
    refine hK _ ?_
    clear hK K
    refine l_nx ?_
    refine c_nx ?_
    have hS0 : (fun W => Vh 37 W w.heap.size 74 74 (ndF { n with fr := frame, di := fun s a => if s = I then rd a else 0, he := fun _ => 0 } (.slice a3 n.vA.length c3))) w11.drew := mn11
    have mn0 : Vh _ w11.drew _ _ _ _ := mn11
    have mrd0 : Vh _ w11.drew _ _ _ _ := mrd11
    have mr0 : Vh _ w11.drew _ _ _ _ := mr11
    have mq0 : Vh _ w11.drew _ _ _ _ := mq11
    have ow0 := (show World.ownsRow w11.drew _ _ _ _ _ _ from ow11)
    have ez : w11.drew.heap.size = w11.heap.size := rfl
    refine c_rj (S := fun W => Vh 37 W w.heap.size 74 74 (ndF { n with fr := frame, di := fun s a => if s = I then rd a else 0, he := fun _ => 0 } (.slice a3 n.vA.length c3))) (.rd 0 (.rd 1 (.mv 2 (.go 3 (.go 4 (.go 5 .fin)))))) [] (by kernel_rfl) (by kernel_rfl) ?_
    refine j_rd rfl rfl (fun _ _ _ h => h) (wanted_rd rfl) hS0 (fun _ hS => run_loadP _ _ rfl manyNd (ev_in rfl (by omega)) hS (by decide)) ?_
    refine j_rd rfl rfl (fun _ _ _ h => h) (wanted_rd rfl) hS0 (fun _ hS => run_loadP _ _ rfl manyNd (ev_in rfl (by omega)) hS (by decide)) ?_
    refine j_mv rfl rfl (fun _ _ _ h => h) (wanted_rd rfl) (fun _ => run_cutI3 _ rfl (ev_in rfl (by omega)) _) ?_
    refine j_do rfl rfl (wanted_rd rfl) (fun K hK => ?_)
    refine wp_call3n _ 60 _ _ _ _ rfl (ev_in rfl (by omega)) (ev_const _ _) (ev_in rfl (by omega)) (enter_ptell _ _ _ _) (tell_any { n with fr := frame, di := fun s a => if s = I then rd a else 0, he := fun _ => 0 } (.slice a3 n.vA.length c3) 1 (some ⟨w1.heap.size, 0, none⟩) 3 3 rd _ (Or.inr ⟨_, rfl, fun i hi => by rw [add_at, Nat.zero_add]; exact mrd0.cell hi⟩) (by decide)) ?_
    rintro e w12 ⟨a2, c2, rfl, ov12, k12⟩
    have n12 := k12.size
    have mn12 := hS0.below k12
    have mrd12 := mrd0.below k12
    have mr12 := mr0.below k12
    have mq12 := mq0.below k12
    have ow12 := rw_below ow0 k12
    have hS12 : (fun W => Vh 37 W w.heap.size 74 74 (ndF { n with fr := frame, di := fun s a => if s = I then rd a else 0, he := fun _ => 0 } (.slice a3 n.vA.length c3))) w12 := mn12
    refine ⟨_, rfl, ?_⟩
    refine hK _ _ (fun _ _ => hS12) ?_
    clear hK K
    refine j_st rfl (wanted_rd rfl) (fun K hK => ?_)
    refine wp_storeP _ _ _ _ rfl manyNd (ev_in rfl (by omega)) (ev_in rfl (by omega)) mr12 (by decide) (ndF_one _ _ _ _) rfl ?_
    intro w13 mm13 k13 z13
    have mr13 := Vh.congr mm13 (stP_all _ _)
    have mn13 := mn12.kept k13 (by omega)
    have mrd13 := mrd12.kept k13 (by omega)
    have mq13 := mq12.kept k13 (by omega)
    have ow13 := rw_kept ow12 k13 (fun e => by have e1 := (o5.lt _ e).1; have e2 := (o5.lt _ e).2; omega)
    have ov13 := rw_under ov12 k13 (by omega)
    have hS13 : (fun W => Vh 37 W w.heap.size 74 74 (ndF { n with fr := frame, di := fun s a => if s = I then rd a else 0, he := fun _ => 0 } (.slice a3 n.vA.length c3))) w13 := mn13
    refine hK _ (fun _ _ => hS13) ?_
    clear hK K
    refine j_st rfl (wanted_rd rfl) (fun K hK => ?_)
    refine wp_storeP _ _ _ _ rfl manyMs (ev_in rfl (by omega)) (ev_in rfl (by omega)) mq13 (by decide) (msF_one _ _ _ _ _ _) rfl ?_
    intro w14 mm14 k14 z14
    have mq14 := Vh.congr mm14 (stP_all4 _ _)
    have mn14 := mn13.kept k14 (by omega)
    have mrd14 := mrd13.kept k14 (by omega)
    have mr14 := mr13.kept k14 (by omega)
    have ow14 := rw_kept ow13 k14 (fun e => by have e1 := (o5.lt _ e).1; have e2 := (o5.lt _ e).2; omega)
    have ov14 := rw_under ov13 k14 (by omega)
    have hS14 : (fun W => Vh 37 W w.heap.size 74 74 (ndF { n with fr := frame, di := fun s a => if s = I then rd a else 0, he := fun _ => 0 } (.slice a3 n.vA.length c3))) w14 := mn14
    refine hK _ (fun _ _ => hS14) ?_
    clear hK K
    refine j_nx ?_
    refine c_ret ?_
    have e1 : senN n frame rd = { n with fr := frame, di := fun s a => if s = I then rd a else 0, he := fun _ => 0 } := by
      unfold senN
      rw [if_neg (by rw [hno]; decide)]
      congr 1
      funext s a
      rw [hI]
      by_cases c : s = I
      · rw [if_pos c, if_pos (by omega)]
      · rw [if_neg c, if_neg (by omega)]
    have e2 : senM n frame rd = ⟨1, n.id, frame, [rd 0, rd 1, rd 2]⟩ := by unfold senM; rw [if_neg (by rw [hno]; decide)]
    rw [e1, e2]
    refine ret_of ((defL _ _).trans hd) (res_cc rfl (ev_in rfl (by omega)) (ev_in rfl (by omega)) manyNd manyMs mr14 (Nat.le_refl _) mq14 (Nat.le_refl _)) ⟨a3, c3, a2, c2, rfl, rw_base ow14 (by omega), rw_base ov14 (by omega), below_of_kept (below_of_kept ((below_drew (below_of_kept (below_of_kept (below_of_kept (below_of_kept (kA) k8 (by omega) (by omega)) k9 (by omega) (by omega)) k10 (by omega) (by omega)) k11 (by omega) (by omega))).trans (k12.mono (by omega))) k13 (by omega) (by omega)) k14 (by omega) (by omega)⟩

end Go.Proofs.YthimcecbgpamdaaGreat

namespace Go.Proofs.YthimcecbgpamdaaGreat
open Go.RowKit

theorem gL_ext {k l : List Int} (h : k.length = l.length) (hg : ∀ j, j < k.length → gL k j = gL l j) : k = l := by
  refine List.ext_getElem h (fun j h1 h2 => ?_)
  have := hg j h1
  unfold gL at this
  rw [List.getD_eq_getElem?_getD, List.getElem?_eq_getElem h1, List.getD_eq_getElem?_getD, List.getElem?_eq_getElem h2] at this
  exact this
theorem enter_eqInts (x y : Value) (w : World) : (callFunc 109 #[x, y]).run Tryz.prog w = .ok (.enter 109 #[x, y]) w := by go_simp
set_option maxHeartbeats 1000000 in
theorem eqInts_any (k l : List Int) (ao bo : Option Addr) (ac bc : Nat) (w : World) (hk : k.length ≤ 140737488351232) (hka : Sr w ao k.length ac (iF (gL k))) (hlb : Sr w bo l.length bc (iF (gL l))) :
    Calls Tryz.prog 109 #[.slice ao k.length ac, .slice bo l.length bc] w fun e w' => e = .returned (.bool (decide (k = l))) ∧ Below w.heap.size w w' := by
  refine enterF Tryz.func109 rfl 26 rfl (of_decide_eq_true rfl) (fun A hs hd hb => ?_)
  have b0 : A.eval (.tmp 0) = .slice ao k.length ac := hb 0 _ rfl
  have b1 : A.eval (.tmp 1) = .slice bo l.length bc := hb 1 _ rfl
  clear hb
  refine c_rs (m_start ?_)
  refine m_mv rfl (wanted_rd rfl) (run_assign _ rfl (ev_const _ _) _) ?_
  refine l_nx ?_
  refine c_nx ?_
  refine c_rs ?_
  by_cases hne : k.length = l.length
  · refine m_mv rfl (wanted_rd rfl) (run_move _ rfl (ev_out rfl b0) _) ?_
    refine m_mv rfl (wanted_rd rfl) (run_lenI _ rfl (ev_in rfl (by omega)) _) ?_
    refine m_mv rfl (wanted_rd rfl) (run_move _ rfl (ev_out rfl b1) _) ?_
    refine m_mv rfl (wanted_rd rfl) (run_lenI _ rfl (ev_in rfl (by omega)) _) ?_
    refine m_mv rfl (wanted_rd rfl) (run_neqI (b := false) _ _ rfl (ev_in rfl (by omega)) (ev_in rfl (by omega)) (decide_eq_false (by omega)) _) ?_
    refine l_nx ?_
    refine c_false (ev_in rfl (by omega)) (c_fin ?_)
    refine c_nx ?_
    refine c_rs ?_
    refine m_mv rfl (wanted_rd rfl) (run_move _ rfl (ev_out rfl b0) _) ?_
    refine m_mv rfl (wanted_rd rfl) (run_lenI _ rfl (ev_in rfl (by omega)) _) ?_
    refine m_mv rfl (wanted_rd rfl) (run_move _ rfl (ev_const _ _) _) ?_
    refine l_nx ?_
    refine c_block ?_
    refine c_loop (fun q A W => ∃ i : Nat, i ≤ k.length ∧ k.length - i ≤ q ∧ A.tmps.size = 26 ∧ A.defers = [] ∧ A.eval (.tmp 0) = .slice ao k.length ac ∧ A.eval (.tmp 1) = .slice bo l.length bc ∧ A.eval (.tmp 12) = .int .i64 ((k.length : Nat) : Int) ∧ A.eval (.tmp 13) = .int .i64 (i : Int) ∧ (∀ j, j < i → gL k j = gL l j) ∧ Below w.heap.size w W) k.length ⟨0, Nat.zero_le _, by omega, (szL _ _).trans hs, (defL _ _).trans hd, (ev_out rfl b0), (ev_out rfl b1), (ev_in rfl (by omega)), (ev_in rfl (by omega)), fun j h => absurd h (by omega), Below.refl _ _⟩ (fun q B W hI2 => ?_)
    clear b0 b1 hs hd
    obtain ⟨i, hi, hr2, hs, hd, b0, b1, b12, b13, hal, kB⟩ := hI2
    by_cases hin : i < k.length
    · obtain ⟨x, rfl, hx⟩ : ∃ x, ao = some x ∧ ∀ i, i < k.length → w.cell? (x.add i) = some (.int .i64 (gL k i)) := by
        rcases hka with ⟨_, e, _⟩ | ⟨x, e, hc⟩
        · omega
        · exact ⟨x, e, fun i hi => hc i hi⟩
      obtain ⟨y, rfl, hy⟩ : ∃ y, bo = some y ∧ ∀ i, i < l.length → w.cell? (y.add i) = some (.int .i64 (gL l i)) := by
        rcases hlb with ⟨_, e, _⟩ | ⟨y, e, hc⟩
        · omega
        · exact ⟨y, e, fun i hi => hc i hi⟩
      by_cases hd2 : gL k i = gL l i
      · refine c_rs (m_start ?_)
        refine m_mv rfl (wanted_rd rfl) (run_lssI (b := true) _ _ rfl (ev_out rfl b13) (ev_out rfl b12) (decide_eq_true (by omega)) _) ?_
        refine l_nx ?_
        refine c_nx (c_true (ev_in rfl (by omega)) (c_fin ?_))
        refine c_nx (c_block ?_)
        refine c_rs ?_
        refine m_mv rfl (wanted_rd rfl) (run_move _ rfl (ev_out rfl b13) _) ?_
        refine m_mv rfl (wanted_rd rfl) (run_assign _ rfl (ev_in rfl (by omega)) _) ?_
        refine l_nx ?_
        refine c_nx ?_
        have hS0 : (fun Z => Z.cell? (x.add i) = some (.int .i64 (gL k i)) ∧ Z.cell? (y.add i) = some (.int .i64 (gL l i))) W.drew := ⟨at_below (hx i hin) (below_drew kB), at_below (hy i (by omega)) (below_drew kB)⟩
        have ez : W.drew.heap.size = W.heap.size := rfl
        refine c_rj (S := fun Z => Z.cell? (x.add i) = some (.int .i64 (gL k i)) ∧ Z.cell? (y.add i) = some (.int .i64 (gL l i))) (.mv 0 (.mv 1 (.mv 2 (.rd 3 (.mv 4 (.mv 5 (.mv 6 (.rd 7 (.mv 8 .fin))))))))) [] (by kernel_rfl) (by kernel_rfl) ?_
        refine j_mv rfl rfl (fun _ _ _ h => h) (wanted_rd rfl) (fun _ => run_move _ rfl (ev_out rfl b0) _) ?_
        refine j_mv rfl rfl (fun _ _ _ h => h) (wanted_rd rfl) (fun _ => run_move _ rfl (ev_in rfl (by omega)) _) ?_
        refine j_mv rfl rfl (fun _ _ _ h => h) (wanted_rd rfl) (fun _ => run_ixN _ _ rfl (a := x) (n := k.length) (cap := ac) (ev_in rfl (by omega)) (ev_in rfl (by omega)) (i := i) rfl (by omega) _) ?_
        refine j_rd rfl rfl (fun _ _ _ h => h) (wanted_rd rfl) hS0 (fun _ hS => run_ldI _ rfl (ev_in rfl (by omega)) hS.1) ?_
        refine j_mv rfl rfl (fun _ _ _ h => h) (wanted_rd rfl) (fun _ => run_move _ rfl (ev_out rfl b1) _) ?_
        refine j_mv rfl rfl (fun _ _ _ h => h) (wanted_rd rfl) (fun _ => run_move _ rfl (ev_in rfl (by omega)) _) ?_
        refine j_mv rfl rfl (fun _ _ _ h => h) (wanted_rd rfl) (fun _ => run_ixN _ _ rfl (a := y) (n := l.length) (cap := bc) (ev_in rfl (by omega)) (ev_in rfl (by omega)) (i := i) rfl (by omega) _) ?_
        refine j_rd rfl rfl (fun _ _ _ h => h) (wanted_rd rfl) hS0 (fun _ hS => run_ldI _ rfl (ev_in rfl (by omega)) hS.2) ?_
        refine j_mv rfl rfl (fun _ _ _ h => h) (wanted_rd rfl) (fun _ => run_neqI (b := false) _ _ rfl (ev_in rfl (by omega)) (ev_in rfl (by omega)) (decide_eq_false (fun e => e hd2)) _) ?_
        refine j_nx ?_
        refine c_false (ev_in rfl (by omega)) (c_finB ?_)
        refine c_region ?_
        refine m_mv rfl (wanted_rd rfl) (run_addI _ _ rfl (ev_out rfl b13) (ev_const _ _) (by omega) (by omega) _) ?_
        refine m_mv rfl (wanted_rd rfl) (run_move _ rfl (ev_in rfl (by omega)) _) ?_
        exact l_round ⟨k.length - (i + 1), by omega, i + 1, by omega, by omega, (szL _ _).trans hs, (defL _ _).trans hd, (ev_out rfl b0), (ev_out rfl b1), (ev_out rfl b12), (ev_in rfl (by omega)).trans (by rw [Int.natCast_add]; rfl), (fun j hj => by
          by_cases e : j = i
          · rw [e]; exact hd2
          · exact hal j (by omega)), below_drew kB⟩
      · refine c_rs (m_start ?_)
        refine m_mv rfl (wanted_rd rfl) (run_lssI (b := true) _ _ rfl (ev_out rfl b13) (ev_out rfl b12) (decide_eq_true (by omega)) _) ?_
        refine l_nx ?_
        refine c_nx (c_true (ev_in rfl (by omega)) (c_fin ?_))
        refine c_nx (c_block ?_)
        refine c_rs ?_
        refine m_mv rfl (wanted_rd rfl) (run_move _ rfl (ev_out rfl b13) _) ?_
        refine m_mv rfl (wanted_rd rfl) (run_assign _ rfl (ev_in rfl (by omega)) _) ?_
        refine l_nx ?_
        refine c_nx ?_
        have hS0 : (fun Z => Z.cell? (x.add i) = some (.int .i64 (gL k i)) ∧ Z.cell? (y.add i) = some (.int .i64 (gL l i))) W.drew := ⟨at_below (hx i hin) (below_drew kB), at_below (hy i (by omega)) (below_drew kB)⟩
        have ez : W.drew.heap.size = W.heap.size := rfl
        refine c_rj (S := fun Z => Z.cell? (x.add i) = some (.int .i64 (gL k i)) ∧ Z.cell? (y.add i) = some (.int .i64 (gL l i))) (.mv 0 (.mv 1 (.mv 2 (.rd 3 (.mv 4 (.mv 5 (.mv 6 (.rd 7 (.mv 8 .fin))))))))) [] (by kernel_rfl) (by kernel_rfl) ?_
        refine j_mv rfl rfl (fun _ _ _ h => h) (wanted_rd rfl) (fun _ => run_move _ rfl (ev_out rfl b0) _) ?_
        refine j_mv rfl rfl (fun _ _ _ h => h) (wanted_rd rfl) (fun _ => run_move _ rfl (ev_in rfl (by omega)) _) ?_
        refine j_mv rfl rfl (fun _ _ _ h => h) (wanted_rd rfl) (fun _ => run_ixN _ _ rfl (a := x) (n := k.length) (cap := ac) (ev_in rfl (by omega)) (ev_in rfl (by omega)) (i := i) rfl (by omega) _) ?_
        refine j_rd rfl rfl (fun _ _ _ h => h) (wanted_rd rfl) hS0 (fun _ hS => run_ldI _ rfl (ev_in rfl (by omega)) hS.1) ?_
        refine j_mv rfl rfl (fun _ _ _ h => h) (wanted_rd rfl) (fun _ => run_move _ rfl (ev_out rfl b1) _) ?_
        refine j_mv rfl rfl (fun _ _ _ h => h) (wanted_rd rfl) (fun _ => run_move _ rfl (ev_in rfl (by omega)) _) ?_
        refine j_mv rfl rfl (fun _ _ _ h => h) (wanted_rd rfl) (fun _ => run_ixN _ _ rfl (a := y) (n := l.length) (cap := bc) (ev_in rfl (by omega)) (ev_in rfl (by omega)) (i := i) rfl (by omega) _) ?_
        refine j_rd rfl rfl (fun _ _ _ h => h) (wanted_rd rfl) hS0 (fun _ hS => run_ldI _ rfl (ev_in rfl (by omega)) hS.2) ?_
        refine j_mv rfl rfl (fun _ _ _ h => h) (wanted_rd rfl) (fun _ => run_neqI (b := true) _ _ rfl (ev_in rfl (by omega)) (ev_in rfl (by omega)) (decide_eq_true hd2) _) ?_
        refine j_nx ?_
        refine c_true (ev_in rfl (by omega)) ?_
        refine c_rs ?_
        refine m_mv rfl (wanted_rd rfl) (run_assign _ rfl (ev_const _ _) _) ?_
        refine l_nx ?_
        refine c_ret ?_
        simp only [Nx, Exit.inBlock, Exit.then]
        refine ret_of ((defL _ _).trans hd) (res_t rfl (ev_in rfl (by omega))) ⟨?_, below_drew kB⟩
        rw [decide_eq_false (fun e => hd2 (by rw [e]))]
    · refine c_rs (m_start ?_)
      refine m_mv rfl (wanted_rd rfl) (run_lssI (b := false) _ _ rfl (ev_out rfl b13) (ev_out rfl b12) (decide_eq_false (by omega)) _) ?_
      refine l_nx ?_
      refine c_nx (c_false (ev_in rfl (by omega)) (c_exit (x_out ?_)))
      refine c_rs ?_
      refine m_mv rfl (wanted_rd rfl) (run_assign _ rfl (ev_const _ _) _) ?_
      refine l_nx ?_
      refine c_ret (ret_of ((defL _ _).trans hd) (res_t rfl (ev_in rfl (by omega))) ⟨?_, kB⟩)
      rw [decide_eq_true (gL_ext hne (fun j hj => hal j (by omega)))]
  · refine m_mv rfl (wanted_rd rfl) (run_move _ rfl (ev_out rfl b0) _) ?_
    refine m_mv rfl (wanted_rd rfl) (run_lenI _ rfl (ev_in rfl (by omega)) _) ?_
    refine m_mv rfl (wanted_rd rfl) (run_move _ rfl (ev_out rfl b1) _) ?_
    refine m_mv rfl (wanted_rd rfl) (run_lenI _ rfl (ev_in rfl (by omega)) _) ?_
    refine m_mv rfl (wanted_rd rfl) (run_neqI (b := true) _ _ rfl (ev_in rfl (by omega)) (ev_in rfl (by omega)) (decide_eq_true (by omega)) _) ?_
    refine l_nx ?_
    refine c_true (ev_in rfl (by omega)) ?_
    refine c_rs ?_
    refine m_mv rfl (wanted_rd rfl) (run_assign _ rfl (ev_const _ _) _) ?_
    refine l_nx ?_
    refine c_ret ?_
    simp only [Nx, Exit.then]
    refine ret_of ((defL _ _).trans hd) (res_t rfl (ev_in rfl (by omega))) ⟨?_, Below.refl _ _⟩
    rw [decide_eq_false (fun e => hne (by rw [e]))]
theorem enter_rsints (x y : Value) (w : World) : (callFunc 52 #[x, y]).run Tryz.prog w = .ok (.enter 52 #[x, y]) w := by go_simp
set_option maxHeartbeats 1000000 in
theorem refSameInts_any (k l : List Int) (ao bo : Option Addr) (ac bc : Nat) (w : World) (hk : k.length ≤ 140737488351232) (hka : Sr w ao k.length ac (iF (gL k))) (hlb : Sr w bo l.length bc (iF (gL l))) :
    Calls Tryz.prog 52 #[.slice ao k.length ac, .slice bo l.length bc] w fun e w' => e = .returned (.bool (decide (k = l))) ∧ Below w.heap.size w w' := by
  refine enterF Tryz.func52 rfl 26 rfl (of_decide_eq_true rfl) (fun A hs hd hb => ?_)
  have b0 : A.eval (.tmp 0) = .slice ao k.length ac := hb 0 _ rfl
  have b1 : A.eval (.tmp 1) = .slice bo l.length bc := hb 1 _ rfl
  clear hb
  refine c_rs (m_start ?_)
  refine m_mv rfl (wanted_rd rfl) (run_assign _ rfl (ev_const _ _) _) ?_
  refine l_nx ?_
  refine c_nx ?_
  refine c_rs ?_
  by_cases hne : k.length = l.length
  · refine m_mv rfl (wanted_rd rfl) (run_move _ rfl (ev_out rfl b0) _) ?_
    refine m_mv rfl (wanted_rd rfl) (run_lenI _ rfl (ev_in rfl (by omega)) _) ?_
    refine m_mv rfl (wanted_rd rfl) (run_move _ rfl (ev_out rfl b1) _) ?_
    refine m_mv rfl (wanted_rd rfl) (run_lenI _ rfl (ev_in rfl (by omega)) _) ?_
    refine m_mv rfl (wanted_rd rfl) (run_neqI (b := false) _ _ rfl (ev_in rfl (by omega)) (ev_in rfl (by omega)) (decide_eq_false (by omega)) _) ?_
    refine l_nx ?_
    refine c_false (ev_in rfl (by omega)) (c_fin ?_)
    refine c_nx ?_
    refine c_rs ?_
    refine m_mv rfl (wanted_rd rfl) (run_move _ rfl (ev_out rfl b0) _) ?_
    refine m_mv rfl (wanted_rd rfl) (run_lenI _ rfl (ev_in rfl (by omega)) _) ?_
    refine m_mv rfl (wanted_rd rfl) (run_move _ rfl (ev_const _ _) _) ?_
    refine l_nx ?_
    refine c_block ?_
    refine c_loop (fun q A W => ∃ i : Nat, i ≤ k.length ∧ k.length - i ≤ q ∧ A.tmps.size = 26 ∧ A.defers = [] ∧ A.eval (.tmp 0) = .slice ao k.length ac ∧ A.eval (.tmp 1) = .slice bo l.length bc ∧ A.eval (.tmp 12) = .int .i64 ((k.length : Nat) : Int) ∧ A.eval (.tmp 13) = .int .i64 (i : Int) ∧ (∀ j, j < i → gL k j = gL l j) ∧ Below w.heap.size w W) k.length ⟨0, Nat.zero_le _, by omega, (szL _ _).trans hs, (defL _ _).trans hd, (ev_out rfl b0), (ev_out rfl b1), (ev_in rfl (by omega)), (ev_in rfl (by omega)), fun j h => absurd h (by omega), Below.refl _ _⟩ (fun q B W hI2 => ?_)
    clear b0 b1 hs hd
    obtain ⟨i, hi, hr2, hs, hd, b0, b1, b12, b13, hal, kB⟩ := hI2
    by_cases hin : i < k.length
    · obtain ⟨x, rfl, hx⟩ : ∃ x, ao = some x ∧ ∀ i, i < k.length → w.cell? (x.add i) = some (.int .i64 (gL k i)) := by
        rcases hka with ⟨_, e, _⟩ | ⟨x, e, hc⟩
        · omega
        · exact ⟨x, e, fun i hi => hc i hi⟩
      obtain ⟨y, rfl, hy⟩ : ∃ y, bo = some y ∧ ∀ i, i < l.length → w.cell? (y.add i) = some (.int .i64 (gL l i)) := by
        rcases hlb with ⟨_, e, _⟩ | ⟨y, e, hc⟩
        · omega
        · exact ⟨y, e, fun i hi => hc i hi⟩
      by_cases hd2 : gL k i = gL l i
      · refine c_rs (m_start ?_)
        refine m_mv rfl (wanted_rd rfl) (run_lssI (b := true) _ _ rfl (ev_out rfl b13) (ev_out rfl b12) (decide_eq_true (by omega)) _) ?_
        refine l_nx ?_
        refine c_nx (c_true (ev_in rfl (by omega)) (c_fin ?_))
        refine c_nx (c_block ?_)
        refine c_rs ?_
        refine m_mv rfl (wanted_rd rfl) (run_move _ rfl (ev_out rfl b13) _) ?_
        refine m_mv rfl (wanted_rd rfl) (run_assign _ rfl (ev_in rfl (by omega)) _) ?_
        refine l_nx ?_
        refine c_nx ?_
        have hS0 : (fun Z => Z.cell? (x.add i) = some (.int .i64 (gL k i)) ∧ Z.cell? (y.add i) = some (.int .i64 (gL l i))) W.drew := ⟨at_below (hx i hin) (below_drew kB), at_below (hy i (by omega)) (below_drew kB)⟩
        have ez : W.drew.heap.size = W.heap.size := rfl
        refine c_rj (S := fun Z => Z.cell? (x.add i) = some (.int .i64 (gL k i)) ∧ Z.cell? (y.add i) = some (.int .i64 (gL l i))) (.mv 0 (.mv 1 (.mv 2 (.rd 3 (.mv 4 (.mv 5 (.mv 6 (.rd 7 (.mv 8 .fin))))))))) [] (by kernel_rfl) (by kernel_rfl) ?_
        refine j_mv rfl rfl (fun _ _ _ h => h) (wanted_rd rfl) (fun _ => run_move _ rfl (ev_out rfl b0) _) ?_
        refine j_mv rfl rfl (fun _ _ _ h => h) (wanted_rd rfl) (fun _ => run_move _ rfl (ev_in rfl (by omega)) _) ?_
        refine j_mv rfl rfl (fun _ _ _ h => h) (wanted_rd rfl) (fun _ => run_ixN _ _ rfl (a := x) (n := k.length) (cap := ac) (ev_in rfl (by omega)) (ev_in rfl (by omega)) (i := i) rfl (by omega) _) ?_
        refine j_rd rfl rfl (fun _ _ _ h => h) (wanted_rd rfl) hS0 (fun _ hS => run_ldI _ rfl (ev_in rfl (by omega)) hS.1) ?_
        refine j_mv rfl rfl (fun _ _ _ h => h) (wanted_rd rfl) (fun _ => run_move _ rfl (ev_out rfl b1) _) ?_
        refine j_mv rfl rfl (fun _ _ _ h => h) (wanted_rd rfl) (fun _ => run_move _ rfl (ev_in rfl (by omega)) _) ?_
        refine j_mv rfl rfl (fun _ _ _ h => h) (wanted_rd rfl) (fun _ => run_ixN _ _ rfl (a := y) (n := l.length) (cap := bc) (ev_in rfl (by omega)) (ev_in rfl (by omega)) (i := i) rfl (by omega) _) ?_
        refine j_rd rfl rfl (fun _ _ _ h => h) (wanted_rd rfl) hS0 (fun _ hS => run_ldI _ rfl (ev_in rfl (by omega)) hS.2) ?_
        refine j_mv rfl rfl (fun _ _ _ h => h) (wanted_rd rfl) (fun _ => run_neqI (b := false) _ _ rfl (ev_in rfl (by omega)) (ev_in rfl (by omega)) (decide_eq_false (fun e => e hd2)) _) ?_
        refine j_nx ?_
        refine c_false (ev_in rfl (by omega)) (c_finB ?_)
        refine c_region ?_
        refine m_mv rfl (wanted_rd rfl) (run_addI _ _ rfl (ev_out rfl b13) (ev_const _ _) (by omega) (by omega) _) ?_
        refine m_mv rfl (wanted_rd rfl) (run_move _ rfl (ev_in rfl (by omega)) _) ?_
        exact l_round ⟨k.length - (i + 1), by omega, i + 1, by omega, by omega, (szL _ _).trans hs, (defL _ _).trans hd, (ev_out rfl b0), (ev_out rfl b1), (ev_out rfl b12), (ev_in rfl (by omega)).trans (by rw [Int.natCast_add]; rfl), (fun j hj => by
          by_cases e : j = i
          · rw [e]; exact hd2
          · exact hal j (by omega)), below_drew kB⟩
      · refine c_rs (m_start ?_)
        refine m_mv rfl (wanted_rd rfl) (run_lssI (b := true) _ _ rfl (ev_out rfl b13) (ev_out rfl b12) (decide_eq_true (by omega)) _) ?_
        refine l_nx ?_
        refine c_nx (c_true (ev_in rfl (by omega)) (c_fin ?_))
        refine c_nx (c_block ?_)
        refine c_rs ?_
        refine m_mv rfl (wanted_rd rfl) (run_move _ rfl (ev_out rfl b13) _) ?_
        refine m_mv rfl (wanted_rd rfl) (run_assign _ rfl (ev_in rfl (by omega)) _) ?_
        refine l_nx ?_
        refine c_nx ?_
        have hS0 : (fun Z => Z.cell? (x.add i) = some (.int .i64 (gL k i)) ∧ Z.cell? (y.add i) = some (.int .i64 (gL l i))) W.drew := ⟨at_below (hx i hin) (below_drew kB), at_below (hy i (by omega)) (below_drew kB)⟩
        have ez : W.drew.heap.size = W.heap.size := rfl
        refine c_rj (S := fun Z => Z.cell? (x.add i) = some (.int .i64 (gL k i)) ∧ Z.cell? (y.add i) = some (.int .i64 (gL l i))) (.mv 0 (.mv 1 (.mv 2 (.rd 3 (.mv 4 (.mv 5 (.mv 6 (.rd 7 (.mv 8 .fin))))))))) [] (by kernel_rfl) (by kernel_rfl) ?_
        refine j_mv rfl rfl (fun _ _ _ h => h) (wanted_rd rfl) (fun _ => run_move _ rfl (ev_out rfl b0) _) ?_
        refine j_mv rfl rfl (fun _ _ _ h => h) (wanted_rd rfl) (fun _ => run_move _ rfl (ev_in rfl (by omega)) _) ?_
        refine j_mv rfl rfl (fun _ _ _ h => h) (wanted_rd rfl) (fun _ => run_ixN _ _ rfl (a := x) (n := k.length) (cap := ac) (ev_in rfl (by omega)) (ev_in rfl (by omega)) (i := i) rfl (by omega) _) ?_
        refine j_rd rfl rfl (fun _ _ _ h => h) (wanted_rd rfl) hS0 (fun _ hS => run_ldI _ rfl (ev_in rfl (by omega)) hS.1) ?_
        refine j_mv rfl rfl (fun _ _ _ h => h) (wanted_rd rfl) (fun _ => run_move _ rfl (ev_out rfl b1) _) ?_
        refine j_mv rfl rfl (fun _ _ _ h => h) (wanted_rd rfl) (fun _ => run_move _ rfl (ev_in rfl (by omega)) _) ?_
        refine j_mv rfl rfl (fun _ _ _ h => h) (wanted_rd rfl) (fun _ => run_ixN _ _ rfl (a := y) (n := l.length) (cap := bc) (ev_in rfl (by omega)) (ev_in rfl (by omega)) (i := i) rfl (by omega) _) ?_
        refine j_rd rfl rfl (fun _ _ _ h => h) (wanted_rd rfl) hS0 (fun _ hS => run_ldI _ rfl (ev_in rfl (by omega)) hS.2) ?_
        refine j_mv rfl rfl (fun _ _ _ h => h) (wanted_rd rfl) (fun _ => run_neqI (b := true) _ _ rfl (ev_in rfl (by omega)) (ev_in rfl (by omega)) (decide_eq_true hd2) _) ?_
        refine j_nx ?_
        refine c_true (ev_in rfl (by omega)) ?_
        refine c_rs ?_
        refine m_mv rfl (wanted_rd rfl) (run_assign _ rfl (ev_const _ _) _) ?_
        refine l_nx ?_
        refine c_ret ?_
        simp only [Nx, Exit.inBlock, Exit.then]
        refine ret_of ((defL _ _).trans hd) (res_t rfl (ev_in rfl (by omega))) ⟨?_, below_drew kB⟩
        rw [decide_eq_false (fun e => hd2 (by rw [e]))]
    · refine c_rs (m_start ?_)
      refine m_mv rfl (wanted_rd rfl) (run_lssI (b := false) _ _ rfl (ev_out rfl b13) (ev_out rfl b12) (decide_eq_false (by omega)) _) ?_
      refine l_nx ?_
      refine c_nx (c_false (ev_in rfl (by omega)) (c_exit (x_out ?_)))
      refine c_rs ?_
      refine m_mv rfl (wanted_rd rfl) (run_assign _ rfl (ev_const _ _) _) ?_
      refine l_nx ?_
      refine c_ret (ret_of ((defL _ _).trans hd) (res_t rfl (ev_in rfl (by omega))) ⟨?_, kB⟩)
      rw [decide_eq_true (gL_ext hne (fun j hj => hal j (by omega)))]
  · refine m_mv rfl (wanted_rd rfl) (run_move _ rfl (ev_out rfl b0) _) ?_
    refine m_mv rfl (wanted_rd rfl) (run_lenI _ rfl (ev_in rfl (by omega)) _) ?_
    refine m_mv rfl (wanted_rd rfl) (run_move _ rfl (ev_out rfl b1) _) ?_
    refine m_mv rfl (wanted_rd rfl) (run_lenI _ rfl (ev_in rfl (by omega)) _) ?_
    refine m_mv rfl (wanted_rd rfl) (run_neqI (b := true) _ _ rfl (ev_in rfl (by omega)) (ev_in rfl (by omega)) (decide_eq_true (by omega)) _) ?_
    refine l_nx ?_
    refine c_true (ev_in rfl (by omega)) ?_
    refine c_rs ?_
    refine m_mv rfl (wanted_rd rfl) (run_assign _ rfl (ev_const _ _) _) ?_
    refine l_nx ?_
    refine c_ret ?_
    simp only [Nx, Exit.then]
    refine ret_of ((defL _ _).trans hd) (res_t rfl (ev_in rfl (by omega))) ⟨?_, Below.refl _ _⟩
    rw [decide_eq_false (fun e => hne (by rw [e]))]

end Go.Proofs.YthimcecbgpamdaaGreat

namespace Go.Proofs.YthimcecbgpamdaaGreat
open Go.RowKit

/-- What is heard of each node, as a list. -/
def hrO (id fr : Int) (L : List Lm) (kind many : Int) (s : Nat) : Value := match fL id fr L (s : Int) kind many with | some c => lmV c | none => .slice none 0 0
theorem hrO_one (id fr : Int) (L : List Lm) (kind many : Int) : ∀ j, j < 4 → (hrO id fr L kind many j).oneCell' = true := by
  intro j _
  unfold hrO lmV
  split <;> rfl
theorem take_snoc {L : List Lm} {i : Nat} {c : Lm} (hc : L[i]? = some c) : L.take (i + 1) = L.take i ++ [c] := by rw [List.take_add_one, hc]; rfl
theorem fL_snoc {id fr s kind many : Int} {L : List Lm} {c : Lm} : fL id fr (L ++ [c]) s kind many = (fL id fr L s kind many).or (if fitB id fr s kind many c.m then some c else none) := by simp [fL]
theorem hr_keep {id fr kind many : Int} {L : List Lm} {c : Lm} (h : ∀ s : Nat, s < 4 → fitB id fr (s : Int) kind many c.m = false ∨ (fL id fr L (s : Int) kind many).isSome = true) : ∀ j, j < 4 → hrO id fr L kind many j = hrO id fr (L ++ [c]) kind many j := by grind [hrO, fL_snoc]
theorem hr_set {id fr kind many : Int} {L : List Lm} {c : Lm} {f : Nat} (hF : c.m.F = (f : Int)) (hn : fL id fr L (f : Int) kind many = none) (hfit : fitB id fr (f : Int) kind many c.m = true) : ∀ j, j < 4 → stW (hrO id fr L kind many) (0 + f * 1) (lmV c) j = hrO id fr (L ++ [c]) kind many j := by
  intro j hj
  by_cases e : j = 0 + f * 1
  · subst e
    rw [stW_same]
    unfold hrO
    rw [fL_snoc, Nat.zero_add, Nat.mul_one, hn, hfit]
    rfl
  · rw [stW_other _ _ e]
    unfold hrO
    rw [fL_snoc]
    have e2 : fitB id fr (j : Int) kind many c.m = false := by unfold fitB; rw [decide_eq_false (show ¬ c.m.F = (j : Int) by omega)]; simp
    rw [e2]
    cases fL id fr L (j : Int) kind many <;> rfl
set_option maxHeartbeats 2000000 in
theorem hear_any (n : Nd) (nv : Value) (mo : Option Addr) (mc : Nat) (L : List Lm) (kind many : Int) (w : World) (hr : MRd w mo L) (hN : L.length ≤ 140737488351232) (hm : 0 < many) :
    Calls Tryz.prog 61 #[ndV n nv, .slice mo L.length mc, .int .i64 kind, .int .i64 many] w fun e w' => e = .returned (agV (hrO n.id n.fr L kind many) 0 4) ∧ Below w.heap.size w w' := by
  refine enterF Tryz.func61 rfl 65 rfl (of_decide_eq_true rfl) (fun A hs hd hb => ?_)
  have b0 := hb 0 _ rfl
  have b1 := hb 1 _ rfl
  have b2 := hb 2 _ rfl
  have b3 := hb 3 _ rfl
  clear hb
  refine c_rs (m_start ?_)
  refine m_do rfl (wanted_rd rfl) (fun K hK => ?_)
  refine wp_boxG _ _ _ rfl (ev_out rfl b0) (of_decide_eq_true rfl) ?_
  intro w1 m1 k1 z1
  refine hK _ _ ?_
  clear hK K
  refine m_do rfl (wanted_rd rfl) (fun K hK => ?_)
  refine wp_allocG _ _ rfl zeroHr (of_decide_eq_true rfl) ?_
  intro w2 m2 k2 z2
  have mn2 := m1.below k2
  refine hK _ _ ?_
  clear hK K
  refine l_nx ?_
  refine c_rs ?_
  refine m_do rfl (wanted_rd rfl) (fun K hK => ?_)
  refine wp_allocG _ _ rfl zeroHr (of_decide_eq_true rfl) ?_
  intro w3 m3 k3 z3
  have mn3 := mn2.below k3
  have mr3 := m2.below k3
  refine hK _ _ ?_
  clear hK K
  refine l_nx ?_
  refine c_nx ?_
  refine c_rs ?_
  refine m_mv rfl (wanted_rd rfl) (run_move _ rfl (ev_out rfl b1) _) ?_
  refine m_mv rfl (wanted_rd rfl) (run_lenM _ rfl (ev_in rfl (by omega)) _) ?_
  refine m_mv rfl (wanted_rd rfl) (run_move _ rfl (ev_const _ _) _) ?_
  refine l_nx ?_
  refine c_block ?_
  refine c_loop (fun r a W => ∃ i : Nat, i ≤ L.length ∧ L.length - i ≤ r ∧ a.tmps.size = 65 ∧ a.defers = [] ∧ a.eval (.tmp 2) = .int .i64 kind ∧ a.eval (.tmp 3) = .int .i64 many ∧ a.eval (.tmp 4) = .pointer (some ⟨w.heap.size, 0, none⟩) ∧ a.eval (.tmp 8) = .pointer (some ⟨w1.heap.size, 0, none⟩) ∧ a.eval (.tmp 9) = .pointer (some ⟨w2.heap.size, 0, none⟩) ∧ a.eval (.tmp 13) = .slice mo L.length mc ∧ a.eval (.tmp 14) = .int .i64 (L.length : Int) ∧ a.eval (.tmp 15) = .int .i64 (i : Int) ∧ Vh 37 W w.heap.size 74 74 (ndF n nv) ∧ Vh 120 W w1.heap.size 4 4 (fun _ => .slice none 0 0) ∧ Vh 120 W w2.heap.size 4 4 (hrO n.id n.fr (L.take i) kind many) ∧ Below w.heap.size w W ∧ w3.heap.size ≤ W.heap.size) L.length ⟨0, Nat.zero_le _, by omega, (szL _ _).trans hs, (defL _ _).trans hd, (ev_out rfl b2), (ev_out rfl b3), (ev_in rfl (by omega)), (ev_in rfl (by omega)), (ev_in rfl (by omega)), (ev_in rfl (by omega)), (ev_in rfl (by omega)), (ev_in rfl (by omega)), mn3, mr3, m3, (k1.trans (k2.mono (by omega))).trans (k3.mono (by omega)), by omega⟩ (fun r B W hI => ?_)
  clear b0 b1 b2 b3 hs hd
  obtain ⟨i, hi, hr2, hs, hd, b2, b3, b4, b8, b9, b13, b14, b15, mn, mr, mh, kB, hW⟩ := hI
  by_cases hin : i < L.length
  · have hc := List.getElem?_eq_getElem hin
    obtain ⟨c, ec⟩ : ∃ c, c = L[i] := ⟨_, rfl⟩
    rw [← ec] at hc
    obtain ⟨bl, of, rfl, hq⟩ := (hr.below kB).1 (by omega)
    have hcell := hq i c hc
    by_cases h1 : c.m.K = kind
    · by_cases h2 : c.m.R = n.fr
      · by_cases h3 : (c.m.L.length : Int) = many
        · rcases h4 : noN c.m.F with _ | _
          · obtain ⟨f, hF, hf4⟩ : ∃ f : Nat, c.m.F = (f : Int) ∧ f < 4 := ⟨c.m.F.toNat, by have := noN_in h4; omega, by have := noN_in h4; omega⟩
            by_cases h5 : c.m.F ≠ n.id
            · rcases hfl : fL n.id n.fr (L.take i) (f : Int) kind many with _ | c2
              · have hfit : fitB n.id n.fr (f : Int) kind many c.m = true := by unfold fitB; rw [decide_eq_true hF, decide_eq_true h5, decide_eq_true h1, decide_eq_true h2, decide_eq_true h3]; rfl
                have hho : hrO n.id n.fr (L.take i) kind many (0 + f * 1) = .slice none 0 0 := by unfold hrO; rw [Nat.zero_add, Nat.mul_one, hfl]
                refine c_rs (m_start ?_)
                refine m_mv rfl (wanted_rd rfl) (run_lssI (b := true) _ _ rfl (ev_out rfl b15) (ev_out rfl b14) (decide_eq_true (by omega)) _) ?_
                refine l_nx ?_
                refine c_nx (c_true (ev_in rfl (by omega)) (c_fin ?_))
                refine c_nx (c_block ?_)
                refine c_rs ?_
                refine m_mv rfl (wanted_rd rfl) (run_ixM _ _ rfl (ev_out rfl b13) (ev_out rfl b15) rfl hin _) ?_
                refine m_mv rfl (wanted_rd rfl) (run_lodM _ rfl (ev_in rfl (by omega)) hcell) ?_
                refine m_do rfl (wanted_rd rfl) (fun K hK => ?_)
                refine wp_allocG _ _ rfl zeroMs (of_decide_eq_true rfl) ?_
                intro w4 m4 k4 z4
                have mn4 := mn.below k4
                have mr4 := mr.below k4
                have mh4 := mh.below k4
                refine hK _ _ ?_
                clear hK K
                refine m_st (wanted_rd rfl) (fun K hK => ?_)
                refine wp_storeP _ _ _ _ rfl manyMs (ev_in rfl (by omega)) (ev_in rfl (by omega)) m4 (by decide) (lmF_one _) rfl ?_
                intro w5 mm5 k5 z5
                have mm5 := Vh.congr mm5 (stP_all4 _ _)
                have mn5 := mn4.kept k5 (by omega)
                have mr5 := mr4.kept k5 (by omega)
                have mh5 := mh4.kept k5 (by omega)
                refine hK _ ?_
                clear hK K
                refine l_nx ?_
                refine c_rs ?_
                refine m_mv rfl (wanted_rd rfl) (fldMs0 rfl (ev_in rfl (by omega)) _) ?_
                refine m_mv rfl (wanted_rd rfl) (run_lod1 _ _ rfl oneI (ev_in rfl (by omega)) mm5 (by decide) rfl) ?_
                refine m_mv rfl (wanted_rd rfl) (run_move _ rfl (ev_out rfl b2) _) ?_
                refine m_mv rfl (wanted_rd rfl) (run_eqlI (b := true) _ _ rfl (ev_in rfl (by omega)) (ev_in rfl (by omega)) (decide_eq_true h1) _) ?_
                refine m_mv rfl (wanted_rd rfl) (run_move _ rfl (ev_in rfl (by omega)) _) ?_
                refine m_mv rfl (wanted_g (j := 4) rfl rfl rfl (ev_in rfl (by omega))) (fldMs2 rfl (ev_in rfl (by omega)) _) ?_
                refine m_mv rfl (wanted_g (j := 4) rfl rfl rfl (ev_in rfl (by omega))) (run_lod1 _ _ rfl oneI (ev_in rfl (by omega)) mm5 (by decide) rfl) ?_
                refine m_mv rfl (wanted_g (j := 4) rfl rfl rfl (ev_in rfl (by omega))) (fldNd1 rfl (ev_out rfl b4) _) ?_
                refine m_mv rfl (wanted_g (j := 4) rfl rfl rfl (ev_in rfl (by omega))) (run_lod1 _ _ rfl oneI (ev_in rfl (by omega)) mn5 (by decide) rfl) ?_
                refine m_mv rfl (wanted_g (j := 4) rfl rfl rfl (ev_in rfl (by omega))) (run_eqlI (b := true) _ _ rfl (ev_in rfl (by omega)) (ev_in rfl (by omega)) (decide_eq_true h2) _) ?_
                refine m_mv rfl (wanted_rd rfl) (run_pickT' _ _ _ rfl (ev_in rfl (by omega)) (ev_in rfl (by omega)) _) ?_
                refine m_mv rfl (wanted_rd rfl) (run_move _ rfl (ev_in rfl (by omega)) _) ?_
                refine m_mv rfl (wanted_g (j := 11) rfl rfl rfl (ev_in rfl (by omega))) (fldMs3 rfl (ev_in rfl (by omega)) _) ?_
                refine m_mv rfl (wanted_g (j := 11) rfl rfl rfl (ev_in rfl (by omega))) (run_lod1 _ _ rfl oneIs (ev_in rfl (by omega)) mm5 (by decide) rfl) ?_
                refine m_mv rfl (wanted_g (j := 11) rfl rfl rfl (ev_in rfl (by omega))) (run_lenI _ rfl (ev_in rfl (by omega)) _) ?_
                refine m_mv rfl (wanted_g (j := 11) rfl rfl rfl (ev_in rfl (by omega))) (run_move _ rfl (ev_out rfl b3) _) ?_
                refine m_mv rfl (wanted_g (j := 11) rfl rfl rfl (ev_in rfl (by omega))) (run_eqlI (b := true) _ _ rfl (ev_in rfl (by omega)) (ev_in rfl (by omega)) (decide_eq_true h3) _) ?_
                refine m_mv rfl (wanted_rd rfl) (run_pickT' _ _ _ rfl (ev_in rfl (by omega)) (ev_in rfl (by omega)) _) ?_
                refine m_mv rfl (wanted_rd rfl) (run_assign _ rfl (ev_in rfl (by omega)) _) ?_
                refine l_nx ?_
                refine c_rs ?_
                refine m_mv rfl (wanted_rd rfl) (run_move _ rfl (ev_in rfl (by omega)) _) ?_
                refine m_mv rfl (wanted_rd rfl) (run_move _ rfl (ev_in rfl (by omega)) _) ?_
                refine m_mv rfl (wanted_g (j := 1) rfl rfl rfl (ev_in rfl (by omega))) (fldMs1 rfl (ev_in rfl (by omega)) _) ?_
                refine m_mv rfl (wanted_g (j := 1) rfl rfl rfl (ev_in rfl (by omega))) (run_lod1 _ _ rfl oneI (ev_in rfl (by omega)) mm5 (by decide) rfl) ?_
                refine m_do rfl (wanted_g (j := 1) rfl rfl rfl (ev_in rfl (by omega))) (fun K hK => ?_)
                have C1 := isNode_any c.m.F w5
                rw [h4] at C1
                refine wp_call1 _ 59 _ _ rfl (ev_in rfl (by omega)) (enter_pisNode _ _) C1 ?_
                rintro e w6 ⟨rfl, k6⟩
                have n6 := k6.size
                have mn6 := mn5.below k6
                have mr6 := mr5.below k6
                have mh6 := mh5.below k6
                have mm6 := mm5.below k6
                refine ⟨_, rfl, ?_⟩
                refine hK _ _ ?_
                clear hK K
                refine m_mv rfl (wanted_rd rfl) (run_pickT' _ _ _ rfl (ev_in rfl (by omega)) (ev_in rfl (by omega)) _) ?_
                refine m_mv rfl (wanted_rd rfl) (run_move _ rfl (ev_in rfl (by omega)) _) ?_
                refine m_mv rfl (wanted_g (j := 6) rfl rfl rfl (ev_in rfl (by omega))) (fldMs1 rfl (ev_in rfl (by omega)) _) ?_
                refine m_mv rfl (wanted_g (j := 6) rfl rfl rfl (ev_in rfl (by omega))) (run_lod1 _ _ rfl oneI (ev_in rfl (by omega)) mm6 (by decide) rfl) ?_
                refine m_mv rfl (wanted_g (j := 6) rfl rfl rfl (ev_in rfl (by omega))) (fldNd0 rfl (ev_out rfl b4) _) ?_
                refine m_mv rfl (wanted_g (j := 6) rfl rfl rfl (ev_in rfl (by omega))) (run_lod1 _ _ rfl oneI (ev_in rfl (by omega)) mn6 (by decide) rfl) ?_
                refine m_mv rfl (wanted_g (j := 6) rfl rfl rfl (ev_in rfl (by omega))) (run_neqI (b := true) _ _ rfl (ev_in rfl (by omega)) (ev_in rfl (by omega)) (decide_eq_true h5) _) ?_
                refine m_mv rfl (wanted_rd rfl) (run_pickT' _ _ _ rfl (ev_in rfl (by omega)) (ev_in rfl (by omega)) _) ?_
                refine m_mv rfl (wanted_rd rfl) (run_move _ rfl (ev_in rfl (by omega)) _) ?_
                refine m_mv rfl (wanted_g (j := 13) rfl rfl rfl (ev_in rfl (by omega))) (fldMs1 rfl (ev_in rfl (by omega)) _) ?_
                refine m_mv rfl (wanted_g (j := 13) rfl rfl rfl (ev_in rfl (by omega))) (run_lod1 _ _ rfl oneI (ev_in rfl (by omega)) mm6 (by decide) rfl) ?_
                refine m_mv rfl (wanted_g (j := 13) rfl rfl rfl (ev_in rfl (by omega))) (run_ixG _ _ _ _ rfl Tryz.underlying120 oneIs.size (ev_out rfl b9) (ev_in rfl (by omega)) hF hf4 _) ?_
                refine m_mv rfl (wanted_g (j := 13) rfl rfl rfl (ev_in rfl (by omega))) (run_lod1 _ _ rfl oneIs (ev_in rfl (by omega)) mh6 (by omega) hho) ?_
                refine m_mv rfl (wanted_g (j := 13) rfl rfl rfl (ev_in rfl (by omega))) (run_lenI _ rfl (ev_in rfl (by omega)) _) ?_
                refine m_mv rfl (wanted_g (j := 13) rfl rfl rfl (ev_in rfl (by omega))) (run_eqlI (b := true) _ _ rfl (ev_in rfl (by omega)) (ev_const _ _) (decide_eq_true rfl) _) ?_
                refine m_mv rfl (wanted_rd rfl) (run_pickT' _ _ _ rfl (ev_in rfl (by omega)) (ev_in rfl (by omega)) _) ?_
                refine l_nx ?_
                refine c_true (ev_in rfl (by omega)) ?_
                refine c_region ?_
                refine m_mv rfl (wanted_rd rfl) (fldMs1 rfl (ev_in rfl (by omega)) _) ?_
                refine m_mv rfl (wanted_rd rfl) (run_lod1 _ _ rfl oneI (ev_in rfl (by omega)) mm6 (by decide) rfl) ?_
                refine m_mv rfl (wanted_rd rfl) (fldMs3 rfl (ev_in rfl (by omega)) _) ?_
                refine m_mv rfl (wanted_rd rfl) (run_lod1 _ _ rfl oneIs (ev_in rfl (by omega)) mm6 (by decide) rfl) ?_
                refine m_mv rfl (wanted_rd rfl) (run_ixG _ _ _ _ rfl Tryz.underlying120 oneIs.size (ev_out rfl b9) (ev_in rfl (by omega)) hF hf4 _) ?_
                refine m_st (wanted_rd rfl) (fun K hK => ?_)
                refine wp_sto1 _ _ _ _ rfl oneIs (ev_in rfl (by omega)) (ev_in rfl (by omega)) mh6 (by omega) rfl rfl rfl ?_
                intro w7 mm7 k7 z7
                have mh7 := Vh.congr mm7 (hr_set hF hfl hfit)
                have mn7 := mn6.kept k7 (by omega)
                have mr7 := mr6.kept k7 (by omega)
                have mm7 := mm6.kept k7 (by omega)
                refine hK _ ?_
                clear hK K
                refine l_finB ?_
                refine c_region ?_
                refine m_mv rfl (wanted_rd rfl) (run_addI _ _ rfl (ev_out rfl b15) (ev_const _ _) (by omega) (by omega) _) ?_
                refine m_mv rfl (wanted_rd rfl) (run_move _ rfl (ev_in rfl (by omega)) _) ?_
                exact l_round ⟨L.length - (i + 1), by omega, i + 1, by omega, by omega, (szL _ _).trans hs, (defL _ _).trans hd, (ev_out rfl b2), (ev_out rfl b3), (ev_out rfl b4), (ev_out rfl b8), (ev_out rfl b9), (ev_out rfl b13), (ev_out rfl b14), (ev_in rfl (by omega)).trans (by rw [Int.natCast_add]; rfl), mn7, mr7, by rw [take_snoc hc]; exact mh7, below_of_kept ((below_of_kept (kB.trans (k4.mono (by omega))) k5 (by omega) (by omega)).trans (k6.mono (by omega))) k7 (by omega) (by omega), by omega⟩
              · have hkeep : ∀ s : Nat, s < 4 → fitB n.id n.fr (s : Int) kind many c.m = false ∨ (fL n.id n.fr (L.take i) (s : Int) kind many).isSome = true := fun s hs => by
                  by_cases e : s = f
                  · right; rw [e, hfl]; rfl
                  · left; unfold fitB; rw [decide_eq_false (show ¬ c.m.F = (s : Int) by omega)]; simp
                obtain ⟨_, cfit⟩ := fL_mem hfl
                have clen := fit_len cfit
                have hho : hrO n.id n.fr (L.take i) kind many (0 + f * 1) = .slice c2.ao c2.m.L.length c2.cap := by unfold hrO; rw [Nat.zero_add, Nat.mul_one, hfl]; rfl
                refine c_rs (m_start ?_)
                refine m_mv rfl (wanted_rd rfl) (run_lssI (b := true) _ _ rfl (ev_out rfl b15) (ev_out rfl b14) (decide_eq_true (by omega)) _) ?_
                refine l_nx ?_
                refine c_nx (c_true (ev_in rfl (by omega)) (c_fin ?_))
                refine c_nx (c_block ?_)
                refine c_rs ?_
                refine m_mv rfl (wanted_rd rfl) (run_ixM _ _ rfl (ev_out rfl b13) (ev_out rfl b15) rfl hin _) ?_
                refine m_mv rfl (wanted_rd rfl) (run_lodM _ rfl (ev_in rfl (by omega)) hcell) ?_
                refine m_do rfl (wanted_rd rfl) (fun K hK => ?_)
                refine wp_allocG _ _ rfl zeroMs (of_decide_eq_true rfl) ?_
                intro w4 m4 k4 z4
                have mn4 := mn.below k4
                have mr4 := mr.below k4
                have mh4 := mh.below k4
                refine hK _ _ ?_
                clear hK K
                refine m_st (wanted_rd rfl) (fun K hK => ?_)
                refine wp_storeP _ _ _ _ rfl manyMs (ev_in rfl (by omega)) (ev_in rfl (by omega)) m4 (by decide) (lmF_one _) rfl ?_
                intro w5 mm5 k5 z5
                have mm5 := Vh.congr mm5 (stP_all4 _ _)
                have mn5 := mn4.kept k5 (by omega)
                have mr5 := mr4.kept k5 (by omega)
                have mh5 := mh4.kept k5 (by omega)
                refine hK _ ?_
                clear hK K
                refine l_nx ?_
                refine c_rs ?_
                refine m_mv rfl (wanted_rd rfl) (fldMs0 rfl (ev_in rfl (by omega)) _) ?_
                refine m_mv rfl (wanted_rd rfl) (run_lod1 _ _ rfl oneI (ev_in rfl (by omega)) mm5 (by decide) rfl) ?_
                refine m_mv rfl (wanted_rd rfl) (run_move _ rfl (ev_out rfl b2) _) ?_
                refine m_mv rfl (wanted_rd rfl) (run_eqlI (b := true) _ _ rfl (ev_in rfl (by omega)) (ev_in rfl (by omega)) (decide_eq_true h1) _) ?_
                refine m_mv rfl (wanted_rd rfl) (run_move _ rfl (ev_in rfl (by omega)) _) ?_
                refine m_mv rfl (wanted_g (j := 4) rfl rfl rfl (ev_in rfl (by omega))) (fldMs2 rfl (ev_in rfl (by omega)) _) ?_
                refine m_mv rfl (wanted_g (j := 4) rfl rfl rfl (ev_in rfl (by omega))) (run_lod1 _ _ rfl oneI (ev_in rfl (by omega)) mm5 (by decide) rfl) ?_
                refine m_mv rfl (wanted_g (j := 4) rfl rfl rfl (ev_in rfl (by omega))) (fldNd1 rfl (ev_out rfl b4) _) ?_
                refine m_mv rfl (wanted_g (j := 4) rfl rfl rfl (ev_in rfl (by omega))) (run_lod1 _ _ rfl oneI (ev_in rfl (by omega)) mn5 (by decide) rfl) ?_
                refine m_mv rfl (wanted_g (j := 4) rfl rfl rfl (ev_in rfl (by omega))) (run_eqlI (b := true) _ _ rfl (ev_in rfl (by omega)) (ev_in rfl (by omega)) (decide_eq_true h2) _) ?_
                refine m_mv rfl (wanted_rd rfl) (run_pickT' _ _ _ rfl (ev_in rfl (by omega)) (ev_in rfl (by omega)) _) ?_
                refine m_mv rfl (wanted_rd rfl) (run_move _ rfl (ev_in rfl (by omega)) _) ?_
                refine m_mv rfl (wanted_g (j := 11) rfl rfl rfl (ev_in rfl (by omega))) (fldMs3 rfl (ev_in rfl (by omega)) _) ?_
                refine m_mv rfl (wanted_g (j := 11) rfl rfl rfl (ev_in rfl (by omega))) (run_lod1 _ _ rfl oneIs (ev_in rfl (by omega)) mm5 (by decide) rfl) ?_
                refine m_mv rfl (wanted_g (j := 11) rfl rfl rfl (ev_in rfl (by omega))) (run_lenI _ rfl (ev_in rfl (by omega)) _) ?_
                refine m_mv rfl (wanted_g (j := 11) rfl rfl rfl (ev_in rfl (by omega))) (run_move _ rfl (ev_out rfl b3) _) ?_
                refine m_mv rfl (wanted_g (j := 11) rfl rfl rfl (ev_in rfl (by omega))) (run_eqlI (b := true) _ _ rfl (ev_in rfl (by omega)) (ev_in rfl (by omega)) (decide_eq_true h3) _) ?_
                refine m_mv rfl (wanted_rd rfl) (run_pickT' _ _ _ rfl (ev_in rfl (by omega)) (ev_in rfl (by omega)) _) ?_
                refine m_mv rfl (wanted_rd rfl) (run_assign _ rfl (ev_in rfl (by omega)) _) ?_
                refine l_nx ?_
                refine c_rs ?_
                refine m_mv rfl (wanted_rd rfl) (run_move _ rfl (ev_in rfl (by omega)) _) ?_
                refine m_mv rfl (wanted_rd rfl) (run_move _ rfl (ev_in rfl (by omega)) _) ?_
                refine m_mv rfl (wanted_g (j := 1) rfl rfl rfl (ev_in rfl (by omega))) (fldMs1 rfl (ev_in rfl (by omega)) _) ?_
                refine m_mv rfl (wanted_g (j := 1) rfl rfl rfl (ev_in rfl (by omega))) (run_lod1 _ _ rfl oneI (ev_in rfl (by omega)) mm5 (by decide) rfl) ?_
                refine m_do rfl (wanted_g (j := 1) rfl rfl rfl (ev_in rfl (by omega))) (fun K hK => ?_)
                have C1 := isNode_any c.m.F w5
                rw [h4] at C1
                refine wp_call1 _ 59 _ _ rfl (ev_in rfl (by omega)) (enter_pisNode _ _) C1 ?_
                rintro e w6 ⟨rfl, k6⟩
                have n6 := k6.size
                have mn6 := mn5.below k6
                have mr6 := mr5.below k6
                have mh6 := mh5.below k6
                have mm6 := mm5.below k6
                refine ⟨_, rfl, ?_⟩
                refine hK _ _ ?_
                clear hK K
                refine m_mv rfl (wanted_rd rfl) (run_pickT' _ _ _ rfl (ev_in rfl (by omega)) (ev_in rfl (by omega)) _) ?_
                refine m_mv rfl (wanted_rd rfl) (run_move _ rfl (ev_in rfl (by omega)) _) ?_
                refine m_mv rfl (wanted_g (j := 6) rfl rfl rfl (ev_in rfl (by omega))) (fldMs1 rfl (ev_in rfl (by omega)) _) ?_
                refine m_mv rfl (wanted_g (j := 6) rfl rfl rfl (ev_in rfl (by omega))) (run_lod1 _ _ rfl oneI (ev_in rfl (by omega)) mm6 (by decide) rfl) ?_
                refine m_mv rfl (wanted_g (j := 6) rfl rfl rfl (ev_in rfl (by omega))) (fldNd0 rfl (ev_out rfl b4) _) ?_
                refine m_mv rfl (wanted_g (j := 6) rfl rfl rfl (ev_in rfl (by omega))) (run_lod1 _ _ rfl oneI (ev_in rfl (by omega)) mn6 (by decide) rfl) ?_
                refine m_mv rfl (wanted_g (j := 6) rfl rfl rfl (ev_in rfl (by omega))) (run_neqI (b := true) _ _ rfl (ev_in rfl (by omega)) (ev_in rfl (by omega)) (decide_eq_true h5) _) ?_
                refine m_mv rfl (wanted_rd rfl) (run_pickT' _ _ _ rfl (ev_in rfl (by omega)) (ev_in rfl (by omega)) _) ?_
                refine m_mv rfl (wanted_rd rfl) (run_move _ rfl (ev_in rfl (by omega)) _) ?_
                refine m_mv rfl (wanted_g (j := 13) rfl rfl rfl (ev_in rfl (by omega))) (fldMs1 rfl (ev_in rfl (by omega)) _) ?_
                refine m_mv rfl (wanted_g (j := 13) rfl rfl rfl (ev_in rfl (by omega))) (run_lod1 _ _ rfl oneI (ev_in rfl (by omega)) mm6 (by decide) rfl) ?_
                refine m_mv rfl (wanted_g (j := 13) rfl rfl rfl (ev_in rfl (by omega))) (run_ixG _ _ _ _ rfl Tryz.underlying120 oneIs.size (ev_out rfl b9) (ev_in rfl (by omega)) hF hf4 _) ?_
                refine m_mv rfl (wanted_g (j := 13) rfl rfl rfl (ev_in rfl (by omega))) (run_lod1 _ _ rfl oneIs (ev_in rfl (by omega)) mh6 (by omega) hho) ?_
                refine m_mv rfl (wanted_g (j := 13) rfl rfl rfl (ev_in rfl (by omega))) (run_lenI _ rfl (ev_in rfl (by omega)) _) ?_
                refine m_mv rfl (wanted_g (j := 13) rfl rfl rfl (ev_in rfl (by omega))) (run_eqlI (b := false) _ _ rfl (ev_in rfl (by omega)) (ev_const _ _) (decide_eq_false (by omega)) _) ?_
                refine m_mv rfl (wanted_rd rfl) (run_pickT' _ _ _ rfl (ev_in rfl (by omega)) (ev_in rfl (by omega)) _) ?_
                refine l_nx ?_
                refine c_false (ev_in rfl (by omega)) (c_finB ?_)
                refine c_region ?_
                refine m_mv rfl (wanted_rd rfl) (run_addI _ _ rfl (ev_out rfl b15) (ev_const _ _) (by omega) (by omega) _) ?_
                refine m_mv rfl (wanted_rd rfl) (run_move _ rfl (ev_in rfl (by omega)) _) ?_
                exact l_round ⟨L.length - (i + 1), by omega, i + 1, by omega, by omega, (szL _ _).trans hs, (defL _ _).trans hd, (ev_out rfl b2), (ev_out rfl b3), (ev_out rfl b4), (ev_out rfl b8), (ev_out rfl b9), (ev_out rfl b13), (ev_out rfl b14), (ev_in rfl (by omega)).trans (by rw [Int.natCast_add]; rfl), mn6, mr6, by rw [take_snoc hc]; exact Vh.congr mh6 (hr_keep hkeep), (below_of_kept (kB.trans (k4.mono (by omega))) k5 (by omega) (by omega)).trans (k6.mono (by omega)), by omega⟩
            · have hkeep : ∀ s : Nat, s < 4 → fitB n.id n.fr (s : Int) kind many c.m = false ∨ (fL n.id n.fr (L.take i) (s : Int) kind many).isSome = true := fun s hs => Or.inl (by unfold fitB; rw [decide_eq_false (show ¬ c.m.F ≠ n.id from h5)]; simp)
              refine c_rs (m_start ?_)
              refine m_mv rfl (wanted_rd rfl) (run_lssI (b := true) _ _ rfl (ev_out rfl b15) (ev_out rfl b14) (decide_eq_true (by omega)) _) ?_
              refine l_nx ?_
              refine c_nx (c_true (ev_in rfl (by omega)) (c_fin ?_))
              refine c_nx (c_block ?_)
              refine c_rs ?_
              refine m_mv rfl (wanted_rd rfl) (run_ixM _ _ rfl (ev_out rfl b13) (ev_out rfl b15) rfl hin _) ?_
              refine m_mv rfl (wanted_rd rfl) (run_lodM _ rfl (ev_in rfl (by omega)) hcell) ?_
              refine m_do rfl (wanted_rd rfl) (fun K hK => ?_)
              refine wp_allocG _ _ rfl zeroMs (of_decide_eq_true rfl) ?_
              intro w4 m4 k4 z4
              have mn4 := mn.below k4
              have mr4 := mr.below k4
              have mh4 := mh.below k4
              refine hK _ _ ?_
              clear hK K
              refine m_st (wanted_rd rfl) (fun K hK => ?_)
              refine wp_storeP _ _ _ _ rfl manyMs (ev_in rfl (by omega)) (ev_in rfl (by omega)) m4 (by decide) (lmF_one _) rfl ?_
              intro w5 mm5 k5 z5
              have mm5 := Vh.congr mm5 (stP_all4 _ _)
              have mn5 := mn4.kept k5 (by omega)
              have mr5 := mr4.kept k5 (by omega)
              have mh5 := mh4.kept k5 (by omega)
              refine hK _ ?_
              clear hK K
              refine l_nx ?_
              refine c_rs ?_
              refine m_mv rfl (wanted_rd rfl) (fldMs0 rfl (ev_in rfl (by omega)) _) ?_
              refine m_mv rfl (wanted_rd rfl) (run_lod1 _ _ rfl oneI (ev_in rfl (by omega)) mm5 (by decide) rfl) ?_
              refine m_mv rfl (wanted_rd rfl) (run_move _ rfl (ev_out rfl b2) _) ?_
              refine m_mv rfl (wanted_rd rfl) (run_eqlI (b := true) _ _ rfl (ev_in rfl (by omega)) (ev_in rfl (by omega)) (decide_eq_true h1) _) ?_
              refine m_mv rfl (wanted_rd rfl) (run_move _ rfl (ev_in rfl (by omega)) _) ?_
              refine m_mv rfl (wanted_g (j := 4) rfl rfl rfl (ev_in rfl (by omega))) (fldMs2 rfl (ev_in rfl (by omega)) _) ?_
              refine m_mv rfl (wanted_g (j := 4) rfl rfl rfl (ev_in rfl (by omega))) (run_lod1 _ _ rfl oneI (ev_in rfl (by omega)) mm5 (by decide) rfl) ?_
              refine m_mv rfl (wanted_g (j := 4) rfl rfl rfl (ev_in rfl (by omega))) (fldNd1 rfl (ev_out rfl b4) _) ?_
              refine m_mv rfl (wanted_g (j := 4) rfl rfl rfl (ev_in rfl (by omega))) (run_lod1 _ _ rfl oneI (ev_in rfl (by omega)) mn5 (by decide) rfl) ?_
              refine m_mv rfl (wanted_g (j := 4) rfl rfl rfl (ev_in rfl (by omega))) (run_eqlI (b := true) _ _ rfl (ev_in rfl (by omega)) (ev_in rfl (by omega)) (decide_eq_true h2) _) ?_
              refine m_mv rfl (wanted_rd rfl) (run_pickT' _ _ _ rfl (ev_in rfl (by omega)) (ev_in rfl (by omega)) _) ?_
              refine m_mv rfl (wanted_rd rfl) (run_move _ rfl (ev_in rfl (by omega)) _) ?_
              refine m_mv rfl (wanted_g (j := 11) rfl rfl rfl (ev_in rfl (by omega))) (fldMs3 rfl (ev_in rfl (by omega)) _) ?_
              refine m_mv rfl (wanted_g (j := 11) rfl rfl rfl (ev_in rfl (by omega))) (run_lod1 _ _ rfl oneIs (ev_in rfl (by omega)) mm5 (by decide) rfl) ?_
              refine m_mv rfl (wanted_g (j := 11) rfl rfl rfl (ev_in rfl (by omega))) (run_lenI _ rfl (ev_in rfl (by omega)) _) ?_
              refine m_mv rfl (wanted_g (j := 11) rfl rfl rfl (ev_in rfl (by omega))) (run_move _ rfl (ev_out rfl b3) _) ?_
              refine m_mv rfl (wanted_g (j := 11) rfl rfl rfl (ev_in rfl (by omega))) (run_eqlI (b := true) _ _ rfl (ev_in rfl (by omega)) (ev_in rfl (by omega)) (decide_eq_true h3) _) ?_
              refine m_mv rfl (wanted_rd rfl) (run_pickT' _ _ _ rfl (ev_in rfl (by omega)) (ev_in rfl (by omega)) _) ?_
              refine m_mv rfl (wanted_rd rfl) (run_assign _ rfl (ev_in rfl (by omega)) _) ?_
              refine l_nx ?_
              refine c_rs ?_
              refine m_mv rfl (wanted_rd rfl) (run_move _ rfl (ev_in rfl (by omega)) _) ?_
              refine m_mv rfl (wanted_rd rfl) (run_move _ rfl (ev_in rfl (by omega)) _) ?_
              refine m_mv rfl (wanted_g (j := 1) rfl rfl rfl (ev_in rfl (by omega))) (fldMs1 rfl (ev_in rfl (by omega)) _) ?_
              refine m_mv rfl (wanted_g (j := 1) rfl rfl rfl (ev_in rfl (by omega))) (run_lod1 _ _ rfl oneI (ev_in rfl (by omega)) mm5 (by decide) rfl) ?_
              refine m_do rfl (wanted_g (j := 1) rfl rfl rfl (ev_in rfl (by omega))) (fun K hK => ?_)
              have C1 := isNode_any c.m.F w5
              rw [h4] at C1
              refine wp_call1 _ 59 _ _ rfl (ev_in rfl (by omega)) (enter_pisNode _ _) C1 ?_
              rintro e w6 ⟨rfl, k6⟩
              have n6 := k6.size
              have mn6 := mn5.below k6
              have mr6 := mr5.below k6
              have mh6 := mh5.below k6
              have mm6 := mm5.below k6
              refine ⟨_, rfl, ?_⟩
              refine hK _ _ ?_
              clear hK K
              refine m_mv rfl (wanted_rd rfl) (run_pickT' _ _ _ rfl (ev_in rfl (by omega)) (ev_in rfl (by omega)) _) ?_
              refine m_mv rfl (wanted_rd rfl) (run_move _ rfl (ev_in rfl (by omega)) _) ?_
              refine m_mv rfl (wanted_g (j := 6) rfl rfl rfl (ev_in rfl (by omega))) (fldMs1 rfl (ev_in rfl (by omega)) _) ?_
              refine m_mv rfl (wanted_g (j := 6) rfl rfl rfl (ev_in rfl (by omega))) (run_lod1 _ _ rfl oneI (ev_in rfl (by omega)) mm6 (by decide) rfl) ?_
              refine m_mv rfl (wanted_g (j := 6) rfl rfl rfl (ev_in rfl (by omega))) (fldNd0 rfl (ev_out rfl b4) _) ?_
              refine m_mv rfl (wanted_g (j := 6) rfl rfl rfl (ev_in rfl (by omega))) (run_lod1 _ _ rfl oneI (ev_in rfl (by omega)) mn6 (by decide) rfl) ?_
              refine m_mv rfl (wanted_g (j := 6) rfl rfl rfl (ev_in rfl (by omega))) (run_neqI (b := false) _ _ rfl (ev_in rfl (by omega)) (ev_in rfl (by omega)) (decide_eq_false h5) _) ?_
              refine m_mv rfl (wanted_rd rfl) (run_pickT' _ _ _ rfl (ev_in rfl (by omega)) (ev_in rfl (by omega)) _) ?_
              refine m_mv rfl (wanted_rd rfl) (run_move _ rfl (ev_in rfl (by omega)) _) ?_
              refine m_skip rfl (wanted_n (j := 13) rfl rfl rfl (ev_in rfl (by omega)) (by decide)) ?_
              refine m_skip rfl (wanted_n (j := 13) rfl rfl rfl (ev_in rfl (by omega)) (by decide)) ?_
              refine m_skip rfl (wanted_n (j := 13) rfl rfl rfl (ev_in rfl (by omega)) (by decide)) ?_
              refine m_skip rfl (wanted_n (j := 13) rfl rfl rfl (ev_in rfl (by omega)) (by decide)) ?_
              refine m_skip rfl (wanted_n (j := 13) rfl rfl rfl (ev_in rfl (by omega)) (by decide)) ?_
              refine m_skip rfl (wanted_n (j := 13) rfl rfl rfl (ev_in rfl (by omega)) (by decide)) ?_
              refine m_mv rfl (wanted_rd rfl) (run_pickF _ _ _ rfl (ev_in rfl (by omega)) (ev_const _ _) _) ?_
              refine l_nx ?_
              refine c_false (ev_in rfl (by omega)) (c_finB ?_)
              refine c_region ?_
              refine m_mv rfl (wanted_rd rfl) (run_addI _ _ rfl (ev_out rfl b15) (ev_const _ _) (by omega) (by omega) _) ?_
              refine m_mv rfl (wanted_rd rfl) (run_move _ rfl (ev_in rfl (by omega)) _) ?_
              exact l_round ⟨L.length - (i + 1), by omega, i + 1, by omega, by omega, (szL _ _).trans hs, (defL _ _).trans hd, (ev_out rfl b2), (ev_out rfl b3), (ev_out rfl b4), (ev_out rfl b8), (ev_out rfl b9), (ev_out rfl b13), (ev_out rfl b14), (ev_in rfl (by omega)).trans (by rw [Int.natCast_add]; rfl), mn6, mr6, by rw [take_snoc hc]; exact Vh.congr mh6 (hr_keep hkeep), (below_of_kept (kB.trans (k4.mono (by omega))) k5 (by omega) (by omega)).trans (k6.mono (by omega)), by omega⟩
          · have hkeep : ∀ s : Nat, s < 4 → fitB n.id n.fr (s : Int) kind many c.m = false ∨ (fL n.id n.fr (L.take i) (s : Int) kind many).isSome = true := fun s hs => Or.inl (by unfold fitB; rw [decide_eq_false (show ¬ c.m.F = (s : Int) from fun e => by rw [e] at h4; unfold noN at h4; simp at h4; omega)]; simp)
            refine c_rs (m_start ?_)
            refine m_mv rfl (wanted_rd rfl) (run_lssI (b := true) _ _ rfl (ev_out rfl b15) (ev_out rfl b14) (decide_eq_true (by omega)) _) ?_
            refine l_nx ?_
            refine c_nx (c_true (ev_in rfl (by omega)) (c_fin ?_))
            refine c_nx (c_block ?_)
            refine c_rs ?_
            refine m_mv rfl (wanted_rd rfl) (run_ixM _ _ rfl (ev_out rfl b13) (ev_out rfl b15) rfl hin _) ?_
            refine m_mv rfl (wanted_rd rfl) (run_lodM _ rfl (ev_in rfl (by omega)) hcell) ?_
            refine m_do rfl (wanted_rd rfl) (fun K hK => ?_)
            refine wp_allocG _ _ rfl zeroMs (of_decide_eq_true rfl) ?_
            intro w4 m4 k4 z4
            have mn4 := mn.below k4
            have mr4 := mr.below k4
            have mh4 := mh.below k4
            refine hK _ _ ?_
            clear hK K
            refine m_st (wanted_rd rfl) (fun K hK => ?_)
            refine wp_storeP _ _ _ _ rfl manyMs (ev_in rfl (by omega)) (ev_in rfl (by omega)) m4 (by decide) (lmF_one _) rfl ?_
            intro w5 mm5 k5 z5
            have mm5 := Vh.congr mm5 (stP_all4 _ _)
            have mn5 := mn4.kept k5 (by omega)
            have mr5 := mr4.kept k5 (by omega)
            have mh5 := mh4.kept k5 (by omega)
            refine hK _ ?_
            clear hK K
            refine l_nx ?_
            refine c_rs ?_
            refine m_mv rfl (wanted_rd rfl) (fldMs0 rfl (ev_in rfl (by omega)) _) ?_
            refine m_mv rfl (wanted_rd rfl) (run_lod1 _ _ rfl oneI (ev_in rfl (by omega)) mm5 (by decide) rfl) ?_
            refine m_mv rfl (wanted_rd rfl) (run_move _ rfl (ev_out rfl b2) _) ?_
            refine m_mv rfl (wanted_rd rfl) (run_eqlI (b := true) _ _ rfl (ev_in rfl (by omega)) (ev_in rfl (by omega)) (decide_eq_true h1) _) ?_
            refine m_mv rfl (wanted_rd rfl) (run_move _ rfl (ev_in rfl (by omega)) _) ?_
            refine m_mv rfl (wanted_g (j := 4) rfl rfl rfl (ev_in rfl (by omega))) (fldMs2 rfl (ev_in rfl (by omega)) _) ?_
            refine m_mv rfl (wanted_g (j := 4) rfl rfl rfl (ev_in rfl (by omega))) (run_lod1 _ _ rfl oneI (ev_in rfl (by omega)) mm5 (by decide) rfl) ?_
            refine m_mv rfl (wanted_g (j := 4) rfl rfl rfl (ev_in rfl (by omega))) (fldNd1 rfl (ev_out rfl b4) _) ?_
            refine m_mv rfl (wanted_g (j := 4) rfl rfl rfl (ev_in rfl (by omega))) (run_lod1 _ _ rfl oneI (ev_in rfl (by omega)) mn5 (by decide) rfl) ?_
            refine m_mv rfl (wanted_g (j := 4) rfl rfl rfl (ev_in rfl (by omega))) (run_eqlI (b := true) _ _ rfl (ev_in rfl (by omega)) (ev_in rfl (by omega)) (decide_eq_true h2) _) ?_
            refine m_mv rfl (wanted_rd rfl) (run_pickT' _ _ _ rfl (ev_in rfl (by omega)) (ev_in rfl (by omega)) _) ?_
            refine m_mv rfl (wanted_rd rfl) (run_move _ rfl (ev_in rfl (by omega)) _) ?_
            refine m_mv rfl (wanted_g (j := 11) rfl rfl rfl (ev_in rfl (by omega))) (fldMs3 rfl (ev_in rfl (by omega)) _) ?_
            refine m_mv rfl (wanted_g (j := 11) rfl rfl rfl (ev_in rfl (by omega))) (run_lod1 _ _ rfl oneIs (ev_in rfl (by omega)) mm5 (by decide) rfl) ?_
            refine m_mv rfl (wanted_g (j := 11) rfl rfl rfl (ev_in rfl (by omega))) (run_lenI _ rfl (ev_in rfl (by omega)) _) ?_
            refine m_mv rfl (wanted_g (j := 11) rfl rfl rfl (ev_in rfl (by omega))) (run_move _ rfl (ev_out rfl b3) _) ?_
            refine m_mv rfl (wanted_g (j := 11) rfl rfl rfl (ev_in rfl (by omega))) (run_eqlI (b := true) _ _ rfl (ev_in rfl (by omega)) (ev_in rfl (by omega)) (decide_eq_true h3) _) ?_
            refine m_mv rfl (wanted_rd rfl) (run_pickT' _ _ _ rfl (ev_in rfl (by omega)) (ev_in rfl (by omega)) _) ?_
            refine m_mv rfl (wanted_rd rfl) (run_assign _ rfl (ev_in rfl (by omega)) _) ?_
            refine l_nx ?_
            refine c_rs ?_
            refine m_mv rfl (wanted_rd rfl) (run_move _ rfl (ev_in rfl (by omega)) _) ?_
            refine m_mv rfl (wanted_rd rfl) (run_move _ rfl (ev_in rfl (by omega)) _) ?_
            refine m_mv rfl (wanted_g (j := 1) rfl rfl rfl (ev_in rfl (by omega))) (fldMs1 rfl (ev_in rfl (by omega)) _) ?_
            refine m_mv rfl (wanted_g (j := 1) rfl rfl rfl (ev_in rfl (by omega))) (run_lod1 _ _ rfl oneI (ev_in rfl (by omega)) mm5 (by decide) rfl) ?_
            refine m_do rfl (wanted_g (j := 1) rfl rfl rfl (ev_in rfl (by omega))) (fun K hK => ?_)
            have C1 := isNode_any c.m.F w5
            rw [h4] at C1
            refine wp_call1 _ 59 _ _ rfl (ev_in rfl (by omega)) (enter_pisNode _ _) C1 ?_
            rintro e w6 ⟨rfl, k6⟩
            have n6 := k6.size
            have mn6 := mn5.below k6
            have mr6 := mr5.below k6
            have mh6 := mh5.below k6
            have mm6 := mm5.below k6
            refine ⟨_, rfl, ?_⟩
            refine hK _ _ ?_
            clear hK K
            refine m_mv rfl (wanted_rd rfl) (run_pickT' _ _ _ rfl (ev_in rfl (by omega)) (ev_in rfl (by omega)) _) ?_
            refine m_mv rfl (wanted_rd rfl) (run_move _ rfl (ev_in rfl (by omega)) _) ?_
            refine m_skip rfl (wanted_n (j := 6) rfl rfl rfl (ev_in rfl (by omega)) (by decide)) ?_
            refine m_skip rfl (wanted_n (j := 6) rfl rfl rfl (ev_in rfl (by omega)) (by decide)) ?_
            refine m_skip rfl (wanted_n (j := 6) rfl rfl rfl (ev_in rfl (by omega)) (by decide)) ?_
            refine m_skip rfl (wanted_n (j := 6) rfl rfl rfl (ev_in rfl (by omega)) (by decide)) ?_
            refine m_skip rfl (wanted_n (j := 6) rfl rfl rfl (ev_in rfl (by omega)) (by decide)) ?_
            refine m_mv rfl (wanted_rd rfl) (run_pickF _ _ _ rfl (ev_in rfl (by omega)) (ev_const _ _) _) ?_
            refine m_mv rfl (wanted_rd rfl) (run_move _ rfl (ev_in rfl (by omega)) _) ?_
            refine m_skip rfl (wanted_n (j := 13) rfl rfl rfl (ev_in rfl (by omega)) (by decide)) ?_
            refine m_skip rfl (wanted_n (j := 13) rfl rfl rfl (ev_in rfl (by omega)) (by decide)) ?_
            refine m_skip rfl (wanted_n (j := 13) rfl rfl rfl (ev_in rfl (by omega)) (by decide)) ?_
            refine m_skip rfl (wanted_n (j := 13) rfl rfl rfl (ev_in rfl (by omega)) (by decide)) ?_
            refine m_skip rfl (wanted_n (j := 13) rfl rfl rfl (ev_in rfl (by omega)) (by decide)) ?_
            refine m_skip rfl (wanted_n (j := 13) rfl rfl rfl (ev_in rfl (by omega)) (by decide)) ?_
            refine m_mv rfl (wanted_rd rfl) (run_pickF _ _ _ rfl (ev_in rfl (by omega)) (ev_const _ _) _) ?_
            refine l_nx ?_
            refine c_false (ev_in rfl (by omega)) (c_finB ?_)
            refine c_region ?_
            refine m_mv rfl (wanted_rd rfl) (run_addI _ _ rfl (ev_out rfl b15) (ev_const _ _) (by omega) (by omega) _) ?_
            refine m_mv rfl (wanted_rd rfl) (run_move _ rfl (ev_in rfl (by omega)) _) ?_
            exact l_round ⟨L.length - (i + 1), by omega, i + 1, by omega, by omega, (szL _ _).trans hs, (defL _ _).trans hd, (ev_out rfl b2), (ev_out rfl b3), (ev_out rfl b4), (ev_out rfl b8), (ev_out rfl b9), (ev_out rfl b13), (ev_out rfl b14), (ev_in rfl (by omega)).trans (by rw [Int.natCast_add]; rfl), mn6, mr6, by rw [take_snoc hc]; exact Vh.congr mh6 (hr_keep hkeep), (below_of_kept (kB.trans (k4.mono (by omega))) k5 (by omega) (by omega)).trans (k6.mono (by omega)), by omega⟩
        · have hkeep : ∀ s : Nat, s < 4 → fitB n.id n.fr (s : Int) kind many c.m = false ∨ (fL n.id n.fr (L.take i) (s : Int) kind many).isSome = true := fun s hs => Or.inl (by unfold fitB; rw [decide_eq_false (show ¬ (c.m.L.length : Int) = many from h3)]; simp)
          refine c_rs (m_start ?_)
          refine m_mv rfl (wanted_rd rfl) (run_lssI (b := true) _ _ rfl (ev_out rfl b15) (ev_out rfl b14) (decide_eq_true (by omega)) _) ?_
          refine l_nx ?_
          refine c_nx (c_true (ev_in rfl (by omega)) (c_fin ?_))
          refine c_nx (c_block ?_)
          refine c_rs ?_
          refine m_mv rfl (wanted_rd rfl) (run_ixM _ _ rfl (ev_out rfl b13) (ev_out rfl b15) rfl hin _) ?_
          refine m_mv rfl (wanted_rd rfl) (run_lodM _ rfl (ev_in rfl (by omega)) hcell) ?_
          refine m_do rfl (wanted_rd rfl) (fun K hK => ?_)
          refine wp_allocG _ _ rfl zeroMs (of_decide_eq_true rfl) ?_
          intro w4 m4 k4 z4
          have mn4 := mn.below k4
          have mr4 := mr.below k4
          have mh4 := mh.below k4
          refine hK _ _ ?_
          clear hK K
          refine m_st (wanted_rd rfl) (fun K hK => ?_)
          refine wp_storeP _ _ _ _ rfl manyMs (ev_in rfl (by omega)) (ev_in rfl (by omega)) m4 (by decide) (lmF_one _) rfl ?_
          intro w5 mm5 k5 z5
          have mm5 := Vh.congr mm5 (stP_all4 _ _)
          have mn5 := mn4.kept k5 (by omega)
          have mr5 := mr4.kept k5 (by omega)
          have mh5 := mh4.kept k5 (by omega)
          refine hK _ ?_
          clear hK K
          refine l_nx ?_
          refine c_rs ?_
          refine m_mv rfl (wanted_rd rfl) (fldMs0 rfl (ev_in rfl (by omega)) _) ?_
          refine m_mv rfl (wanted_rd rfl) (run_lod1 _ _ rfl oneI (ev_in rfl (by omega)) mm5 (by decide) rfl) ?_
          refine m_mv rfl (wanted_rd rfl) (run_move _ rfl (ev_out rfl b2) _) ?_
          refine m_mv rfl (wanted_rd rfl) (run_eqlI (b := true) _ _ rfl (ev_in rfl (by omega)) (ev_in rfl (by omega)) (decide_eq_true h1) _) ?_
          refine m_mv rfl (wanted_rd rfl) (run_move _ rfl (ev_in rfl (by omega)) _) ?_
          refine m_mv rfl (wanted_g (j := 4) rfl rfl rfl (ev_in rfl (by omega))) (fldMs2 rfl (ev_in rfl (by omega)) _) ?_
          refine m_mv rfl (wanted_g (j := 4) rfl rfl rfl (ev_in rfl (by omega))) (run_lod1 _ _ rfl oneI (ev_in rfl (by omega)) mm5 (by decide) rfl) ?_
          refine m_mv rfl (wanted_g (j := 4) rfl rfl rfl (ev_in rfl (by omega))) (fldNd1 rfl (ev_out rfl b4) _) ?_
          refine m_mv rfl (wanted_g (j := 4) rfl rfl rfl (ev_in rfl (by omega))) (run_lod1 _ _ rfl oneI (ev_in rfl (by omega)) mn5 (by decide) rfl) ?_
          refine m_mv rfl (wanted_g (j := 4) rfl rfl rfl (ev_in rfl (by omega))) (run_eqlI (b := true) _ _ rfl (ev_in rfl (by omega)) (ev_in rfl (by omega)) (decide_eq_true h2) _) ?_
          refine m_mv rfl (wanted_rd rfl) (run_pickT' _ _ _ rfl (ev_in rfl (by omega)) (ev_in rfl (by omega)) _) ?_
          refine m_mv rfl (wanted_rd rfl) (run_move _ rfl (ev_in rfl (by omega)) _) ?_
          refine m_mv rfl (wanted_g (j := 11) rfl rfl rfl (ev_in rfl (by omega))) (fldMs3 rfl (ev_in rfl (by omega)) _) ?_
          refine m_mv rfl (wanted_g (j := 11) rfl rfl rfl (ev_in rfl (by omega))) (run_lod1 _ _ rfl oneIs (ev_in rfl (by omega)) mm5 (by decide) rfl) ?_
          refine m_mv rfl (wanted_g (j := 11) rfl rfl rfl (ev_in rfl (by omega))) (run_lenI _ rfl (ev_in rfl (by omega)) _) ?_
          refine m_mv rfl (wanted_g (j := 11) rfl rfl rfl (ev_in rfl (by omega))) (run_move _ rfl (ev_out rfl b3) _) ?_
          refine m_mv rfl (wanted_g (j := 11) rfl rfl rfl (ev_in rfl (by omega))) (run_eqlI (b := false) _ _ rfl (ev_in rfl (by omega)) (ev_in rfl (by omega)) (decide_eq_false h3) _) ?_
          refine m_mv rfl (wanted_rd rfl) (run_pickT' _ _ _ rfl (ev_in rfl (by omega)) (ev_in rfl (by omega)) _) ?_
          refine m_mv rfl (wanted_rd rfl) (run_assign _ rfl (ev_in rfl (by omega)) _) ?_
          refine l_nx ?_
          refine c_rs ?_
          refine m_mv rfl (wanted_rd rfl) (run_move _ rfl (ev_in rfl (by omega)) _) ?_
          refine m_mv rfl (wanted_rd rfl) (run_move _ rfl (ev_in rfl (by omega)) _) ?_
          refine m_skip rfl (wanted_n (j := 1) rfl rfl rfl (ev_in rfl (by omega)) (by decide)) ?_
          refine m_skip rfl (wanted_n (j := 1) rfl rfl rfl (ev_in rfl (by omega)) (by decide)) ?_
          refine m_skip rfl (wanted_n (j := 1) rfl rfl rfl (ev_in rfl (by omega)) (by decide)) ?_
          refine m_mv rfl (wanted_rd rfl) (run_pickF _ _ _ rfl (ev_in rfl (by omega)) (ev_const _ _) _) ?_
          refine m_mv rfl (wanted_rd rfl) (run_move _ rfl (ev_in rfl (by omega)) _) ?_
          refine m_skip rfl (wanted_n (j := 6) rfl rfl rfl (ev_in rfl (by omega)) (by decide)) ?_
          refine m_skip rfl (wanted_n (j := 6) rfl rfl rfl (ev_in rfl (by omega)) (by decide)) ?_
          refine m_skip rfl (wanted_n (j := 6) rfl rfl rfl (ev_in rfl (by omega)) (by decide)) ?_
          refine m_skip rfl (wanted_n (j := 6) rfl rfl rfl (ev_in rfl (by omega)) (by decide)) ?_
          refine m_skip rfl (wanted_n (j := 6) rfl rfl rfl (ev_in rfl (by omega)) (by decide)) ?_
          refine m_mv rfl (wanted_rd rfl) (run_pickF _ _ _ rfl (ev_in rfl (by omega)) (ev_const _ _) _) ?_
          refine m_mv rfl (wanted_rd rfl) (run_move _ rfl (ev_in rfl (by omega)) _) ?_
          refine m_skip rfl (wanted_n (j := 13) rfl rfl rfl (ev_in rfl (by omega)) (by decide)) ?_
          refine m_skip rfl (wanted_n (j := 13) rfl rfl rfl (ev_in rfl (by omega)) (by decide)) ?_
          refine m_skip rfl (wanted_n (j := 13) rfl rfl rfl (ev_in rfl (by omega)) (by decide)) ?_
          refine m_skip rfl (wanted_n (j := 13) rfl rfl rfl (ev_in rfl (by omega)) (by decide)) ?_
          refine m_skip rfl (wanted_n (j := 13) rfl rfl rfl (ev_in rfl (by omega)) (by decide)) ?_
          refine m_skip rfl (wanted_n (j := 13) rfl rfl rfl (ev_in rfl (by omega)) (by decide)) ?_
          refine m_mv rfl (wanted_rd rfl) (run_pickF _ _ _ rfl (ev_in rfl (by omega)) (ev_const _ _) _) ?_
          refine l_nx ?_
          refine c_false (ev_in rfl (by omega)) (c_finB ?_)
          refine c_region ?_
          refine m_mv rfl (wanted_rd rfl) (run_addI _ _ rfl (ev_out rfl b15) (ev_const _ _) (by omega) (by omega) _) ?_
          refine m_mv rfl (wanted_rd rfl) (run_move _ rfl (ev_in rfl (by omega)) _) ?_
          exact l_round ⟨L.length - (i + 1), by omega, i + 1, by omega, by omega, (szL _ _).trans hs, (defL _ _).trans hd, (ev_out rfl b2), (ev_out rfl b3), (ev_out rfl b4), (ev_out rfl b8), (ev_out rfl b9), (ev_out rfl b13), (ev_out rfl b14), (ev_in rfl (by omega)).trans (by rw [Int.natCast_add]; rfl), mn5, mr5, by rw [take_snoc hc]; exact Vh.congr mh5 (hr_keep hkeep), below_of_kept (kB.trans (k4.mono (by omega))) k5 (by omega) (by omega), by omega⟩
      · have hkeep : ∀ s : Nat, s < 4 → fitB n.id n.fr (s : Int) kind many c.m = false ∨ (fL n.id n.fr (L.take i) (s : Int) kind many).isSome = true := fun s hs => Or.inl (by unfold fitB; rw [decide_eq_false (show ¬ c.m.R = n.fr from h2)]; simp)
        refine c_rs (m_start ?_)
        refine m_mv rfl (wanted_rd rfl) (run_lssI (b := true) _ _ rfl (ev_out rfl b15) (ev_out rfl b14) (decide_eq_true (by omega)) _) ?_
        refine l_nx ?_
        refine c_nx (c_true (ev_in rfl (by omega)) (c_fin ?_))
        refine c_nx (c_block ?_)
        refine c_rs ?_
        refine m_mv rfl (wanted_rd rfl) (run_ixM _ _ rfl (ev_out rfl b13) (ev_out rfl b15) rfl hin _) ?_
        refine m_mv rfl (wanted_rd rfl) (run_lodM _ rfl (ev_in rfl (by omega)) hcell) ?_
        refine m_do rfl (wanted_rd rfl) (fun K hK => ?_)
        refine wp_allocG _ _ rfl zeroMs (of_decide_eq_true rfl) ?_
        intro w4 m4 k4 z4
        have mn4 := mn.below k4
        have mr4 := mr.below k4
        have mh4 := mh.below k4
        refine hK _ _ ?_
        clear hK K
        refine m_st (wanted_rd rfl) (fun K hK => ?_)
        refine wp_storeP _ _ _ _ rfl manyMs (ev_in rfl (by omega)) (ev_in rfl (by omega)) m4 (by decide) (lmF_one _) rfl ?_
        intro w5 mm5 k5 z5
        have mm5 := Vh.congr mm5 (stP_all4 _ _)
        have mn5 := mn4.kept k5 (by omega)
        have mr5 := mr4.kept k5 (by omega)
        have mh5 := mh4.kept k5 (by omega)
        refine hK _ ?_
        clear hK K
        refine l_nx ?_
        refine c_rs ?_
        refine m_mv rfl (wanted_rd rfl) (fldMs0 rfl (ev_in rfl (by omega)) _) ?_
        refine m_mv rfl (wanted_rd rfl) (run_lod1 _ _ rfl oneI (ev_in rfl (by omega)) mm5 (by decide) rfl) ?_
        refine m_mv rfl (wanted_rd rfl) (run_move _ rfl (ev_out rfl b2) _) ?_
        refine m_mv rfl (wanted_rd rfl) (run_eqlI (b := true) _ _ rfl (ev_in rfl (by omega)) (ev_in rfl (by omega)) (decide_eq_true h1) _) ?_
        refine m_mv rfl (wanted_rd rfl) (run_move _ rfl (ev_in rfl (by omega)) _) ?_
        refine m_mv rfl (wanted_g (j := 4) rfl rfl rfl (ev_in rfl (by omega))) (fldMs2 rfl (ev_in rfl (by omega)) _) ?_
        refine m_mv rfl (wanted_g (j := 4) rfl rfl rfl (ev_in rfl (by omega))) (run_lod1 _ _ rfl oneI (ev_in rfl (by omega)) mm5 (by decide) rfl) ?_
        refine m_mv rfl (wanted_g (j := 4) rfl rfl rfl (ev_in rfl (by omega))) (fldNd1 rfl (ev_out rfl b4) _) ?_
        refine m_mv rfl (wanted_g (j := 4) rfl rfl rfl (ev_in rfl (by omega))) (run_lod1 _ _ rfl oneI (ev_in rfl (by omega)) mn5 (by decide) rfl) ?_
        refine m_mv rfl (wanted_g (j := 4) rfl rfl rfl (ev_in rfl (by omega))) (run_eqlI (b := false) _ _ rfl (ev_in rfl (by omega)) (ev_in rfl (by omega)) (decide_eq_false h2) _) ?_
        refine m_mv rfl (wanted_rd rfl) (run_pickT' _ _ _ rfl (ev_in rfl (by omega)) (ev_in rfl (by omega)) _) ?_
        refine m_mv rfl (wanted_rd rfl) (run_move _ rfl (ev_in rfl (by omega)) _) ?_
        refine m_skip rfl (wanted_n (j := 11) rfl rfl rfl (ev_in rfl (by omega)) (by decide)) ?_
        refine m_skip rfl (wanted_n (j := 11) rfl rfl rfl (ev_in rfl (by omega)) (by decide)) ?_
        refine m_skip rfl (wanted_n (j := 11) rfl rfl rfl (ev_in rfl (by omega)) (by decide)) ?_
        refine m_skip rfl (wanted_n (j := 11) rfl rfl rfl (ev_in rfl (by omega)) (by decide)) ?_
        refine m_skip rfl (wanted_n (j := 11) rfl rfl rfl (ev_in rfl (by omega)) (by decide)) ?_
        refine m_mv rfl (wanted_rd rfl) (run_pickF _ _ _ rfl (ev_in rfl (by omega)) (ev_const _ _) _) ?_
        refine m_mv rfl (wanted_rd rfl) (run_assign _ rfl (ev_in rfl (by omega)) _) ?_
        refine l_nx ?_
        refine c_rs ?_
        refine m_mv rfl (wanted_rd rfl) (run_move _ rfl (ev_in rfl (by omega)) _) ?_
        refine m_mv rfl (wanted_rd rfl) (run_move _ rfl (ev_in rfl (by omega)) _) ?_
        refine m_skip rfl (wanted_n (j := 1) rfl rfl rfl (ev_in rfl (by omega)) (by decide)) ?_
        refine m_skip rfl (wanted_n (j := 1) rfl rfl rfl (ev_in rfl (by omega)) (by decide)) ?_
        refine m_skip rfl (wanted_n (j := 1) rfl rfl rfl (ev_in rfl (by omega)) (by decide)) ?_
        refine m_mv rfl (wanted_rd rfl) (run_pickF _ _ _ rfl (ev_in rfl (by omega)) (ev_const _ _) _) ?_
        refine m_mv rfl (wanted_rd rfl) (run_move _ rfl (ev_in rfl (by omega)) _) ?_
        refine m_skip rfl (wanted_n (j := 6) rfl rfl rfl (ev_in rfl (by omega)) (by decide)) ?_
        refine m_skip rfl (wanted_n (j := 6) rfl rfl rfl (ev_in rfl (by omega)) (by decide)) ?_
        refine m_skip rfl (wanted_n (j := 6) rfl rfl rfl (ev_in rfl (by omega)) (by decide)) ?_
        refine m_skip rfl (wanted_n (j := 6) rfl rfl rfl (ev_in rfl (by omega)) (by decide)) ?_
        refine m_skip rfl (wanted_n (j := 6) rfl rfl rfl (ev_in rfl (by omega)) (by decide)) ?_
        refine m_mv rfl (wanted_rd rfl) (run_pickF _ _ _ rfl (ev_in rfl (by omega)) (ev_const _ _) _) ?_
        refine m_mv rfl (wanted_rd rfl) (run_move _ rfl (ev_in rfl (by omega)) _) ?_
        refine m_skip rfl (wanted_n (j := 13) rfl rfl rfl (ev_in rfl (by omega)) (by decide)) ?_
        refine m_skip rfl (wanted_n (j := 13) rfl rfl rfl (ev_in rfl (by omega)) (by decide)) ?_
        refine m_skip rfl (wanted_n (j := 13) rfl rfl rfl (ev_in rfl (by omega)) (by decide)) ?_
        refine m_skip rfl (wanted_n (j := 13) rfl rfl rfl (ev_in rfl (by omega)) (by decide)) ?_
        refine m_skip rfl (wanted_n (j := 13) rfl rfl rfl (ev_in rfl (by omega)) (by decide)) ?_
        refine m_skip rfl (wanted_n (j := 13) rfl rfl rfl (ev_in rfl (by omega)) (by decide)) ?_
        refine m_mv rfl (wanted_rd rfl) (run_pickF _ _ _ rfl (ev_in rfl (by omega)) (ev_const _ _) _) ?_
        refine l_nx ?_
        refine c_false (ev_in rfl (by omega)) (c_finB ?_)
        refine c_region ?_
        refine m_mv rfl (wanted_rd rfl) (run_addI _ _ rfl (ev_out rfl b15) (ev_const _ _) (by omega) (by omega) _) ?_
        refine m_mv rfl (wanted_rd rfl) (run_move _ rfl (ev_in rfl (by omega)) _) ?_
        exact l_round ⟨L.length - (i + 1), by omega, i + 1, by omega, by omega, (szL _ _).trans hs, (defL _ _).trans hd, (ev_out rfl b2), (ev_out rfl b3), (ev_out rfl b4), (ev_out rfl b8), (ev_out rfl b9), (ev_out rfl b13), (ev_out rfl b14), (ev_in rfl (by omega)).trans (by rw [Int.natCast_add]; rfl), mn5, mr5, by rw [take_snoc hc]; exact Vh.congr mh5 (hr_keep hkeep), below_of_kept (kB.trans (k4.mono (by omega))) k5 (by omega) (by omega), by omega⟩
    · have hkeep : ∀ s : Nat, s < 4 → fitB n.id n.fr (s : Int) kind many c.m = false ∨ (fL n.id n.fr (L.take i) (s : Int) kind many).isSome = true := fun s hs => Or.inl (by unfold fitB; rw [decide_eq_false (show ¬ c.m.K = kind from h1)]; simp)
      refine c_rs (m_start ?_)
      refine m_mv rfl (wanted_rd rfl) (run_lssI (b := true) _ _ rfl (ev_out rfl b15) (ev_out rfl b14) (decide_eq_true (by omega)) _) ?_
      refine l_nx ?_
      refine c_nx (c_true (ev_in rfl (by omega)) (c_fin ?_))
      refine c_nx (c_block ?_)
      refine c_rs ?_
      refine m_mv rfl (wanted_rd rfl) (run_ixM _ _ rfl (ev_out rfl b13) (ev_out rfl b15) rfl hin _) ?_
      refine m_mv rfl (wanted_rd rfl) (run_lodM _ rfl (ev_in rfl (by omega)) hcell) ?_
      refine m_do rfl (wanted_rd rfl) (fun K hK => ?_)
      refine wp_allocG _ _ rfl zeroMs (of_decide_eq_true rfl) ?_
      intro w4 m4 k4 z4
      have mn4 := mn.below k4
      have mr4 := mr.below k4
      have mh4 := mh.below k4
      refine hK _ _ ?_
      clear hK K
      refine m_st (wanted_rd rfl) (fun K hK => ?_)
      refine wp_storeP _ _ _ _ rfl manyMs (ev_in rfl (by omega)) (ev_in rfl (by omega)) m4 (by decide) (lmF_one _) rfl ?_
      intro w5 mm5 k5 z5
      have mm5 := Vh.congr mm5 (stP_all4 _ _)
      have mn5 := mn4.kept k5 (by omega)
      have mr5 := mr4.kept k5 (by omega)
      have mh5 := mh4.kept k5 (by omega)
      refine hK _ ?_
      clear hK K
      refine l_nx ?_
      refine c_rs ?_
      refine m_mv rfl (wanted_rd rfl) (fldMs0 rfl (ev_in rfl (by omega)) _) ?_
      refine m_mv rfl (wanted_rd rfl) (run_lod1 _ _ rfl oneI (ev_in rfl (by omega)) mm5 (by decide) rfl) ?_
      refine m_mv rfl (wanted_rd rfl) (run_move _ rfl (ev_out rfl b2) _) ?_
      refine m_mv rfl (wanted_rd rfl) (run_eqlI (b := false) _ _ rfl (ev_in rfl (by omega)) (ev_in rfl (by omega)) (decide_eq_false h1) _) ?_
      refine m_mv rfl (wanted_rd rfl) (run_move _ rfl (ev_in rfl (by omega)) _) ?_
      refine m_skip rfl (wanted_n (j := 4) rfl rfl rfl (ev_in rfl (by omega)) (by decide)) ?_
      refine m_skip rfl (wanted_n (j := 4) rfl rfl rfl (ev_in rfl (by omega)) (by decide)) ?_
      refine m_skip rfl (wanted_n (j := 4) rfl rfl rfl (ev_in rfl (by omega)) (by decide)) ?_
      refine m_skip rfl (wanted_n (j := 4) rfl rfl rfl (ev_in rfl (by omega)) (by decide)) ?_
      refine m_skip rfl (wanted_n (j := 4) rfl rfl rfl (ev_in rfl (by omega)) (by decide)) ?_
      refine m_mv rfl (wanted_rd rfl) (run_pickF _ _ _ rfl (ev_in rfl (by omega)) (ev_const _ _) _) ?_
      refine m_mv rfl (wanted_rd rfl) (run_move _ rfl (ev_in rfl (by omega)) _) ?_
      refine m_skip rfl (wanted_n (j := 11) rfl rfl rfl (ev_in rfl (by omega)) (by decide)) ?_
      refine m_skip rfl (wanted_n (j := 11) rfl rfl rfl (ev_in rfl (by omega)) (by decide)) ?_
      refine m_skip rfl (wanted_n (j := 11) rfl rfl rfl (ev_in rfl (by omega)) (by decide)) ?_
      refine m_skip rfl (wanted_n (j := 11) rfl rfl rfl (ev_in rfl (by omega)) (by decide)) ?_
      refine m_skip rfl (wanted_n (j := 11) rfl rfl rfl (ev_in rfl (by omega)) (by decide)) ?_
      refine m_mv rfl (wanted_rd rfl) (run_pickF _ _ _ rfl (ev_in rfl (by omega)) (ev_const _ _) _) ?_
      refine m_mv rfl (wanted_rd rfl) (run_assign _ rfl (ev_in rfl (by omega)) _) ?_
      refine l_nx ?_
      refine c_rs ?_
      refine m_mv rfl (wanted_rd rfl) (run_move _ rfl (ev_in rfl (by omega)) _) ?_
      refine m_mv rfl (wanted_rd rfl) (run_move _ rfl (ev_in rfl (by omega)) _) ?_
      refine m_skip rfl (wanted_n (j := 1) rfl rfl rfl (ev_in rfl (by omega)) (by decide)) ?_
      refine m_skip rfl (wanted_n (j := 1) rfl rfl rfl (ev_in rfl (by omega)) (by decide)) ?_
      refine m_skip rfl (wanted_n (j := 1) rfl rfl rfl (ev_in rfl (by omega)) (by decide)) ?_
      refine m_mv rfl (wanted_rd rfl) (run_pickF _ _ _ rfl (ev_in rfl (by omega)) (ev_const _ _) _) ?_
      refine m_mv rfl (wanted_rd rfl) (run_move _ rfl (ev_in rfl (by omega)) _) ?_
      refine m_skip rfl (wanted_n (j := 6) rfl rfl rfl (ev_in rfl (by omega)) (by decide)) ?_
      refine m_skip rfl (wanted_n (j := 6) rfl rfl rfl (ev_in rfl (by omega)) (by decide)) ?_
      refine m_skip rfl (wanted_n (j := 6) rfl rfl rfl (ev_in rfl (by omega)) (by decide)) ?_
      refine m_skip rfl (wanted_n (j := 6) rfl rfl rfl (ev_in rfl (by omega)) (by decide)) ?_
      refine m_skip rfl (wanted_n (j := 6) rfl rfl rfl (ev_in rfl (by omega)) (by decide)) ?_
      refine m_mv rfl (wanted_rd rfl) (run_pickF _ _ _ rfl (ev_in rfl (by omega)) (ev_const _ _) _) ?_
      refine m_mv rfl (wanted_rd rfl) (run_move _ rfl (ev_in rfl (by omega)) _) ?_
      refine m_skip rfl (wanted_n (j := 13) rfl rfl rfl (ev_in rfl (by omega)) (by decide)) ?_
      refine m_skip rfl (wanted_n (j := 13) rfl rfl rfl (ev_in rfl (by omega)) (by decide)) ?_
      refine m_skip rfl (wanted_n (j := 13) rfl rfl rfl (ev_in rfl (by omega)) (by decide)) ?_
      refine m_skip rfl (wanted_n (j := 13) rfl rfl rfl (ev_in rfl (by omega)) (by decide)) ?_
      refine m_skip rfl (wanted_n (j := 13) rfl rfl rfl (ev_in rfl (by omega)) (by decide)) ?_
      refine m_skip rfl (wanted_n (j := 13) rfl rfl rfl (ev_in rfl (by omega)) (by decide)) ?_
      refine m_mv rfl (wanted_rd rfl) (run_pickF _ _ _ rfl (ev_in rfl (by omega)) (ev_const _ _) _) ?_
      refine l_nx ?_
      refine c_false (ev_in rfl (by omega)) (c_finB ?_)
      refine c_region ?_
      refine m_mv rfl (wanted_rd rfl) (run_addI _ _ rfl (ev_out rfl b15) (ev_const _ _) (by omega) (by omega) _) ?_
      refine m_mv rfl (wanted_rd rfl) (run_move _ rfl (ev_in rfl (by omega)) _) ?_
      exact l_round ⟨L.length - (i + 1), by omega, i + 1, by omega, by omega, (szL _ _).trans hs, (defL _ _).trans hd, (ev_out rfl b2), (ev_out rfl b3), (ev_out rfl b4), (ev_out rfl b8), (ev_out rfl b9), (ev_out rfl b13), (ev_out rfl b14), (ev_in rfl (by omega)).trans (by rw [Int.natCast_add]; rfl), mn5, mr5, by rw [take_snoc hc]; exact Vh.congr mh5 (hr_keep hkeep), below_of_kept (kB.trans (k4.mono (by omega))) k5 (by omega) (by omega), by omega⟩
  · refine c_rs (m_start ?_)
    refine m_mv rfl (wanted_rd rfl) (run_lssI (b := false) _ _ rfl (ev_out rfl b15) (ev_out rfl b14) (decide_eq_false (by omega)) _) ?_
    obtain rfl : i = L.length := by omega
    rw [List.take_length] at mh
    refine l_nx ?_
    refine c_nx (c_false (ev_in rfl (by omega)) (c_exit (x_out ?_)))
    refine c_rs ?_
    refine m_mv rfl (wanted_rd rfl) (run_loadP _ _ rfl manyHr (ev_out rfl b9) mh (by decide)) ?_
    refine m_st (wanted_rd rfl) (fun K hK => ?_)
    refine wp_storeP _ _ _ _ rfl manyHr (ev_out rfl b8) (ev_in rfl (by omega)) mr (by decide) (hrO_one _ _ _ _ _) rfl ?_
    intro w4 mm4 k4 z4
    have mr4 := Vh.congr mm4 (stP_all4 _ _)
    have mn4 := mn.kept k4 (by omega)
    have mh4 := mh.kept k4 (by omega)
    refine hK _ ?_
    clear hK K
    refine l_nx ?_
    refine c_ret (ret_of ((defL _ _).trans hd) (res_c rfl (ev_out rfl b8) manyHr mr4 (Nat.le_refl _)) ⟨rfl, below_of_kept kB k4 (by omega) (by omega)⟩)

end Go.Proofs.YthimcecbgpamdaaGreat

namespace Go.Proofs.YthimcecbgpamdaaGreat
open Go.RowKit

theorem enter_calike (x : Value) (w : World) : (callFunc 74 #[x]).run Tryz.prog w = .ok (.enter 74 #[x]) w := by go_simp
/-- What a pair tells, if both are heard and alike; the first such pair. -/
def pairL (n : Nd) (L : List Lm) (p q : Nat) : Option Lm := match fL n.id n.fr L (p : Int) 5 24, fL n.id n.fr L (q : Int) 5 24 with | some a, some b => if a.m.L = b.m.L then some a else none | _, _ => none
def alk (n : Nd) (L : List Lm) : Option Lm := prs.findSome? fun p => pairL n L p.1 p.2
def alkV : Option Lm → Value
  | some c => lmV c
  | none => .slice none 0 0
theorem alk_none {n : Nd} {L : List Lm} (h : ∀ p q, p < q → q < 4 → pairL n L p q = none) : alk n L = none := by
  unfold alk
  rw [List.findSome?_eq_none_iff]
  intro p hp
  unfold prs at hp
  simp only [List.mem_cons, List.not_mem_nil, or_false] at hp
  rcases hp with rfl | rfl | rfl | rfl | rfl | rfl <;> exact h _ _ (by decide) (by decide)
theorem alk_found {n : Nd} {L : List Lm} {i k : Nat} {c : Lm} (hik : i < k) (hk : k < 4) (h : pairL n L i k = some c) (hb : ∀ p q, p < q → q < 4 → (p < i ∨ (p = i ∧ q < k)) → pairL n L p q = none) : alk n L = some c := by
  unfold alk prs
  match i, k, hik, hk with
  | 0, 1, _, _ => simp only [List.findSome?, h]
  | 0, 2, _, _ => simp only [List.findSome?, hb 0 1 (by decide) (by decide) (by omega), h]
  | 0, 3, _, _ => simp only [List.findSome?, hb 0 1 (by decide) (by decide) (by omega), hb 0 2 (by decide) (by decide) (by omega), h]
  | 1, 2, _, _ => simp only [List.findSome?, hb 0 1 (by decide) (by decide) (by omega), hb 0 2 (by decide) (by decide) (by omega), hb 0 3 (by decide) (by decide) (by omega), h]
  | 1, 3, _, _ => simp only [List.findSome?, hb 0 1 (by decide) (by decide) (by omega), hb 0 2 (by decide) (by decide) (by omega), hb 0 3 (by decide) (by decide) (by omega), hb 1 2 (by decide) (by decide) (by omega), h]
  | 2, 3, _, _ => simp only [List.findSome?, hb 0 1 (by decide) (by decide) (by omega), hb 0 2 (by decide) (by decide) (by omega), hb 0 3 (by decide) (by decide) (by omega), hb 1 2 (by decide) (by decide) (by omega), hb 1 3 (by decide) (by decide) (by omega), h]
  | i + 3, k, h1, h2 => exact absurd h1 (by omega)
/-- Four lists cut. -/
def sO (i : Nat) : Nat := if 4 = i then 0 else i
theorem sO_at {i : Nat} (h : i ≠ 4) : sO i = i := if_neg (Ne.symm h)
section
variable {f : Operand → Value} {o : Oper}
theorem run_cutH (x y : Operand) (ho : o.op = .slice 120 x (some y) none none) {b i : Nat} {z : Int} (hx : f x = .pointer (some ⟨b, 0, none⟩)) (hy : f y = .int .i64 z) (hz : z = (i : Int)) (hi : i ≤ 4) (w : World) :
    (execOp f o).run Tryz.prog w = .ok (.value (.slice (some ⟨b, sO i, none⟩) (4 - i) (4 - i))) w := by
  subst hz
  have : i = 0 ∨ i = 1 ∨ i = 2 ∨ i = 3 ∨ i = 4 := by omega
  unfold execOp
  rw [ho]
  simp only [Option.map_some, Option.map_none]
  rw [hx, hy]
  clear hx hy ho hi
  rcases this with rfl | rfl | rfl | rfl | rfl <;> go_simp <;> rfl
theorem run_lenLL (x : Operand) (ho : o.op = .call { callee := .builtin .len, args := #[x], argTypes := #[165] }) {ao : Option Addr} {n c : Nat} (hx : f x = .slice ao n c) (w : World) : (execOp f o).run Tryz.prog w = .ok (.value (.int .i64 ((n : Nat) : Int))) w := by
  unfold execOp
  rw [ho]
  dsimp only
  go_simp
theorem run_ixLL (x y : Operand) (ho : o.op = .indexAddr 165 x y) {b off n cap i : Nat} {z : Int} (hx : f x = .slice (some ⟨b, off, none⟩) n cap) (hy : f y = .int .i64 z) (hz : z = (i : Int)) (hi : i < n) (w : World) :
    (execOp f o).run Tryz.prog w = .ok (.value (.pointer (some ⟨b, off + i, none⟩))) w := by
  subst hz
  have hi2 : (i : Int) < n := by omega
  unfold execOp
  rw [ho]
  dsimp only
  rw [hx, hy]
  go_simp
end
set_option maxHeartbeats 4000000 in
theorem alike_any (n : Nd) (mo : Option Addr) (L : List Lm) (w : World) (hmr : MRd w mo L) :
    Calls Tryz.prog 74 #[agV (hrO n.id n.fr L 5 24) 0 4] w fun e w' => e = .returned (alkV (alk n L)) ∧ Below w.heap.size w w' := by
  refine enterF Tryz.func74 rfl 31 rfl (of_decide_eq_true rfl) (fun A hs hd hb => ?_)
  have b0 : A.eval (.tmp 0) = agV (hrO n.id n.fr L 5 24) 0 4 := hb 0 _ rfl
  clear hb
  refine c_rs (m_start ?_)
  refine m_do rfl (wanted_rd rfl) (fun K hK => ?_)
  refine wp_boxG _ _ _ rfl (ev_out rfl b0) (of_decide_eq_true rfl) ?_
  intro w1 m1 k1 z1
  refine hK _ _ ?_
  clear hK K
  refine m_mv rfl (wanted_rd rfl) (run_assign _ rfl (ev_const _ _) _) ?_
  refine l_nx ?_
  refine c_nx ?_
  refine c_rs ?_
  refine m_mv rfl (wanted_rd rfl) (run_loadP _ _ rfl manyHr (ev_in rfl (by omega)) m1 (by decide)) ?_
  refine m_mv rfl (wanted_rd rfl) (run_move _ rfl (ev_const _ _) _) ?_
  refine l_nx ?_
  refine c_block ?_
  refine c_loop (fun q A W => ∃ i : Nat, i ≤ 4 ∧ 4 - i ≤ q ∧ A.tmps.size = 31 ∧ A.defers = [] ∧ A.eval (.tmp 1) = .pointer (some ⟨w.heap.size, 0, none⟩) ∧ A.eval (.tmp 7) = agV (hrO n.id n.fr L 5 24) 0 4 ∧ A.eval (.tmp 8) = .int .i64 (i : Int) ∧ (∀ p q, p < q → q < 4 → p < i → pairL n L p q = none) ∧ Vh 120 W w.heap.size 4 4 (hrO n.id n.fr L 5 24) ∧ Below w.heap.size w W ∧ w1.heap.size ≤ W.heap.size) 4 ⟨0, by omega, by omega, (szL _ _).trans hs, (defL _ _).trans hd, (ev_in rfl (by omega)), (ev_in rfl (by omega)), (ev_in rfl (by omega)), fun p q _ _ h => absurd h (by omega), m1, k1, by omega⟩ (fun q B W hI2 => ?_)
  clear b0 hs hd
  obtain ⟨i, hi, hr2, hs, hd, b1, b7, b8, hno, mh, kB, hW⟩ := hI2
  by_cases hin : i < 4
  · refine c_rs (m_start ?_)
    refine m_mv rfl (wanted_rd rfl) (run_lssI (b := true) _ _ rfl (ev_out rfl b8) (ev_const _ _) (decide_eq_true (by omega)) _) ?_
    refine l_nx ?_
    refine c_nx (c_true (ev_in rfl (by omega)) (c_fin ?_))
    refine c_nx (c_block ?_)
    refine c_rs ?_
    refine m_mv rfl (wanted_rd rfl) (run_move _ rfl (ev_out rfl b8) _) ?_
    refine m_mv rfl (wanted_rd rfl) (run_ixV1 _ _ _ _ rfl Tryz.underlying120 oneIs (ev_out rfl b7) (ev_out rfl b8) rfl hin _) ?_
    refine m_mv rfl (wanted_rd rfl) (run_assign _ rfl (ev_in rfl (by omega)) _) ?_
    refine m_mv rfl (wanted_rd rfl) (run_assign _ rfl (ev_in rfl (by omega)) _) ?_
    refine l_nx ?_
    refine c_rs ?_
    refine m_mv rfl (wanted_rd rfl) (run_move _ rfl (ev_in rfl (by omega)) _) ?_
    refine m_mv rfl (wanted_rd rfl) (run_addI _ _ rfl (ev_in rfl (by omega)) (ev_const _ _) (by omega) (by omega) _) ?_
    refine m_mv rfl (wanted_rd rfl) (run_cutH (i := i + 1) _ _ rfl (ev_out rfl b1) (ev_in rfl (by omega)) (by rw [Int.natCast_add]; rfl) (by omega) _) ?_
    refine m_mv rfl (wanted_rd rfl) (run_lenLL _ rfl (ev_in rfl (by omega)) _) ?_
    refine m_mv rfl (wanted_rd rfl) (run_move _ rfl (ev_const _ _) _) ?_
    refine l_nx ?_
    refine c_block ?_
    refine c_loop (fun q A W => ∃ x : Nat, x ≤ 3 - i ∧ 3 - i - x ≤ q ∧ A.tmps.size = 31 ∧ A.defers = [] ∧ A.eval (.tmp 1) = .pointer (some ⟨w.heap.size, 0, none⟩) ∧ A.eval (.tmp 7) = agV (hrO n.id n.fr L 5 24) 0 4 ∧ A.eval (.tmp 8) = .int .i64 (i : Int) ∧ A.eval (.tmp 3) = .int .i64 (i : Int) ∧ A.eval (.tmp 4) = hrO n.id n.fr L 5 24 i ∧ A.eval (.tmp 14) = .slice (some ⟨w.heap.size, sO (i + 1), none⟩) (4 - (i + 1)) (4 - (i + 1)) ∧ A.eval (.tmp 15) = .int .i64 ((4 - (i + 1) : Nat) : Int) ∧ A.eval (.tmp 16) = .int .i64 (x : Int) ∧ (∀ p q, p < q → q < 4 → (p < i ∨ (p = i ∧ q < i + 1 + x)) → pairL n L p q = none) ∧ Vh 120 W w.heap.size 4 4 (hrO n.id n.fr L 5 24) ∧ Below w.heap.size w W ∧ w1.heap.size ≤ W.heap.size) (3 - i) ⟨0, by omega, by omega, (szL _ _).trans hs, (defL _ _).trans hd, (ev_out rfl b1), (ev_out rfl b7), (ev_out rfl b8), (ev_in rfl (by omega)), (ev_in rfl (by omega)), (ev_in rfl (by omega)), (ev_in rfl (by omega)), (ev_in rfl (by omega)), (fun p q h1 h2 h3 => hno p q h1 h2 (by omega)), mh, kB, hW⟩ (fun q3 B3 W3 hI3 => ?_)
    clear b1 b7 b8 hs hd mh hno
    obtain ⟨x, hx, hr3, hs, hd, b1, b7, b8, b3, b4, b14, b15, b16, hno, mh, kB3, hW3⟩ := hI3
    by_cases hin3 : x < 3 - i
    · have hi3 : i + 1 ≠ 4 := by omega
      have hin3b : x < 4 - (i + 1) := by omega
      have esO : sO (i + 1) + x = i + 1 + x := by rw [sO_at hi3]
      have b4r := b4
      rcases hfi : fL n.id n.fr L (i : Int) 5 24 with _ | ci
      · have b4 : B3.eval (.tmp 4) = .slice none 0 0 := b4.trans (by unfold hrO; rw [hfi])
        have hpk : pairL n L i (i + 1 + x) = none := by unfold pairL; rw [hfi]
        obtain ⟨ok, hok⟩ : ∃ v, hrO n.id n.fr L 5 24 (sO (i + 1) + x) = v := ⟨_, rfl⟩
        refine c_rs (m_start ?_)
        refine m_mv rfl (wanted_rd rfl) (run_lssI (b := true) _ _ rfl (ev_out rfl b16) (ev_out rfl b15) (decide_eq_true (by omega)) _) ?_
        refine l_nx ?_
        refine c_nx (c_true (ev_in rfl (by omega)) (c_fin ?_))
        refine c_nx (c_block ?_)
        refine c_rs ?_
        refine m_mv rfl (wanted_rd rfl) (run_ixLL _ _ rfl (ev_out rfl b14) (ev_out rfl b16) rfl hin3b _) ?_
        refine m_mv rfl (wanted_rd rfl) (run_lod1 _ _ rfl oneIs (ev_in rfl (by omega)) mh (by rw [sO_at hi3]; omega) hok) ?_
        refine m_mv rfl (wanted_rd rfl) (run_assign _ rfl (ev_in rfl (by omega)) _) ?_
        refine l_nx ?_
        refine c_rs ?_
        refine m_mv rfl (wanted_rd rfl) (run_move _ rfl (ev_out rfl b4) _) ?_
        refine m_mv rfl (wanted_rd rfl) (run_lenI _ rfl (ev_in rfl (by omega)) _) ?_
        refine m_mv rfl (wanted_rd rfl) (run_gtrI (b := false) _ _ rfl (ev_in rfl (by omega)) (ev_const _ _) (decide_eq_false (by omega)) _) ?_
        refine m_mv rfl (wanted_rd rfl) (run_move _ rfl (ev_in rfl (by omega)) _) ?_
        refine m_skip rfl (wanted_n (j := 3) rfl rfl rfl (ev_in rfl (by omega)) (by decide)) ?_
        refine m_skip rfl (wanted_n (j := 3) rfl rfl rfl (ev_in rfl (by omega)) (by decide)) ?_
        refine m_skip rfl (wanted_n (j := 3) rfl rfl rfl (ev_in rfl (by omega)) (by decide)) ?_
        refine m_mv rfl (wanted_rd rfl) (run_pickF _ _ _ rfl (ev_in rfl (by omega)) (ev_const _ _) _) ?_
        refine l_nx ?_
        refine c_false (ev_in rfl (by omega)) (c_finB ?_)
        refine c_region ?_
        refine m_mv rfl (wanted_rd rfl) (run_addI _ _ rfl (ev_out rfl b16) (ev_const _ _) (by omega) (by omega) _) ?_
        refine m_mv rfl (wanted_rd rfl) (run_move _ rfl (ev_in rfl (by omega)) _) ?_
        exact l_round ⟨3 - i - (x + 1), by omega, x + 1, by omega, by omega, (szL _ _).trans hs, (defL _ _).trans hd, (ev_out rfl b1), (ev_out rfl b7), (ev_out rfl b8), (ev_out rfl b3), (ev_out rfl b4r), (ev_out rfl b14), (ev_out rfl b15), (ev_in rfl (by omega)).trans (by rw [Int.natCast_add]; rfl), (fun p q h1 h2 h3 => by
          by_cases e : p = i ∧ q = i + 1 + x
          · rw [e.1, e.2]; exact hpk
          · exact hno p q h1 h2 (by omega)), mh, kB3, by omega⟩
      · obtain ⟨mci, fci⟩ := fL_mem hfi
        have lci := fit_len fci
        have b4 : B3.eval (.tmp 4) = .slice ci.ao ci.m.L.length ci.cap := b4.trans (by unfold hrO; rw [hfi]; rfl)
        rcases hfk : fL n.id n.fr L ((i + 1 + x : Nat) : Int) 5 24 with _ | ck
        · have hok : hrO n.id n.fr L 5 24 (sO (i + 1) + x) = .slice none 0 0 := by rw [esO]; unfold hrO; rw [hfk]
          have hpk : pairL n L i (i + 1 + x) = none := by unfold pairL; rw [hfi, hfk]
          have hnil : ¬ ci.m.L = [] := fun e => by rw [e] at lci; exact absurd lci (by decide)
          refine c_rs (m_start ?_)
          refine m_mv rfl (wanted_rd rfl) (run_lssI (b := true) _ _ rfl (ev_out rfl b16) (ev_out rfl b15) (decide_eq_true (by omega)) _) ?_
          refine l_nx ?_
          refine c_nx (c_true (ev_in rfl (by omega)) (c_fin ?_))
          refine c_nx (c_block ?_)
          refine c_rs ?_
          refine m_mv rfl (wanted_rd rfl) (run_ixLL _ _ rfl (ev_out rfl b14) (ev_out rfl b16) rfl hin3b _) ?_
          refine m_mv rfl (wanted_rd rfl) (run_lod1 _ _ rfl oneIs (ev_in rfl (by omega)) mh (by rw [sO_at hi3]; omega) hok) ?_
          refine m_mv rfl (wanted_rd rfl) (run_assign _ rfl (ev_in rfl (by omega)) _) ?_
          refine l_nx ?_
          refine c_rs ?_
          refine m_mv rfl (wanted_rd rfl) (run_move _ rfl (ev_out rfl b4) _) ?_
          refine m_mv rfl (wanted_rd rfl) (run_lenI _ rfl (ev_in rfl (by omega)) _) ?_
          refine m_mv rfl (wanted_rd rfl) (run_gtrI (b := true) _ _ rfl (ev_in rfl (by omega)) (ev_const _ _) (decide_eq_true (by omega)) _) ?_
          refine m_mv rfl (wanted_rd rfl) (run_move _ rfl (ev_in rfl (by omega)) _) ?_
          refine m_mv rfl (wanted_g (j := 3) rfl rfl rfl (ev_in rfl (by omega))) (run_move _ rfl (ev_out rfl b4) _) ?_
          refine m_mv rfl (wanted_g (j := 3) rfl rfl rfl (ev_in rfl (by omega))) (run_move _ rfl (ev_in rfl (by omega)) _) ?_
          refine m_do rfl (wanted_g (j := 3) rfl rfl rfl (ev_in rfl (by omega))) (fun K hK => ?_)
          have C21 := eqInts_any ci.m.L [] ci.ao none ci.cap 0 W3 (by have := (hmr.2 ci mci).2.2; omega) ((hmr.2 ci mci).below kB3).1 (Or.inl ⟨rfl, rfl, rfl⟩)
          rw [decide_eq_false hnil] at C21
          refine wp_call2 _ 109 _ _ _ rfl (ev_in rfl (by omega)) (ev_in rfl (by omega)) (enter_eqInts _ _ _) C21 ?_
          rintro e w21 ⟨rfl, k21⟩
          have n21 := k21.size
          have mh21 := mh.below k21
          refine ⟨_, rfl, ?_⟩
          refine hK _ _ ?_
          clear hK K
          refine m_mv rfl (wanted_rd rfl) (run_pickT' _ _ _ rfl (ev_in rfl (by omega)) (ev_in rfl (by omega)) _) ?_
          refine l_nx ?_
          refine c_false (ev_in rfl (by omega)) (c_finB ?_)
          refine c_region ?_
          refine m_mv rfl (wanted_rd rfl) (run_addI _ _ rfl (ev_out rfl b16) (ev_const _ _) (by omega) (by omega) _) ?_
          refine m_mv rfl (wanted_rd rfl) (run_move _ rfl (ev_in rfl (by omega)) _) ?_
          exact l_round ⟨3 - i - (x + 1), by omega, x + 1, by omega, by omega, (szL _ _).trans hs, (defL _ _).trans hd, (ev_out rfl b1), (ev_out rfl b7), (ev_out rfl b8), (ev_out rfl b3), (ev_out rfl b4r), (ev_out rfl b14), (ev_out rfl b15), (ev_in rfl (by omega)).trans (by rw [Int.natCast_add]; rfl), (fun p q h1 h2 h3 => by
            by_cases e : p = i ∧ q = i + 1 + x
            · rw [e.1, e.2]; exact hpk
            · exact hno p q h1 h2 (by omega)), mh21, kB3.trans (k21.mono (by omega)), by omega⟩
        · obtain ⟨mck, fck⟩ := fL_mem hfk
          have hok : hrO n.id n.fr L 5 24 (sO (i + 1) + x) = .slice ck.ao ck.m.L.length ck.cap := by rw [esO]; unfold hrO; rw [hfk]; rfl
          by_cases he : ci.m.L = ck.m.L
          · have hpk : pairL n L i (i + 1 + x) = some ci := by unfold pairL; rw [hfi, hfk]; exact if_pos he
            refine c_rs (m_start ?_)
            refine m_mv rfl (wanted_rd rfl) (run_lssI (b := true) _ _ rfl (ev_out rfl b16) (ev_out rfl b15) (decide_eq_true (by omega)) _) ?_
            refine l_nx ?_
            refine c_nx (c_true (ev_in rfl (by omega)) (c_fin ?_))
            refine c_nx (c_block ?_)
            refine c_rs ?_
            refine m_mv rfl (wanted_rd rfl) (run_ixLL _ _ rfl (ev_out rfl b14) (ev_out rfl b16) rfl hin3b _) ?_
            refine m_mv rfl (wanted_rd rfl) (run_lod1 _ _ rfl oneIs (ev_in rfl (by omega)) mh (by rw [sO_at hi3]; omega) hok) ?_
            refine m_mv rfl (wanted_rd rfl) (run_assign _ rfl (ev_in rfl (by omega)) _) ?_
            refine l_nx ?_
            refine c_rs ?_
            refine m_mv rfl (wanted_rd rfl) (run_move _ rfl (ev_out rfl b4) _) ?_
            refine m_mv rfl (wanted_rd rfl) (run_lenI _ rfl (ev_in rfl (by omega)) _) ?_
            refine m_mv rfl (wanted_rd rfl) (run_gtrI (b := true) _ _ rfl (ev_in rfl (by omega)) (ev_const _ _) (decide_eq_true (by omega)) _) ?_
            refine m_mv rfl (wanted_rd rfl) (run_move _ rfl (ev_in rfl (by omega)) _) ?_
            refine m_mv rfl (wanted_g (j := 3) rfl rfl rfl (ev_in rfl (by omega))) (run_move _ rfl (ev_out rfl b4) _) ?_
            refine m_mv rfl (wanted_g (j := 3) rfl rfl rfl (ev_in rfl (by omega))) (run_move _ rfl (ev_in rfl (by omega)) _) ?_
            refine m_do rfl (wanted_g (j := 3) rfl rfl rfl (ev_in rfl (by omega))) (fun K hK => ?_)
            have C21 := eqInts_any ci.m.L ck.m.L ci.ao ck.ao ci.cap ck.cap W3 (by have := (hmr.2 ci mci).2.2; omega) ((hmr.2 ci mci).below kB3).1 ((hmr.2 ck mck).below kB3).1
            rw [decide_eq_true he] at C21
            refine wp_call2 _ 109 _ _ _ rfl (ev_in rfl (by omega)) (ev_in rfl (by omega)) (enter_eqInts _ _ _) C21 ?_
            rintro e w21 ⟨rfl, k21⟩
            have n21 := k21.size
            have mh21 := mh.below k21
            refine ⟨_, rfl, ?_⟩
            refine hK _ _ ?_
            clear hK K
            refine m_mv rfl (wanted_rd rfl) (run_pickT' _ _ _ rfl (ev_in rfl (by omega)) (ev_in rfl (by omega)) _) ?_
            refine l_nx ?_
            refine c_true (ev_in rfl (by omega)) ?_
            refine c_rs ?_
            refine m_mv rfl (wanted_rd rfl) (run_move _ rfl (ev_out rfl b4) _) ?_
            refine m_mv rfl (wanted_rd rfl) (run_assign _ rfl (ev_in rfl (by omega)) _) ?_
            refine l_nx ?_
            refine c_ret ?_
            simp only [Nx, Exit.inBlock, Exit.then]
            refine ret_of ((defL _ _).trans hd) (res_t rfl (ev_in rfl (by omega))) ⟨?_, kB3.trans (k21.mono (by omega))⟩
            unfold alkV
            rw [alk_found (show i < i + 1 + x by omega) (by omega) hpk (fun p q h1 h2 h3 => hno p q h1 h2 h3)]
            rfl
          · have hpk : pairL n L i (i + 1 + x) = none := by unfold pairL; rw [hfi, hfk]; exact if_neg he
            refine c_rs (m_start ?_)
            refine m_mv rfl (wanted_rd rfl) (run_lssI (b := true) _ _ rfl (ev_out rfl b16) (ev_out rfl b15) (decide_eq_true (by omega)) _) ?_
            refine l_nx ?_
            refine c_nx (c_true (ev_in rfl (by omega)) (c_fin ?_))
            refine c_nx (c_block ?_)
            refine c_rs ?_
            refine m_mv rfl (wanted_rd rfl) (run_ixLL _ _ rfl (ev_out rfl b14) (ev_out rfl b16) rfl hin3b _) ?_
            refine m_mv rfl (wanted_rd rfl) (run_lod1 _ _ rfl oneIs (ev_in rfl (by omega)) mh (by rw [sO_at hi3]; omega) hok) ?_
            refine m_mv rfl (wanted_rd rfl) (run_assign _ rfl (ev_in rfl (by omega)) _) ?_
            refine l_nx ?_
            refine c_rs ?_
            refine m_mv rfl (wanted_rd rfl) (run_move _ rfl (ev_out rfl b4) _) ?_
            refine m_mv rfl (wanted_rd rfl) (run_lenI _ rfl (ev_in rfl (by omega)) _) ?_
            refine m_mv rfl (wanted_rd rfl) (run_gtrI (b := true) _ _ rfl (ev_in rfl (by omega)) (ev_const _ _) (decide_eq_true (by omega)) _) ?_
            refine m_mv rfl (wanted_rd rfl) (run_move _ rfl (ev_in rfl (by omega)) _) ?_
            refine m_mv rfl (wanted_g (j := 3) rfl rfl rfl (ev_in rfl (by omega))) (run_move _ rfl (ev_out rfl b4) _) ?_
            refine m_mv rfl (wanted_g (j := 3) rfl rfl rfl (ev_in rfl (by omega))) (run_move _ rfl (ev_in rfl (by omega)) _) ?_
            refine m_do rfl (wanted_g (j := 3) rfl rfl rfl (ev_in rfl (by omega))) (fun K hK => ?_)
            have C21 := eqInts_any ci.m.L ck.m.L ci.ao ck.ao ci.cap ck.cap W3 (by have := (hmr.2 ci mci).2.2; omega) ((hmr.2 ci mci).below kB3).1 ((hmr.2 ck mck).below kB3).1
            rw [decide_eq_false he] at C21
            refine wp_call2 _ 109 _ _ _ rfl (ev_in rfl (by omega)) (ev_in rfl (by omega)) (enter_eqInts _ _ _) C21 ?_
            rintro e w21 ⟨rfl, k21⟩
            have n21 := k21.size
            have mh21 := mh.below k21
            refine ⟨_, rfl, ?_⟩
            refine hK _ _ ?_
            clear hK K
            refine m_mv rfl (wanted_rd rfl) (run_pickT' _ _ _ rfl (ev_in rfl (by omega)) (ev_in rfl (by omega)) _) ?_
            refine l_nx ?_
            refine c_false (ev_in rfl (by omega)) (c_finB ?_)
            refine c_region ?_
            refine m_mv rfl (wanted_rd rfl) (run_addI _ _ rfl (ev_out rfl b16) (ev_const _ _) (by omega) (by omega) _) ?_
            refine m_mv rfl (wanted_rd rfl) (run_move _ rfl (ev_in rfl (by omega)) _) ?_
            exact l_round ⟨3 - i - (x + 1), by omega, x + 1, by omega, by omega, (szL _ _).trans hs, (defL _ _).trans hd, (ev_out rfl b1), (ev_out rfl b7), (ev_out rfl b8), (ev_out rfl b3), (ev_out rfl b4r), (ev_out rfl b14), (ev_out rfl b15), (ev_in rfl (by omega)).trans (by rw [Int.natCast_add]; rfl), (fun p q h1 h2 h3 => by
              by_cases e : p = i ∧ q = i + 1 + x
              · rw [e.1, e.2]; exact hpk
              · exact hno p q h1 h2 (by omega)), mh21, kB3.trans (k21.mono (by omega)), by omega⟩
    · refine c_rs (m_start ?_)
      refine m_mv rfl (wanted_rd rfl) (run_lssI (b := false) _ _ rfl (ev_out rfl b16) (ev_out rfl b15) (decide_eq_false (by omega)) _) ?_
      refine l_nx ?_
      refine c_nx (c_false (ev_in rfl (by omega)) (c_exit (x_out2 ?_)))
      refine c_region ?_
      refine m_mv rfl (wanted_rd rfl) (run_addI _ _ rfl (ev_out rfl b8) (ev_const _ _) (by omega) (by omega) _) ?_
      refine m_mv rfl (wanted_rd rfl) (run_move _ rfl (ev_in rfl (by omega)) _) ?_
      exact l_round ⟨4 - (i + 1), by omega, i + 1, by omega, by omega, (szL _ _).trans hs, (defL _ _).trans hd, (ev_out rfl b1), (ev_out rfl b7), (ev_in rfl (by omega)).trans (by rw [Int.natCast_add]; rfl), (fun p q h1 h2 h3 => hno p q h1 h2 (by omega)), mh, kB3, hW3⟩
  · refine c_rs (m_start ?_)
    refine m_mv rfl (wanted_rd rfl) (run_lssI (b := false) _ _ rfl (ev_out rfl b8) (ev_const _ _) (decide_eq_false (by omega)) _) ?_
    refine l_nx ?_
    refine c_nx (c_false (ev_in rfl (by omega)) (c_exit (x_out ?_)))
    refine c_rs ?_
    refine m_mv rfl (wanted_rd rfl) (run_assign _ rfl (ev_const _ _) _) ?_
    refine l_nx ?_
    refine c_ret (ret_of ((defL _ _).trans hd) (res_t rfl (ev_in rfl (by omega))) ⟨?_, kB⟩)
    unfold alkV
    rw [alk_none (fun p q h1 h2 => hno p q h1 h2 (by omega))]

end Go.Proofs.YthimcecbgpamdaaGreat

namespace Go.Proofs.YthimcecbgpamdaaGreat
open Go.RowKit

/-- The computer whose report is put out. -/
def cloR (n : Nd) (l : List Ms) : Nd := if noN n.id then zeroN else cloN n l
/-- Close. -/
def ClOK (fn : Nat) : Prop := ∀ (n : Nd) (ao : Option Addr) (c : Nat) (mo : Option Addr) (mc : Nat) (L : List Lm) (w : World), NdOK n → AgRd w n ao c → MRd w mo L → L.length ≤ 140737488351232 → L.length ≤ mc → (∀ m, m ∈ L → ∀ i, R64 (gL m.m.L i)) →
  Calls Tryz.prog fn #[ndV n (.slice ao n.vA.length c), .slice mo L.length mc] w fun e w' => ∃ a' c', e = .returned (.tuple #[ndV (cloN n (L.map Lm.m)) (.slice a' (cloN n (L.map Lm.m)).vA.length c'), agV (rpF (cloR n (L.map Lm.m))) 0 14]) ∧ AgNew w.heap.size w' (cloN n (L.map Lm.m)) a' c' ∧ Below w.heap.size w w'
/-- With what the first pair tells that is heard and alike. -/
def cloT (n : Nd) (L : List Lm) : Nd := match alk n L with | some c => if unOK c.m.L then { n with ax := unA c.m.L, rl := unR c.m.L } else n | none => n
theorem cloT_vA (n : Nd) (L : List Lm) : (cloT n L).vA = n.vA := by
  unfold cloT
  split
  · split <;> rfl
  · rfl
theorem pair_map (n : Nd) (L : List Lm) (p : Nat × Nat) : pairN n (L.map Lm.m) p = (pairL n L p.1 p.2).map (fun c => c.m.L) := by
  unfold pairN pairL
  have h1 := fL_frst n L p.1 5 24
  have h2 := fL_frst n L p.2 5 24
  rw [show ((24 : Nat) : Int) = 24 from rfl] at h1 h2
  rw [← h1, ← h2]
  cases fL n.id n.fr L (p.1 : Int) 5 24 with
  | none => rfl
  | some a =>
    cases fL n.id n.fr L (p.2 : Int) 5 24 with
    | none => rfl
    | some b =>
      show (if a.m.L = b.m.L then some a.m.L else none) = Option.map _ (if a.m.L = b.m.L then some a else none)
      split <;> rfl
theorem find_map {α β γ : Type} (g : α → Option β) (f : β → γ) (l : List α) : l.findSome? (fun p => (g p).map f) = (l.findSome? g).map f := by
  induction l with
  | nil => rfl
  | cons x l ih =>
    rw [List.findSome?_cons, List.findSome?_cons]
    cases g x with
    | none => exact ih
    | some b => rfl
theorem alk_map (n : Nd) (L : List Lm) : prs.findSome? (pairN n (L.map Lm.m)) = (alk n L).map (fun c => c.m.L) := by
  unfold alk
  rw [← find_map]
  congr 1
  funext p
  exact pair_map n L p
theorem clo_still {n : Nd} {l : List Ms} (hno : noN n.id = false) (h : ¬ (n.vS = true ∧ n.vX ≠ n.dg)) : cloN n l = n := by
  unfold cloN cloV
  rw [if_neg (by rw [hno]; decide), if_neg h]
theorem clo_take {n : Nd} {L : List Lm} (hno : noN n.id = false) (h : n.vS = true ∧ n.vX ≠ n.dg) : cloN n (L.map Lm.m) = cloT n L := by
  unfold cloN cloV cloT
  rw [if_neg (by rw [hno]; decide), if_pos h, alk_map]
  cases alk n L <;> rfl
theorem pair_mem {n : Nd} {L : List Lm} {p q : Nat} {c : Lm} (h : pairL n L p q = some c) : c ∈ L ∧ c.m.L.length = 24 := by
  unfold pairL at h
  cases h1 : fL n.id n.fr L (p : Int) 5 24 with
  | none => rw [h1] at h; cases h
  | some a =>
    rw [h1] at h
    cases h2 : fL n.id n.fr L (q : Int) 5 24 with
    | none => rw [h2] at h; cases h
    | some b =>
      rw [h2] at h
      dsimp only at h
      split at h
      · cases h
        obtain ⟨m, f⟩ := fL_mem h1
        exact ⟨m, by have := fit_len f; omega⟩
      · cases h
theorem alk_mem {n : Nd} {L : List Lm} {c : Lm} (h : alk n L = some c) : c ∈ L ∧ c.m.L.length = 24 := by
  unfold alk at h
  obtain ⟨p, _, hp⟩ := List.exists_of_findSome?_eq_some h
  exact pair_mem hp
theorem alk_row {n : Nd} {L : List Lm} {mo : Option Addr} {w : World} (hmr : MRd w mo L) : ∃ (to : Option Addr) (tc : Nat) (v : List Int), alkV (alk n L) = .slice to v.length tc ∧ Sr w to v.length tc (iF (gL v)) ∧ v.length ≤ tc ∧ movN n v = cloT n L := by
  cases h : alk n L with
  | none => exact ⟨none, 0, [], rfl, Or.inl ⟨rfl, rfl, rfl⟩, Nat.le_refl _, by unfold movN cloT; rw [h]; rfl⟩
  | some c =>
    obtain ⟨m, hl⟩ := alk_mem h
    refine ⟨c.ao, c.cap, c.m.L, rfl, (hmr.2 c m).1, (hmr.2 c m).2.1, ?_⟩
    unfold movN cloT
    rw [h, decide_eq_true hl, Bool.true_and]

end Go.Proofs.YthimcecbgpamdaaGreat

namespace Go.Proofs.YthimcecbgpamdaaGreat
open Go.RowKit

set_option maxHeartbeats 4000000 in
theorem nodeClose_ok : ClOK 40 := by
  intro n ao c mo mc L w hok hag hmr hN hmc hRL
  have hag : Sr w ao n.vA.length c (tF (bA n)) := hag
  refine enterF Tryz.func40 rfl 34 rfl (of_decide_eq_true rfl) (fun A hs hd hb => ?_)
  have b0 : A.eval (.tmp 0) = ndV n (.slice ao n.vA.length c) := hb 0 _ rfl
  have b1 : A.eval (.tmp 1) = .slice mo L.length mc := hb 1 _ rfl
  clear hb
  refine c_rs (m_start ?_)
  refine m_do rfl (wanted_rd rfl) (fun K hK => ?_)
  refine wp_boxG _ _ _ rfl (ev_out rfl b0) (of_decide_eq_true rfl) ?_
  intro w1 m1 k1 z1
  have sr1 := hag.below k1
  refine hK _ _ ?_
  clear hK K
  refine m_do rfl (wanted_rd rfl) (fun K hK => ?_)
  refine wp_allocG _ _ rfl zeroNd (of_decide_eq_true rfl) ?_
  intro w2 m2 k2 z2
  have mn2 := m1.below k2
  have sr2 := sr1.below k2
  refine hK _ _ ?_
  clear hK K
  refine m_do rfl (wanted_rd rfl) (fun K hK => ?_)
  refine wp_allocG _ _ rfl zeroRp (of_decide_eq_true rfl) ?_
  intro w3 m3 k3 z3
  have mn3 := mn2.below k3
  have mr3 := m2.below k3
  have sr3 := sr2.below k3
  refine hK _ _ ?_
  clear hK K
  refine l_nx ?_
  refine c_rs ?_
  refine m_mv rfl (wanted_rd rfl) (run_loadP _ _ rfl manyNd (ev_in rfl (by omega)) mn3 (by decide)) ?_
  refine m_do rfl (wanted_rd rfl) (fun K hK => ?_)
  refine wp_call1 _ 58 _ _ rfl (ev_in rfl (by omega)) (enter_pown _ _) (own_any n ao c _ sr3 hok.vA) ?_
  rintro e w4 ⟨a3, c3, rfl, o4, k4⟩
  have n4 := k4.size
  have mn4 := mn3.below k4
  have mr4 := mr3.below k4
  have mq4 := m3.below k4
  refine ⟨_, rfl, ?_⟩
  refine hK _ _ ?_
  clear hK K
  refine m_st (wanted_rd rfl) (fun K hK => ?_)
  refine wp_storeP _ _ _ _ rfl manyNd (ev_in rfl (by omega)) (ev_in rfl (by omega)) mn4 (by decide) (ndF_one _ _ _ _) rfl ?_
  intro w5 mm5 k5 z5
  have mn5 := Vh.congr mm5 (stP_all _ _)
  have mr5 := mr4.kept k5 (by omega)
  have mq5 := mq4.kept k5 (by omega)
  have ow5 := rw_kept o4 k5 (fun e => by have e1 := (o4.lt _ e).1; have e2 := (o4.lt _ e).2; omega)
  refine hK _ ?_
  clear hK K
  refine l_nx ?_
  refine c_nx ?_
  refine c_rs ?_
  refine m_mv rfl (wanted_rd rfl) (fldNd0 rfl (ev_in rfl (by omega)) _) ?_
  refine m_mv rfl (wanted_rd rfl) (run_lod1 _ _ rfl oneI (ev_in rfl (by omega)) mn5 (by decide) rfl) ?_
  refine m_do rfl (wanted_rd rfl) (fun K hK => ?_)
  refine wp_call1 _ 59 _ _ rfl (ev_in rfl (by omega)) (enter_pisNode _ _) (isNode_any n.id _) ?_
  rintro e w6 ⟨rfl, k6⟩
  have n6 := k6.size
  have mn6 := mn5.below k6
  have mr6 := mr5.below k6
  have mq6 := mq5.below k6
  have ow6 := rw_below ow5 k6
  refine ⟨_, rfl, ?_⟩
  refine hK _ _ ?_
  clear hK K
  refine m_mv rfl (wanted_rd rfl) (run_notB _ _ rfl (ev_in rfl (by omega)) _) ?_
  refine l_nx ?_
  have kA : Below w.heap.size w w6 := (below_of_kept ((((k1).trans (k2.mono (by omega))).trans (k3.mono (by omega))).trans (k4.mono (by omega))) k5 (by omega) (by omega)).trans (k6.mono (by omega))
  refine c_cond (t := noN n.id) ((ev_in rfl (by omega)).trans (by rw [Bool.not_not])) (fun hno => ?_) (fun hno => ?_)
  · refine c_rs ?_
    refine m_mv rfl (wanted_rd rfl) (run_loadP _ _ rfl manyNd (ev_in rfl (by omega)) mn6 (by decide)) ?_
    refine m_mv rfl (wanted_rd rfl) (run_bldRp0 rfl _) ?_
    refine m_st (wanted_rd rfl) (fun K hK => ?_)
    refine wp_storeP _ _ _ _ rfl manyNd (ev_in rfl (by omega)) (ev_in rfl (by omega)) mr6 (by decide) (ndF_one _ _ _ _) rfl ?_
    intro w7 mm7 k7 z7
    have mr7 := Vh.congr mm7 (stP_all _ _)
    have mn7 := mn6.kept k7 (by omega)
    have mq7 := mq6.kept k7 (by omega)
    have ow7 := rw_kept ow6 k7 (fun e => by have e1 := (o4.lt _ e).1; have e2 := (o4.lt _ e).2; omega)
    refine hK _ ?_
    clear hK K
    refine m_st (wanted_rd rfl) (fun K hK => ?_)
    refine wp_storeP _ _ _ _ rfl manyRp (ev_in rfl (by omega)) (ev_in rfl (by omega)) mq7 (by decide) (rpP_one _ _) rfl ?_
    intro w8 mm8 k8 z8
    have mq8 := Vh.congr mm8 (stP_all14 _ _)
    have mn8 := mn7.kept k8 (by omega)
    have mr8 := mr7.kept k8 (by omega)
    have ow8 := rw_kept ow7 k8 (fun e => by have e1 := (o4.lt _ e).1; have e2 := (o4.lt _ e).2; omega)
    refine hK _ ?_
    clear hK K
    refine l_nx ?_
    refine c_ret ?_
    simp only [Nx, Exit.then]
    have e1 : cloN n (L.map Lm.m) = n := by unfold cloN; rw [if_pos hno]
    have e2 : cloR n (L.map Lm.m) = zeroN := by unfold cloR; rw [if_pos hno]
    rw [e1, e2]
    refine ret_of ((defL _ _).trans hd) (res_cc rfl (ev_in rfl (by omega)) (ev_in rfl (by omega)) manyNd manyRp mr8 (Nat.le_refl _) mq8 (Nat.le_refl _)) ⟨a3, c3, rfl, rw_base ow8 (by omega), below_of_kept (below_of_kept kA k7 (by omega) (by omega)) k8 (by omega) (by omega)⟩
  · rcases hvs : n.vS with _ | _
    · refine c_fin ?_
      refine c_nx ?_
      refine c_rs ?_
      refine m_mv rfl (wanted_rd rfl) (fldNd10 rfl (ev_in rfl (by omega)) _) ?_
      refine m_mv rfl (wanted_rd rfl) (fldVd1 rfl (ev_in rfl (by omega)) _) ?_
      refine m_mv rfl (wanted_rd rfl) (run_lod1 (v := .bool false) _ _ rfl oneB (ev_in rfl (by omega)) mn6 (by decide) (by show Value.bool n.vS = _; rw [hvs])) ?_
      refine m_mv rfl (wanted_rd rfl) (run_move _ rfl (ev_in rfl (by omega)) _) ?_
      refine m_skip rfl (wanted_n (j := 3) rfl rfl rfl (ev_in rfl (by omega)) (by decide)) ?_
      refine m_skip rfl (wanted_n (j := 3) rfl rfl rfl (ev_in rfl (by omega)) (by decide)) ?_
      refine m_skip rfl (wanted_n (j := 3) rfl rfl rfl (ev_in rfl (by omega)) (by decide)) ?_
      refine m_skip rfl (wanted_n (j := 3) rfl rfl rfl (ev_in rfl (by omega)) (by decide)) ?_
      refine m_skip rfl (wanted_n (j := 3) rfl rfl rfl (ev_in rfl (by omega)) (by decide)) ?_
      refine m_skip rfl (wanted_n (j := 3) rfl rfl rfl (ev_in rfl (by omega)) (by decide)) ?_
      refine m_mv rfl (wanted_rd rfl) (run_pickF _ _ _ rfl (ev_in rfl (by omega)) (ev_const _ _) _) ?_
      refine l_nx ?_
      refine c_false (ev_in rfl (by omega)) (c_fin ?_)
      have eN : cloN n (L.map Lm.m) = n := clo_still hno (by rintro ⟨h, _⟩; rw [hvs] at h; cases h)
      have evA : n.vA = n.vA := rfl
      refine c_nx ?_
      have kD : Below w.heap.size w w6.drew := below_drew (kA)
      have hS0 : (fun W => Vh 37 W w.heap.size 74 74 (ndF n (.slice a3 n.vA.length c3))) w6.drew := mn6
      have mn0 : Vh _ w6.drew _ _ _ _ := mn6
      have mr0 : Vh _ w6.drew _ _ _ _ := mr6
      have mq0 : Vh _ w6.drew _ _ _ _ := mq6
      have ow0 := (show World.ownsRow w6.drew _ _ _ _ _ _ from ow6)
      have ez : w6.drew.heap.size = w6.heap.size := rfl
      refine c_rj (S := fun W => Vh 37 W w.heap.size 74 74 (ndF n (.slice a3 n.vA.length c3))) (.rd 0 (.rd 1 (.go 2 (.go 3 (.go 4 .fin))))) [] (by kernel_rfl) (by kernel_rfl) ?_
      refine j_rd rfl rfl (fun _ _ _ h => h) (wanted_rd rfl) hS0 (fun _ hS => run_loadP _ _ rfl manyNd (ev_in rfl (by omega)) hS (by decide)) ?_
      refine j_rd rfl rfl (fun _ _ _ h => h) (wanted_rd rfl) hS0 (fun _ hS => run_loadP _ _ rfl manyNd (ev_in rfl (by omega)) hS (by decide)) ?_
      refine j_do rfl rfl (wanted_rd rfl) (fun K hK => ?_)
      refine wp_call1 _ 75 _ _ rfl (ev_in rfl (by omega)) (enter_creport _ _) (report_any n (.slice a3 n.vA.length c3) _) ?_
      rintro e w7 ⟨rfl, k7⟩
      have n7 := k7.size
      have mn7 := hS0.below k7
      have mr7 := mr0.below k7
      have mq7 := mq0.below k7
      have ow7 := rw_below ow0 k7
      have hS7 : (fun W => Vh 37 W w.heap.size 74 74 (ndF n (.slice a3 n.vA.length c3))) w7 := mn7
      refine ⟨_, rfl, ?_⟩
      refine hK _ _ (fun _ _ => hS7) ?_
      clear hK K
      refine j_st rfl (wanted_rd rfl) (fun K hK => ?_)
      refine wp_storeP _ _ _ _ rfl manyNd (ev_in rfl (by omega)) (ev_in rfl (by omega)) mr7 (by decide) (ndF_one _ _ _ _) rfl ?_
      intro w8 mm8 k8 z8
      have mr8 := Vh.congr mm8 (stP_all _ _)
      have mn8 := mn7.kept k8 (by omega)
      have mq8 := mq7.kept k8 (by omega)
      have ow8 := rw_kept ow7 k8 (fun e => by have e1 := (o4.lt _ e).1; have e2 := (o4.lt _ e).2; omega)
      have hS8 : (fun W => Vh 37 W w.heap.size 74 74 (ndF n (.slice a3 n.vA.length c3))) w8 := mn8
      refine hK _ (fun _ _ => hS8) ?_
      clear hK K
      refine j_st rfl (wanted_rd rfl) (fun K hK => ?_)
      refine wp_storeP _ _ _ _ rfl manyRp (ev_in rfl (by omega)) (ev_in rfl (by omega)) mq8 (by decide) (rpP_one _ _) rfl ?_
      intro w9 mm9 k9 z9
      have mq9 := Vh.congr mm9 (stP_all14 _ _)
      have mn9 := mn8.kept k9 (by omega)
      have mr9 := mr8.kept k9 (by omega)
      have ow9 := rw_kept ow8 k9 (fun e => by have e1 := (o4.lt _ e).1; have e2 := (o4.lt _ e).2; omega)
      have hS9 : (fun W => Vh 37 W w.heap.size 74 74 (ndF n (.slice a3 n.vA.length c3))) w9 := mn9
      refine hK _ (fun _ _ => hS9) ?_
      clear hK K
      have e2 : cloR n (L.map Lm.m) = cloN n (L.map Lm.m) := by unfold cloR; rw [if_neg (by rw [hno]; decide)]
      refine j_nx ?_
      refine c_ret ?_
      rw [e2, eN]
      refine ret_of ((defL _ _).trans hd) (res_cc rfl (ev_in rfl (by omega)) (ev_in rfl (by omega)) manyNd manyRp mr9 (Nat.le_refl _) mq9 (Nat.le_refl _)) ⟨a3, c3, by rw [evA]; rfl, ?_, below_of_kept (below_of_kept (kD.trans (k7.mono (by omega))) k8 (by omega) (by omega)) k9 (by omega) (by omega)⟩
      unfold AgNew bA
      rw [evA]
      exact rw_base ow9 (by omega)
    · by_cases hvd : n.vX ≠ n.dg
      · refine c_fin ?_
        refine c_nx ?_
        refine c_rs ?_
        refine m_mv rfl (wanted_rd rfl) (fldNd10 rfl (ev_in rfl (by omega)) _) ?_
        refine m_mv rfl (wanted_rd rfl) (fldVd1 rfl (ev_in rfl (by omega)) _) ?_
        refine m_mv rfl (wanted_rd rfl) (run_lod1 (v := .bool true) _ _ rfl oneB (ev_in rfl (by omega)) mn6 (by decide) (by show Value.bool n.vS = _; rw [hvs])) ?_
        refine m_mv rfl (wanted_rd rfl) (run_move _ rfl (ev_in rfl (by omega)) _) ?_
        refine m_mv rfl (wanted_g (j := 3) rfl rfl rfl (ev_in rfl (by omega))) (fldNd10 rfl (ev_in rfl (by omega)) _) ?_
        refine m_mv rfl (wanted_g (j := 3) rfl rfl rfl (ev_in rfl (by omega))) (fldVd0 rfl (ev_in rfl (by omega)) _) ?_
        refine m_mv rfl (wanted_g (j := 3) rfl rfl rfl (ev_in rfl (by omega))) (run_lod1 _ _ rfl oneI (ev_in rfl (by omega)) mn6 (by decide) rfl) ?_
        refine m_mv rfl (wanted_g (j := 3) rfl rfl rfl (ev_in rfl (by omega))) (fldNd9 rfl (ev_in rfl (by omega)) _) ?_
        refine m_mv rfl (wanted_g (j := 3) rfl rfl rfl (ev_in rfl (by omega))) (run_lod1 _ _ rfl oneI (ev_in rfl (by omega)) mn6 (by decide) rfl) ?_
        refine m_mv rfl (wanted_g (j := 3) rfl rfl rfl (ev_in rfl (by omega))) (run_neqI (b := true) _ _ rfl (ev_in rfl (by omega)) (ev_in rfl (by omega)) (decide_eq_true hvd) _) ?_
        refine m_mv rfl (wanted_rd rfl) (run_pickT' _ _ _ rfl (ev_in rfl (by omega)) (ev_in rfl (by omega)) _) ?_
        refine l_nx ?_
        refine c_true (ev_in rfl (by omega)) ?_
        have kA0 : Below w.heap.size w w6.drew := below_drew kA
        have hS0 : (fun W => Vh 37 W w.heap.size 74 74 (ndF n (.slice a3 n.vA.length c3))) w6.drew := mn6
        have mn0 : Vh _ w6.drew _ _ _ _ := mn6
        have mr0 : Vh _ w6.drew _ _ _ _ := mr6
        have mq0 : Vh _ w6.drew _ _ _ _ := mq6
        have ow0 := (show World.ownsRow w6.drew _ _ _ _ _ _ from ow6)
        have ez : w6.drew.heap.size = w6.heap.size := rfl
        refine c_rj (S := fun W => Vh 37 W w.heap.size 74 74 (ndF n (.slice a3 n.vA.length c3))) (.rd 0 (.rd 1 (.mv 2 (.go 3 (.go 4 (.go 5 (.go 6 .fin))))))) [6] (by kernel_rfl) (by kernel_rfl) ?_
        refine j_rd rfl rfl (fun _ _ _ h => h) (wanted_rd rfl) hS0 (fun _ hS => run_loadP _ _ rfl manyNd (ev_in rfl (by omega)) hS (by decide)) ?_
        refine j_rd rfl rfl (fun _ _ _ h => h) (wanted_rd rfl) hS0 (fun _ hS => run_loadP _ _ rfl manyNd (ev_in rfl (by omega)) hS (by decide)) ?_
        refine j_mv rfl rfl (fun _ _ _ h => h) (wanted_rd rfl) (fun _ => run_move _ rfl (ev_out rfl b1) _) ?_
        refine j_do rfl rfl (wanted_rd rfl) (fun K hK => ?_)
        refine wp_call4n _ 61 _ _ _ _ _ rfl (ev_in rfl (by omega)) (ev_in rfl (by omega)) (ev_const _ _) (ev_const _ _) (enter_phear _ _ _ _ _) (hear_any n _ mo mc L 5 24 _ (hmr.below kA0) hN (by decide)) ?_
        rintro e w7 ⟨rfl, k7⟩
        have n7 := k7.size
        have mn7 := hS0.below k7
        have mr7 := mr0.below k7
        have mq7 := mq0.below k7
        have ow7 := rw_below ow0 k7
        have hS7 : (fun W => Vh 37 W w.heap.size 74 74 (ndF n (.slice a3 n.vA.length c3))) w7 := mn7
        refine ⟨_, rfl, ?_⟩
        refine hK _ _ (fun _ _ => hS7) ?_
        clear hK K
        refine j_do rfl rfl (wanted_rd rfl) (fun K hK => ?_)
        refine wp_call1 _ 74 _ _ rfl (ev_in rfl (by omega)) (enter_calike _ _) (alike_any n mo L _ (hmr.below (kA0.trans (k7.mono (by omega))))) ?_
        rintro e w8 ⟨rfl, k8⟩
        have n8 := k8.size
        have mn8 := mn7.below k8
        have mr8 := mr7.below k8
        have mq8 := mq7.below k8
        have ow8 := rw_below ow7 k8
        have hS8 : (fun W => Vh 37 W w.heap.size 74 74 (ndF n (.slice a3 n.vA.length c3))) w8 := mn8
        obtain ⟨to, tc, v, ev, hsr, htl, hmv⟩ := alk_row (n := n) (hmr.below ((kA0.trans (k7.mono (by omega))).trans (k8.mono (by omega))))
        refine ⟨_, rfl, ?_⟩
        refine hK _ _ (fun _ _ => hS8) ?_
        clear hK K
        refine j_do rfl rfl (wanted_rd rfl) (fun K hK => ?_)
        refine wp_call2 _ 73 _ _ _ rfl (ev_in rfl (by omega)) ((ev_in rfl (by omega)).trans ev) (enter_cmoved _ _ _) (moved_any n (.slice a3 n.vA.length c3) v to tc _ rfl hsr htl) ?_
        rintro e w9 ⟨rfl, k9⟩
        have n9 := k9.size
        have mn9 := mn8.below k9
        have mr9 := mr8.below k9
        have mq9 := mq8.below k9
        have ow9 := rw_below ow8 k9
        have hS9 : (fun W => Vh 37 W w.heap.size 74 74 (ndF n (.slice a3 n.vA.length c3))) w9 := mn9
        refine ⟨_, rfl, ?_⟩
        refine hK _ _ (fun _ _ => hS9) ?_
        clear hK K
        refine j_st rfl (wanted_rd rfl) (fun K hK => ?_)
        refine wp_storeP _ _ _ _ rfl manyNd (f := ndF (movN n v) (.slice a3 n.vA.length c3)) (ev_in rfl (by omega)) (ev_in rfl (by omega)) mn9 (by decide) (ndF_one _ _ _ _) rfl ?_
        intro w10 mm10 k10 z10
        have mn10 : Vh 37 w10 w.heap.size 74 74 (ndF (cloT n L) (.slice a3 n.vA.length c3)) := by rw [← hmv]; exact Vh.congr mm10 (stP_all _ _)
        have mr10 := mr9.kept k10 (by omega)
        have mq10 := mq9.kept k10 (by omega)
        have ow10 := rw_kept ow9 k10 (fun e => by have e1 := (o4.lt _ e).1; have e2 := (o4.lt _ e).2; omega)
        refine hK _ (fun h => absurd h (by decide)) ?_
        clear hK K
        refine j_nx ?_
        clear hS0 mr0 mq0 ow0
        have eN : cloN n (L.map Lm.m) = cloT n L := clo_take hno ⟨hvs, hvd⟩
        have evA : (cloT n L).vA = n.vA := cloT_vA n L
        refine c_nx ?_
        have kD : Below w.heap.size w w10.drew := below_drew (below_of_kept (((kA0.trans (k7.mono (by omega))).trans (k8.mono (by omega))).trans (k9.mono (by omega))) k10 (by omega) (by omega))
        have hS0 : (fun W => Vh 37 W w.heap.size 74 74 (ndF (cloT n L) (.slice a3 n.vA.length c3))) w10.drew := mn10
        have mn0 : Vh _ w10.drew _ _ _ _ := mn10
        have mr0 : Vh _ w10.drew _ _ _ _ := mr10
        have mq0 : Vh _ w10.drew _ _ _ _ := mq10
        have ow0 := (show World.ownsRow w10.drew _ _ _ _ _ _ from ow10)
        have ez : w10.drew.heap.size = w10.heap.size := rfl
        refine c_rj (S := fun W => Vh 37 W w.heap.size 74 74 (ndF (cloT n L) (.slice a3 n.vA.length c3))) (.rd 0 (.rd 1 (.go 2 (.go 3 (.go 4 .fin))))) [] (by kernel_rfl) (by kernel_rfl) ?_
        refine j_rd rfl rfl (fun _ _ _ h => h) (wanted_rd rfl) hS0 (fun _ hS => run_loadP _ _ rfl manyNd (ev_in rfl (by omega)) hS (by decide)) ?_
        refine j_rd rfl rfl (fun _ _ _ h => h) (wanted_rd rfl) hS0 (fun _ hS => run_loadP _ _ rfl manyNd (ev_in rfl (by omega)) hS (by decide)) ?_
        refine j_do rfl rfl (wanted_rd rfl) (fun K hK => ?_)
        refine wp_call1 _ 75 _ _ rfl (ev_in rfl (by omega)) (enter_creport _ _) (report_any (cloT n L) (.slice a3 n.vA.length c3) _) ?_
        rintro e w11 ⟨rfl, k11⟩
        have n11 := k11.size
        have mn11 := hS0.below k11
        have mr11 := mr0.below k11
        have mq11 := mq0.below k11
        have ow11 := rw_below ow0 k11
        have hS11 : (fun W => Vh 37 W w.heap.size 74 74 (ndF (cloT n L) (.slice a3 n.vA.length c3))) w11 := mn11
        refine ⟨_, rfl, ?_⟩
        refine hK _ _ (fun _ _ => hS11) ?_
        clear hK K
        refine j_st rfl (wanted_rd rfl) (fun K hK => ?_)
        refine wp_storeP _ _ _ _ rfl manyNd (ev_in rfl (by omega)) (ev_in rfl (by omega)) mr11 (by decide) (ndF_one _ _ _ _) rfl ?_
        intro w12 mm12 k12 z12
        have mr12 := Vh.congr mm12 (stP_all _ _)
        have mn12 := mn11.kept k12 (by omega)
        have mq12 := mq11.kept k12 (by omega)
        have ow12 := rw_kept ow11 k12 (fun e => by have e1 := (o4.lt _ e).1; have e2 := (o4.lt _ e).2; omega)
        have hS12 : (fun W => Vh 37 W w.heap.size 74 74 (ndF (cloT n L) (.slice a3 n.vA.length c3))) w12 := mn12
        refine hK _ (fun _ _ => hS12) ?_
        clear hK K
        refine j_st rfl (wanted_rd rfl) (fun K hK => ?_)
        refine wp_storeP _ _ _ _ rfl manyRp (ev_in rfl (by omega)) (ev_in rfl (by omega)) mq12 (by decide) (rpP_one _ _) rfl ?_
        intro w13 mm13 k13 z13
        have mq13 := Vh.congr mm13 (stP_all14 _ _)
        have mn13 := mn12.kept k13 (by omega)
        have mr13 := mr12.kept k13 (by omega)
        have ow13 := rw_kept ow12 k13 (fun e => by have e1 := (o4.lt _ e).1; have e2 := (o4.lt _ e).2; omega)
        have hS13 : (fun W => Vh 37 W w.heap.size 74 74 (ndF (cloT n L) (.slice a3 n.vA.length c3))) w13 := mn13
        refine hK _ (fun _ _ => hS13) ?_
        clear hK K
        have e2 : cloR n (L.map Lm.m) = cloN n (L.map Lm.m) := by unfold cloR; rw [if_neg (by rw [hno]; decide)]
        refine j_nx ?_
        refine c_ret ?_
        rw [e2, eN]
        refine ret_of ((defL _ _).trans hd) (res_cc rfl (ev_in rfl (by omega)) (ev_in rfl (by omega)) manyNd manyRp mr13 (Nat.le_refl _) mq13 (Nat.le_refl _)) ⟨a3, c3, by rw [evA]; rfl, ?_, below_of_kept (below_of_kept (kD.trans (k11.mono (by omega))) k12 (by omega) (by omega)) k13 (by omega) (by omega)⟩
        unfold AgNew bA
        rw [evA]
        exact rw_base ow13 (by omega)
      · have hvd : n.vX = n.dg := Classical.not_not.1 hvd
        refine c_fin ?_
        refine c_nx ?_
        refine c_rs ?_
        refine m_mv rfl (wanted_rd rfl) (fldNd10 rfl (ev_in rfl (by omega)) _) ?_
        refine m_mv rfl (wanted_rd rfl) (fldVd1 rfl (ev_in rfl (by omega)) _) ?_
        refine m_mv rfl (wanted_rd rfl) (run_lod1 (v := .bool true) _ _ rfl oneB (ev_in rfl (by omega)) mn6 (by decide) (by show Value.bool n.vS = _; rw [hvs])) ?_
        refine m_mv rfl (wanted_rd rfl) (run_move _ rfl (ev_in rfl (by omega)) _) ?_
        refine m_mv rfl (wanted_g (j := 3) rfl rfl rfl (ev_in rfl (by omega))) (fldNd10 rfl (ev_in rfl (by omega)) _) ?_
        refine m_mv rfl (wanted_g (j := 3) rfl rfl rfl (ev_in rfl (by omega))) (fldVd0 rfl (ev_in rfl (by omega)) _) ?_
        refine m_mv rfl (wanted_g (j := 3) rfl rfl rfl (ev_in rfl (by omega))) (run_lod1 _ _ rfl oneI (ev_in rfl (by omega)) mn6 (by decide) rfl) ?_
        refine m_mv rfl (wanted_g (j := 3) rfl rfl rfl (ev_in rfl (by omega))) (fldNd9 rfl (ev_in rfl (by omega)) _) ?_
        refine m_mv rfl (wanted_g (j := 3) rfl rfl rfl (ev_in rfl (by omega))) (run_lod1 _ _ rfl oneI (ev_in rfl (by omega)) mn6 (by decide) rfl) ?_
        refine m_mv rfl (wanted_g (j := 3) rfl rfl rfl (ev_in rfl (by omega))) (run_neqI (b := false) _ _ rfl (ev_in rfl (by omega)) (ev_in rfl (by omega)) (decide_eq_false (fun e => e hvd)) _) ?_
        refine m_mv rfl (wanted_rd rfl) (run_pickT' _ _ _ rfl (ev_in rfl (by omega)) (ev_in rfl (by omega)) _) ?_
        refine l_nx ?_
        refine c_false (ev_in rfl (by omega)) (c_fin ?_)
        have eN : cloN n (L.map Lm.m) = n := clo_still hno (by exact fun h => h.2 hvd)
        have evA : n.vA = n.vA := rfl
        refine c_nx ?_
        have kD : Below w.heap.size w w6.drew := below_drew (kA)
        have hS0 : (fun W => Vh 37 W w.heap.size 74 74 (ndF n (.slice a3 n.vA.length c3))) w6.drew := mn6
        have mn0 : Vh _ w6.drew _ _ _ _ := mn6
        have mr0 : Vh _ w6.drew _ _ _ _ := mr6
        have mq0 : Vh _ w6.drew _ _ _ _ := mq6
        have ow0 := (show World.ownsRow w6.drew _ _ _ _ _ _ from ow6)
        have ez : w6.drew.heap.size = w6.heap.size := rfl
        refine c_rj (S := fun W => Vh 37 W w.heap.size 74 74 (ndF n (.slice a3 n.vA.length c3))) (.rd 0 (.rd 1 (.go 2 (.go 3 (.go 4 .fin))))) [] (by kernel_rfl) (by kernel_rfl) ?_
        refine j_rd rfl rfl (fun _ _ _ h => h) (wanted_rd rfl) hS0 (fun _ hS => run_loadP _ _ rfl manyNd (ev_in rfl (by omega)) hS (by decide)) ?_
        refine j_rd rfl rfl (fun _ _ _ h => h) (wanted_rd rfl) hS0 (fun _ hS => run_loadP _ _ rfl manyNd (ev_in rfl (by omega)) hS (by decide)) ?_
        refine j_do rfl rfl (wanted_rd rfl) (fun K hK => ?_)
        refine wp_call1 _ 75 _ _ rfl (ev_in rfl (by omega)) (enter_creport _ _) (report_any n (.slice a3 n.vA.length c3) _) ?_
        rintro e w7 ⟨rfl, k7⟩
        have n7 := k7.size
        have mn7 := hS0.below k7
        have mr7 := mr0.below k7
        have mq7 := mq0.below k7
        have ow7 := rw_below ow0 k7
        have hS7 : (fun W => Vh 37 W w.heap.size 74 74 (ndF n (.slice a3 n.vA.length c3))) w7 := mn7
        refine ⟨_, rfl, ?_⟩
        refine hK _ _ (fun _ _ => hS7) ?_
        clear hK K
        refine j_st rfl (wanted_rd rfl) (fun K hK => ?_)
        refine wp_storeP _ _ _ _ rfl manyNd (ev_in rfl (by omega)) (ev_in rfl (by omega)) mr7 (by decide) (ndF_one _ _ _ _) rfl ?_
        intro w8 mm8 k8 z8
        have mr8 := Vh.congr mm8 (stP_all _ _)
        have mn8 := mn7.kept k8 (by omega)
        have mq8 := mq7.kept k8 (by omega)
        have ow8 := rw_kept ow7 k8 (fun e => by have e1 := (o4.lt _ e).1; have e2 := (o4.lt _ e).2; omega)
        have hS8 : (fun W => Vh 37 W w.heap.size 74 74 (ndF n (.slice a3 n.vA.length c3))) w8 := mn8
        refine hK _ (fun _ _ => hS8) ?_
        clear hK K
        refine j_st rfl (wanted_rd rfl) (fun K hK => ?_)
        refine wp_storeP _ _ _ _ rfl manyRp (ev_in rfl (by omega)) (ev_in rfl (by omega)) mq8 (by decide) (rpP_one _ _) rfl ?_
        intro w9 mm9 k9 z9
        have mq9 := Vh.congr mm9 (stP_all14 _ _)
        have mn9 := mn8.kept k9 (by omega)
        have mr9 := mr8.kept k9 (by omega)
        have ow9 := rw_kept ow8 k9 (fun e => by have e1 := (o4.lt _ e).1; have e2 := (o4.lt _ e).2; omega)
        have hS9 : (fun W => Vh 37 W w.heap.size 74 74 (ndF n (.slice a3 n.vA.length c3))) w9 := mn9
        refine hK _ (fun _ _ => hS9) ?_
        clear hK K
        have e2 : cloR n (L.map Lm.m) = cloN n (L.map Lm.m) := by unfold cloR; rw [if_neg (by rw [hno]; decide)]
        refine j_nx ?_
        refine c_ret ?_
        rw [e2, eN]
        refine ret_of ((defL _ _).trans hd) (res_cc rfl (ev_in rfl (by omega)) (ev_in rfl (by omega)) manyNd manyRp mr9 (Nat.le_refl _) mq9 (Nat.le_refl _)) ⟨a3, c3, by rw [evA]; rfl, ?_, below_of_kept (below_of_kept (kD.trans (k7.mono (by omega))) k8 (by omega) (by omega)) k9 (by omega) (by omega)⟩
        unfold AgNew bA
        rw [evA]
        exact rw_base ow9 (by omega)

end Go.Proofs.YthimcecbgpamdaaGreat

namespace Go.Proofs.YthimcecbgpamdaaGreat
open Go.RowKit

theorem senN_vA (n : Nd) (fr : Int) (rd : Nat → Int) : (senN n fr rd).vA = n.vA := by
  unfold senN
  split <;> rfl
theorem cloN_vA (n : Nd) (l : List Ms) : (cloN n l).vA = n.vA := by
  unfold cloN
  split
  · rfl
  · split
    · split <;> rfl
    · rfl
theorem bA_vA {n m : Nd} (h : n.vA = m.vA) : bA n = bA m := by
  unfold bA
  rw [h]
theorem agNew_as {B : Nat} {w : World} {n m : Nd} {ao : Option Addr} {c : Nat} (h : AgNew B w n ao c) (e : m.vA = n.vA) : AgNew B w m ao c := by
  unfold AgNew at h ⊢
  rw [e, bA_vA e]
  exact h
/-- What is read, in memory. -/
def rd4F (rd : Nat → Nat → Int) (j : Nat) : Value := iV (rd (j / 3) (j % 3))
theorem rd4F_at (rd : Nat → Nat → Int) {i j : Nat} (hj : j < 3) : rd4F rd (0 + i * 3 + j) = iV (rd i j) := by
  unfold rd4F
  rw [show (0 + i * 3 + j) / 3 = i by omega, show (0 + i * 3 + j) % 3 = j by omega]
def cpI (fb rb : Nat) (fr : Int) (rd : Nat → Nat → Int) : It := (vhI 3 fb 1 1 (fun _ => iV fr)).and (vhI 32 rb 12 12 (rd4F rd))
set_option maxHeartbeats 1000000 in
theorem sense_pvc (w0 : World) (bad : Int) (fb rb : Nat) (fr : Int) (rd : Nat → Nat → Int) (hfr : R64 fr) (hrd : ∀ s a, R64 (rd s a)) (Dn : Nat → Nd) (Bn : Nat → List Ms) : PvC w0 bad 32 #[.pointer (some ⟨fb, 0, none⟩), .pointer (some ⟨rb, 0, none⟩)] (fun i n _ => senN n fr (rd i)) (fun i n _ => senM n fr (rd i)) (fun _ y => y = cpI fb rb fr rd) Dn Bn := by
  intro i nd ao c mo mc L w y l hi _ _ _ hid hok hag _ _ _ _ hy H
  subst hy
  refine enterF Tryz.func32 rfl 17 rfl (of_decide_eq_true rfl) (fun A hs hd hb => ?_)
  have b0 : A.eval (.tmp 0) = agV (ndF nd (.slice ao nd.vA.length c)) 0 74 := hb 0 _ rfl
  have b2 : A.eval (.tmp 2) = .pointer (some ⟨fb, 0, none⟩) := hb 2 _ rfl
  have b3 : A.eval (.tmp 3) = .pointer (some ⟨rb, 0, none⟩) := hb 3 _ rfl
  clear hb
  refine c_rs (m_start ?_)
  refine m_do rfl (wanted_rd rfl) (fun K hK => ?_)
  refine wp_boxG _ _ _ rfl Qv (of_decide_eq_true rfl) ?_
  intro w1 m1 k1 z1
  replace H := H.add k1 (vhI _ _ _ _ _) m1 (fun j e => Nat.le_of_eq e.symm)
  refine hK _ _ ?_
  clear hK K
  refine m_do rfl (wanted_rd rfl) (fun K hK => ?_)
  refine wp_allocG _ _ rfl ZerK.out (of_decide_eq_true rfl) ?_
  intro w2 m2 k2 z2
  replace H := H.add k2 (vhI _ _ _ _ _) m2 (fun j e => Nat.le_of_eq e.symm)
  refine hK _ _ ?_
  clear hK K
  refine m_do rfl (wanted_rd rfl) (fun K hK => ?_)
  refine wp_allocG _ _ rfl ZerK.out (of_decide_eq_true rfl) ?_
  intro w3 m3 k3 z3
  replace H := H.add k3 (vhI _ _ _ _ _) m3 (fun j e => Nat.le_of_eq e.symm)
  refine hK _ _ ?_
  clear hK K
  refine l_nx ?_
  refine c_nx ?_
  have kA : Below w.heap.size w w3 := (k1.trans (k2.mono (by omega))).trans (k3.mono (by omega))
  replace H := H.drew
  have hcp : (cpI fb rb fr rd).p w3.drew := H.o3
  have hS : Its [vhI 37 w.heap.size 74 74 (ndF nd (.slice ao nd.vA.length c)), vhI 3 fb 1 1 (fun _ => iV fr), vhI 32 rb 12 12 (rd4F rd)] w3.drew := Its.cons H.o2 (Its.cons hcp.1 (Its.cons hcp.2 (Its.nil _)))
  refine c_rj (S := Its [vhI 37 w.heap.size 74 74 (ndF nd (.slice ao nd.vA.length c)), vhI 3 fb 1 1 (fun _ => iV fr), vhI 32 rb 12 12 (rd4F rd)]) (.rd 0 (.rd 1 (.mv 2 (.rd 3 (.mv 4 (.rd 5 (.go 6 (.mv 7 (.mv 8 (.go 9 (.go 10 .fin))))))))))) [9, 10] (by kernel_rfl) (by kernel_rfl) ?_
  iterate 4 first | refine qj ?_ | refine qr hS ?_
  refine j_mv rfl rfl (fun _ _ _ h => h) (wanted_rd rfl) (fun w => run_ixG _ _ _ _ rfl ArrK.out SizK.out Qv Qv hid hi w) ?_
  refine j_rd rfl rfl (fun _ _ _ h => h) (wanted_rd rfl) hS (fun _ H => Eq.trans (run_loadP _ _ rfl ManyK.out Qv H.v2 (by omega)) (by rw [agV_cong (fun j hj => rd4F_at rd hj)])) ?_
  refine j_do rfl rfl (wanted_rd rfl) (fun K hK => ?_)
  refine wp_call3n _ 33 _ _ _ _ rfl Qv Qv Qv (EntK.out _ _) (nodeSense_ok nd ao c fr (rd i) _ hok (hag.below (below_drew kA)) hfr (hrd i)) ?_
  rintro e w4 ⟨a', c', a2, c2, rfl, g1, g2, k4⟩
  replace H := rows_new (n := senN nd fr (rd i)) (a1 := (a', c')) (a2 := (a2, c2)) H k4 (agNew_as g1 (senN_vA _ _ _)) g2
  refine ⟨.tuple #[ndV (senN nd fr (rd i)) (slV (a', c') nd.vA.length), lsV (senM nd fr (rd i)) (slV (a2, c2) (senM nd fr (rd i)).L.length)], rfl, hK _ _ (fun _ _ => Its.cons H.o4 (Its.cons (show Vh _ _ _ _ _ _ from H.o5.1) (Its.cons (show Vh _ _ _ _ _ _ from H.o5.2) (Its.nil _)))) ?_⟩
  clear hK K
  repeat refine qj ?_
  refine j_st rfl (wanted_rd rfl) (fun K hK => ?_)
  refine wp_storeP _ _ _ _ rfl ManyK.out Qv Qv H.v3 (by omega) (ndF_one _ _ _ _) rfl ?_
  intro w6 m6 k6 z6
  replace H := H.a3.s k6 (m6.congr stP_whole)
  refine hK _ (fun h => absurd h (by decide)) ?_
  clear hK K
  refine j_st rfl (wanted_rd rfl) (fun K hK => ?_)
  refine wp_storeP _ _ _ _ rfl ManyK.out Qv Qv H.v2 (by omega) (msF_one _ _ _ _ _ _) rfl ?_
  intro w7 m7 k7 z7
  replace H := H.a2.s k7 (m7.congr stP_whole)
  refine hK _ (fun h => absurd h (by decide)) ?_
  clear hK K
  refine j_nx ?_
  refine c_ret (ret_of ((defL _ _).trans hd) (res_cc rfl Qv Qv ManyK.out ManyK.out H.v3 (Nat.le_refl _) H.v2 (Nat.le_refl _)) ⟨(a', c'), (a2, c2), _, rfl, ?_, H.f2.tl.f2.tl.f2.tl⟩)
  rw [senN_vA]
  rfl
theorem gdL_succ (bad : Int) (i : Nat) : gdL bad (i + 1) = gdL bad i ++ (if (i : Int) = bad then [] else [i]) := by
  unfold gdL
  rw [List.range_succ, List.filter_append]
  congr 1
  by_cases h : (i : Int) = bad
  · rw [if_pos h]; simp [h]
  · rw [if_neg h]; simp [h]
/-- The reports so far: the variable, and its row. -/
def rvI (B rv : Nat) (v : Value) (L : List Nd) : It := (vhI 44 rv 1 1 (fun _ => v)).and (ownI B 86 14 v L.length (rwS rpF 14 L))
def clL (bad : Int) (Dn : Nat → Nd) (Bn : Nat → List Ms) (k : Nat) : List Nd := (gdL bad k).map fun i => cloN (Dn i) (Bn i)
theorem clL_len (bad : Int) (Dn : Nat → Nd) (Bn : Nat → List Ms) (k : Nat) : (clL bad Dn Bn k).length ≤ k := by grind [clL, gdL]
theorem clL_good {bad : Int} {Dn : Nat → Nd} {Bn : Nat → List Ms} {i : Nat} (h : (i : Int) ≠ bad) : clL bad Dn Bn (i + 1) = clL bad Dn Bn i ++ [cloN (Dn i) (Bn i)] := by
  unfold clL
  rw [gdL_succ, if_neg h, List.map_append]
  rfl
theorem clL_bad {bad : Int} {Dn : Nat → Nd} {Bn : Nat → List Ms} {i : Nat} (h : (i : Int) = bad) : clL bad Dn Bn (i + 1) = clL bad Dn Bn i := by
  unfold clL
  rw [gdL_succ, if_pos h, List.append_nil]
set_option maxHeartbeats 1000000 in
theorem close_pvc (w0 : World) (bad : Int) (rv : Nat) (Dn : Nat → Nd) (Bn : Nat → List Ms) : PvC w0 bad 39 #[.pointer (some ⟨rv, 0, none⟩)] (fun _ n l => cloN n l) (fun _ _ _ => zeroM) (fun i y => ∃ v, y = rvI w0.heap.size rv v (clL bad Dn Bn i)) Dn Bn := by
  intro i nd ao c mo mc L w y l hi hbad hDn hBn hid hok hag hmr hl hlc hms ⟨v, hy⟩ H
  subst hy
  refine enterF Tryz.func39 rfl 21 rfl (of_decide_eq_true rfl) (fun A hs hd hb => ?_)
  have b0 : A.eval (.tmp 0) = agV (ndF nd (.slice ao nd.vA.length c)) 0 74 := hb 0 _ rfl
  have b1 : A.eval (.tmp 1) = .slice mo L.length mc := hb 1 _ rfl
  have b2 : A.eval (.tmp 2) = .pointer (some ⟨rv, 0, none⟩) := hb 2 _ rfl
  clear hb
  refine c_rs (m_start ?_)
  refine m_do rfl (wanted_rd rfl) (fun K hK => ?_)
  refine wp_boxG _ _ _ rfl Qv (of_decide_eq_true rfl) ?_
  intro w1 m1 k1 z1
  replace H := H.add k1 (vhI _ _ _ _ _) m1 (fun j e => Nat.le_of_eq e.symm)
  refine hK _ _ ?_
  clear hK K
  refine m_do rfl (wanted_rd rfl) (fun K hK => ?_)
  refine wp_allocG _ _ rfl ZerK.out (of_decide_eq_true rfl) ?_
  intro w2 m2 k2 z2
  replace H := H.add k2 (vhI _ _ _ _ _) m2 (fun j e => Nat.le_of_eq e.symm)
  refine hK _ _ ?_
  clear hK K
  refine m_do rfl (wanted_rd rfl) (fun K hK => ?_)
  refine wp_allocG _ _ rfl ZerK.out (of_decide_eq_true rfl) ?_
  intro w3 m3 k3 z3
  replace H := H.add k3 (vhI _ _ _ _ _) m3 (fun j e => Nat.le_of_eq e.symm)
  refine hK _ _ ?_
  clear hK K
  have kA : Below w.heap.size w w3 := (k1.trans (k2.mono (by omega))).trans (k3.mono (by omega))
  refine l_nx ?_
  refine c_rs ?_
  iterate 2 refine qa ?_
  refine q_c2 (nodeClose_ok nd ao c mo mc L w3 hok (hag.below kA) (hmr.below kA) (by omega) hlc (fun m hm => (hms m hm).L)) ?_
  rintro e w4 ⟨a', c', rfl, g1, k4⟩
  have hsz := H.size
  replace H := H.add k4 (agJ w0.heap.size (cloN nd (L.map Lm.m), (a', c'))) (rw_base g1 hsz) (fun j e => (g1.lt j e).1)
  have ecr : cloR nd (L.map Lm.m) = cloN nd (L.map Lm.m) := by
    unfold cloR
    rw [if_neg (by rw [hid, noN_at hi]; decide)]
  rw [ecr]
  refine ⟨_, rfl, ?_⟩
  iterate 3 refine qa ?_
  refine q_al H ?_
  intro w5 H z5
  refine q_al H ?_
  intro w6 H z6
  refine q_sp H.a1 stP_whole (ndF_one _ _ _ _) ?_
  intro w7 H z7
  refine q_sp H.a0 stP_whole (rpP_one _ _) ?_
  intro w8 H z8
  refine l_nx ?_
  refine c_rs ?_
  have hrv : (rvI w0.heap.size rv v (clL bad Dn Bn i)).p w8 := H.o6
  have hsz8 := H.size
  refine qg (run_lod1 _ _ rfl OneK.out Qv hrv.1 (by omega) rfl) ?_
  refine qa ?_
  refine m_do rfl (wanted_rd rfl) (fun K hK => ?_)
  refine wp_oneG SlcK.out ManyK.out ZerK.out (by decide) (by decide) rfl Qv ?_
  intro w9 m9 k9 z9
  replace H := H.call k9
  refine hK _ _ ?_
  clear hK K
  have hrv : (rvI w0.heap.size rv v (clL bad Dn Bn i)).p w9 := H.o6
  have hln := clL_len bad Dn Bn i
  refine m_do rfl (wanted_rd rfl) (fun K hK => ?_)
  refine wp_joinA rfl inferInstance H.size Qv Qv hrv.2 (rdc_own (rwS_own1 (B := w0.heap.size) (F := rpF) (x := cloN nd (L.map Lm.m)) m9 (by omega))) (rwS_one (fun x _ => rpP_one x 3)) (by unfold maxLen; omega) (by omega) ?_
  intro v' w10 o10 g10 f10
  have hvar : Vh 44 w9 rv 1 1 (fun _ => v) := hrv.1
  have napart : ∀ k, v.ownBlock = some k → k ≠ rv := fun k hk e => by
    obtain ⟨u1, hu1⟩ := own_type hrv.2 hk
    obtain ⟨u2, hu2, _⟩ := hvar
    rw [e, hu2] at hu1
    cases hu1
  have hvar10 : Vh 44 w10 rv 1 1 (fun _ => v) := hvar.same (g10.block rv hvar.lt (fun e => napart rv e.symm rfl))
  replace H := H.a6.put (y := ((vhI 44 rv 1 1 (fun _ => v)).and (ownI w0.heap.size 86 14 v' ((clL bad Dn Bn i).length + 1) (rwS rpF 14 (clL bad Dn Bn i) ++ rwS rpF 14 [cloN nd (L.map Lm.m)])))) ⟨g10.os, g10.tape, g10.output, g10.size, fun j h5 h6 => g10.block j h5 (fun e => h6 (Or.inr e.symm)), ⟨hvar10, o10⟩, fun j hj => by
    rcases hj with hj | hj
    · exact Or.inl (Or.inl hj)
    · rcases f10 j hj with h | h
      · exact Or.inl (Or.inr h)
      · exact Or.inr h⟩
  refine hK _ _ ?_
  clear hK K
  have napart2 : ∀ k, v'.ownBlock = some k → k ≠ rv := fun k hk e => by
    obtain ⟨u1, hu1⟩ := own_type o10 hk
    obtain ⟨u2, hu2, _⟩ := hvar10
    rw [e, hu2] at hu1
    cases hu1
  obtain ⟨va, vc, rfl, hvc⟩ := rw_slice o10
  refine m_st (wanted_rd rfl) (fun K hK => ?_)
  refine wp_sto1 _ _ _ _ rfl OneK.out Qv Qv hvar10 (by omega) rfl rfl rfl ?_
  intro w11 m11 k11 z11
  replace H := H.a6.put (y := (rvI w0.heap.size rv (.slice va ((clL bad Dn Bn i).length + 1) vc) (clL bad Dn Bn (i + 1)))) ⟨k11.os, k11.tape, k11.output, k11.size, fun j h5 h6 => k11.block j h5 (fun e => h6 (Or.inl e)), ⟨m11.congr (fun j hj => by
    obtain rfl : j = 0 := by omega
    exact stW_same _ _ _), by
      have e1 : clL bad Dn Bn (i + 1) = clL bad Dn Bn i ++ [cloN nd (L.map Lm.m)] := by rw [clL_good hbad, hDn, hBn]
      show World.ownsRow _ _ _ _ _ (clL bad Dn Bn (i + 1)).length (rwS rpF 14 (clL bad Dn Bn (i + 1)))
      rw [e1, List.length_append, rwS_app]
      exact rw_kept o10 k11 (fun e => napart2 rv e rfl)⟩, fun j hj => Or.inl hj⟩
  refine hK _ ?_
  clear hK K
  refine l_nx ?_
  refine c_rs ?_
  refine qa ?_
  refine qg (run_bld0 rfl _) ?_
  refine q_sp H.a4 stP_whole (ndF_one _ _ _ _) ?_
  intro w12 H z12
  refine q_sp H.a3 stP_whole (msF_one _ _ _ _ _ _) ?_
  intro w13 H z13
  refine l_nx ?_
  refine c_ret (ret_of ((defL _ _).trans hd) (res_cc rfl Qv Qv ManyK.out ManyK.out H.v4 (Nat.le_refl _) H.v3 (Nat.le_refl _)) ⟨(a', c'), (none, 0), rvI w0.heap.size rv (.slice va ((clL bad Dn Bn i).length + 1) vc) (clL bad Dn Bn (i + 1)), ⟨_, rfl⟩, rfl, ?_⟩)
  exact (H.tl.tl.f1.tl.f1.tl.f1.tl.add (Below.refl _ _) (tlJ w0.heap.size (zeroM, (none, 0))) (World.ownsRow_nil _ _ _ _) (fun j e => nomatch e)).f1
theorem run_mkF1 {P : Program} {f : Operand → Value} {o : Oper} (fn : Fn) (x : Operand) (ho : o.op = .makeFunc fn #[] #[x]) {u : Value} (hx : f x = u) (w : World) : (execOp f o).run P w = .ok (.value (.func fn #[] #[u])) w := run_mkF fn _ ho (by simp [hx]) w
theorem run_mkF2 {P : Program} {f : Operand → Value} {o : Oper} (fn : Fn) (x y : Operand) (ho : o.op = .makeFunc fn #[] #[x, y]) {u v : Value} (hx : f x = u) (hy : f y = v) (w : World) : (execOp f o).run P w = .ok (.value (.func fn #[] #[u, v])) w := run_mkF fn _ ho (by simp [hx, hy]) w
/-- All that are not bad end the frame. -/
theorem closed_any (b : Nat) (fr : Int) (D : Nat → Nd × Ad) (bad : Int) (lv : Value) (X : Nat → List Lm × Ad) (w0 w : World) (l : List It)
    (hid : ∀ i, i < 4 → (D i).1.id = (i : Nat)) (hok : ∀ i, i < 4 → NdOK (D i).1) (hX : ∀ i, i < 4 → (X i).1.length ≤ 1600 ∧ ∀ c, c ∈ (X i).1 → MsOK c.m)
    (H : Cx w0 w (agI w0.heap.size D :: vhI 74 b 303 303 (wkG fr D bad lv X) :: bxI w0.heap.size X :: l)) :
    Calls Tryz.prog 19 #[.pointer (some ⟨b, 0, none⟩)] w fun e w' => ∃ (D' : Nat → Nd × Ad) (v : Value), e = .returned v ∧ (∀ i, i < 4 → (D' i).1 = doN bad (fun _ n l => cloN n l) D X i) ∧
      Cx w0 w' (ownI w0.heap.size 86 14 v (clL bad (fun i => (D i).1) (fun i => (X i).1.map Lm.m) 4).length (rwS rpF 14 (clL bad (fun i => (D i).1) (fun i => (X i).1.map Lm.m) 4)) :: agI w0.heap.size D' :: vhI 74 b 303 303 (wkG fr D' bad lv X) :: bxI w0.heap.size X :: l) := by
  refine enterF Tryz.func19 rfl 8 rfl (of_decide_eq_true rfl) (fun A hs hd hb => ?_)
  have b0 : A.eval (.tmp 0) = .pointer (some ⟨b, 0, none⟩) := hb 0 _ rfl
  clear hb
  refine c_rs (m_start ?_)
  repeat first | refine qa ?_ | refine l_nx ?_ | refine c_rs ?_
  refine q_al1 H ?_
  intro w1 H z1
  repeat first | refine qa ?_ | refine l_nx ?_ | refine c_rs ?_
  refine qg (run_mkF1 _ _ rfl Qv _) ?_
  replace H := (H.add (Below.refl _ _) (ownI w0.heap.size 86 14 (.slice none 0 0) 0 []) (World.ownsRow_nil _ _ _ _) (fun j e => nomatch e)).f1.merge
  refine q_c2 (do_any b fr D bad lv X 39 #[.pointer (some ⟨w.heap.size, 0, none⟩)] (fun _ n l => cloN n l) (fun _ _ _ => zeroM) (fun i y => ∃ v, y = rvI w0.heap.size w.heap.size v (clL bad (fun i => (D i).1) (fun i => (X i).1.map Lm.m) i)) w0 w1 _ l (close_pvc w0 bad w.heap.size _ _) ⟨.slice none 0 0, rfl⟩ (fun i hi y hy => by obtain ⟨v, rfl⟩ := hy; exact ⟨v, by rw [clL_bad hi]⟩) hid hok hX H.f1) ?_
  rintro e w2 ⟨D', T, y', ⟨v, rfl⟩, rfl, hD, _, H⟩
  refine ⟨_, rfl, ?_⟩
  refine l_nx ?_
  refine c_rs ?_
  have hrv : (rvI w0.heap.size w.heap.size v (clL bad (fun i => (D i).1) (fun i => (X i).1.map Lm.m) 4)).p w2 := H.o2
  refine qg (run_lod1 _ _ rfl OneK.out Qv hrv.1 (by omega) rfl) ?_
  repeat first | refine qa ?_ | refine l_nx ?_
  exact c_ret (ret_of ((defL _ _).trans hd) (res_t rfl Qv) ⟨D', v, rfl, hD, H.tl.f1.wk (fun h => h.2) (fun k hk => Or.inr hk)⟩)

end Go.Proofs.YthimcecbgpamdaaGreat

namespace Go.Proofs.YthimcecbgpamdaaGreat
open Go.RowKit

def cellsN (g : Nat → Value) (N : Nat) : Array Value := ((List.range N).map g).toArray
theorem agV_cells (g : Nat → Value) (n : Nat) : (agV g 0 n).cells = cellsN g n := by
  unfold agV cellsN
  show ((List.range n).map fun j => g (0 + j)).toArray = _
  congr 1
  exact List.map_congr_left fun j _ => by rw [Nat.zero_add]
theorem cellsN_size (g : Nat → Value) (N : Nat) : (cellsN g N).size = N := by simp [cellsN]
theorem cellsN_at (g : Nat → Value) (N i : Nat) : (cellsN g N)[i]? = if i < N then some (g i) else none := by
  unfold cellsN
  by_cases h : i < N
  · rw [if_pos h]; simp [h]
  · rw [if_neg h]; simp [h]
theorem fillP {place : Nat → Option (Nat × Nat)} {i off n N : Nat} {v : Value} {g f : Nat → Value} (hp : place i = some (off, n)) (hv : v.cells = cellsN f n) (hN : off + n ≤ N) (rest : List (Nat × Value)) : Instr.fill place (cellsN g N) ((i, v) :: rest) = Instr.fill place (cellsN (stP g off n f) N) rest := by
  rw [Instr.fill]
  simp only [hp, hv, cellsN_size]
  rw [if_neg (by simp; omega)]
  congr 1
  obtain ⟨h1, h2⟩ := fold_set off ((List.range n).map f) 0 (cellsN g N) (by rw [cellsN_size, List.length_map, List.length_range]; omega)
  have e1 : Array.foldl (fun cs x => cs.setIfInBounds (off + x.2) x.1) (cellsN g N) (cellsN f n).zipIdx = (((List.range n).map f).zipIdx 0).foldl (fun a p => a.setIfInBounds (off + p.2) p.1) (cellsN g N) := by
    rw [← Array.foldl_toList]
    unfold cellsN
    simp
  rw [e1]
  refine Array.ext_getElem? (fun j => ?_)
  rw [h2 j, cellsN_at, cellsN_at, List.length_map, List.length_range]
  unfold stP
  by_cases c : off + 0 ≤ j ∧ j < off + 0 + n
  · rw [if_pos c, if_pos (show j < N by omega), if_pos (by omega), List.getElem?_map, List.getElem?_range (by omega), Nat.add_zero]
    rfl
  · rw [if_neg c]
    by_cases d : j < N
    · rw [if_pos d, if_pos d, if_neg (by omega)]
    · rw [if_neg d, if_neg d]
theorem one_cells {v : Value} (h : v.cells = #[v]) : v.cells = cellsN (fun _ => v) 1 := h
theorem run_bldG {P : Program} {f : Operand → Value} {o : Oper} {t : TypeId} {fields : Array Field} {N : Nat} {z g : Nat → Value} {places : Array (Nat × Nat)} {parts : Array (Nat × Operand)} (hu : P.underlying t = some (.struct fields)) (hz : ∀ w, (zeroValue t).run P w = .ok (agV z 0 N) w)
    (hpl : ∀ w, (fields.mapM fun (f : Field) => do pure (f.offset, ← sizeOf f.type) : Sem (Array (Nat × Nat))).run P w = .ok places w) (ho : o.op = .build t parts) (hf : Instr.fill (places[·]?) (cellsN z N) (parts.map fun p => (p.1, f p.2)).toList = some (cellsN g N)) (w : World) : (execOp f o).run P w = .ok (.value (agV g 0 N)) w := by
  unfold execOp
  simp only [ho, Instr.build, Sem.run_bind, hz, Result.andThen_ok, run_underlying hu, hpl, agV_cells]
  rw [show (Array.map (fun x => match x with | (i, x) => (i, f x)) parts).toList = (parts.map fun p => (p.1, f p.2)).toList from rfl, hf]
  show Result.ok (Next.value (Value.agg (cellsN g N))) w = _
  congr 3
  have := agV_cells g N
  unfold agV cellsN at *
  exact this.symm

end Go.Proofs.YthimcecbgpamdaaGreat

namespace Go.Proofs.YthimcecbgpamdaaGreat
open Go.RowKit

theorem ids_not {D : Nat → Nd × Ad} {i : Nat} (hi : i < 4) (h : (D i).1.id ≠ (i : Nat)) : ¬ ((D 0).1.id = 0 ∧ (D 1).1.id = 1 ∧ (D 2).1.id = 2 ∧ (D 3).1.id = 3) := by grind
set_option maxHeartbeats 1000000 in
/-- Can a frame be made of it? -/
theorem clCheck_any (x : Ip) (fr : Int) (D : Nat → Nd × Ad) (lo : Option Addr) (lc : Nat) (w : World) :
    Calls Tryz.prog 14 #[agV (clG fr D) 0 297, agV (ipF x.rd x.bad (.slice lo x.ly.length lc)) 0 14] w fun e w' => e = .returned (.int .i64 (frE x ⟨fr, fun i => (D i).1⟩)) ∧ Below w.heap.size w w' := by
  refine enterF Tryz.func14 rfl 40 rfl (of_decide_eq_true rfl) (fun A hs hd hb => ?_)
  have b0 : A.eval (.tmp 0) = agV (clG fr D) 0 297 := hb 0 _ rfl
  have b1 : A.eval (.tmp 1) = agV (ipF x.rd x.bad (.slice lo x.ly.length lc)) 0 14 := hb 1 _ rfl
  clear hb
  have H := Cx.start w
  refine c_rs (m_start ?_)
  refine q_box H ?_
  intro w1 H z1
  refine q_box H ?_
  intro w2 H z2
  refine qa ?_
  refine l_nx ?_
  refine c_nx ?_
  refine c_rs ?_
  iterate 2 refine qa ?_
  by_cases c1 : x.bad < -1
  · refine qg (run_lssI (b := true) _ _ rfl Qv Qv (decide_eq_true c1) _) ?_
    refine qa ?_
    iterate 3 refine q_skip ?_
    refine qg (run_pickT' _ _ _ rfl Qv Qv _) ?_
    refine qa ?_
    iterate 3 refine q_skip ?_
    refine qg (run_pickT' _ _ _ rfl Qv Qv _) ?_
    refine qa ?_
    iterate 3 refine q_skip ?_
    refine qg (run_pickT' _ _ _ rfl Qv Qv _) ?_
    refine l_nx ?_
    refine q_yes rfl ?_
    repeat first | refine qa ?_ | refine l_nx ?_ | refine c_rs ?_
    exact c_ret (r_nx (ret_of ((defL _ _).trans hd) (res_t rfl Qv) ⟨by unfold frE; rw [if_pos (Or.inl c1)], H.bel⟩))
  refine qg (run_lssI (b := false) _ _ rfl Qv Qv (decide_eq_false c1) _) ?_
  iterate 3 refine qa ?_
  by_cases c2 : 4 ≤ x.bad
  · refine qg (run_geqI (b := true) _ _ rfl Qv Qv (decide_eq_true c2) _) ?_
    refine qg (run_pickF _ _ _ rfl Qv Qv _) ?_
    refine qa ?_
    iterate 3 refine q_skip ?_
    refine qg (run_pickT' _ _ _ rfl Qv Qv _) ?_
    refine qa ?_
    iterate 3 refine q_skip ?_
    refine qg (run_pickT' _ _ _ rfl Qv Qv _) ?_
    refine l_nx ?_
    refine q_yes rfl ?_
    repeat first | refine qa ?_ | refine l_nx ?_ | refine c_rs ?_
    exact c_ret (r_nx (ret_of ((defL _ _).trans hd) (res_t rfl Qv) ⟨by unfold frE; rw [if_pos (Or.inr (Or.inl c2))], H.bel⟩))
  refine qg (run_geqI (b := false) _ _ rfl Qv Qv (decide_eq_false c2) _) ?_
  refine qg (run_pickF _ _ _ rfl Qv Qv _) ?_
  iterate 3 refine qa ?_
  by_cases c3 : fr < 0
  · refine qg (run_lssI (b := true) _ _ rfl Qv Qv (decide_eq_true c3) _) ?_
    refine qg (run_pickF _ _ _ rfl Qv Qv _) ?_
    refine qa ?_
    iterate 3 refine q_skip ?_
    refine qg (run_pickT' _ _ _ rfl Qv Qv _) ?_
    refine l_nx ?_
    refine q_yes rfl ?_
    repeat first | refine qa ?_ | refine l_nx ?_ | refine c_rs ?_
    exact c_ret (r_nx (ret_of ((defL _ _).trans hd) (res_t rfl Qv) ⟨by unfold frE; rw [if_pos (Or.inr (Or.inr (Or.inl c3)))], H.bel⟩))
  refine qg (run_lssI (b := false) _ _ rfl Qv Qv (decide_eq_false c3) _) ?_
  refine qg (run_pickF _ _ _ rfl Qv Qv _) ?_
  iterate 3 refine qa ?_
  by_cases c4 : 1073741823 < fr
  · refine qg (run_gtrI (b := true) _ _ rfl Qv Qv (decide_eq_true c4) _) ?_
    refine qg (run_pickF _ _ _ rfl Qv Qv _) ?_
    refine l_nx ?_
    refine q_yes rfl ?_
    repeat first | refine qa ?_ | refine l_nx ?_ | refine c_rs ?_
    exact c_ret (r_nx (ret_of ((defL _ _).trans hd) (res_t rfl Qv) ⟨by unfold frE; rw [if_pos (Or.inr (Or.inr (Or.inr c4)))], H.bel⟩))
  refine qg (run_gtrI (b := false) _ _ rfl Qv Qv (decide_eq_false c4) _) ?_
  refine qg (run_pickF _ _ _ rfl Qv Qv _) ?_
  refine l_nx ?_
  refine q_no rfl (c_fin ?_)
  have eR : ¬ (x.bad < -1 ∨ 4 ≤ x.bad ∨ fr < 0 ∨ 1073741823 < fr) := by omega
  refine c_nx ?_
  refine c_rs ?_
  repeat first | refine qa ?_ | refine l_nx ?_
  refine q_if (fun h => ?_) (fun h => ?_)
  · have c5 : 400 < x.ly.length := by have := of_decide_eq_true h; omega
    repeat first | refine qa ?_ | refine l_nx ?_ | refine c_rs ?_
    exact c_ret (r_nx (ret_of ((defL _ _).trans hd) (res_t rfl Qv) ⟨by unfold frE; rw [if_neg eR, if_pos c5], H.bel⟩))
  have c5 : ¬ 400 < x.ly.length := by have := of_decide_eq_false h; omega
  refine c_fin ?_
  refine c_nx ?_
  refine c_rs ?_
  refine qa ?_
  refine qg (Eq.trans (run_loadP _ _ rfl ManyK.out Qv H.v1 (by omega)) (by rw [agV_cong (fun j hj => clG_nds fr D hj)])) ?_
  repeat first | refine qa ?_ | refine l_nx ?_
  refine c_block ?_
  refine c_loop (fun r A W => ∃ i : Nat, i ≤ 4 ∧ 4 - i ≤ r ∧ A.tmps.size = 40 ∧ A.defers = [] ∧ A.eval (.tmp 30) = agV (ndsG D) 0 296 ∧ A.eval (.tmp 31) = .int .i64 (i : Int) ∧ (∀ j, j < i → (D j).1.id = (j : Nat)) ∧ Cx w W []) 4
    ⟨0, Nat.zero_le _, by omega, (szL _ _).trans hs, (defL _ _).trans hd, Qv, Qv, fun j h => absurd h (Nat.not_lt_zero j), H.tl.tl⟩ (fun r B W hI => ?_)
  clear b0 b1 hs hd H
  obtain ⟨i, hi, hr, hs, hd, b30, b31, hD, H⟩ := hI
  refine c_rs (m_start ?_)
  repeat first | refine qa ?_ | refine l_nx ?_ | refine c_rs ?_ | refine c_nx ?_
  refine q_if (fun h => ?_) (fun h => ?_)
  · have hin : i < 4 := by have := of_decide_eq_true h; omega
    refine c_fin ?_
    refine c_nx (c_block ?_)
    refine c_rs ?_
    refine qa ?_
    refine qg (Eq.trans (run_ixVM _ _ _ _ rfl ArrK.out ManyK.out Qv rfl Qv rfl hin _) (by rw [agV_cong (fun j hj => ndsG_at D hj)])) ?_
    refine q_al H ?_
    intro w3 H z3
    refine qa ?_
    refine q_sp H.a0 stP_whole (ndF_one _ _ _ _) ?_
    intro w4 H z4
    repeat first | refine qa ?_ | refine l_nx ?_ | refine c_rs ?_
    refine q_if (fun h1 => ?_) (fun h1 => ?_)
    · have e1 : (D i).1.id ≠ (i : Nat) := of_decide_eq_true h1
      repeat first | refine qa ?_ | refine l_nx ?_ | refine c_rs ?_
      exact c_ret (r_bl (r_nx (r_th (r_bl (r_nx (ret_of ((defL _ _).trans hd) (res_t rfl Qv) ⟨by unfold frE; rw [if_neg eR, if_neg c5, if_neg (ids_not hin e1)], H.bel⟩))))))
    · have e1 : (D i).1.id = (i : Nat) := by have := of_decide_eq_false h1; simpa using this
      refine c_finB ?_
      refine c_region ?_
      repeat refine qa ?_
      exact l_round ⟨4 - (i + 1), by omega, i + 1, by omega, by omega, (szL _ _).trans hs, (defL _ _).trans hd, Qv, Eq.trans Qv (by rw [Int.natCast_add]; rfl), fun j hj => (by
        by_cases e : j = i
        · rw [e]; exact e1
        · exact hD j (by omega)), H.tl⟩
  · obtain rfl : i = 4 := by have := of_decide_eq_false h; omega
    refine c_exit (x_out ?_)
    refine c_rs ?_
    repeat first | refine qa ?_ | refine l_nx ?_
    exact c_ret (ret_of ((defL _ _).trans hd) (res_t rfl Qv) ⟨by unfold frE; rw [if_neg eR, if_neg c5, if_pos ⟨hD 0 (by omega), hD 1 (by omega), hD 2 (by omega), hD 3 (by omega)⟩], H.bel⟩)
/-- A frame at work, built. -/
theorem run_bldW {f : Operand → Value} {o : Oper} {p q r : Operand} (ho : o.op = .build 74 #[(0, p), (1, q), (2, r)]) {fr : Int} {D : Nat → Nd × Ad} {bad : Int} {lo : Option Addr} {n lc : Nat} (hp : f p = agV (clG fr D) 0 297) (hq : f q = .int .i64 bad) (hr : f r = .slice lo n lc) (w : World) :
    (execOp f o).run Tryz.prog w = .ok (.value (agV (wkG fr D bad (.slice lo n lc) (fun _ => ([], (none, 0)))) 0 303)) w := by
  refine run_bldG (z := wkG 0 (fun _ => (zeroN, (none, 0))) 0 (.slice none 0 0) (fun _ => ([], (none, 0)))) (places := #[(0, 297), (297, 1), (298, 1), (299, 4)]) Tryz.underlying74 (fun w => by kernel_rfl) (fun w => by kernel_rfl) ho ?_ w
  rw [show (Array.map (fun p : Nat × Operand => (p.1, f p.2)) #[(0, p), (1, q), (2, r)]).toList = [(0, f p), (1, f q), (2, f r)] by simp]
  rw [hp, hq, hr, fillP (off := 0) (n := 297) rfl (agV_cells _ _) (by decide), fillP (off := 297) (n := 1) (f := fun _ => .int .i64 bad) rfl rfl (by decide), fillP (off := 298) (n := 1) (f := fun _ => .slice lo n lc) rfl rfl (by decide)]
  refine congrArg some ?_
  unfold cellsN
  refine congrArg List.toArray (List.map_congr_left fun j hj => ?_)
  have hj := List.mem_range.1 hj
  by_cases c1 : j < 297
  · rw [stP_out _ _ (by omega), stP_out _ _ (by omega)]
    have := stP_in (wkG 0 (fun _ => (zeroN, (none, 0))) 0 (.slice none 0 0) (fun _ => ([], (none, 0)))) (o := 0) (clG fr D) c1
    rw [Nat.zero_add] at this
    rw [this]
    exact (wkF_cl c1).symm
  · by_cases c2 : j = 297
    · subst c2
      rw [stP_out _ _ (by omega)]
      rfl
    · by_cases c3 : j = 298
      · subst c3
        rfl
      · rw [stP_out _ _ (by omega), stP_out _ _ (by omega), stP_out _ _ (by omega)]
        unfold wkG wkF
        rw [if_neg c1, if_neg c1, if_neg c2, if_neg c2, if_neg c3, if_neg c3]
theorem wkG_list (fr : Int) (D : Nat → Nd × Ad) (bad : Int) (lv : Value) (X : Nat → List Lm × Ad) {i : Nat} (hi : i < 4) (a : Ad) : ∀ j, j < 303 → stW (wkG fr D bad lv X) (1 + i * 74 + 73) (slV a (D i).1.vA.length) j = wkG fr (upM D i ((D i).1, a)) bad lv X j := by
  intro j hj
  rw [← wkG_nd fr D bad lv X hi ((D i).1, a) j hj]
  unfold stP
  by_cases c : 1 + i * 74 ≤ j ∧ j < 1 + i * 74 + 74
  · rw [if_pos c]
    have e := ndF_list (D i).1 (slV (D i).2 (D i).1.vA.length) (slV a (D i).1.vA.length) (j - (1 + i * 74)) (by omega)
    rw [← e]
    unfold stW
    have hb : wkG fr D bad lv X j = ndF (D i).1 (slV (D i).2 (D i).1.vA.length) (j - (1 + i * 74)) := by
      unfold wkG
      rw [wkF_cl (by omega)]
      have := clF_nd fr (fun i => (D i).1) (fun i => slV (D i).2 (D i).1.vA.length) (i := i) (j := j - (1 + i * 74)) (by omega)
      rw [show 1 + i * 74 + (j - (1 + i * 74)) = j by omega] at this
      exact this
    by_cases d : j = 1 + i * 74 + 73
    · rw [if_pos d, if_pos (by omega)]
    · rw [if_neg d, if_neg (by omega), hb]
  · rw [if_neg c, stW_other _ _ (by omega)]
theorem sr_rdc {w : World} {ao : Option Addr} {n c : Nat} {g : Nat → Value} (h : Sr w ao n c g) : Rdc w 1 (.slice ao n c) n (rowV g n) := by
  rcases h with ⟨rfl, rfl, rfl⟩ | ⟨y, rfl, hc⟩
  · exact Or.inl ⟨rfl, rfl, rfl⟩
  · refine Or.inr ⟨y, c, rfl, rowV_len g n, fun j u hj => ?_⟩
    rcases Nat.lt_or_ge j n with h | h
    · rw [rowV_at g h] at hj; cases hj; exact hc j h
    · rw [rowV_none g h] at hj; cases hj
set_option maxHeartbeats 1000000 in
/-- A frame ahead of its first phase. -/
theorem atWork_any (x : Ip) (fr : Int) (D : Nat → Nd × Ad) (lo : Option Addr) (lc : Nat) (w0 w : World) (l : List It) (hag : ∀ i, i < 4 → AgRd w0 (D i).1 (D i).2.1 (D i).2.2) (hok : ∀ i, i < 4 → NdOK (D i).1) (H : Cx w0 w l) :
    Calls Tryz.prog 15 #[agV (clG fr D) 0 297, agV (ipF x.rd x.bad (.slice lo x.ly.length lc)) 0 14] w fun e w' => ∃ (b : Nat) (D' : Nat → Nd × Ad), e = .returned (.pointer (some ⟨b, 0, none⟩)) ∧ (∀ i, i < 4 → (D' i).1 = (D i).1) ∧ Cx w0 w' (agI w0.heap.size D' :: vhI 74 b 303 303 (wkG fr D' x.bad (.slice lo x.ly.length lc) (fun _ => ([], (none, 0)))) :: l) := by
  refine enterF Tryz.func15 rfl 35 rfl (of_decide_eq_true rfl) (fun A hs hd hb => ?_)
  have b0 : A.eval (.tmp 0) = agV (clG fr D) 0 297 := hb 0 _ rfl
  have b1 : A.eval (.tmp 1) = agV (ipF x.rd x.bad (.slice lo x.ly.length lc)) 0 14 := hb 1 _ rfl
  clear hb
  refine c_rs (m_start ?_)
  refine q_box H ?_
  intro w1 H z1
  refine q_box H ?_
  intro w2 H z2
  repeat first | refine qa ?_ | refine l_nx ?_ | refine c_rs ?_
  refine qg (run_bldW (fr := fr) (D := D) rfl Qv Qv Qv _) ?_
  refine q_box H ?_
  intro w3 H z3
  refine qa ?_
  refine l_nx ?_
  refine c_nx ?_
  refine c_rs ?_
  refine qa ?_
  refine qg (Eq.trans (run_loadP _ _ rfl ManyK.out Qv H.v2 (by omega)) (by rw [agV_cong (fun j hj => clG_nds fr D hj)])) ?_
  repeat first | refine qa ?_ | refine l_nx ?_
  refine c_block ?_
  refine c_loop (fun r A W => ∃ (i : Nat) (D' E : Nat → Nd × Ad), i ≤ 4 ∧ 4 - i ≤ r ∧ A.tmps.size = 35 ∧ A.defers = [] ∧ A.eval (.tmp 5) = .pointer (some ⟨w2.heap.size, 0, none⟩) ∧ A.eval (.tmp 16) = agV (ndsG D) 0 296 ∧ A.eval (.tmp 17) = .int .i64 (i : Int) ∧ (∀ j, j < 4 → (D' j).1 = (D j).1) ∧ (∀ j, j < i → E j = D' j) ∧
      Cx w0 W (agI w0.heap.size E :: vhI 74 w2.heap.size 303 303 (wkG fr D' x.bad (.slice lo x.ly.length lc) (fun _ => ([], (none, 0)))) :: l)) 4
    ⟨0, D, fun _ => (zeroN, (none, 0)), Nat.zero_le _, by omega, (szL _ _).trans hs, (defL _ _).trans hd, Qv, Qv, Qv, fun _ _ => rfl, fun j h => absurd h (Nat.not_lt_zero j), H.f1.tl.f1.tl.add (Below.refl _ _) (agI w0.heap.size (fun _ => (zeroN, (none, 0)))) (fun _ _ => World.ownsRow_nil _ _ _ _) (fun j ⟨_, _, e⟩ => absurd e (fun e => nomatch e))⟩ (fun r B W hI => ?_)
  clear b0 b1 hs hd H
  obtain ⟨i, D', E, hi, hr, hs, hd, b5, b16, b17, hD, hE, H⟩ := hI
  refine c_rs (m_start ?_)
  repeat first | refine qa ?_ | refine l_nx ?_ | refine c_rs ?_ | refine c_nx ?_
  refine q_if (fun h => ?_) (fun h => ?_)
  · have hin : i < 4 := by have := of_decide_eq_true h; omega
    refine c_fin ?_
    refine c_nx (c_block ?_)
    refine c_rs ?_
    refine qa ?_
    refine qg (Eq.trans (run_ixVM _ _ _ _ rfl ArrK.out ManyK.out Qv rfl Qv rfl hin _) (by rw [agV_cong (fun j hj => ndsG_at D hj)])) ?_
    refine q_al H ?_
    intro w3 H z3
    refine qa ?_
    refine q_sp H.a0 stP_whole (ndF_one _ _ _ _) ?_
    intro w4 H z4
    refine l_nx ?_
    replace H := H.drew
    have hS : Its [vhI 37 W.heap.size 74 74 (ndF (D i).1 (slV (D i).2 (D i).1.vA.length))] w4.drew := Its.cons H.o0 (Its.nil _)
    refine c_rj (S := Its [vhI 37 W.heap.size 74 74 (ndF (D i).1 (slV (D i).2 (D i).1.vA.length))]) (.mv 0 (.mv 1 (.mv 2 (.mv 3 (.rd 4 (.mv 6 (.mv 7 (.mv 8 (.go 5 (.mv 9 (.mv 10 (.mv 11 (.go 12 .fin))))))))))))) [12] (by kernel_rfl) (by kernel_rfl) ?_
    repeat first | refine qj ?_ | refine qr hS ?_
    refine j_do rfl rfl (wanted_rd rfl) (fun K hK => ?_)
    have hvA := (hok i hin).vA
    refine wp_joinA rfl inferInstance H.size Qv Qv (World.ownsRow_nil _ _ _ _) (sr_rdc ((hag i hin).below H.bel)) (rowV_one _ _ (fun _ _ => rfl)) (by unfold maxLen; omega) (by omega) ?_
    intro v' w5 o5 g5 f5
    rw [Nat.zero_add, List.nil_append] at o5
    obtain ⟨a5, c5, rfl, hc5⟩ := rw_slice o5
    have k5 : Below w4.drew.heap.size w4.drew w5 := ⟨g5.os, g5.tape, g5.output, g5.size, fun k hk => g5.block k hk (fun e => nomatch e)⟩
    replace H := H.add k5 (agJ w0.heap.size ((D i).1, (a5, c5))) o5 (fun j e => (f5 j e).resolve_left (fun e => nomatch e))
    refine hK _ _ (fun _ _ => Its.cons H.o1 (Its.nil _)) ?_
    clear hK K
    repeat refine qj ?_
    refine j_st rfl (wanted_rd rfl) (fun K hK => ?_)
    refine wp_sto1 _ _ _ _ rfl OneK.out Qv Qv H.v3 (by omega) rfl rfl rfl ?_
    intro w6 m6 k6 z6
    replace H := H.a3.s k6 (m6.congr (fun j hj => Eq.trans (by rw [show 0 + 0 + 1 + i * 74 + 71 + 2 = 1 + i * 74 + 73 by omega, hD i hin]; rfl) (wkG_list fr D' x.bad (.slice lo x.ly.length lc) (fun _ => ([], (none, 0))) hin (a5, c5) j hj)))
    refine hK _ (fun h => absurd h (by decide)) ?_
    clear hK K
    refine j_finB ?_
    refine c_region ?_
    repeat refine qa ?_
    refine l_round ⟨4 - (i + 1), by omega, i + 1, upM D' i ((D' i).1, (a5, c5)), upM E i ((D i).1, (a5, c5)), by omega, by omega, (szL _ _).trans hs, (defL _ _).trans hd, Qv, Qv, Eq.trans Qv (by rw [Int.natCast_add]; rfl), fun j hj => ?_, fun j hj => ?_, four_set (g := agJ w0.heap.size) i H.f1.tl⟩
    · by_cases e : j = i
      · rw [e, upM_same]; exact hD i hin
      · rw [upM_other _ _ e]; exact hD j hj
    · by_cases e : j = i
      · rw [e, upM_same, upM_same, hD i hin]
      · rw [upM_other _ _ e, upM_other _ _ e]; exact hE j (by omega)
  · obtain rfl : i = 4 := by have := of_decide_eq_false h; omega
    refine c_exit (x_out ?_)
    refine c_rs ?_
    repeat first | refine qa ?_ | refine l_nx ?_
    refine c_ret (ret_of ((defL _ _).trans hd) (res_t rfl Qv) ⟨w2.heap.size, D', rfl, hD, H.wk (fun h j hj => ?_) (fun k ⟨j, hj, hk⟩ => ⟨j, hj, ?_⟩)⟩)
    · have this : (agJ w0.heap.size (E j)).p W := h j hj
      rw [hE j hj] at this
      exact this
    · show (agJ w0.heap.size (E j)).foot k
      rw [hE j hj]
      exact hk
/-- The five phases in a row. -/
def phV (fb rb : Nat) (k : Nat) : Value := if k = 0 then .func (.func 32) #[] #[.pointer (some ⟨fb, 0, none⟩), .pointer (some ⟨rb, 0, none⟩)] else if k = 1 then .func (.func 34) #[] #[] else if k = 2 then .func (.func 35) #[] #[] else if k = 3 then .func (.func 36) #[] #[] else .func (.func 37) #[] #[]
theorem wp_row5F (w : World) {o : Oper} {a : Act} {K : Act → World → Prop} {Q : Exit → Act → World → Prop} {x : Operand} (ho : o.op = .buildSlice 60 5 #[(0, x), (1, .func 34), (2, .func 35), (3, .func 36), (4, .func 37)]) {fb rb : Nat} (hx : a.eval x = phV fb rb 0)
    (h : ∀ w', Vh 63 w' w.heap.size 5 5 (phV fb rb) → Below w.heap.size w w' → w'.heap.size = w.heap.size + 1 → K (a.put o.dst (.slice (some ⟨w.heap.size, 0, none⟩) 5 5)) w') : WpI Tryz.prog o a w K Q := by
  have hh := h (w.alloc (.cells #[phV fb rb 0, phV fb rb 1, phV fb rb 2, phV fb rb 3, phV fb rb 4] 63)) (Vh.of_row (phV fb rb) 5 (by decide) (by show (w.heap.push _)[w.heap.size]? = _; rw [Array.getElem?_push_size]; rfl)) (al_below _ _) (al_size _ _)
  have e : (execOp a.eval o).run Tryz.prog w = .ok (.value (.slice (some ⟨w.heap.size, 0, none⟩) 5 5)) (w.alloc (.cells #[phV fb rb 0, phV fb rb 1, phV fb rb 2, phV fb rb 3, phV fb rb 4] 63)) := by
    have e1 : a.eval (.func 34) = phV fb rb 1 := rfl
    have e2 : a.eval (.func 35) = phV fb rb 2 := rfl
    have e3 : a.eval (.func 36) = phV fb rb 3 := rfl
    have e4 : a.eval (.func 37) = phV fb rb 4 := rfl
    clear hh h
    generalize a.eval = f at hx e1 e2 e3 e4
    unfold phV at *
    unfold execOp
    rw [ho]
    simp only [List.map_toArray, List.map_cons, List.map_nil]
    rw [hx, e1, e2, e3, e4]
    go_simp
  refine ⟨?_⟩
  unfold Oper.wp
  rw [e]
  exact hh
theorem phases_any (fr : Int) (rd : Nat → Nat → Int) (w0 w : World) (l : List It) (H : Cx w0 w l) :
    Calls Tryz.prog 16 #[.int .i64 fr, agV (rd4F rd) 0 12] w fun e w' => ∃ fb rb pb, e = .returned (.slice (some ⟨pb, 0, none⟩) 5 5) ∧ Cx w0 w' (vhI 63 pb 5 5 (phV fb rb) :: cpI fb rb fr rd :: l) := by
  refine enterF Tryz.func16 rfl 9 rfl (of_decide_eq_true rfl) (fun A hs hd hb => ?_)
  have b0 : A.eval (.tmp 0) = .int .i64 fr := hb 0 _ rfl
  have b1 : A.eval (.tmp 1) = agV (rd4F rd) 0 12 := hb 1 _ rfl
  clear hb
  refine c_rs (m_start ?_)
  refine q_box1 H ?_
  intro w1 H z1
  refine q_box H ?_
  intro w2 H z2
  repeat first | refine qa ?_ | refine l_nx ?_ | refine c_rs ?_
  refine qg (run_mkF2 _ _ _ rfl Qv Qv _) ?_
  repeat first | refine qa ?_ | refine l_nx ?_ | refine c_rs ?_
  refine m_do rfl (wanted_rd rfl) (fun K hK => ?_)
  refine wp_row5F _ (fb := w.heap.size) (rb := w1.heap.size) rfl (Eq.trans Qv rfl) ?_
  intro w3 m3 k3 z3
  replace H := H.add k3 (vhI _ _ _ _ _) m3 (fun j e => Nat.le_of_eq e.symm)
  refine hK _ _ ?_
  clear hK K
  repeat first | refine qa ?_ | refine l_nx ?_
  exact c_ret (ret_of ((defL _ _).trans hd) (res_t rfl Qv) ⟨w.heap.size, w1.heap.size, _, rfl, H.f2.f2.f1.merge.b1⟩)

end Go.Proofs.YthimcecbgpamdaaGreat

namespace Go.Proofs.YthimcecbgpamdaaGreat
open Go.RowKit

theorem zero3 (w : World) : (zeroValue 31).run Tryz.prog w = .ok (agV (fun _ => iV 0) 0 3) w := by kernel_rfl
theorem stP_all3 (g : Nat → Value) (h : Nat → Value) : ∀ j, j < 3 → stP g 0 3 h j = h j := fun j hj => by
  have := stP_in g (o := 0) (n := 3) h hj
  rwa [Nat.zero_add] at this
theorem run_len3 {f : Operand → Value} {o : Oper} (x : Operand) (ho : o.op = .call { callee := .builtin .len, args := #[x], argTypes := #[123] }) {ao : Option Addr} {n c : Nat} (hx : f x = .slice ao n c) (w : World) : (execOp f o).run Tryz.prog w = .ok (.value (.int .i64 ((n : Nat) : Int))) w := by
  unfold execOp
  rw [ho]
  dsimp only
  go_simp
theorem run_ix3 {f : Operand → Value} {o : Oper} (x y : Operand) (ho : o.op = .indexAddr 123 x y) {b off n cap i : Nat} {z : Int} (hx : f x = .slice (some ⟨b, off, none⟩) n cap) (hy : f y = .int .i64 z) (hz : z = (i : Int)) (hi : i < n) (w : World) :
    (execOp f o).run Tryz.prog w = .ok (.value (.pointer (some ⟨b, off + i * 3, none⟩))) w := by
  subst hz
  have hi2 : (i : Int) < n := by omega
  unfold execOp
  rw [ho]
  dsimp only
  rw [hx, hy]
  go_simp
theorem flat_next {d : Nat → Nat → Int} {i : Nat} : rowV (iF (fun j => d (j / 3) (j % 3))) (3 * i) ++ rowV (fun k => iV (d i k)) 3 = rowV (iF (fun j => d (j / 3) (j % 3))) (3 * (i + 1)) := by
  rw [rowV_append]
  refine rowV_congr (fun j hj => ?_)
  by_cases c : j < 3 * i
  · rw [if_pos c]
  · rw [if_neg c]
    show iV (d i (j - 3 * i)) = iV (d (j / 3) (j % 3))
    rw [show j / 3 = i by omega, show j % 3 = j - 3 * i by omega]
theorem flat_any (b o N cap : Nat) (t : TypeId) (g : Nat → Value) (d : Nat → Nat → Int) (w : World) (hm : Vh t w b N cap g) (ho : o + 12 ≤ N) (hg : ∀ i k, i < 4 → k < 3 → g (o + i * 3 + k) = iV (d i k)) :
    Calls Tryz.prog 62 #[.slice (some ⟨b, o, none⟩) 4 4] w fun e w' => ∃ a2 c2, e = .returned (.slice a2 12 c2) ∧ w'.ownsRow w.heap.size 3 1 (.slice a2 12 c2) 12 (rowV (iF (fun j => d (j / 3) (j % 3))) 12) ∧ Below w.heap.size w w' := by
  refine enterF Tryz.func62 rfl 17 rfl (of_decide_eq_true rfl) (fun A hs hd hb => ?_)
  have b0 := hb 0 _ rfl
  clear hb
  refine c_rs (m_start ?_)
  refine m_mv rfl (wanted_rd rfl) (run_assign _ rfl (ev_const _ _) _) ?_
  refine l_nx ?_
  refine c_rs ?_
  refine m_mv rfl (wanted_rd rfl) (run_assign _ rfl (ev_const _ _) _) ?_
  refine l_nx ?_
  refine c_nx ?_
  refine c_rs ?_
  refine m_mv rfl (wanted_rd rfl) (run_move _ rfl (ev_out rfl b0) _) ?_
  refine m_mv rfl (wanted_rd rfl) (run_len3 _ rfl (ev_in rfl (by omega)) _) ?_
  refine m_mv rfl (wanted_rd rfl) (run_move _ rfl (ev_const _ _) _) ?_
  refine l_nx ?_
  refine c_block ?_
  refine c_loop (fun r a W => ∃ (i : Nat) (v : Value), i ≤ 4 ∧ 4 - i ≤ r ∧ a.tmps.size = 17 ∧ a.defers = [] ∧ a.eval (.tmp 6) = .slice (some ⟨b, o, none⟩) 4 4 ∧ a.eval (.tmp 7) = .int .i64 ((4 : Nat) : Int) ∧ a.eval (.tmp 8) = .int .i64 (i : Int) ∧ a.eval (.tmp 3) = v ∧ W.ownsRow w.heap.size 3 1 v (3 * i) (rowV (iF (fun j => d (j / 3) (j % 3))) (3 * i)) ∧ Below w.heap.size w W) 4 ⟨0, _, by omega, by omega, (szL _ _).trans hs, (defL _ _).trans hd, (ev_in rfl (by omega)), (ev_in rfl (by omega)), (ev_in rfl (by omega)), (ev_in rfl (by omega)), World.ownsRow_nil _ _ _ _, Below.refl _ _⟩ (fun r B W hI => ?_)
  clear b0 hs hd
  obtain ⟨i, v, hi, hr2, hs, hd, b6, b7, b8, b3, ov, kB⟩ := hI
  have hWs := kB.size
  have hbl := hm.lt
  by_cases hin : i < 4
  · refine c_rs (m_start ?_)
    refine m_mv rfl (wanted_rd rfl) (run_lssI (b := true) _ _ rfl (ev_out rfl b8) (ev_out rfl b7) (decide_eq_true (by omega)) _) ?_
    refine l_nx ?_
    refine c_nx (c_true (ev_in rfl (by omega)) (c_fin ?_))
    refine c_nx (c_block ?_)
    refine c_rs ?_
    refine m_mv rfl (wanted_rd rfl) (run_ix3 _ _ rfl (ev_out rfl b6) (ev_out rfl b8) rfl hin _) ?_
    refine m_mv rfl (wanted_rd rfl) (run_loadPe (h := fun k => iV (d i k)) _ _ rfl many3 (ev_in rfl (by omega)) (hm.below kB) (by omega) (fun k hk => hg i k hin hk)) ?_
    refine m_do rfl (wanted_rd rfl) (fun K hK => ?_)
    refine wp_allocG _ _ rfl zero3 (of_decide_eq_true rfl) ?_
    intro w1 m1 k1 z1
    have ov1 := rw_below ov k1
    refine hK _ _ ?_
    clear hK K
    refine m_st (wanted_rd rfl) (fun K hK => ?_)
    refine wp_storeP _ _ _ _ rfl many3 (ev_in rfl (by omega)) (ev_in rfl (by omega)) m1 (by decide) (fun j hj => rfl) rfl ?_
    intro w2 mm2 k2 z2
    have mrow2 := Vh.congr mm2 (stP_all3 _ _)
    have ov2 := rw_kept ov1 k2 (fun e => by have e2 := (ov.lt _ e).2; omega)
    refine hK _ ?_
    clear hK K
    refine l_nx ?_
    refine c_region ?_
    refine m_mv rfl (wanted_rd rfl) (run_move _ rfl (ev_out rfl b3) _) ?_
    refine m_mv rfl (wanted_rd rfl) (run_cutI3 _ rfl (ev_in rfl (by omega)) _) ?_
    refine m_do rfl (wanted_rd rfl) (fun K hK => ?_)
    refine ⟨wp_joinI _ _ _ rfl w.heap.size (by omega) v _ _ (ev_in rfl (by omega)) ov2 _ 3 3 _ (ev_in rfl (by omega)) (Or.inr ⟨_, rfl, fun i hi => by rw [add_at, Nat.zero_add]; exact mrow2.cell hi⟩) (fun i _ => rfl) (by omega) ?_⟩
    intro v3 w3 ov3 k3
    have n3 := k3.size
    rw [flat_next] at ov3
    refine hK _ _ ?_
    clear hK K
    refine m_mv rfl (wanted_rd rfl) (run_assign _ rfl (ev_in rfl (by omega)) _) ?_
    refine l_finB ?_
    refine c_region ?_
    refine m_mv rfl (wanted_rd rfl) (run_addI _ _ rfl (ev_out rfl b8) (ev_const _ _) (by omega) (by omega) _) ?_
    refine m_mv rfl (wanted_rd rfl) (run_move _ rfl (ev_in rfl (by omega)) _) ?_
    exact l_round ⟨4 - (i + 1), by omega, i + 1, _, by omega, by omega, (szL _ _).trans hs, (defL _ _).trans hd, (ev_out rfl b6), (ev_out rfl b7), (ev_in rfl (by omega)).trans (by rw [Int.natCast_add]; rfl), (ev_in rfl (by omega)), ov3, (below_of_kept (kB.trans (k1.mono (by omega))) k2 (by omega) (by omega)).trans (k3.mono (by omega))⟩
  · refine c_rs (m_start ?_)
    refine m_mv rfl (wanted_rd rfl) (run_lssI (b := false) _ _ rfl (ev_out rfl b8) (ev_out rfl b7) (decide_eq_false (by omega)) _) ?_
    obtain rfl : i = 4 := by omega
    refine l_nx ?_
    refine c_nx (c_false (ev_in rfl (by omega)) (c_exit (x_out ?_)))
    refine c_rs ?_
    refine m_mv rfl (wanted_rd rfl) (run_move _ rfl (ev_out rfl b3) _) ?_
    refine m_mv rfl (wanted_rd rfl) (run_assign _ rfl (ev_in rfl (by omega)) _) ?_
    obtain ⟨a2, c2, rfl, hc2⟩ := rw_slice ov
    refine l_nx ?_
    exact c_ret (ret_of ((defL _ _).trans hd) (res_t rfl (ev_in rfl (by omega))) ⟨a2, c2, rfl, ov, kB⟩)

end Go.Proofs.YthimcecbgpamdaaGreat
