/- Joined: RefNod6, LawNod1, NodRow, MemGd, NodC3, NodC4, NodPr1, NodC5. -/
import Derived.Test.YthimcecbgpamdaaGreatNear166
import Derived.Test.YthimcecbgpamdaaGreatNear90
import Derived.Test.YthimcecbgpamdaaGreatNear91
import Derived.Test.YthimcecbgpamdaaGreatNear172
import Derived.Test.YthimcecbgpamdaaGreatNear141
import Derived.Test.YthimcecbgpamdaaGreatNear144
namespace Go.Proofs.YthimcecbgpamdaaGreat
open Go.RowKit

/-- Direct behind the first i nodes; the message's numbers. -/
def relI (n : Nd) (l : List Ms) (i s a : Nat) : Int := if s < i then relD n l s a else n.di s a
def relR (n : Nd) (l : List Ms) (j : Nat) : Int := relD n l (j / 3) (j % 3)
theorem ndF_diC {n : Nd} {d d' : Nat → Nat → Int} {v : Value} (h : ∀ s a, s < 4 → d s a = d' s a) : ndF { n with di := d } v = ndF { n with di := d' } v := ndF_ext (n := n) h (fun _ _ _ _ => rfl) (fun _ _ => rfl) (fun _ _ => rfl)
theorem ndF_di (n : Nd) (v : Value) {i a : Nat} (hi : i < 4) (ha : a < 3) : ndF n v (0 + 39 + i * 3 + a * 1) = .int .i64 (n.di i a) := by
  unfold ndF
  rw [if_neg (by omega), if_neg (by omega), if_neg (by omega), if_neg (by omega), if_pos (by omega), show (0 + 39 + i * 3 + a * 1 - 39) / 3 = i by omega, show (0 + 39 + i * 3 + a * 1 - 39) % 3 = a by omega]
  rfl
theorem rel_four (n : Nd) (l : List Ms) : ∀ s a, s < 4 → relI n l 4 s a = relD n l s a := fun s a h => by unfold relI; rw [if_pos h]
theorem rel_none {n : Nd} {L : List Lm} {i : Nat} (h : fL n.id n.fr L (i : Int) 1 3 = none) : ({ n with di := relI n (L.map Lm.m) i } : Nd) = { n with di := relI n (L.map Lm.m) (i + 1) } := by
  congr 1
  funext s a
  unfold relI
  by_cases c1 : s < i
  · rw [if_pos c1, if_pos (by omega)]
  · rw [if_neg c1]
    by_cases c2 : s = i
    · subst c2
      rw [if_pos (by omega)]
      unfold relD
      have := fL_frst n L s 1 3
      rw [show ((3 : Nat) : Int) = 3 from rfl, h] at this
      rw [← this]
      rfl
    · rw [if_neg (by omega)]
theorem rel_some {n : Nd} {L : List Lm} {i : Nat} {c : Lm} (h : fL n.id n.fr L (i : Int) 1 3 = some c) : ({ n with di := fun s a => if s = i then gL c.m.L a else relI n (L.map Lm.m) i s a } : Nd) = { n with di := relI n (L.map Lm.m) (i + 1) } := by
  congr 1
  funext s a
  unfold relI
  by_cases c2 : s = i
  · subst c2
    rw [if_pos rfl, if_pos (by omega)]
    unfold relD
    have := fL_frst n L s 1 3
    rw [show ((3 : Nat) : Int) = 3 from rfl, h] at this
    rw [← this]
    rfl
  · rw [if_neg c2]
    by_cases c1 : s < i
    · rw [if_pos c1, if_pos (by omega)]
    · rw [if_neg c1, if_neg (by omega)]
theorem rel_at {n : Nd} {l : List Ms} {i x : Nat} (hx : x < 3) : iF (relR n l) (3 * i + x) = (fun _ : Nat => iV (relI n l (i + 1) i x)) 0 := by
  show iV (relD n l ((3 * i + x) / 3) ((3 * i + x) % 3)) = iV _
  unfold relI
  rw [if_pos (by omega), show (3 * i + x) / 3 = i by omega, show (3 * i + x) % 3 = x by omega]
theorem msF_set (K F R : Int) (v u : Value) : ∀ j, j < 4 → stW (msF K F R v) (0 + 3) u j = msF K F R u j := by
  intro j hj
  match j, hj with
  | 0, _ => rfl
  | 1, _ => rfl
  | 2, _ => rfl
  | 3, _ => rfl
theorem gL_row (f : Nat → Int) (k : Nat) : rowV (iF (gL ((List.range k).map f))) k = rowV (iF f) k := by
  refine rowV_congr (fun i hi => ?_)
  unfold iF gL
  rw [List.getD_eq_getElem?_getD, List.getElem?_map, List.getElem?_range hi]
  rfl
theorem fit_lenR {id fr s kind many : Int} {m : Ms} (h : fitB id fr s kind many m = true) : (m.L.length : Int) = many := by
  unfold fitB at h
  simp at h
  omega
theorem rdc_one {e : TypeId} {w : World} {b : Nat} {u : Value} (m : Vh e w b 1 1 (fun _ => u)) : Rdc w 1 (.slice (some ⟨b, 0, none⟩) 1 1) 1 [u] := Or.inr ⟨⟨b, 0, none⟩, 1, rfl, rfl, fun j u' hj => by
  obtain rfl : j = 0 := by
    have := (List.getElem?_eq_some_iff.1 hj).1
    simp at this
    exact this
  cases hj
  exact m.cell (show 0 < 1 by omega)⟩
theorem run_lodN {P : Program} {f : Operand → Value} {o : Oper} {ty : TypeId} {x : Operand} (T : OneC P ty) {b off : Nat} {v : Value} {w : World} (hc : w.cell? ⟨b, off, none⟩ = some v) (ho : o.op = .load ty x) (hx : f x = .pointer (some ⟨b, off, none⟩)) : (execOp f o).run P w = .ok (.value v) w := by
  unfold execOp
  simp only [ho, hx, Instr.loadAt, Instr.sureAddr, loadVar, Sem.run_bind, Sem.run_pure, Result.andThen_ok, T.agg]
  go_simp
def fstA : Option Lm → Value
  | some c => lmV c
  | none => .slice none 0 0
theorem fstV_as (o : Option Lm) : fstV o = .tuple #[fstA o, .bool o.isSome] := by cases o <;> rfl
def agR (w : World) (n : Nd) (a : Option Addr) (c : Nat) : It := ownI w.heap.size 4 1 (.slice a n.vA.length c) n.vA.length (rowV (tF (bA n)) n.vA.length)
instance iRefNod6_1 : EntK Tryz.prog 43 := ⟨fun args w => by go_simp⟩
theorem c_midN {P : Program} {Q : Exit → Act → World → Prop} {a : Act} {w : World} {x y : Code} (T : Act → World → Prop) (hx : (∀ A W, T A W → CodI P y Q A W) → CodI P x (Nx P y Q) a w) (hy : ∀ A W, T A W → CodI P y Q A W) : CodI P (.seq x y) Q a w := c_nx (hx hy)
/-- What lies in memory: the messages' row, what comes back, and the computer so far. -/
abbrev dcBn (w w1 w2 : World) (n m : Nd) (a3 : Option Addr) (c3 : Nat) : List It := [agR w n a3 c3, vhI 67 w2.heap.size 4 4 (msF 0 0 0 (.slice none 0 0)), vhI 37 w1.heap.size 74 74 (ndF zeroN (.slice none 0 0)), vhI 37 w.heap.size 74 74 (ndF m (.slice a3 n.vA.length c3))]
abbrev dcA (k : Nat) (A : Act) (w w1 w2 : World) (v : Value) : Prop := A.tmps.size = k ∧ A.defers = [] ∧ A.eval (.tmp 1) = v ∧ A.eval (.tmp 2) = .pointer (some ⟨w.heap.size, 0, none⟩) ∧ A.eval (.tmp 4) = .pointer (some ⟨w1.heap.size, 0, none⟩) ∧ A.eval (.tmp 5) = .pointer (some ⟨w2.heap.size, 0, none⟩)
set_option maxRecDepth 10000 in
set_option maxHeartbeats 4000000 in
theorem refRelay_ok : PhOK relN relM 24 := by
  intro n ao c mo mc L w hok hag hmr hN hmc hRL
  have hag : Sr w ao n.vA.length c (tF (bA n)) := hag
  refine enterF Tryz.func24 rfl 64 rfl (of_decide_eq_true rfl) (fun A hs hd hb => ?_)
  have b0 : A.eval (.tmp 0) = agV (ndF n (.slice ao n.vA.length c)) 0 74 := hb 0 _ rfl
  have b1 : A.eval (.tmp 1) = .slice mo L.length mc := hb 1 _ rfl
  clear hb
  have H := Cx.start w
  refine c_rs (m_start ?_)
  refine q_box H ?_
  clear H
  intro w1 H z1
  refine q_al H ?_
  clear H
  intro w2 H z2
  refine q_al H ?_
  clear H
  intro w3 H z3
  refine l_nx ?_
  refine c_rs ?_
  refine qa ?_
  refine q_c1 (show Calls _ _ #[agV (ndF n (.slice ao n.vA.length c)) 0 74] _ _ from refCopy_any n ao c _ (hag.below H.bel) hok.vA) ?_
  rintro e w4 ⟨a3, c3, rfl, o4, k4⟩
  refine ⟨agV (ndF n (.slice a3 n.vA.length c3)) 0 74, rfl, ?_⟩
  have hsz := H.size
  replace H := H.add k4 (agR w n a3 c3) (rw_base o4 hsz) (fun j e => (o4.lt j e).1)
  refine q_sp H.a3 stP_whole (ndF_one _ _ _ _) ?_
  clear H
  intro w5 H z5
  refine l_nx ?_
  refine c_nx ?_
  refine c_rs ?_
  refine qa ?_
  refine q_c1 (show Calls _ _ #[agV (ndF n (.slice a3 n.vA.length c3)) 0 74] _ _ from refNone_any n _ _) ?_
  rintro e w6 ⟨rfl, k6⟩
  refine ⟨_, rfl, ?_⟩
  replace H := H.call k6
  refine l_nx ?_
  refine q_if (fun hno => ?_) (fun hno => ?_)
  · refine c_rs ?_
    refine qa ?_
    refine qg (run_bld0 rfl _) ?_
    refine q_sp H.a2 stP_whole (ndF_one _ _ _ _) ?_
    clear H
    intro w7 H z7
    refine q_sp H.a1 stP_whole (msF_one _ _ _ _ _ _) ?_
    clear H
    intro w8 H z8
    refine l_nx ?_
    have e1 : relN n (L.map Lm.m) = n := by unfold relN; rw [if_pos hno]
    have e2 : relM n (L.map Lm.m) = zeroM := by unfold relM; rw [if_pos hno]
    rw [e1, e2]
    exact c_ret (r_nx (ret_of ((defL _ _).trans hd) (res_cc rfl Qv Qv ManyK.out ManyK.out H.v2 (Nat.le_refl _) H.v1 (Nat.le_refl _)) ⟨a3, c3, none, 0, rfl, H.o0, World.ownsRow_nil _ _ _ _, H.bel⟩))
  refine c_fin ?_
  refine c_rs ?_
  iterate 4 refine qa ?_
  refine qg (run_bldM3 _ _ _ rfl Qv Qv Qv _) ?_
  refine q_al H ?_
  clear H
  intro w7 H z7
  obtain ⟨b6, eb6⟩ : ∃ b6, b6 = w6.heap.size := ⟨_, rfl⟩
  rw [← eb6] at H ⊢
  refine q_sp H.a0 stP_whole (msF_one _ _ _ _ _ _) ?_
  clear H
  intro w8 H z8
  refine l_nx ?_
  refine c_nx ?_
  refine c_rs ?_
  refine qa ?_
  refine l_nx ?_
  refine c_block ?_
  refine c_loop (fun r A W' => ∃ (i : Nat) (a2 : Option Addr) (c2 : Nat), i ≤ 4 ∧ 4 - i ≤ r ∧ (A.tmps.size = 64 ∧ A.defers = [] ∧ A.eval (.tmp 1) = .slice mo L.length mc ∧ A.eval (.tmp 2) = .pointer (some ⟨w.heap.size, 0, none⟩) ∧ A.eval (.tmp 4) = .pointer (some ⟨w1.heap.size, 0, none⟩) ∧ A.eval (.tmp 5) = .pointer (some ⟨w2.heap.size, 0, none⟩) ∧ A.eval (.tmp 6) = .pointer (some ⟨b6, 0, none⟩) ∧ A.eval (.tmp 7) = .int .i64 (i : Int)) ∧ Cx w W' [vhI 67 b6 4 4 (msF 2 n.id n.fr (.slice a2 (3 * i) c2)), ownI w.heap.size 3 1 (.slice a2 (3 * i) c2) (3 * i) (rowV (iF (relR n (L.map Lm.m))) (3 * i)), agR w n a3 c3, vhI 67 w2.heap.size 4 4 (msF 0 0 0 (.slice none 0 0)), vhI 37 w1.heap.size 74 74 (ndF zeroN (.slice none 0 0)), vhI 37 w.heap.size 74 74 (ndF { n with di := relI n (L.map Lm.m) i } (.slice a3 n.vA.length c3))]) 4
    ⟨0, none, 0, Nat.zero_le _, by omega, ⟨(szL _ _).trans hs, (defL _ _).trans hd, Qv, Qv, Qv, Qv, Qv, Qv⟩, ?_⟩ (fun r A W hI => ?_)
  · rw [show ({ n with di := relI n (L.map Lm.m) 0 } : Nd) = n by unfold relI; congr 1]
    exact (H.add (Below.refl _ _) (ownI w.heap.size 3 1 (.slice none 0 0) 0 []) (World.ownsRow_nil _ _ _ _) (fun j e => nomatch e)).f1
  clear b0 b1 hs hd H
  obtain ⟨i, a2, c2, hi, hir, ⟨hs, hd, b1, b2, b4, b5, b6', b7⟩, H⟩ := hI
  refine c_nx ?_
  refine c_rs (m_start ?_)
  iterate 2 refine qa ?_
  refine l_nx ?_
  refine q_if (fun h => ?_) (fun h => ?_)
  · have hin : i < 4 := by have := of_decide_eq_true h; omega
    refine c_fin ?_
    refine c_nx (c_block ?_)
    refine c_rs ?_
    iterate 3 refine qa ?_
    refine m_do rfl (wanted_rd rfl) (fun K hK => wp_call5 _ _ _ _ _ _ _ _ rfl Qv Qv Qv Qv Qv (enter_first _ _ _ _ _ _) (show Calls _ _ #[agV (ndF { n with di := relI n (L.map Lm.m) i } (.slice a3 n.vA.length c3)) 0 74, .slice mo L.length mc, .int .i64 (i : Int), .int .i64 1, .int .i64 3] _ (fun e w' => e = .returned (fstV (fL n.id n.fr L (i : Int) 1 3)) ∧ _) from refFirst_any { n with di := relI n (L.map Lm.m) i } (.slice a3 n.vA.length c3) mo mc L (i : Int) 1 3 _ (hmr.below H.bel) hN) ?_)
    rintro e w9 ⟨rfl, k9⟩
    refine ⟨_, by rw [fstV_as], hK _ _ ?_⟩
    replace H := H.call k9
    refine qa ?_
    refine qg (run_extA _ rfl Qv _) ?_
    refine qg (run_extB _ rfl Qv _) ?_
    iterate 2 refine qa ?_
    refine l_nx ?_
    refine c_midN (fun A W' => (A.tmps.size = 64 ∧ A.defers = [] ∧ A.eval (.tmp 1) = .slice mo L.length mc ∧ A.eval (.tmp 2) = .pointer (some ⟨w.heap.size, 0, none⟩) ∧ A.eval (.tmp 4) = .pointer (some ⟨w1.heap.size, 0, none⟩) ∧ A.eval (.tmp 5) = .pointer (some ⟨w2.heap.size, 0, none⟩) ∧ A.eval (.tmp 6) = .pointer (some ⟨b6, 0, none⟩) ∧ A.eval (.tmp 7) = .int .i64 (i : Int)) ∧ Cx w W' [vhI 67 b6 4 4 (msF 2 n.id n.fr (.slice a2 (3 * i) c2)), ownI w.heap.size 3 1 (.slice a2 (3 * i) c2) (3 * i) (rowV (iF (relR n (L.map Lm.m))) (3 * i)), agR w n a3 c3, vhI 67 w2.heap.size 4 4 (msF 0 0 0 (.slice none 0 0)), vhI 37 w1.heap.size 74 74 (ndF zeroN (.slice none 0 0)), vhI 37 w.heap.size 74 74 (ndF { n with di := relI n (L.map Lm.m) (i + 1) } (.slice a3 n.vA.length c3))]) (fun hT => ?_) (fun A V hT => ?_)
    · refine c_rs ?_
      refine qa ?_
      refine l_nx ?_
      rcases hfl : fL n.id n.fr L (i : Int) 1 3 with _ | cm
      · refine q_no rfl (c_fin ?_)
        exact hT _ _ ⟨⟨(szL _ _).trans hs, (defL _ _).trans hd, Qv, Qv, Qv, Qv, Qv, Qv⟩, by rw [← rel_none hfl]; exact H⟩
      obtain ⟨hcm, hft⟩ := fL_mem hfl
      obtain ⟨hs1, hs2, _⟩ := hmr.2 cm hcm
      have hl3 : cm.m.L.length = 3 := by have := fit_lenR hft; omega
      rcases hs1 with ⟨_, h0, _⟩ | ⟨ca, eca, hcv⟩
      · omega
      have hlm : lmV cm = .slice (some ca) cm.m.L.length cm.cap := by unfold lmV; rw [eca]
      refine q_yes rfl ?_
      replace H := H.drew
      have hcv : ∀ q, q < 3 → w9.drew.cell? (ca.add q) = some (.int .i64 (gL cm.m.L q)) := fun q hq => at_below (hcv q (by omega)) H.bel
      have hS : (fun W => Below w9.drew.heap.size w9.drew W) w9.drew := Below.refl _ _
      refine c_rj (S := fun W => Below w9.drew.heap.size w9.drew W) (.mv 0 (.mv 1 (.mv 2 (.rd 3 (.mv 4 (.mv 5 (.rd 6 (.mv 7 (.mv 8 (.rd 9 (.mv 10 (.mv 11 (.mv 12 (.go 13 .fin)))))))))))))) [13] (by kernel_rfl) (by kernel_rfl) ?_
      refine qj ?_
      refine j_mv rfl rfl (fun _ _ _ h => h) (wanted_rd rfl) (fun w => run_move _ rfl (Eq.trans Qv hlm) w) ?_
      refine j_mv rfl rfl (fun _ _ _ h => h) (wanted_rd rfl) (fun _ => run_ixN _ _ rfl Qv Qv (i := 0) rfl (by omega) _) ?_
      refine j_rd rfl rfl (fun _ _ _ h => h) (wanted_rd rfl) hS (fun _ e => run_ldI _ rfl Qv (at_below (hcv 0 (by omega)) e)) ?_
      refine j_mv rfl rfl (fun _ _ _ h => h) (wanted_rd rfl) (fun w => run_move _ rfl (Eq.trans Qv hlm) w) ?_
      refine j_mv rfl rfl (fun _ _ _ h => h) (wanted_rd rfl) (fun _ => run_ixN _ _ rfl Qv Qv (i := 1) rfl (by omega) _) ?_
      refine j_rd rfl rfl (fun _ _ _ h => h) (wanted_rd rfl) hS (fun _ e => run_ldI _ rfl Qv (at_below (hcv 1 (by omega)) e)) ?_
      refine j_mv rfl rfl (fun _ _ _ h => h) (wanted_rd rfl) (fun w => run_move _ rfl (Eq.trans Qv hlm) w) ?_
      refine j_mv rfl rfl (fun _ _ _ h => h) (wanted_rd rfl) (fun _ => run_ixN _ _ rfl Qv Qv (i := 2) rfl (by omega) _) ?_
      refine j_rd rfl rfl (fun _ _ _ h => h) (wanted_rd rfl) hS (fun _ e => run_ldI _ rfl Qv (at_below (hcv 2 (by omega)) e)) ?_
      refine j_mv rfl rfl (fun _ _ _ h => h) (wanted_rd rfl) (fun _ => run_bld3 _ _ _ rfl (g := gL cm.m.L) Qv Qv Qv _) ?_
      refine qj ?_
      refine j_mv rfl rfl (fun _ _ _ h => h) (wanted_rd rfl) (fun w => run_ixG _ _ _ _ rfl ArrK.out SizK.out Qv Qv rfl hin w) ?_
      refine j_st rfl (wanted_rd rfl) (fun K hK => wp_storeP _ _ _ _ rfl ManyK.out Qv Qv H.v5 (by omega) (fun _ _ => rfl) rfl (fun V1 m1 k1 z9 => hK _ (fun h => absurd h (by decide)) ?_))
      replace H := H.a5.s k1 (m1.congr (upd_drAt _ _ _ i hin))
      refine j_nx ?_
      exact hT _ _ ⟨⟨(szL _ _).trans hs, (defL _ _).trans hd, Qv, Qv, Qv, Qv, Qv, Qv⟩, by rw [← rel_some hfl]; exact H⟩
    clear b1 b2 b4 b5 b6' b7 hs hd H
    obtain ⟨⟨hs, hd, b1, b2, b4, b5, b6', b7⟩, H⟩ := hT
    refine c_rs (m_start ?_)
    refine qa ?_
    refine l_nx ?_
    refine c_block ?_
    refine c_loop (fun r A W' => ∃ (x : Nat) (a2 : Option Addr) (c2 : Nat), x ≤ 3 ∧ 3 - x ≤ r ∧ (A.tmps.size = 64 ∧ A.defers = [] ∧ A.eval (.tmp 1) = .slice mo L.length mc ∧ A.eval (.tmp 2) = .pointer (some ⟨w.heap.size, 0, none⟩) ∧ A.eval (.tmp 4) = .pointer (some ⟨w1.heap.size, 0, none⟩) ∧ A.eval (.tmp 5) = .pointer (some ⟨w2.heap.size, 0, none⟩) ∧ A.eval (.tmp 6) = .pointer (some ⟨b6, 0, none⟩) ∧ A.eval (.tmp 7) = .int .i64 (i : Int)) ∧ A.eval (.tmp 10) = .int .i64 (x : Int) ∧ Cx w W' [vhI 67 b6 4 4 (msF 2 n.id n.fr (.slice a2 (3 * i + x) c2)), ownI w.heap.size 3 1 (.slice a2 (3 * i + x) c2) (3 * i + x) (rowV (iF (relR n (L.map Lm.m))) (3 * i + x)), agR w n a3 c3, vhI 67 w2.heap.size 4 4 (msF 0 0 0 (.slice none 0 0)), vhI 37 w1.heap.size 74 74 (ndF zeroN (.slice none 0 0)), vhI 37 w.heap.size 74 74 (ndF { n with di := relI n (L.map Lm.m) (i + 1) } (.slice a3 n.vA.length c3))]) 3
      ⟨0, a2, c2, Nat.zero_le _, by omega, ⟨(szL _ _).trans hs, (defL _ _).trans hd, Qv, Qv, Qv, Qv, Qv, Qv⟩, Qv, H⟩ (fun r A W2 hI => ?_)
    clear b1 b2 b4 b5 b6' b7 hs hd H
    obtain ⟨x, a2, c2, hx, hxr, ⟨hs, hd, b1, b2, b4, b5, b6', b7⟩, b10, H⟩ := hI
    refine c_nx ?_
    refine c_rs (m_start ?_)
    iterate 2 refine qa ?_
    refine l_nx ?_
    refine q_if (fun h => ?_) (fun h => ?_)
    · have hx3 : x < 3 := by have := of_decide_eq_true h; omega
      refine c_fin ?_
      refine c_nx (c_block ?_)
      replace H := H.drew
      have cV : W2.drew.cell? ⟨b6, 0 + 3, none⟩ = some (.slice a2 (3 * i + x) c2) := H.v0.cell (show 3 < 4 by omega)
      have cD : W2.drew.cell? ⟨w.heap.size, 0 + 39 + i * 3 + x * 1, none⟩ = some (.int .i64 (relI n (L.map Lm.m) (i + 1) i x)) := by
        rw [← ndF_di { n with di := relI n (L.map Lm.m) (i + 1) } (.slice a3 n.vA.length c3) hin hx3]
        exact H.v5.cell (by omega)
      have hS : (fun W => Below W2.drew.heap.size W2.drew W) W2.drew := Below.refl _ _
      refine c_rj (S := fun W => Below W2.drew.heap.size W2.drew W) (.mv 0 (.rd 1 (.mv 2 (.mv 3 (.mv 4 (.mv 5 (.mv 6 (.rd 7 (.go 8 (.go 9 (.mv 10 (.go 11 .fin)))))))))))) [9, 11] (by kernel_rfl) (by kernel_rfl) ?_
      refine qj ?_
      refine j_rd rfl rfl (fun _ _ _ h => h) (wanted_rd rfl) hS (fun _ e => run_lodN OneK.out (at_below cV e) rfl Qv) ?_
      iterate 3 refine qj ?_
      refine j_mv rfl rfl (fun _ _ _ h => h) (wanted_rd rfl) (fun w => run_ixG _ _ _ _ rfl ArrK.out SizK.out Qv Qv rfl hin w) ?_
      refine j_mv rfl rfl (fun _ _ _ h => h) (wanted_rd rfl) (fun w => run_ixG _ _ _ _ rfl ArrK.out SizK.out Qv Qv rfl hx3 w) ?_
      refine j_rd rfl rfl (fun _ _ _ h => h) (wanted_rd rfl) hS (fun _ e => run_lodN OneK.out (at_below cD e) rfl Qv) ?_
      refine j_do rfl rfl (wanted_rd rfl) (fun K hK => wp_one1 (v := .int .i64 (relI n (L.map Lm.m) (i + 1) i x)) SlcK.out OneK.out Zer1.out rfl rfl rfl Qv (fun V1 m1 k1 z9 => hK _ _ (fun _ h => h.trans (k1.mono h.size)) ?_))
      replace H := H.call k1
      have hrw : World.ownsRow _ _ _ _ _ _ _ := H.o1
      refine j_do rfl rfl (wanted_rd rfl) (fun K hK => wp_joinA (bytes := 8) rfl inferInstance H.size Qv Qv hrw (rdc_one m1) (fun u hu => by rw [List.mem_singleton.1 hu]; rfl) (by unfold maxLen; omega) (by omega) (fun v' V2 o2 g2 f2 => hK _ _ (fun h => absurd h (by decide)) ?_))
      rw [show rowV (iF (relR n (L.map Lm.m))) (3 * i + x) ++ [.int .i64 (relI n (L.map Lm.m) (i + 1) i x)] = rowV (iF (relR n (L.map Lm.m))) (3 * i + x + 1) by unfold rowV; rw [List.range_succ, List.map_append, List.map_singleton, rel_at hx3]; rfl] at o2
      replace H := H.a1.put (y := (ownI w.heap.size 3 1 v' (3 * i + x + 1) (rowV (iF (relR n (L.map Lm.m))) (3 * i + x + 1)))) ⟨g2.os, g2.tape, g2.output, g2.size, fun j h5 h6 => g2.block j h5 (fun e => h6 e.symm), o2, f2⟩
      obtain ⟨a', c', rfl, _⟩ := rw_slice o2
      refine qj ?_
      refine j_st rfl (wanted_rd rfl) (fun K hK => wp_sto1 _ _ _ _ rfl OneK.out Qv Qv H.v0 (by omega) rfl rfl rfl (fun V3 m3 k3 z10 => hK _ (fun h => absurd h (by decide)) ?_))
      replace H := H.a0.s k3 (m3.congr (msF_set _ _ _ _ _))
      refine j_finB ?_
      refine c_region ?_
      repeat refine qa ?_
      exact l_round ⟨3 - (x + 1), by omega, x + 1, a', c', by omega, by omega, ⟨(szL _ _).trans hs, (defL _ _).trans hd, Qv, Qv, Qv, Qv, Qv, Qv⟩, Eq.trans Qv (by rw [Int.natCast_add]; rfl), H⟩
    · obtain rfl : x = 3 := by have := of_decide_eq_false h; omega
      refine c_exit (x_out2 ?_)
      refine c_region ?_
      repeat refine qa ?_
      exact l_round ⟨4 - (i + 1), by omega, i + 1, a2, c2, by omega, by omega, ⟨(szL _ _).trans hs, (defL _ _).trans hd, Qv, Qv, Qv, Qv, Qv, Eq.trans Qv (by rw [Int.natCast_add]; rfl)⟩, by rw [show 3 * (i + 1) = 3 * i + 3 by omega]; exact H⟩
  obtain rfl : i = 4 := by have := of_decide_eq_false h; omega
  refine c_exit (x_out ?_)
  refine c_nx ?_
  replace H := H.drew
  have hS : Its [vhI 67 b6 4 4 (msF 2 n.id n.fr (.slice a2 (3 * 4) c2)), vhI 37 w.heap.size 74 74 (ndF { n with di := relI n (L.map Lm.m) 4 } (.slice a3 n.vA.length c3))] W.drew := Its.cons H.o0 (Its.cons H.o5 (Its.nil _))
  refine c_rj (S := Its [vhI 67 b6 4 4 (msF 2 n.id n.fr (.slice a2 (3 * 4) c2)), vhI 37 w.heap.size 74 74 (ndF { n with di := relI n (L.map Lm.m) 4 } (.slice a3 n.vA.length c3))]) (.rd 0 (.rd 1 (.go 2 (.go 3 .fin)))) [] (by kernel_rfl) (by kernel_rfl) ?_
  iterate 2 refine qr hS ?_
  refine j_st rfl (wanted_rd rfl) (fun K hK => ?_)
  refine wp_storeP _ _ _ _ rfl ManyK.out Qv Qv H.v4 (by omega) (ndF_one _ _ _ _) rfl (fun V1 m1 k1 z9 => ?_)
  replace H := H.a4.s k1 (m1.congr stP_whole)
  refine hK _ (fun _ _ => Its.cons H.o0 (Its.cons H.o5 (Its.nil _))) ?_
  refine j_st rfl (wanted_rd rfl) (fun K hK => ?_)
  refine wp_storeP _ _ _ _ rfl ManyK.out Qv Qv H.v3 (by omega) (msF_one _ _ _ _ _ _) rfl (fun V2 m2 k2 z10 => ?_)
  replace H := H.a3.s k2 (m2.congr stP_whole)
  refine hK _ (fun _ _ => Its.cons H.o0 (Its.cons H.o5 (Its.nil _))) ?_
  refine j_nx ?_
  have e1 : relN n (L.map Lm.m) = { n with di := relD n (L.map Lm.m) } := by unfold relN; rw [if_neg (by rw [hno]; decide)]
  have e2 : relM n (L.map Lm.m) = ⟨2, n.id, n.fr, (List.range 12).map (relR n (L.map Lm.m))⟩ := by unfold relM; rw [if_neg (by rw [hno]; decide)]; rfl
  rw [e1, e2]
  have hrw : World.ownsRow _ _ _ _ _ _ _ := H.o1
  rw [show 3 * 4 = 12 by omega, ← gL_row] at hrw
  refine c_ret (ret_of ((defL _ _).trans hd) (res_cc rfl Qv Qv ManyK.out ManyK.out H.v4 (Nat.le_refl _) H.v3 (Nat.le_refl _)) ⟨a3, c3, a2, c2, by rw [ndF_diC (rel_four n (L.map Lm.m))]; rfl, H.o2, hrw, H.bel⟩)

end Go.Proofs.YthimcecbgpamdaaGreat

namespace Go.Proofs.YthimcecbgpamdaaGreat
open Go.RowKit

theorem run_bldTn {f : Operand → Value} {o : Oper} (a : Operand) (ho : o.op = .build 23 #[(0, a)]) {x : Int} (h0 : f a = .int .i64 x) (w : World) : (execOp f o).run Tryz.prog w = .ok (.value (agV (ntnF ⟨x, 0, 0, 0⟩) 0 4)) w := by
  unfold execOp
  rw [ho]
  go_simp
  rfl
theorem enter_bgnode (x y : Value) (w : World) : (callFunc 29 #[x, y]).run Tryz.prog w = .ok (.enter 29 #[x, y]) w := by go_simp
theorem tn1_ok : (⟨1, 0, 0, 0⟩ : Tn).Ok := by
  constructor <;> exact ⟨by decide, by decide⟩
end Go.Proofs.YthimcecbgpamdaaGreat

namespace Go.Proofs.YthimcecbgpamdaaGreat
open Go.RowKit

/-- The cells of a row of messages. -/
def lmC (c : Lm) : List Value := [iV c.m.K, iV c.m.F, iV c.m.R, lmV c]
def lmL : List Lm → List Value
  | [] => []
  | c :: L => lmC c ++ lmL L
theorem lmL_append (L M : List Lm) : lmL (L ++ M) = lmL L ++ lmL M := by
  induction L with
  | nil => rfl
  | cons c L ih => show lmC c ++ lmL (L ++ M) = (lmC c ++ lmL L) ++ lmL M; rw [ih, List.append_assoc]
theorem lmL_len (L : List Lm) : (lmL L).length = L.length * 4 := by
  induction L with
  | nil => rfl
  | cons c L ih => show (lmC c ++ lmL L).length = _; rw [List.length_append, ih, List.length_cons]; show 4 + _ = _; omega
theorem lmL_one {L : List Lm} : ∀ u, u ∈ lmL L → u.oneCell' = true := by
  induction L with
  | nil => intro u hu; exact absurd hu (List.not_mem_nil)
  | cons c L ih =>
    intro u hu
    rcases List.mem_append.1 hu with h | h
    · unfold lmC lmV iV at h
      simp at h
      rcases h with rfl | rfl | rfl | rfl <;> rfl
    · exact ih u h
theorem lmL_at (L : List Lm) : ∀ (i : Nat) (c : Lm), L[i]? = some c → ∀ k, k < 4 → (lmL L)[i * 4 + k]? = some (lmF c k) := by
  induction L with
  | nil => intro i c h; simp at h
  | cons d L ih =>
    intro i c h k hk
    show (lmC d ++ lmL L)[i * 4 + k]? = _
    cases i with
    | zero =>
      have e : d = c := by simpa using h
      subst e
      rw [List.getElem?_append_left (by show 0 * 4 + k < 4; omega)]
      match k, hk with
      | 0, _ => rfl
      | 1, _ => rfl
      | 2, _ => rfl
      | 3, _ => rfl
    | succ i =>
      rw [List.getElem?_append_right (by show 4 ≤ _; omega)]
      have := ih i c (by simpa using h) k hk
      rw [← this]
      congr 1
      show (i + 1) * 4 + k - 4 = _
      omega
theorem infoMs : (Tryz.prog.info? 67).map (fun i => (i.zero, i.size, i.bytes)) = some (some (.agg #[.int .i64 0, .int .i64 0, .int .i64 0, .slice none 0 0]), 4, 48) := by kernel_rfl
/-- A message's numbers of one's own; messages of one's own. -/
def OwnV (w : World) (B : Nat) (c : Lm) : Prop := w.ownsRow B 3 1 (lmV c) c.m.L.length (rowV (iF (gL c.m.L)) c.m.L.length)
def OwnM (w : World) (B : Nat) (v : Value) (L : List Lm) : Prop := w.ownsRow B 67 4 v L.length (lmL L) ∧ ∀ c, c ∈ L → OwnV w B c
theorem own_type {t : TypeId} {B s n b : Nat} {w : World} {v : Value} {xs : List Value} (h : w.ownsRow B t s v n xs) (e : v.ownBlock = some b) : ∃ cur, w.heap[b]? = some (.cells cur t (0, 0)) := by
  rcases h.2 with ⟨rfl, h0⟩ | ⟨g, c, cur, rfl, hb, hg, _⟩
  · cases e
  · cases e; exact ⟨cur, hg⟩
theorem OwnM.below {w w' : World} {B : Nat} {v : Value} {L : List Lm} (h : OwnM w B v L) (k : Below w.heap.size w w') : OwnM w' B v L := ⟨rw_below h.1 k, fun c hc => rw_below (h.2 c hc) k⟩
theorem OwnM.nil (w : World) (B : Nat) : OwnM w B (.slice none 0 0) [] := ⟨World.ownsRow_nil _ _ _ _, fun _ h => absurd h (List.not_mem_nil)⟩
theorem OwnM.rd {w : World} {B n cap : Nat} {ao : Option Addr} {L : List Lm} (h : OwnM w B (.slice ao n cap) L) (hl : ∀ c, c ∈ L → c.m.L.length ≤ 17592186044404) : MRd w ao L := by
  refine ⟨fun hp => ?_, fun c hc => ?_⟩
  · rcases h.1.2 with ⟨e, h0⟩ | ⟨g, cp, cur, e, hb, hg, hc, hm, hsz, hcur⟩
    · omega
    · cases e
      refine ⟨g, 0, rfl, fun i c hi k hk => ?_⟩
      have hlt := (List.getElem?_eq_some_iff.1 hi).1
      have h1 := lmL_at L i c hi k hk
      have hL := lmL_len L
      rw [← hcur, List.getElem?_take, if_pos (by omega), Array.getElem?_toList] at h1
      unfold World.cell?
      rw [hg]
      show cur[0 + i * 4 + k]? = _
      rw [Nat.zero_add]
      exact h1
  · obtain ⟨ao2, cap2, e, hs, hc2⟩ := owns_sr (h.2 c hc)
    unfold lmV at e
    cases e
    exact ⟨hs, hc2, hl c hc⟩
/-- A row of one message; one message appended. -/
theorem wp_oneMs (w : World) {o : Oper} {a : Act} {K : Act → World → Prop} {Q : Exit → Act → World → Prop} (x : Operand) (ho : o.op = .buildSlice 71 1 #[(0, x)]) {c : Lm} (hx : a.eval x = agV (lmF c) 0 4)
    (h : ∀ w', Vh 67 w' w.heap.size 4 4 (lmF c) → Below w.heap.size w w' → w'.heap.size = w.heap.size + 1 → K (a.put o.dst (.slice (some ⟨w.heap.size, 0, none⟩) 1 1)) w') : WpI Tryz.prog o a w K Q := by
  have hh := h (w.alloc (.cells #[.int .i64 c.m.K, .int .i64 c.m.F, .int .i64 c.m.R, .slice c.ao c.m.L.length c.cap] 67)) (Vh.of_row (lmF c) 4 (by decide) (by show (w.heap.push _)[w.heap.size]? = _; rw [Array.getElem?_push_size]; rfl)) (al_below _ _) (al_size _ _)
  have hx' : a.eval x = .agg #[.int .i64 c.m.K, .int .i64 c.m.F, .int .i64 c.m.R, .slice c.ao c.m.L.length c.cap] := hx
  have e : (execOp a.eval o).run Tryz.prog w = .ok (.value (.slice (some ⟨w.heap.size, 0, none⟩) 1 1)) (w.alloc (.cells #[.int .i64 c.m.K, .int .i64 c.m.F, .int .i64 c.m.R, .slice c.ao c.m.L.length c.cap] 67)) := by
    clear hx hh
    generalize a.eval = f at hx'
    unfold execOp
    rw [ho]
    simp only [List.map_toArray, List.map_cons, List.map_nil]
    rw [hx']
    go_simp
  refine ⟨?_⟩
  unfold Oper.wp
  rw [e]
  exact hh
theorem wp_joinM2 (w : World) {o : Oper} {a : Act} {K : Act → World → Prop} {Q : Exit → Act → World → Prop} (s x : Operand)
    (ho : o.op = .call { callee := .builtin .append, args := #[s, x], argTypes := #[71, 71] }) (B : Nat) (hB : B ≤ w.heap.size)
    (v : Value) (L : List Lm) (hs : a.eval s = v) (hown : OwnM w B v L) (b : Nat) (c : Lm) (hx : a.eval x = .slice (some ⟨b, 0, none⟩) 1 1) (hc : Vh 67 w b 4 4 (lmF c)) (hcB : OwnV w B c) (hl : L.length ≤ 2932031007317)
    (h : ∀ v' w', OwnM w' B v' (L ++ [c]) → Below B w w' → w.grownBy w' v.ownBlock → K (a.put o.dst v') w') : WpI Tryz.prog o a w K Q := by
  obtain ⟨i0, hi, hz0, hz1, hz2⟩ := info_parts infoMs
  refine ⟨?_⟩
  refine wp_append_own (P := Tryz.prog) w s x 71 ho B 67 i0 (.agg #[.int .i64 0, .int .i64 0, .int .i64 0, .slice none 0 0]) 4 48 Tryz.underlying71 hi hz0 hz1 hz2 rfl (by decide) v L.length (lmL L) hs hown.1 ⟨b, 0, none⟩ 1 1 (lmL [c]) hx rfl ?_ lmL_one (by unfold maxLen; omega) (by omega) hB ?_
  · intro j u hj
    rw [Addr.add_lit, Nat.zero_add]
    rcases Nat.lt_or_ge j 4 with h4 | h4
    · have h1 := lmL_at [c] 0 c rfl j h4
      rw [Nat.zero_mul, Nat.zero_add] at h1
      rw [h1] at hj
      cases hj
      exact hc.cell h4
    · rw [List.getElem?_eq_none (by rw [lmL_len]; exact h4)] at hj
      cases hj
  · intro v' w2 ho2 hgr _
    have apart : ∀ d, OwnV w B d → ∀ g, (lmV d).ownBlock = some g → v.ownBlock ≠ some g := fun d hd g hg e => by
      obtain ⟨u1, hu1⟩ := own_type hd hg
      obtain ⟨u2, hu2⟩ := own_type hown.1 e
      rw [hu1] at hu2
      cases hu2
    refine h v' w2 ⟨?_, ?_⟩ ?_ hgr
    · rw [List.length_append, lmL_append]; exact ho2
    · intro d hd
      rcases List.mem_append.1 hd with hd | hd
      · exact rw_grown (hown.2 d hd) hgr (apart d (hown.2 d hd))
      · simp at hd; subst hd
        exact rw_grown hcB hgr (apart d hcB)
    · refine ⟨hgr.os, hgr.tape, hgr.output, hgr.size, fun k hk => hgr.block k (by omega) (fun e => ?_)⟩
      have := (hown.1.lt k e.symm).1
      omega
theorem wp_joinM (w : World) {o : Oper} {a : Act} {K : Act → World → Prop} {Q : Exit → Act → World → Prop} (s x : Operand)
    (ho : o.op = .call { callee := .builtin .append, args := #[s, x], argTypes := #[71, 71] }) (B : Nat) (hB : B ≤ w.heap.size)
    (v : Value) (L : List Lm) (hs : a.eval s = v) (hown : OwnM w B v L) (b : Nat) (c : Lm) (hx : a.eval x = .slice (some ⟨b, 0, none⟩) 1 1) (hc : Vh 67 w b 4 4 (lmF c)) (hcB : OwnV w B c) (hl : L.length ≤ 2932031007317)
    (h : ∀ v' w', OwnM w' B v' (L ++ [c]) → Below B w w' → K (a.put o.dst v') w') : WpI Tryz.prog o a w K Q :=
  wp_joinM2 w s x ho B hB v L hs hown b c hx hc hcB hl (fun v' w' h1 h2 _ => h v' w' h1 h2)

end Go.Proofs.YthimcecbgpamdaaGreat

namespace Go.Proofs.YthimcecbgpamdaaGreat
open Go.RowKit

theorem run_indexT4 (f : Nat → Bool) {i : Nat} (hi : i < 4) (w : World) : (Instr.index 27 (.agg #[.bool (f 0), .bool (f 1), .bool (f 2), .bool (f 3)]) (.int .i64 (i : Int))).run Tryz.prog w = .ok (.bool (f i)) w := by
  have : i = 0 ∨ i = 1 ∨ i = 2 ∨ i = 3 := by omega
  rcases this with rfl | rfl | rfl | rfl <;> simp [Instr.index, go_sem]
/-- Are the counts of one node within their bounds? -/
def gcN (b : Bool) (m t : Int) : Bool := if b then decide (0 ≤ m) && decide (m ≤ 2) && decide (t = 0) else decide (m = 0) && decide (0 ≤ t) && decide (t ≤ 2)
theorem gd_gc (r : Rl) (i : Nat) : gd r i = gcN (r.I i) (r.M i) (r.J i) := rfl

set_option maxHeartbeats 1000000 in
theorem goodCounts_any (b : Bool) (m t : Int) (w : World) :
    Calls Tryz.prog 127 #[.bool b, .int .i64 m, .int .i64 t] w fun e w' => e = .returned (.bool (gcN b m t)) ∧ w' = w := by
  cases b with
  | true =>
    have G := hide (show gcN true m t = (decide (0 ≤ m) && decide (m ≤ 2) && decide (t = 0)) from rfl)
    by_cases h1 : 0 ≤ m
    · have d1 : decide (0 ≤ m) = true := decide_eq_true h1
      by_cases h2 : m ≤ 2
      · have d2 : decide (m ≤ 2) = true := decide_eq_true h2
        by_cases h3 : t = 0
        · subst h3
          go_enter Tryz.func127, Tryz.ntmps127
          go_wp2_with fail
          go_ret
          exact ⟨by rw [unhide G, d1, d2]; rfl, rfl⟩
        · have d3 : (t == 0) = false := by simp [h3]
          have d4 : decide (t = 0) = false := decide_eq_false h3
          go_enter Tryz.func127, Tryz.ntmps127
          go_wp2_with fail
          go_ret
          exact ⟨by rw [unhide G, d1, d2, d4]; rfl, rfl⟩
      · have d2 : decide (m ≤ 2) = false := decide_eq_false h2
        go_enter Tryz.func127, Tryz.ntmps127
        go_wp2_with fail
        go_ret
        exact ⟨by rw [unhide G, d1, d2]; rfl, rfl⟩
    · have d1 : decide (0 ≤ m) = false := decide_eq_false h1
      go_enter Tryz.func127, Tryz.ntmps127
      go_wp2_with fail
      go_ret
      exact ⟨by rw [unhide G, d1]; rfl, rfl⟩
  | false =>
    have G := hide (show gcN false m t = (decide (m = 0) && decide (0 ≤ t) && decide (t ≤ 2)) from rfl)
    by_cases h1 : 0 ≤ t
    · have d1 : decide (0 ≤ t) = true := decide_eq_true h1
      by_cases h2 : t < 3
      · have d2 : decide (t < 3) = true := decide_eq_true h2
        have d5 := hide (show decide (t ≤ 2) = true from decide_eq_true (by omega))
        by_cases h3 : m = 0
        · subst h3
          go_enter Tryz.func127, Tryz.ntmps127
          go_wp2_with fail
          go_ret
          exact ⟨by rw [unhide G, d1, unhide d5]; rfl, rfl⟩
        · have d3 : (m == 0) = false := by simp [h3]
          have d4 : decide (m = 0) = false := decide_eq_false h3
          go_enter Tryz.func127, Tryz.ntmps127
          go_wp2_with fail
          go_ret
          exact ⟨by rw [unhide G, d4]; rfl, rfl⟩
      · have d2 : decide (t < 3) = false := decide_eq_false h2
        have d5 := hide (show decide (t ≤ 2) = false from decide_eq_false (by omega))
        go_enter Tryz.func127, Tryz.ntmps127
        go_wp2_with fail
        go_ret
        exact ⟨by rw [unhide G, unhide d5, Bool.and_false]; rfl, rfl⟩
    · have d1 : decide (0 ≤ t) = false := decide_eq_false h1
      go_enter Tryz.func127, Tryz.ntmps127
      go_wp2_with fail
      go_ret
      exact ⟨by rw [unhide G, d1, Bool.and_false]; rfl, rfl⟩

theorem RAt.drew {w : World} {b : Nat} {r : Rl} (h : RAt w b r) : RAt w.drew b r := h

set_option maxHeartbeats 2000000 in
theorem memberGood_ok : GrOK 104 := by
  intro r w _
  obtain ⟨w1, e1, m1, k1, z1⟩ := r_alloc w r
  have p0 := m1.inn (i := 0) (by omega)
  have p1 := m1.inn (i := 1) (by omega)
  have p2 := m1.inn (i := 2) (by omega)
  have p3 := m1.inn (i := 3) (by omega)
  rw [e1] at p0 p1 p2 p3
  have E1 := hide e1; have M1 := hide m1; have K1 := hide k1
  clear e1 m1 k1 z1
  unfold rollV
  go_enter Tryz.func104, Tryz.ntmps104
  go_wp2_with fail
  rw [← unhide E1]
  clear p0 p1 p2 p3
  go_loopw [7] (fun is wr => ∃ i : Nat, is = .int .i64 i ∧ i ≤ 4 ∧ (∀ j, j < i → gd r j = true) ∧ RAt wr w.heap.size r ∧ Below w.heap.size w wr) (fun is _ => 4 - (intOf is).toNat)
  case atStart => exact ⟨0, rfl, by omega, fun j h => absurd h (by omega), unhide M1, unhide K1⟩
  case round =>
    obtain ⟨i, rfl, hi, hg, hm, hk⟩ := hrel
    rename World => wr
    have HG := hide hg; have HK := hide hk
    clear hg hk M1 K1
    by_cases hin : i < 4
    · have hin' : (i : Int) < 4 := by omega
      have NX := hide (fun h : gd r i = true => show ∀ j, j < i + 1 → gd r j = true from fun j hj => by
        by_cases e : j = i
        · rw [e]; exact h
        · exact unhide HG j (by omega))
      have at_ := run_indexT4 r.I hin
      have GG := hide (gd_gc r i)
      have hS : (fun u => RAt u w.heap.size r) wr.drew := hm.drew
      have HM := hide hm
      clear hm
      go_wp2_with fail
      refine region_by (S := fun u => RAt u w.heap.size r) [(0, false), (1, false), (2, false), (3, false), (4, false), (5, false), (6, false), (7, false), (8, false), (9, true), (10, true)] [] (by kernel_rfl) (by kernel_rfl) ?_
      iterate 9
        refine seq_read (v := ?_) rfl (fun _ _ _ h => h) (by rfl) hS ?_ ?_
        rotate_left 1
        · intro wx hwx
          have cm := RAt.mis hwx hin; have cj := RAt.joi hwx hin
          clear hwx
          go_simp <;> exact rfl
        go_frame
      refine seq_do rfl (fun K hK => ?_)
      go_simp
      refine (goodCounts_any (r.I i) (r.M i) (r.J i) _).mono ?_
      rintro e w2 ⟨rfl, rfl⟩
      refine hK _ _ (fun _ => hS) ?_
      clear hK K
      rw [← unhide GG]
      refine seq_do rfl (fun K hK => ?_)
      go_simp
      refine hK _ _ (fun _ => hS) ?_
      clear hK K
      refine seq_end ?_
      have M2 := hide ((unhide HM).drew); have K2 := hide (below_drew (unhide HK))
      clear hS HM HK at_
      cases hb : gd r i with
      | true =>
        have Y := hide (unhide NX hb)
        go_wp2_with fail
        go_roundw
        case rel => exact ⟨i + 1, by go_num, by omega, unhide Y, unhide M2, unhide K2⟩
        case measure => simp [intOf] <;> omega
      | false =>
        have N := hide (gdA_no hin hb)
        go_wp2_with fail
        go_ret
        exact ⟨by rw [unhide N]; rfl, unhide K2⟩
    · have e9 : i = 4 := by omega
      subst e9
      rw [show ((4 : Nat) : Int) = 4 from rfl]
      have N := hide (gdA_iff.2 (unhide HG))
      clear hm
      go_wp2_with fail
      go_ret
      exact ⟨by rw [unhide N]; rfl, unhide HK⟩

end Go.Proofs.YthimcecbgpamdaaGreat

namespace Go.Proofs.YthimcecbgpamdaaGreat
open Go.RowKit

theorem enter_cwithin (x y : Value) (w : World) : (callFunc 161 #[x, y]).run Tryz.prog w = .ok (.enter 161 #[x, y]) w := by go_simp
theorem enter_caxisOf (x : Value) (w : World) : (callFunc 160 #[x]).run Tryz.prog w = .ok (.enter 160 #[x]) w := by go_simp
theorem enter_caxesOf (x : Value) (w : World) : (callFunc 134 #[x]).run Tryz.prog w = .ok (.enter 134 #[x]) w := by go_simp
theorem enter_ccountsOf (x : Value) (w : World) : (callFunc 162 #[x]).run Tryz.prog w = .ok (.enter 162 #[x]) w := by go_simp
theorem enter_crollOf (x y z : Value) (w : World) : (callFunc 135 #[x, y, z]).run Tryz.prog w = .ok (.enter 135 #[x, y, z]) w := by go_simp
theorem enter_cmgood (x : Value) (w : World) : (callFunc 104 #[x]).run Tryz.prog w = .ok (.enter 104 #[x]) w := by go_simp
def wiB (x l : Int) : Bool := decide (0 ≤ x) && decide (x ≤ l)
theorem withinN_any (x l : Int) (w : World) : Calls Tryz.prog 161 #[.int .i64 x, .int .i64 l] w fun e w' => e = .returned (.bool (wiB x l)) ∧ Below w.heap.size w w' := by
  unfold wiB
  by_cases h1 : 0 ≤ x
  · by_cases h2 : x ≤ l
    · rw [decide_eq_true h1, decide_eq_true h2]
      refine enterF Tryz.func161 rfl 12 rfl (of_decide_eq_true rfl) (fun A hs hd hb => ?_)
      have b0 := hb 0 _ rfl
      have b1 := hb 1 _ rfl
      clear hb
      refine c_rs (m_start ?_)
      refine m_mv rfl (wanted_rd rfl) (run_assign _ rfl (ev_const _ _) _) ?_
      refine l_nx ?_
      refine c_rs ?_
      refine m_mv rfl (wanted_rd rfl) (run_move _ rfl (ev_out rfl b0) _) ?_
      refine m_mv rfl (wanted_rd rfl) (run_geqI (b := true) _ _ rfl (ev_in rfl (by omega)) (ev_const _ _) (decide_eq_true h1) _) ?_
      refine m_mv rfl (wanted_rd rfl) (run_move _ rfl (ev_in rfl (by omega)) _) ?_
      refine m_mv rfl (wanted_g (j := 2) rfl rfl rfl (ev_in rfl (by omega))) (run_move _ rfl (ev_out rfl b0) _) ?_
      refine m_mv rfl (wanted_g (j := 2) rfl rfl rfl (ev_in rfl (by omega))) (run_move _ rfl (ev_out rfl b1) _) ?_
      refine m_mv rfl (wanted_g (j := 2) rfl rfl rfl (ev_in rfl (by omega))) (run_leqI (b := true) _ _ rfl (ev_in rfl (by omega)) (ev_in rfl (by omega)) (decide_eq_true h2) _) ?_
      refine m_mv rfl (wanted_rd rfl) (run_pickT' _ _ _ rfl (ev_in rfl (by omega)) (ev_in rfl (by omega)) _) ?_
      refine m_mv rfl (wanted_rd rfl) (run_assign _ rfl (ev_in rfl (by omega)) _) ?_
      refine l_nx ?_
      exact c_ret (ret_of ((defL _ _).trans hd) (res_t rfl (ev_in rfl (by omega))) ⟨rfl, Below.refl _ _⟩)
    · rw [decide_eq_true h1, decide_eq_false h2]
      refine enterF Tryz.func161 rfl 12 rfl (of_decide_eq_true rfl) (fun A hs hd hb => ?_)
      have b0 := hb 0 _ rfl
      have b1 := hb 1 _ rfl
      clear hb
      refine c_rs (m_start ?_)
      refine m_mv rfl (wanted_rd rfl) (run_assign _ rfl (ev_const _ _) _) ?_
      refine l_nx ?_
      refine c_rs ?_
      refine m_mv rfl (wanted_rd rfl) (run_move _ rfl (ev_out rfl b0) _) ?_
      refine m_mv rfl (wanted_rd rfl) (run_geqI (b := true) _ _ rfl (ev_in rfl (by omega)) (ev_const _ _) (decide_eq_true h1) _) ?_
      refine m_mv rfl (wanted_rd rfl) (run_move _ rfl (ev_in rfl (by omega)) _) ?_
      refine m_mv rfl (wanted_g (j := 2) rfl rfl rfl (ev_in rfl (by omega))) (run_move _ rfl (ev_out rfl b0) _) ?_
      refine m_mv rfl (wanted_g (j := 2) rfl rfl rfl (ev_in rfl (by omega))) (run_move _ rfl (ev_out rfl b1) _) ?_
      refine m_mv rfl (wanted_g (j := 2) rfl rfl rfl (ev_in rfl (by omega))) (run_leqI (b := false) _ _ rfl (ev_in rfl (by omega)) (ev_in rfl (by omega)) (decide_eq_false h2) _) ?_
      refine m_mv rfl (wanted_rd rfl) (run_pickT' _ _ _ rfl (ev_in rfl (by omega)) (ev_in rfl (by omega)) _) ?_
      refine m_mv rfl (wanted_rd rfl) (run_assign _ rfl (ev_in rfl (by omega)) _) ?_
      refine l_nx ?_
      exact c_ret (ret_of ((defL _ _).trans hd) (res_t rfl (ev_in rfl (by omega))) ⟨rfl, Below.refl _ _⟩)
  · rw [decide_eq_false h1]
    refine enterF Tryz.func161 rfl 12 rfl (of_decide_eq_true rfl) (fun A hs hd hb => ?_)
    have b0 := hb 0 _ rfl
    have b1 := hb 1 _ rfl
    clear hb
    refine c_rs (m_start ?_)
    refine m_mv rfl (wanted_rd rfl) (run_assign _ rfl (ev_const _ _) _) ?_
    refine l_nx ?_
    refine c_rs ?_
    refine m_mv rfl (wanted_rd rfl) (run_move _ rfl (ev_out rfl b0) _) ?_
    refine m_mv rfl (wanted_rd rfl) (run_geqI (b := false) _ _ rfl (ev_in rfl (by omega)) (ev_const _ _) (decide_eq_false h1) _) ?_
    refine m_mv rfl (wanted_rd rfl) (run_move _ rfl (ev_in rfl (by omega)) _) ?_
    refine m_skip rfl (wanted_n (j := 2) rfl rfl rfl (ev_in rfl (by omega)) (by decide)) ?_
    refine m_skip rfl (wanted_n (j := 2) rfl rfl rfl (ev_in rfl (by omega)) (by decide)) ?_
    refine m_skip rfl (wanted_n (j := 2) rfl rfl rfl (ev_in rfl (by omega)) (by decide)) ?_
    refine m_mv rfl (wanted_rd rfl) (run_pickF _ _ _ rfl (ev_in rfl (by omega)) (ev_const _ _) _) ?_
    refine m_mv rfl (wanted_rd rfl) (run_assign _ rfl (ev_in rfl (by omega)) _) ?_
    refine l_nx ?_
    exact c_ret (ret_of ((defL _ _).trans hd) (res_t rfl (ev_in rfl (by omega))) ⟨rfl, Below.refl _ _⟩)
/-- Seven numbers as an axis. -/
def axS (p : Nat → Int) : St := ⟨p 0, p 1, p 2, p 3, p 4, decide (p 5 = 1), p 6⟩
def axO (p : Nat → Int) : St := if wiB (p 5) 1 then axS p else St.nil'
theorem axisOf_any (z : Addr) (m mc : Nat) (p : Nat → Int) (w : World) (hm : 7 ≤ m) (hz : ∀ i, i < 7 → w.cell? (z.add i) = some (.int .i64 (p i))) :
    Calls Tryz.prog 160 #[.slice (some z) m mc] w fun e w' => e = .returned (.tuple #[agV (nstF (axO p)) 0 7, .bool (wiB (p 5) 1)]) ∧ Below w.heap.size w w' := by
  refine enterF Tryz.func160 rfl 33 rfl (of_decide_eq_true rfl) (fun A hs hd hb => ?_)
  have b0 := hb 0 _ rfl
  clear hb
  rcases hb : wiB (p 5) 1 with _ | _
  · refine c_rs (m_start ?_)
    refine m_do rfl (wanted_rd rfl) (fun K hK => ?_)
    refine wp_allocG _ _ rfl zeroSt (of_decide_eq_true rfl) ?_
    intro w1 m1 k1 z1
    refine hK _ _ ?_
    clear hK K
    refine m_mv rfl (wanted_rd rfl) (run_assign _ rfl (ev_const _ _) _) ?_
    refine l_nx ?_
    refine c_nx ?_
    refine c_rs ?_
    refine m_mv rfl (wanted_rd rfl) (run_move _ rfl (ev_out rfl b0) _) ?_
    refine m_mv rfl (wanted_rd rfl) (run_ixN _ _ rfl (a := z) (n := m) (cap := mc) (ev_in rfl (by omega)) (ev_const _ _) (i := 5) rfl (by omega) _) ?_
    refine m_mv rfl (wanted_rd rfl) (run_ldI _ rfl (ev_in rfl (by omega)) (at_below (hz 5 (by omega)) k1)) ?_
    refine m_do rfl (wanted_rd rfl) (fun K hK => ?_)
    have C1 := withinN_any (p 5) 1 w1
    rw [hb] at C1
    refine wp_call2 _ 161 _ _ _ rfl (ev_in rfl (by omega)) (ev_const _ _) (enter_cwithin _ _ _) C1 ?_
    rintro e w2 ⟨rfl, k2⟩
    have n2 := k2.size
    have mr2 := m1.below k2
    refine ⟨_, rfl, ?_⟩
    refine hK _ _ ?_
    clear hK K
    refine m_mv rfl (wanted_rd rfl) (run_notB _ _ rfl (ev_in rfl (by omega)) _) ?_
    refine l_nx ?_
    refine c_true (ev_in rfl (by omega)) ?_
    refine c_rs ?_
    refine m_mv rfl (wanted_rd rfl) (run_bldS0 rfl _) ?_
    refine m_st (wanted_rd rfl) (fun K hK => ?_)
    refine wp_storeP _ _ _ _ rfl manySt (ev_in rfl (by omega)) (ev_in rfl (by omega)) mr2 (by decide) (nstF_one _) rfl ?_
    intro w3 mm3 k3 z3
    have mr3 := Vh.congr mm3 (stP_all7 _ _)
    refine hK _ ?_
    clear hK K
    refine m_mv rfl (wanted_rd rfl) (run_assign _ rfl (ev_const _ _) _) ?_
    refine l_nx ?_
    refine c_ret ?_
    simp only [Nx, Exit.then]
    refine ret_of ((defL _ _).trans hd) (res_ct rfl (ev_in rfl (by omega)) (ev_in rfl (by omega)) manySt mr3 (Nat.le_refl _)) ⟨?_, below_of_kept (k1.trans (k2.mono (by omega))) k3 (by omega) (by omega)⟩
    unfold axO
    rw [hb]
    rfl
  · refine c_rs (m_start ?_)
    refine m_do rfl (wanted_rd rfl) (fun K hK => ?_)
    refine wp_allocG _ _ rfl zeroSt (of_decide_eq_true rfl) ?_
    intro w1 m1 k1 z1
    refine hK _ _ ?_
    clear hK K
    refine m_mv rfl (wanted_rd rfl) (run_assign _ rfl (ev_const _ _) _) ?_
    refine l_nx ?_
    refine c_nx ?_
    refine c_rs ?_
    refine m_mv rfl (wanted_rd rfl) (run_move _ rfl (ev_out rfl b0) _) ?_
    refine m_mv rfl (wanted_rd rfl) (run_ixN _ _ rfl (a := z) (n := m) (cap := mc) (ev_in rfl (by omega)) (ev_const _ _) (i := 5) rfl (by omega) _) ?_
    refine m_mv rfl (wanted_rd rfl) (run_ldI _ rfl (ev_in rfl (by omega)) (at_below (hz 5 (by omega)) k1)) ?_
    refine m_do rfl (wanted_rd rfl) (fun K hK => ?_)
    have C1 := withinN_any (p 5) 1 w1
    rw [hb] at C1
    refine wp_call2 _ 161 _ _ _ rfl (ev_in rfl (by omega)) (ev_const _ _) (enter_cwithin _ _ _) C1 ?_
    rintro e w2 ⟨rfl, k2⟩
    have n2 := k2.size
    have mr2 := m1.below k2
    refine ⟨_, rfl, ?_⟩
    refine hK _ _ ?_
    clear hK K
    refine m_mv rfl (wanted_rd rfl) (run_notB _ _ rfl (ev_in rfl (by omega)) _) ?_
    refine l_nx ?_
    refine c_false (ev_in rfl (by omega)) (c_fin ?_)
    refine c_nx ?_
    have hS0 : (fun Z => ∀ i, i < 7 → Z.cell? (z.add i) = some (.int .i64 (p i))) w2.drew := fun i hi => at_below (hz i hi) (below_drew (k1.trans (k2.mono (by omega))))
    have mr0 : Vh _ w2.drew _ _ _ _ := mr2
    have ez : w2.drew.heap.size = w2.heap.size := rfl
    refine c_rj (S := fun Z => ∀ i, i < 7 → Z.cell? (z.add i) = some (.int .i64 (p i))) (.mv 0 (.mv 1 (.rd 2 (.mv 3 (.mv 4 (.rd 5 (.mv 6 (.mv 7 (.rd 8 (.mv 9 (.mv 10 (.rd 11 (.mv 12 (.mv 13 (.rd 14 (.mv 15 (.mv 16 (.rd 17 (.mv 18 (.mv 19 (.mv 20 (.rd 21 (.mv 22 (.go 23 (.mv 24 .fin))))))))))))))))))))))))) [23] (by kernel_rfl) (by kernel_rfl) ?_
    refine j_mv rfl rfl (fun _ _ _ h => h) (wanted_rd rfl) (fun _ => run_move _ rfl (ev_out rfl b0) _) ?_
    refine j_mv rfl rfl (fun _ _ _ h => h) (wanted_rd rfl) (fun _ => run_ixN _ _ rfl (a := z) (n := m) (cap := mc) (ev_in rfl (by omega)) (ev_const _ _) (i := 0) rfl (by omega) _) ?_
    refine j_rd rfl rfl (fun _ _ _ h => h) (wanted_rd rfl) hS0 (fun _ hS => run_ldI _ rfl (ev_in rfl (by omega)) (hS 0 (by decide))) ?_
    refine j_mv rfl rfl (fun _ _ _ h => h) (wanted_rd rfl) (fun _ => run_move _ rfl (ev_out rfl b0) _) ?_
    refine j_mv rfl rfl (fun _ _ _ h => h) (wanted_rd rfl) (fun _ => run_ixN _ _ rfl (a := z) (n := m) (cap := mc) (ev_in rfl (by omega)) (ev_const _ _) (i := 1) rfl (by omega) _) ?_
    refine j_rd rfl rfl (fun _ _ _ h => h) (wanted_rd rfl) hS0 (fun _ hS => run_ldI _ rfl (ev_in rfl (by omega)) (hS 1 (by decide))) ?_
    refine j_mv rfl rfl (fun _ _ _ h => h) (wanted_rd rfl) (fun _ => run_move _ rfl (ev_out rfl b0) _) ?_
    refine j_mv rfl rfl (fun _ _ _ h => h) (wanted_rd rfl) (fun _ => run_ixN _ _ rfl (a := z) (n := m) (cap := mc) (ev_in rfl (by omega)) (ev_const _ _) (i := 2) rfl (by omega) _) ?_
    refine j_rd rfl rfl (fun _ _ _ h => h) (wanted_rd rfl) hS0 (fun _ hS => run_ldI _ rfl (ev_in rfl (by omega)) (hS 2 (by decide))) ?_
    refine j_mv rfl rfl (fun _ _ _ h => h) (wanted_rd rfl) (fun _ => run_move _ rfl (ev_out rfl b0) _) ?_
    refine j_mv rfl rfl (fun _ _ _ h => h) (wanted_rd rfl) (fun _ => run_ixN _ _ rfl (a := z) (n := m) (cap := mc) (ev_in rfl (by omega)) (ev_const _ _) (i := 3) rfl (by omega) _) ?_
    refine j_rd rfl rfl (fun _ _ _ h => h) (wanted_rd rfl) hS0 (fun _ hS => run_ldI _ rfl (ev_in rfl (by omega)) (hS 3 (by decide))) ?_
    refine j_mv rfl rfl (fun _ _ _ h => h) (wanted_rd rfl) (fun _ => run_move _ rfl (ev_out rfl b0) _) ?_
    refine j_mv rfl rfl (fun _ _ _ h => h) (wanted_rd rfl) (fun _ => run_ixN _ _ rfl (a := z) (n := m) (cap := mc) (ev_in rfl (by omega)) (ev_const _ _) (i := 4) rfl (by omega) _) ?_
    refine j_rd rfl rfl (fun _ _ _ h => h) (wanted_rd rfl) hS0 (fun _ hS => run_ldI _ rfl (ev_in rfl (by omega)) (hS 4 (by decide))) ?_
    refine j_mv rfl rfl (fun _ _ _ h => h) (wanted_rd rfl) (fun _ => run_move _ rfl (ev_out rfl b0) _) ?_
    refine j_mv rfl rfl (fun _ _ _ h => h) (wanted_rd rfl) (fun _ => run_ixN _ _ rfl (a := z) (n := m) (cap := mc) (ev_in rfl (by omega)) (ev_const _ _) (i := 5) rfl (by omega) _) ?_
    refine j_rd rfl rfl (fun _ _ _ h => h) (wanted_rd rfl) hS0 (fun _ hS => run_ldI _ rfl (ev_in rfl (by omega)) (hS 5 (by decide))) ?_
    refine j_mv rfl rfl (fun _ _ _ h => h) (wanted_rd rfl) (fun _ => run_eqlI (b := decide (p 5 = 1)) _ _ rfl (ev_in rfl (by omega)) (ev_const _ _) rfl _) ?_
    refine j_mv rfl rfl (fun _ _ _ h => h) (wanted_rd rfl) (fun _ => run_move _ rfl (ev_out rfl b0) _) ?_
    refine j_mv rfl rfl (fun _ _ _ h => h) (wanted_rd rfl) (fun _ => run_ixN _ _ rfl (a := z) (n := m) (cap := mc) (ev_in rfl (by omega)) (ev_const _ _) (i := 6) rfl (by omega) _) ?_
    refine j_rd rfl rfl (fun _ _ _ h => h) (wanted_rd rfl) hS0 (fun _ hS => run_ldI _ rfl (ev_in rfl (by omega)) (hS 6 (by decide))) ?_
    refine j_mv rfl rfl (fun _ _ _ h => h) (wanted_rd rfl) (fun _ => run_bldS (s := axS p) _ _ _ _ _ _ _ rfl (ev_in rfl (by omega)) (ev_in rfl (by omega)) (ev_in rfl (by omega)) (ev_in rfl (by omega)) (ev_in rfl (by omega)) (ev_in rfl (by omega)) (ev_in rfl (by omega)) _) ?_
    refine j_st rfl (wanted_rd rfl) (fun K hK => ?_)
    refine wp_storeP _ _ _ _ rfl manySt (ev_in rfl (by omega)) (ev_in rfl (by omega)) mr0 (by decide) (nstF_one _) rfl ?_
    intro w3 mm3 k3 z3
    have mr3 := Vh.congr mm3 (stP_all7 _ _)
    refine hK _ (fun h => absurd h (by decide)) ?_
    clear hK K
    refine j_mv rfl rfl (fun _ _ _ h => h) (wanted_rd rfl) (fun _ => run_assign _ rfl (ev_const _ _) _) ?_
    refine j_nx ?_
    refine c_ret ?_
    refine ret_of ((defL _ _).trans hd) (res_ct rfl (ev_in rfl (by omega)) (ev_in rfl (by omega)) manySt mr3 (Nat.le_refl _)) ⟨?_, below_of_kept (below_drew (k1.trans (k2.mono (by omega)))) k3 (by omega) (by omega)⟩
    unfold axO
    rw [hb]
    rfl
theorem zeroAx (w : World) : (zeroValue 26).run Tryz.prog w = .ok (agV (fun j => nstF St.nil' (j % 7)) 0 21) w := by kernel_rfl
theorem stP_all21 (g : Nat → Value) (h : Nat → Value) : ∀ j, j < 21 → stP g 0 21 h j = h j := fun j hj => by
  have := stP_in g (o := 0) (n := 21) h hj
  rwa [Nat.zero_add] at this
theorem add_add (a : Addr) (i k : Nat) : (a.add i).add k = a.add (i + k) := by grind [Addr.add, Nat.add_assoc]
/-- The axes that a list tells; do they tell any? -/
def axN (v : Nat → Int) (a : Nat) : St := axS (fun i => v (7 * a + i))
def okA (v : Nat → Int) : Bool := wiB (v 5) 1 && (wiB (v 12) 1 && wiB (v 19) 1)
def axV (v : Nat → Int) (x j : Nat) : Value := if j < 7 * x then nstF (axN v (j / 7)) (j % 7) else nstF St.nil' (j % 7)
theorem axV_zero (v : Nat → Int) : ∀ j, j < 21 → nstF St.nil' (j % 7) = axV v 0 j := fun j _ => by unfold axV; rw [if_neg (by omega)]
theorem axV_next (v : Nat → Int) {x : Nat} (hb : wiB (v (7 * x + 5)) 1 = true) : ∀ j, j < 21 → stP (axV v x) (0 + x * 7) 7 (nstF (axO (fun i => v (7 * x + i)))) j = axV v (x + 1) j := by
  intro j _
  unfold stP
  by_cases c : 0 + x * 7 ≤ j ∧ j < 0 + x * 7 + 7
  · rw [if_pos c]
    have e : axO (fun i => v (7 * x + i)) = axN v x := by
      unfold axO
      exact if_pos hb
    rw [e]
    unfold axV
    rw [if_pos (by omega), show j / 7 = x by omega, show j % 7 = j - (0 + x * 7) by omega]
  · rw [if_neg c]
    unfold axV
    by_cases c2 : j < 7 * x
    · rw [if_pos c2, if_pos (by omega)]
    · rw [if_neg c2, if_neg (by omega)]
theorem axV_three (v : Nat → Int) : ∀ j, j < 21 → axV v 3 j = nstF (axN v (j / 7)) (j % 7) := fun j hj => by unfold axV; rw [if_pos (by omega)]
theorem okA_no {v : Nat → Int} {x : Nat} (hx : x < 3) (hb : wiB (v (7 * x + 5)) 1 = false) : okA v = false := by grind [okA]
theorem okA_yes {v : Nat → Int} (h : ∀ a, a < 3 → wiB (v (7 * a + 5)) 1 = true) : okA v = true := by
  unfold okA
  rw [show wiB (v 5) 1 = true from h 0 (by omega), show wiB (v 12) 1 = true from h 1 (by omega), show wiB (v 19) 1 = true from h 2 (by omega)]
  rfl
set_option maxHeartbeats 2000000 in
theorem axesOf_any (y : Addr) (yc : Nat) (v : Nat → Int) (w : World) (hc : 24 ≤ yc) (hy : ∀ i, i < 24 → w.cell? (y.add i) = some (.int .i64 (v i))) :
    Calls Tryz.prog 134 #[.slice (some y) 24 yc] w fun e w' => e = .returned (.tuple #[agV (fun j => nstF (if okA v then axN v (j / 7) else St.nil') (j % 7)) 0 21, .bool (okA v)]) ∧ Below w.heap.size w w' := by
  refine enterF Tryz.func134 rfl 27 rfl (of_decide_eq_true rfl) (fun A hs hd hb => ?_)
  have b0 := hb 0 _ rfl
  clear hb
  refine c_rs (m_start ?_)
  refine m_do rfl (wanted_rd rfl) (fun K hK => ?_)
  refine wp_allocG _ _ rfl zeroAx (of_decide_eq_true rfl) ?_
  intro w1 m1 k1 z1
  refine hK _ _ ?_
  clear hK K
  refine m_mv rfl (wanted_rd rfl) (run_assign _ rfl (ev_const _ _) _) ?_
  refine l_nx ?_
  refine c_rs ?_
  refine m_do rfl (wanted_rd rfl) (fun K hK => ?_)
  refine wp_allocG _ _ rfl zeroAx (of_decide_eq_true rfl) ?_
  intro w2 m2 k2 z2
  have mr2 := m1.below k2
  refine hK _ _ ?_
  clear hK K
  refine l_nx ?_
  refine c_nx ?_
  refine c_rs ?_
  refine m_mv rfl (wanted_rd rfl) (run_move _ rfl (ev_const _ _) _) ?_
  refine l_nx ?_
  refine c_block ?_
  refine c_loop (fun q A W => ∃ x : Nat, x ≤ 3 ∧ 3 - x ≤ q ∧ A.tmps.size = 27 ∧ A.defers = [] ∧ A.eval (.tmp 0) = .slice (some y) 24 yc ∧ A.eval (.tmp 2) = .pointer (some ⟨w.heap.size, 0, none⟩) ∧ A.eval (.tmp 4) = .pointer (some ⟨w1.heap.size, 0, none⟩) ∧ A.eval (.tmp 8) = .int .i64 (x : Int) ∧ (∀ a, a < x → wiB (v (7 * a + 5)) 1 = true) ∧ Vh 26 W w.heap.size 21 21 (fun j => nstF St.nil' (j % 7)) ∧ Vh 26 W w1.heap.size 21 21 (axV v x) ∧ Below w.heap.size w W ∧ w2.heap.size ≤ W.heap.size) 3 ⟨0, by omega, by omega, (szL _ _).trans hs, (defL _ _).trans hd, (ev_out rfl b0), (ev_in rfl (by omega)), (ev_in rfl (by omega)), (ev_in rfl (by omega)), fun a h => absurd h (by omega), mr2, Vh.congr m2 (axV_zero v), k1.trans (k2.mono (by omega)), by omega⟩ (fun q B W hI2 => ?_)
  clear b0 hs hd
  obtain ⟨x, hx, hr2, hs, hd, b0, b2, b4, b8, hok, mr, ml, kB, hW⟩ := hI2
  by_cases hin : x < 3
  · rcases hb : wiB (v (7 * x + 5)) 1 with _ | _
    · refine c_rs (m_start ?_)
      refine m_mv rfl (wanted_rd rfl) (run_lssI (b := true) _ _ rfl (ev_out rfl b8) (ev_const _ _) (decide_eq_true (by omega)) _) ?_
      refine l_nx ?_
      refine c_nx (c_true (ev_in rfl (by omega)) (c_fin ?_))
      refine c_nx (c_block ?_)
      refine c_rs ?_
      refine m_mv rfl (wanted_rd rfl) (run_move _ rfl (ev_out rfl b8) _) ?_
      refine m_mv rfl (wanted_rd rfl) (run_assign _ rfl (ev_in rfl (by omega)) _) ?_
      refine l_nx ?_
      refine c_rs ?_
      refine m_mv rfl (wanted_rd rfl) (run_move _ rfl (ev_out rfl b0) _) ?_
      refine m_mv rfl (wanted_rd rfl) (run_move _ rfl (ev_in rfl (by omega)) _) ?_
      refine m_mv rfl (wanted_rd rfl) (run_mulN _ _ rfl (ev_in rfl (by omega)) (ev_const _ _) (by omega) (by omega) _) ?_
      refine m_mv rfl (wanted_rd rfl) (run_cutFrom (i := 7 * x) _ _ rfl (ev_in rfl (by omega)) (ev_in rfl (by omega)) (by omega) (by omega) (by omega) _) ?_
      refine m_do rfl (wanted_rd rfl) (fun K hK => ?_)
      have C1 := axisOf_any (y.add (7 * x)) (24 - 7 * x) (yc - 7 * x) (fun i => v (7 * x + i)) W (by omega) (fun i hi => by rw [add_add]; exact at_below (hy (7 * x + i) (by omega)) kB)
      rw [hb] at C1
      refine wp_call1 _ 160 _ _ rfl (ev_in rfl (by omega)) (enter_caxisOf _ _) C1 ?_
      rintro e w11 ⟨rfl, k11⟩
      have n11 := k11.size
      have mr11 := mr.below k11
      have ml11 := ml.below k11
      refine ⟨_, rfl, ?_⟩
      refine hK _ _ ?_
      clear hK K
      refine m_mv rfl (wanted_rd rfl) (run_move _ rfl (ev_in rfl (by omega)) _) ?_
      refine m_mv rfl (wanted_rd rfl) (run_extA _ rfl (ev_in rfl (by omega)) _) ?_
      refine m_mv rfl (wanted_rd rfl) (run_extB _ rfl (ev_in rfl (by omega)) _) ?_
      refine m_do rfl (wanted_rd rfl) (fun K hK => ?_)
      refine wp_allocG _ _ rfl zeroSt (of_decide_eq_true rfl) ?_
      intro w12 m12 k12 z12
      have mr12 := mr11.below k12
      have ml12 := ml11.below k12
      refine hK _ _ ?_
      clear hK K
      refine m_st (wanted_rd rfl) (fun K hK => ?_)
      refine wp_storeP _ _ _ _ rfl manySt (ev_in rfl (by omega)) (ev_in rfl (by omega)) m12 (by decide) (nstF_one _) rfl ?_
      intro w13 mm13 k13 z13
      have ms13 := Vh.congr mm13 (stP_all7 _ _)
      have mr13 := mr12.kept k13 (by omega)
      have ml13 := ml12.kept k13 (by omega)
      refine hK _ ?_
      clear hK K
      refine m_mv rfl (wanted_rd rfl) (run_assign _ rfl (ev_in rfl (by omega)) _) ?_
      refine l_nx ?_
      refine c_nx ?_
      refine c_rs ?_
      refine m_mv rfl (wanted_rd rfl) (run_move _ rfl (ev_in rfl (by omega)) _) ?_
      refine m_mv rfl (wanted_rd rfl) (run_notB _ _ rfl (ev_in rfl (by omega)) _) ?_
      refine l_nx ?_
      refine c_true (ev_in rfl (by omega)) ?_
      refine c_rs ?_
      refine m_mv rfl (wanted_rd rfl) (run_bldA0 rfl _) ?_
      refine m_st (wanted_rd rfl) (fun K hK => ?_)
      refine wp_storeP _ _ _ _ rfl manyAx (ev_out rfl b2) (ev_in rfl (by omega)) mr13 (by decide) (fun j _ => nstF_one _ _ (by omega)) rfl ?_
      intro w14 mm14 k14 z14
      have mr14 := Vh.congr mm14 (stP_all21 _ _)
      have ml14 := ml13.kept k14 (by omega)
      have ms14 := ms13.kept k14 (by omega)
      refine hK _ ?_
      clear hK K
      refine m_mv rfl (wanted_rd rfl) (run_assign _ rfl (ev_const _ _) _) ?_
      refine l_nx ?_
      refine c_ret ?_
      simp only [Nx, Exit.inBlock, Exit.then]
      refine ret_of ((defL _ _).trans hd) (res_ct rfl (ev_out rfl b2) (ev_in rfl (by omega)) manyAx mr14 (Nat.le_refl _)) ⟨?_, below_of_kept (below_of_kept ((kB.trans (k11.mono (by omega))).trans (k12.mono (by omega))) k13 (by omega) (by omega)) k14 (by omega) (by omega)⟩
      rw [okA_no hin hb]
      rfl
    · refine c_rs (m_start ?_)
      refine m_mv rfl (wanted_rd rfl) (run_lssI (b := true) _ _ rfl (ev_out rfl b8) (ev_const _ _) (decide_eq_true (by omega)) _) ?_
      refine l_nx ?_
      refine c_nx (c_true (ev_in rfl (by omega)) (c_fin ?_))
      refine c_nx (c_block ?_)
      refine c_rs ?_
      refine m_mv rfl (wanted_rd rfl) (run_move _ rfl (ev_out rfl b8) _) ?_
      refine m_mv rfl (wanted_rd rfl) (run_assign _ rfl (ev_in rfl (by omega)) _) ?_
      refine l_nx ?_
      refine c_rs ?_
      refine m_mv rfl (wanted_rd rfl) (run_move _ rfl (ev_out rfl b0) _) ?_
      refine m_mv rfl (wanted_rd rfl) (run_move _ rfl (ev_in rfl (by omega)) _) ?_
      refine m_mv rfl (wanted_rd rfl) (run_mulN _ _ rfl (ev_in rfl (by omega)) (ev_const _ _) (by omega) (by omega) _) ?_
      refine m_mv rfl (wanted_rd rfl) (run_cutFrom (i := 7 * x) _ _ rfl (ev_in rfl (by omega)) (ev_in rfl (by omega)) (by omega) (by omega) (by omega) _) ?_
      refine m_do rfl (wanted_rd rfl) (fun K hK => ?_)
      have C1 := axisOf_any (y.add (7 * x)) (24 - 7 * x) (yc - 7 * x) (fun i => v (7 * x + i)) W (by omega) (fun i hi => by rw [add_add]; exact at_below (hy (7 * x + i) (by omega)) kB)
      rw [hb] at C1
      refine wp_call1 _ 160 _ _ rfl (ev_in rfl (by omega)) (enter_caxisOf _ _) C1 ?_
      rintro e w11 ⟨rfl, k11⟩
      have n11 := k11.size
      have mr11 := mr.below k11
      have ml11 := ml.below k11
      refine ⟨_, rfl, ?_⟩
      refine hK _ _ ?_
      clear hK K
      refine m_mv rfl (wanted_rd rfl) (run_move _ rfl (ev_in rfl (by omega)) _) ?_
      refine m_mv rfl (wanted_rd rfl) (run_extA _ rfl (ev_in rfl (by omega)) _) ?_
      refine m_mv rfl (wanted_rd rfl) (run_extB _ rfl (ev_in rfl (by omega)) _) ?_
      refine m_do rfl (wanted_rd rfl) (fun K hK => ?_)
      refine wp_allocG _ _ rfl zeroSt (of_decide_eq_true rfl) ?_
      intro w12 m12 k12 z12
      have mr12 := mr11.below k12
      have ml12 := ml11.below k12
      refine hK _ _ ?_
      clear hK K
      refine m_st (wanted_rd rfl) (fun K hK => ?_)
      refine wp_storeP _ _ _ _ rfl manySt (ev_in rfl (by omega)) (ev_in rfl (by omega)) m12 (by decide) (nstF_one _) rfl ?_
      intro w13 mm13 k13 z13
      have ms13 := Vh.congr mm13 (stP_all7 _ _)
      have mr13 := mr12.kept k13 (by omega)
      have ml13 := ml12.kept k13 (by omega)
      refine hK _ ?_
      clear hK K
      refine m_mv rfl (wanted_rd rfl) (run_assign _ rfl (ev_in rfl (by omega)) _) ?_
      refine l_nx ?_
      refine c_nx ?_
      refine c_rs ?_
      refine m_mv rfl (wanted_rd rfl) (run_move _ rfl (ev_in rfl (by omega)) _) ?_
      refine m_mv rfl (wanted_rd rfl) (run_notB _ _ rfl (ev_in rfl (by omega)) _) ?_
      refine l_nx ?_
      refine c_false (ev_in rfl (by omega)) (c_fin ?_)
      refine c_region ?_
      refine m_mv rfl (wanted_rd rfl) (run_move _ rfl (ev_in rfl (by omega)) _) ?_
      refine m_mv rfl (wanted_rd rfl) (run_loadP _ _ rfl manySt (ev_in rfl (by omega)) ms13 (by decide)) ?_
      refine m_mv rfl (wanted_rd rfl) (run_ixG _ _ _ _ rfl Tryz.underlying26 manySt.size (ev_out rfl b4) (ev_in rfl (by omega)) rfl hin _) ?_
      refine m_st (wanted_rd rfl) (fun K hK => ?_)
      refine wp_storeP _ _ _ _ rfl manySt (ev_in rfl (by omega)) (ev_in rfl (by omega)) ml13 (by omega) (nstF_one _) rfl ?_
      intro w14 mm14 k14 z14
      have ml14 := Vh.congr mm14 (axV_next v hb)
      have mr14 := mr13.kept k14 (by omega)
      have ms14 := ms13.kept k14 (by omega)
      refine hK _ ?_
      clear hK K
      refine l_finB ?_
      refine c_region ?_
      refine m_mv rfl (wanted_rd rfl) (run_addI _ _ rfl (ev_out rfl b8) (ev_const _ _) (by omega) (by omega) _) ?_
      refine m_mv rfl (wanted_rd rfl) (run_move _ rfl (ev_in rfl (by omega)) _) ?_
      exact l_round ⟨3 - (x + 1), by omega, x + 1, by omega, by omega, (szL _ _).trans hs, (defL _ _).trans hd, (ev_out rfl b0), (ev_out rfl b2), (ev_out rfl b4), (ev_in rfl (by omega)).trans (by rw [Int.natCast_add]; rfl), (fun a ha => by
        by_cases e : a = x
        · rw [e]; exact hb
        · exact hok a (by omega)), mr14, ml14, below_of_kept (below_of_kept ((kB.trans (k11.mono (by omega))).trans (k12.mono (by omega))) k13 (by omega) (by omega)) k14 (by omega) (by omega), by omega⟩
  · refine c_rs (m_start ?_)
    refine m_mv rfl (wanted_rd rfl) (run_lssI (b := false) _ _ rfl (ev_out rfl b8) (ev_const _ _) (decide_eq_false (by omega)) _) ?_
    obtain rfl : x = 3 := by omega
    have ml := Vh.congr ml (axV_three v)
    refine l_nx ?_
    refine c_nx (c_false (ev_in rfl (by omega)) (c_exit (x_out ?_)))
    refine c_rs ?_
    refine m_mv rfl (wanted_rd rfl) (run_loadP _ _ rfl manyAx (ev_out rfl b4) ml (by decide)) ?_
    refine m_st (wanted_rd rfl) (fun K hK => ?_)
    refine wp_storeP _ _ _ _ rfl manyAx (ev_out rfl b2) (ev_in rfl (by omega)) mr (by decide) (fun j _ => nstF_one _ _ (by omega)) rfl ?_
    intro w11 mm11 k11 z11
    have mr11 := Vh.congr mm11 (stP_all21 _ _)
    have ml11 := ml.kept k11 (by omega)
    refine hK _ ?_
    clear hK K
    refine m_mv rfl (wanted_rd rfl) (run_assign _ rfl (ev_const _ _) _) ?_
    refine l_nx ?_
    refine c_ret (ret_of ((defL _ _).trans hd) (res_ct rfl (ev_out rfl b2) (ev_in rfl (by omega)) manyAx mr11 (Nat.le_refl _)) ⟨?_, below_of_kept kB k11 (by omega) (by omega)⟩)
    rw [okA_yes hok]
    rfl
/-- The counts of which a number is made. -/
def ctO (n : Int) (i : Nat) : Int := n / 8 ^ (3 - i) % 8
def ctV (n : Int) (x i : Nat) : Value := iV (if 3 - i < x then ctO n i else 0)
theorem ctV_zero (n : Int) : ∀ j, j < 4 → iV 0 = ctV n 0 j := fun j _ => by unfold ctV; rw [if_neg (by omega)]
theorem ctV_next (n : Int) {x : Nat} (hx : x < 4) : ∀ j, j < 4 → stW (ctV n x) (0 + (3 - x) * 1) (.int .i64 (n / 8 ^ x % 8)) j = ctV n (x + 1) j := by
  intro j hj
  unfold stW
  rw [show 0 + (3 - x) * 1 = 3 - x by omega]
  by_cases e : j = 3 - x
  · rw [if_pos e]
    unfold ctV ctO
    rw [if_pos (by omega), show 3 - j = x by omega]
    rfl
  · rw [if_neg e]
    unfold ctV
    by_cases c : 3 - j < x
    · rw [if_pos c, if_pos (by omega)]
    · rw [if_neg c, if_neg (by omega)]
theorem ctV_four (n : Int) : ∀ j, j < 4 → ctV n 4 j = iV (ctO n j) := fun j _ => by unfold ctV; rw [if_pos (by omega)]
theorem ct_pow {n : Int} {x : Nat} : n / 8 ^ x / 8 = n / 8 ^ (x + 1) := by
  rw [Int.ediv_ediv_of_nonneg (Int.pow_nonneg (by decide)), Int.pow_succ]
theorem ct_in {n : Int} (h0 : 0 ≤ n) (h1 : n ≤ 9223372036854775807) (x : Nat) : 0 ≤ n / 8 ^ x ∧ n / 8 ^ x ≤ 9223372036854775807 :=
  ⟨Int.ediv_nonneg h0 (Int.pow_nonneg (by decide)), Int.le_trans (Int.ediv_le_self _ h0) h1⟩
set_option maxHeartbeats 1000000 in
theorem countsOf_any (n : Int) (w : World) (h0 : 0 ≤ n) (h1 : n ≤ 9223372036854775807) : Calls Tryz.prog 162 #[.int .i64 n] w fun e w' => e = .returned (agV (fun i => iV (ctO n i)) 0 4) ∧ Below w.heap.size w w' := by
  refine enterF Tryz.func162 rfl 16 rfl (of_decide_eq_true rfl) (fun A hs hd hb => ?_)
  have b0 : A.eval (.tmp 0) = .int .i64 n := hb 0 _ rfl
  clear hb
  refine c_rs (m_start ?_)
  refine m_do rfl (wanted_rd rfl) (fun K hK => ?_)
  refine wp_allocG _ _ rfl zero4i (of_decide_eq_true rfl) ?_
  intro w1 m1 k1 z1
  refine hK _ _ ?_
  clear hK K
  refine l_nx ?_
  refine c_rs ?_
  refine m_do rfl (wanted_rd rfl) (fun K hK => ?_)
  refine wp_allocG _ _ rfl zero4i (of_decide_eq_true rfl) ?_
  intro w2 m2 k2 z2
  have mr2 := m1.below k2
  refine hK _ _ ?_
  clear hK K
  refine l_nx ?_
  refine c_nx ?_
  refine c_rs ?_
  refine m_mv rfl (wanted_rd rfl) (run_assign _ rfl (ev_const _ _) _) ?_
  refine l_nx ?_
  refine c_block ?_
  refine c_loop (fun q A W => ∃ x : Nat, x ≤ 4 ∧ 4 - x ≤ q ∧ A.tmps.size = 16 ∧ A.defers = [] ∧ A.eval (.tmp 2) = .pointer (some ⟨w.heap.size, 0, none⟩) ∧ A.eval (.tmp 3) = .pointer (some ⟨w1.heap.size, 0, none⟩) ∧ A.eval (.tmp 0) = .int .i64 (n / 8 ^ x) ∧ A.eval (.tmp 4) = .int .i64 (3 - (x : Int)) ∧ Vh 28 W w.heap.size 4 4 (fun _ => iV 0) ∧ Vh 28 W w1.heap.size 4 4 (ctV n x) ∧ Below w.heap.size w W ∧ w2.heap.size ≤ W.heap.size) 4 ⟨0, by omega, by omega, (szL _ _).trans hs, (defL _ _).trans hd, (ev_in rfl (by omega)), (ev_in rfl (by omega)), (ev_out rfl b0).trans (by rw [Int.pow_zero, Int.ediv_one]), (ev_in rfl (by omega)), mr2, Vh.congr m2 (ctV_zero n), k1.trans (k2.mono (by omega)), by omega⟩ (fun q B W hI2 => ?_)
  clear b0 hs hd
  obtain ⟨x, hx, hr2, hs, hd, b2, b3, b0, b4, mr, ml, kB, hW⟩ := hI2
  have hq := ct_in h0 h1 x
  by_cases hin : x < 4
  · refine c_nx ?_
    refine c_rs (m_start ?_)
    refine m_mv rfl (wanted_rd rfl) (run_move _ rfl (ev_out rfl b4) _) ?_
    refine m_mv rfl (wanted_rd rfl) (run_geqI (b := true) _ _ rfl (ev_in rfl (by omega)) (ev_const _ _) (decide_eq_true (by omega)) _) ?_
    refine l_nx ?_
    refine c_true (ev_in rfl (by omega)) (c_fin ?_)
    refine c_nx (c_block ?_)
    refine c_rs ?_
    refine m_mv rfl (wanted_rd rfl) (run_move _ rfl (ev_out rfl b4) _) ?_
    refine m_mv rfl (wanted_rd rfl) (run_move _ rfl (ev_out rfl b0) _) ?_
    refine m_mv rfl (wanted_rd rfl) (run_rem8 _ _ rfl (ev_in rfl (by omega)) (ev_const _ _) hq.1 _) ?_
    refine m_mv rfl (wanted_rd rfl) (run_ixG (i := 3 - x) _ _ _ _ rfl Tryz.underlying28 oneI.size (ev_out rfl b3) (ev_in rfl (by omega)) (by omega) (by omega) _) ?_
    refine m_st (wanted_rd rfl) (fun K hK => ?_)
    refine wp_sto1 _ _ _ _ rfl oneI (ev_in rfl (by omega)) (ev_in rfl (by omega)) ml (by omega) rfl rfl rfl ?_
    intro w11 mm11 k11 z11
    have ml11 := Vh.congr mm11 (ctV_next n hin)
    have mr11 := mr.kept k11 (by omega)
    refine hK _ ?_
    clear hK K
    refine l_nx ?_
    refine c_region ?_
    refine m_mv rfl (wanted_rd rfl) (run_move _ rfl (ev_out rfl b0) _) ?_
    refine m_mv rfl (wanted_rd rfl) (run_quo8 _ _ rfl (ev_in rfl (by omega)) (ev_const _ _) hq.1 (by omega) _) ?_
    refine m_mv rfl (wanted_rd rfl) (run_assign _ rfl (ev_in rfl (by omega)) _) ?_
    refine l_finB ?_
    refine c_region ?_
    refine m_mv rfl (wanted_rd rfl) (run_move _ rfl (ev_out rfl b4) _) ?_
    refine m_mv rfl (wanted_rd rfl) (run_subI _ _ rfl (ev_in rfl (by omega)) (ev_const _ _) (by omega) (by omega) _) ?_
    refine m_mv rfl (wanted_rd rfl) (run_assign _ rfl (ev_in rfl (by omega)) _) ?_
    exact l_round ⟨4 - (x + 1), by omega, x + 1, by omega, by omega, (szL _ _).trans hs, (defL _ _).trans hd, (ev_out rfl b2), (ev_out rfl b3), (ev_in rfl (by omega)).trans (by rw [ct_pow]), (ev_in rfl (by omega)).trans (by congr 1; omega), mr11, ml11, below_of_kept kB k11 (by omega) (by omega), by omega⟩
  · refine c_nx ?_
    refine c_rs (m_start ?_)
    refine m_mv rfl (wanted_rd rfl) (run_move _ rfl (ev_out rfl b4) _) ?_
    refine m_mv rfl (wanted_rd rfl) (run_geqI (b := false) _ _ rfl (ev_in rfl (by omega)) (ev_const _ _) (decide_eq_false (by omega)) _) ?_
    obtain rfl : x = 4 := by omega
    have ml := Vh.congr ml (ctV_four n)
    refine l_nx ?_
    refine c_false (ev_in rfl (by omega)) (c_exit (x_out ?_))
    refine c_rs ?_
    refine m_mv rfl (wanted_rd rfl) (run_loadP _ _ rfl many4 (ev_out rfl b3) ml (by decide)) ?_
    refine m_st (wanted_rd rfl) (fun K hK => ?_)
    refine wp_storeP _ _ _ _ rfl many4 (ev_out rfl b2) (ev_in rfl (by omega)) mr (by decide) (fun j hj => rfl) rfl ?_
    intro w11 mm11 k11 z11
    have mr11 := Vh.congr mm11 (stP_all4 _ _)
    have ml11 := ml.kept k11 (by omega)
    refine hK _ ?_
    clear hK K
    refine l_nx ?_
    refine c_ret (ret_of ((defL _ _).trans hd) (res_c rfl (ev_out rfl b2) many4 mr11 (Nat.le_refl _)) ⟨rfl, below_of_kept kB k11 (by omega) (by omega)⟩)

end Go.Proofs.YthimcecbgpamdaaGreat

namespace Go.Proofs.YthimcecbgpamdaaGreat
open Go.RowKit

theorem enter_cstateOf (x : Value) (w : World) : (callFunc 108 #[x]).run Tryz.prog w = .ok (.enter 108 #[x]) w := by go_simp
theorem enter_cmoved (x y : Value) (w : World) : (callFunc 73 #[x, y]).run Tryz.prog w = .ok (.enter 73 #[x, y]) w := by go_simp
/-- Three numbers as a roll; do they tell one? -/
def rlN (s m j : Int) : Rl := ⟨fun i => decide (s / 2 ^ i % 2 = 1), ctO m, ctO j⟩
def okR (s m j : Int) : Bool := wiB s 15 && (wiB m 4095 && wiB j 4095)
def rlP (s m j : Int) (x : Nat) : Rl := ⟨fun i => if i < x then decide (s / 2 ^ i % 2 = 1) else false, ctO m, ctO j⟩
theorem rlP_zero {s m j : Int} : rlP s m j 0 = ⟨fun _ => false, ctO m, ctO j⟩ := by
  unfold rlP
  congr 1
theorem rlP_next (s m j : Int) {x : Nat} (hx : x < 4) : ∀ i, i < 12 → stW (nrlF (rlP s m j x)) (0 + 0 + x * 1) (.bool (decide (s / 2 ^ x % 2 = 1))) i = nrlF (rlP s m j (x + 1)) i := by unfold stW nrlF rlP; grind
theorem rlP_four (s m j : Int) : ∀ i, i < 12 → nrlF (rlP s m j 4) i = nrlF (rlN s m j) i := by unfold nrlF rlP rlN; grind
theorem rl_in {s : Int} (h0 : 0 ≤ s) (h1 : s ≤ 15) (x : Nat) : 0 ≤ s / 2 ^ x ∧ s / 2 ^ x ≤ 15 :=
  ⟨Int.ediv_nonneg h0 (Int.pow_nonneg (by decide)), Int.le_trans (Int.ediv_le_self _ h0) h1⟩
theorem ctO_R (n : Int) (i : Nat) : R64 (ctO n i) := by
  unfold ctO R64
  omega
theorem wi_in {x l : Int} (h : wiB x l = true) : 0 ≤ x ∧ x ≤ l := by
  unfold wiB at h
  simpa using h
set_option maxHeartbeats 2000000 in
theorem rollOf_any (s m j : Int) (w : World) : Calls Tryz.prog 135 #[.int .i64 s, .int .i64 m, .int .i64 j] w fun e w' => e = .returned (.tuple #[agV (nrlF (if okR s m j then rlN s m j else zeroR)) 0 12, .bool (okR s m j && gdA (rlN s m j))]) ∧ Below w.heap.size w w' := by
  refine enterF Tryz.func135 rfl 44 rfl (of_decide_eq_true rfl) (fun A hs hd hb => ?_)
  have b0 : A.eval (.tmp 0) = .int .i64 s := hb 0 _ rfl
  have b1 : A.eval (.tmp 1) = .int .i64 m := hb 1 _ rfl
  have b2 : A.eval (.tmp 2) = .int .i64 j := hb 2 _ rfl
  clear hb
  rcases h1 : wiB s 15 with _ | _
  · refine c_rs (m_start ?_)
    refine m_do rfl (wanted_rd rfl) (fun K hK => ?_)
    refine wp_allocG _ _ rfl zeroRol (of_decide_eq_true rfl) ?_
    intro w1 m1 k1 z1
    refine hK _ _ ?_
    clear hK K
    refine m_mv rfl (wanted_rd rfl) (run_assign _ rfl (ev_const _ _) _) ?_
    refine l_nx ?_
    refine c_nx ?_
    refine c_rs ?_
    refine m_mv rfl (wanted_rd rfl) (run_move _ rfl (ev_out rfl b0) _) ?_
    refine m_do rfl (wanted_rd rfl) (fun K hK => ?_)
    have C2 := withinN_any s 15 w1
    rw [h1] at C2
    refine wp_call2 _ 161 _ _ _ rfl (ev_in rfl (by omega)) (ev_const _ _) (enter_cwithin _ _ _) C2 ?_
    rintro e w2 ⟨rfl, k2⟩
    have n2 := k2.size
    have mr2 := m1.below k2
    refine ⟨_, rfl, ?_⟩
    refine hK _ _ ?_
    clear hK K
    refine m_mv rfl (wanted_rd rfl) (run_notB _ _ rfl (ev_in rfl (by omega)) _) ?_
    refine m_mv rfl (wanted_rd rfl) (run_move _ rfl (ev_in rfl (by omega)) _) ?_
    refine m_skip rfl (wanted_n (j := 3) rfl rfl rfl (ev_in rfl (by omega)) (by decide)) ?_
    refine m_skip rfl (wanted_n (j := 3) rfl rfl rfl (ev_in rfl (by omega)) (by decide)) ?_
    refine m_skip rfl (wanted_n (j := 3) rfl rfl rfl (ev_in rfl (by omega)) (by decide)) ?_
    refine m_mv rfl (wanted_rd rfl) (run_pickT' _ _ _ rfl (ev_in rfl (by omega)) (ev_const _ _) _) ?_
    refine m_mv rfl (wanted_rd rfl) (run_move _ rfl (ev_in rfl (by omega)) _) ?_
    refine m_skip rfl (wanted_n (j := 8) rfl rfl rfl (ev_in rfl (by omega)) (by decide)) ?_
    refine m_skip rfl (wanted_n (j := 8) rfl rfl rfl (ev_in rfl (by omega)) (by decide)) ?_
    refine m_skip rfl (wanted_n (j := 8) rfl rfl rfl (ev_in rfl (by omega)) (by decide)) ?_
    refine m_mv rfl (wanted_rd rfl) (run_pickT' _ _ _ rfl (ev_in rfl (by omega)) (ev_const _ _) _) ?_
    refine l_nx ?_
    refine c_true (ev_in rfl (by omega)) ?_
    refine c_rs ?_
    refine m_mv rfl (wanted_rd rfl) (run_bldR0 rfl _) ?_
    refine m_st (wanted_rd rfl) (fun K hK => ?_)
    refine wp_storeP _ _ _ _ rfl manyRl (ev_in rfl (by omega)) (ev_in rfl (by omega)) mr2 (by decide) (nrlF_one _) rfl ?_
    intro w3 mm3 k3 z3
    have mr3 := Vh.congr mm3 (stP_all12 _ _)
    refine hK _ ?_
    clear hK K
    refine m_mv rfl (wanted_rd rfl) (run_assign _ rfl (ev_const _ _) _) ?_
    refine l_nx ?_
    refine c_ret ?_
    simp only [Nx, Exit.then]
    refine ret_of ((defL _ _).trans hd) (res_ct rfl (ev_in rfl (by omega)) (ev_in rfl (by omega)) manyRl mr3 (Nat.le_refl _)) ⟨?_, below_of_kept ((k1).trans (k2.mono (by omega))) k3 (by omega) (by omega)⟩
    rw [show okR s m j = false by unfold okR; rw [h1]; rfl]
    rfl
  · rcases h2 : wiB m 4095 with _ | _
    · refine c_rs (m_start ?_)
      refine m_do rfl (wanted_rd rfl) (fun K hK => ?_)
      refine wp_allocG _ _ rfl zeroRol (of_decide_eq_true rfl) ?_
      intro w1 m1 k1 z1
      refine hK _ _ ?_
      clear hK K
      refine m_mv rfl (wanted_rd rfl) (run_assign _ rfl (ev_const _ _) _) ?_
      refine l_nx ?_
      refine c_nx ?_
      refine c_rs ?_
      refine m_mv rfl (wanted_rd rfl) (run_move _ rfl (ev_out rfl b0) _) ?_
      refine m_do rfl (wanted_rd rfl) (fun K hK => ?_)
      have C2 := withinN_any s 15 w1
      rw [h1] at C2
      refine wp_call2 _ 161 _ _ _ rfl (ev_in rfl (by omega)) (ev_const _ _) (enter_cwithin _ _ _) C2 ?_
      rintro e w2 ⟨rfl, k2⟩
      have n2 := k2.size
      have mr2 := m1.below k2
      refine ⟨_, rfl, ?_⟩
      refine hK _ _ ?_
      clear hK K
      refine m_mv rfl (wanted_rd rfl) (run_notB _ _ rfl (ev_in rfl (by omega)) _) ?_
      refine m_mv rfl (wanted_rd rfl) (run_move _ rfl (ev_in rfl (by omega)) _) ?_
      refine m_mv rfl (wanted_g (j := 3) rfl rfl rfl (ev_in rfl (by omega))) (run_move _ rfl (ev_out rfl b1) _) ?_
      refine m_do rfl (wanted_g (j := 3) rfl rfl rfl (ev_in rfl (by omega))) (fun K hK => ?_)
      have C3 := withinN_any m 4095 w2
      rw [h2] at C3
      refine wp_call2 _ 161 _ _ _ rfl (ev_in rfl (by omega)) (ev_const _ _) (enter_cwithin _ _ _) C3 ?_
      rintro e w3 ⟨rfl, k3⟩
      have n3 := k3.size
      have mr3 := mr2.below k3
      refine ⟨_, rfl, ?_⟩
      refine hK _ _ ?_
      clear hK K
      refine m_mv rfl (wanted_g (j := 3) rfl rfl rfl (ev_in rfl (by omega))) (run_notB _ _ rfl (ev_in rfl (by omega)) _) ?_
      refine m_mv rfl (wanted_rd rfl) (run_pickF _ _ _ rfl (ev_in rfl (by omega)) (ev_in rfl (by omega)) _) ?_
      refine m_mv rfl (wanted_rd rfl) (run_move _ rfl (ev_in rfl (by omega)) _) ?_
      refine m_skip rfl (wanted_n (j := 8) rfl rfl rfl (ev_in rfl (by omega)) (by decide)) ?_
      refine m_skip rfl (wanted_n (j := 8) rfl rfl rfl (ev_in rfl (by omega)) (by decide)) ?_
      refine m_skip rfl (wanted_n (j := 8) rfl rfl rfl (ev_in rfl (by omega)) (by decide)) ?_
      refine m_mv rfl (wanted_rd rfl) (run_pickT' _ _ _ rfl (ev_in rfl (by omega)) (ev_const _ _) _) ?_
      refine l_nx ?_
      refine c_true (ev_in rfl (by omega)) ?_
      refine c_rs ?_
      refine m_mv rfl (wanted_rd rfl) (run_bldR0 rfl _) ?_
      refine m_st (wanted_rd rfl) (fun K hK => ?_)
      refine wp_storeP _ _ _ _ rfl manyRl (ev_in rfl (by omega)) (ev_in rfl (by omega)) mr3 (by decide) (nrlF_one _) rfl ?_
      intro w4 mm4 k4 z4
      have mr4 := Vh.congr mm4 (stP_all12 _ _)
      refine hK _ ?_
      clear hK K
      refine m_mv rfl (wanted_rd rfl) (run_assign _ rfl (ev_const _ _) _) ?_
      refine l_nx ?_
      refine c_ret ?_
      simp only [Nx, Exit.then]
      refine ret_of ((defL _ _).trans hd) (res_ct rfl (ev_in rfl (by omega)) (ev_in rfl (by omega)) manyRl mr4 (Nat.le_refl _)) ⟨?_, below_of_kept (((k1).trans (k2.mono (by omega))).trans (k3.mono (by omega))) k4 (by omega) (by omega)⟩
      rw [show okR s m j = false by unfold okR; rw [h1, h2]; rfl]
      rfl
    · rcases h3 : wiB j 4095 with _ | _
      · refine c_rs (m_start ?_)
        refine m_do rfl (wanted_rd rfl) (fun K hK => ?_)
        refine wp_allocG _ _ rfl zeroRol (of_decide_eq_true rfl) ?_
        intro w1 m1 k1 z1
        refine hK _ _ ?_
        clear hK K
        refine m_mv rfl (wanted_rd rfl) (run_assign _ rfl (ev_const _ _) _) ?_
        refine l_nx ?_
        refine c_nx ?_
        refine c_rs ?_
        refine m_mv rfl (wanted_rd rfl) (run_move _ rfl (ev_out rfl b0) _) ?_
        refine m_do rfl (wanted_rd rfl) (fun K hK => ?_)
        have C2 := withinN_any s 15 w1
        rw [h1] at C2
        refine wp_call2 _ 161 _ _ _ rfl (ev_in rfl (by omega)) (ev_const _ _) (enter_cwithin _ _ _) C2 ?_
        rintro e w2 ⟨rfl, k2⟩
        have n2 := k2.size
        have mr2 := m1.below k2
        refine ⟨_, rfl, ?_⟩
        refine hK _ _ ?_
        clear hK K
        refine m_mv rfl (wanted_rd rfl) (run_notB _ _ rfl (ev_in rfl (by omega)) _) ?_
        refine m_mv rfl (wanted_rd rfl) (run_move _ rfl (ev_in rfl (by omega)) _) ?_
        refine m_mv rfl (wanted_g (j := 3) rfl rfl rfl (ev_in rfl (by omega))) (run_move _ rfl (ev_out rfl b1) _) ?_
        refine m_do rfl (wanted_g (j := 3) rfl rfl rfl (ev_in rfl (by omega))) (fun K hK => ?_)
        have C3 := withinN_any m 4095 w2
        rw [h2] at C3
        refine wp_call2 _ 161 _ _ _ rfl (ev_in rfl (by omega)) (ev_const _ _) (enter_cwithin _ _ _) C3 ?_
        rintro e w3 ⟨rfl, k3⟩
        have n3 := k3.size
        have mr3 := mr2.below k3
        refine ⟨_, rfl, ?_⟩
        refine hK _ _ ?_
        clear hK K
        refine m_mv rfl (wanted_g (j := 3) rfl rfl rfl (ev_in rfl (by omega))) (run_notB _ _ rfl (ev_in rfl (by omega)) _) ?_
        refine m_mv rfl (wanted_rd rfl) (run_pickF _ _ _ rfl (ev_in rfl (by omega)) (ev_in rfl (by omega)) _) ?_
        refine m_mv rfl (wanted_rd rfl) (run_move _ rfl (ev_in rfl (by omega)) _) ?_
        refine m_mv rfl (wanted_g (j := 8) rfl rfl rfl (ev_in rfl (by omega))) (run_move _ rfl (ev_out rfl b2) _) ?_
        refine m_do rfl (wanted_g (j := 8) rfl rfl rfl (ev_in rfl (by omega))) (fun K hK => ?_)
        have C4 := withinN_any j 4095 w3
        rw [h3] at C4
        refine wp_call2 _ 161 _ _ _ rfl (ev_in rfl (by omega)) (ev_const _ _) (enter_cwithin _ _ _) C4 ?_
        rintro e w4 ⟨rfl, k4⟩
        have n4 := k4.size
        have mr4 := mr3.below k4
        refine ⟨_, rfl, ?_⟩
        refine hK _ _ ?_
        clear hK K
        refine m_mv rfl (wanted_g (j := 8) rfl rfl rfl (ev_in rfl (by omega))) (run_notB _ _ rfl (ev_in rfl (by omega)) _) ?_
        refine m_mv rfl (wanted_rd rfl) (run_pickF _ _ _ rfl (ev_in rfl (by omega)) (ev_in rfl (by omega)) _) ?_
        refine l_nx ?_
        refine c_true (ev_in rfl (by omega)) ?_
        refine c_rs ?_
        refine m_mv rfl (wanted_rd rfl) (run_bldR0 rfl _) ?_
        refine m_st (wanted_rd rfl) (fun K hK => ?_)
        refine wp_storeP _ _ _ _ rfl manyRl (ev_in rfl (by omega)) (ev_in rfl (by omega)) mr4 (by decide) (nrlF_one _) rfl ?_
        intro w5 mm5 k5 z5
        have mr5 := Vh.congr mm5 (stP_all12 _ _)
        refine hK _ ?_
        clear hK K
        refine m_mv rfl (wanted_rd rfl) (run_assign _ rfl (ev_const _ _) _) ?_
        refine l_nx ?_
        refine c_ret ?_
        simp only [Nx, Exit.then]
        refine ret_of ((defL _ _).trans hd) (res_ct rfl (ev_in rfl (by omega)) (ev_in rfl (by omega)) manyRl mr5 (Nat.le_refl _)) ⟨?_, below_of_kept ((((k1).trans (k2.mono (by omega))).trans (k3.mono (by omega))).trans (k4.mono (by omega))) k5 (by omega) (by omega)⟩
        rw [show okR s m j = false by unfold okR; rw [h1, h2, h3]; rfl]
        rfl
      · obtain ⟨hs0, hs1⟩ := wi_in h1
        obtain ⟨hm0, hm1⟩ := wi_in h2
        obtain ⟨hj0, hj1⟩ := wi_in h3
        refine c_rs (m_start ?_)
        refine m_do rfl (wanted_rd rfl) (fun K hK => ?_)
        refine wp_allocG _ _ rfl zeroRol (of_decide_eq_true rfl) ?_
        intro w1 m1 k1 z1
        refine hK _ _ ?_
        clear hK K
        refine m_mv rfl (wanted_rd rfl) (run_assign _ rfl (ev_const _ _) _) ?_
        refine l_nx ?_
        refine c_nx ?_
        refine c_rs ?_
        refine m_mv rfl (wanted_rd rfl) (run_move _ rfl (ev_out rfl b0) _) ?_
        refine m_do rfl (wanted_rd rfl) (fun K hK => ?_)
        have C2 := withinN_any s 15 w1
        rw [h1] at C2
        refine wp_call2 _ 161 _ _ _ rfl (ev_in rfl (by omega)) (ev_const _ _) (enter_cwithin _ _ _) C2 ?_
        rintro e w2 ⟨rfl, k2⟩
        have n2 := k2.size
        have mr2 := m1.below k2
        refine ⟨_, rfl, ?_⟩
        refine hK _ _ ?_
        clear hK K
        refine m_mv rfl (wanted_rd rfl) (run_notB _ _ rfl (ev_in rfl (by omega)) _) ?_
        refine m_mv rfl (wanted_rd rfl) (run_move _ rfl (ev_in rfl (by omega)) _) ?_
        refine m_mv rfl (wanted_g (j := 3) rfl rfl rfl (ev_in rfl (by omega))) (run_move _ rfl (ev_out rfl b1) _) ?_
        refine m_do rfl (wanted_g (j := 3) rfl rfl rfl (ev_in rfl (by omega))) (fun K hK => ?_)
        have C3 := withinN_any m 4095 w2
        rw [h2] at C3
        refine wp_call2 _ 161 _ _ _ rfl (ev_in rfl (by omega)) (ev_const _ _) (enter_cwithin _ _ _) C3 ?_
        rintro e w3 ⟨rfl, k3⟩
        have n3 := k3.size
        have mr3 := mr2.below k3
        refine ⟨_, rfl, ?_⟩
        refine hK _ _ ?_
        clear hK K
        refine m_mv rfl (wanted_g (j := 3) rfl rfl rfl (ev_in rfl (by omega))) (run_notB _ _ rfl (ev_in rfl (by omega)) _) ?_
        refine m_mv rfl (wanted_rd rfl) (run_pickF _ _ _ rfl (ev_in rfl (by omega)) (ev_in rfl (by omega)) _) ?_
        refine m_mv rfl (wanted_rd rfl) (run_move _ rfl (ev_in rfl (by omega)) _) ?_
        refine m_mv rfl (wanted_g (j := 8) rfl rfl rfl (ev_in rfl (by omega))) (run_move _ rfl (ev_out rfl b2) _) ?_
        refine m_do rfl (wanted_g (j := 8) rfl rfl rfl (ev_in rfl (by omega))) (fun K hK => ?_)
        have C4 := withinN_any j 4095 w3
        rw [h3] at C4
        refine wp_call2 _ 161 _ _ _ rfl (ev_in rfl (by omega)) (ev_const _ _) (enter_cwithin _ _ _) C4 ?_
        rintro e w4 ⟨rfl, k4⟩
        have n4 := k4.size
        have mr4 := mr3.below k4
        refine ⟨_, rfl, ?_⟩
        refine hK _ _ ?_
        clear hK K
        refine m_mv rfl (wanted_g (j := 8) rfl rfl rfl (ev_in rfl (by omega))) (run_notB _ _ rfl (ev_in rfl (by omega)) _) ?_
        refine m_mv rfl (wanted_rd rfl) (run_pickF _ _ _ rfl (ev_in rfl (by omega)) (ev_in rfl (by omega)) _) ?_
        refine l_nx ?_
        refine c_false (ev_in rfl (by omega)) (c_fin ?_)
        refine c_rs ?_
        refine m_mv rfl (wanted_rd rfl) (run_move _ rfl (ev_out rfl b1) _) ?_
        refine m_do rfl (wanted_rd rfl) (fun K hK => ?_)
        refine wp_call1 _ 162 _ _ rfl (ev_in rfl (by omega)) (enter_ccountsOf _ _) (countsOf_any m _ (by omega) (by omega)) ?_
        rintro e w5 ⟨rfl, k5⟩
        have n5 := k5.size
        have mr5 := mr4.below k5
        refine ⟨_, rfl, ?_⟩
        refine hK _ _ ?_
        clear hK K
        refine m_mv rfl (wanted_rd rfl) (run_move _ rfl (ev_out rfl b2) _) ?_
        refine m_do rfl (wanted_rd rfl) (fun K hK => ?_)
        refine wp_call1 _ 162 _ _ rfl (ev_in rfl (by omega)) (enter_ccountsOf _ _) (countsOf_any j _ (by omega) (by omega)) ?_
        rintro e w6 ⟨rfl, k6⟩
        have n6 := k6.size
        have mr6 := mr5.below k6
        refine ⟨_, rfl, ?_⟩
        refine hK _ _ ?_
        clear hK K
        refine m_mv rfl (wanted_rd rfl) (run_bldR2 _ _ rfl (ev_in rfl (by omega)) (ev_in rfl (by omega)) _) ?_
        refine m_do rfl (wanted_rd rfl) (fun K hK => ?_)
        refine wp_allocG _ _ rfl zeroRol (of_decide_eq_true rfl) ?_
        intro w7 m7 k7 z7
        have mr7 := mr6.below k7
        refine hK _ _ ?_
        clear hK K
        refine m_st (wanted_rd rfl) (fun K hK => ?_)
        refine wp_storeP _ _ _ _ rfl manyRl (ev_in rfl (by omega)) (ev_in rfl (by omega)) m7 (by decide) (nrlF_one _) rfl ?_
        intro w8 mm8 k8 z8
        have mp8 := Vh.congr mm8 (stP_all12 _ _)
        have mr8 := mr7.kept k8 (by omega)
        refine hK _ ?_
        clear hK K
        refine l_nx ?_
        refine c_nx ?_
        refine c_rs ?_
        refine m_mv rfl (wanted_rd rfl) (run_move _ rfl (ev_const _ _) _) ?_
        refine l_nx ?_
        refine c_block ?_
        refine c_loop (fun q A W => ∃ x : Nat, x ≤ 4 ∧ 4 - x ≤ q ∧ A.tmps.size = 44 ∧ A.defers = [] ∧ A.eval (.tmp 0) = .int .i64 s ∧ A.eval (.tmp 6) = .pointer (some ⟨w.heap.size, 0, none⟩) ∧ A.eval (.tmp 8) = .pointer (some ⟨w6.heap.size, 0, none⟩) ∧ A.eval (.tmp 29) = .int .i64 (x : Int) ∧ Vh 30 W w.heap.size 12 12 (nrlF zeroR) ∧ Vh 30 W w6.heap.size 12 12 (nrlF (rlP s m j x)) ∧ Below w.heap.size w W ∧ w8.heap.size ≤ W.heap.size) 4 ⟨0, by omega, by omega, (szL _ _).trans hs, (defL _ _).trans hd, (ev_out rfl b0), (ev_in rfl (by omega)), (ev_in rfl (by omega)), (ev_in rfl (by omega)), mr8, by rw [rlP_zero]; exact mp8, below_of_kept (((((((k1).trans (k2.mono (by omega))).trans (k3.mono (by omega))).trans (k4.mono (by omega))).trans (k5.mono (by omega))).trans (k6.mono (by omega))).trans (k7.mono (by omega))) k8 (by omega) (by omega), by omega⟩ (fun q B W hI2 => ?_)
        clear b0 b1 b2 hs hd
        obtain ⟨x, hx, hr2, hs, hd, b0, b6, b8, b29, mr, mp, kB, hW⟩ := hI2
        by_cases hin : x < 4
        · have hsx := rl_in hs0 hs1 x
          refine c_rs (m_start ?_)
          refine m_mv rfl (wanted_rd rfl) (run_lssI (b := true) _ _ rfl (ev_out rfl b29) (ev_const _ _) (decide_eq_true (by omega)) _) ?_
          refine l_nx ?_
          refine c_nx (c_true (ev_in rfl (by omega)) (c_fin ?_))
          refine c_nx (c_block ?_)
          refine c_rs ?_
          refine m_mv rfl (wanted_rd rfl) (run_move _ rfl (ev_out rfl b29) _) ?_
          refine m_mv rfl (wanted_rd rfl) (run_assign _ rfl (ev_in rfl (by omega)) _) ?_
          refine l_nx ?_
          refine c_region ?_
          refine m_mv rfl (wanted_rd rfl) (run_move _ rfl (ev_in rfl (by omega)) _) ?_
          refine m_mv rfl (wanted_rd rfl) (run_move _ rfl (ev_out rfl b0) _) ?_
          refine m_mv rfl (wanted_rd rfl) (run_move _ rfl (ev_in rfl (by omega)) _) ?_
          refine m_mv rfl (wanted_rd rfl) (run_shrI _ _ rfl (ev_in rfl (by omega)) (ev_in rfl (by omega)) (by omega) _) ?_
          refine m_mv rfl (wanted_rd rfl) (run_and1 _ _ rfl (ev_in rfl (by omega)) (ev_const _ _) hsx.1 hsx.2 _) ?_
          refine m_mv rfl (wanted_rd rfl) (run_eqlI (b := decide (s / 2 ^ x % 2 = 1)) _ _ rfl (ev_in rfl (by omega)) (ev_const _ _) rfl _) ?_
          refine m_mv rfl (wanted_rd rfl) (fldRl0 rfl (ev_out rfl b8) _) ?_
          refine m_mv rfl (wanted_rd rfl) (run_ixG _ _ _ _ rfl Tryz.underlying27 oneB.size (ev_in rfl (by omega)) (ev_in rfl (by omega)) rfl hin _) ?_
          refine m_st (wanted_rd rfl) (fun K hK => ?_)
          refine wp_sto1 _ _ _ _ rfl oneB (ev_in rfl (by omega)) (ev_in rfl (by omega)) mp (by omega) rfl rfl rfl ?_
          intro w11 mm11 k11 z11
          have mp11 := Vh.congr mm11 (rlP_next s m j hin)
          have mr11 := mr.kept k11 (by omega)
          refine hK _ ?_
          clear hK K
          refine l_finB ?_
          refine c_region ?_
          refine m_mv rfl (wanted_rd rfl) (run_addI _ _ rfl (ev_out rfl b29) (ev_const _ _) (by omega) (by omega) _) ?_
          refine m_mv rfl (wanted_rd rfl) (run_move _ rfl (ev_in rfl (by omega)) _) ?_
          exact l_round ⟨4 - (x + 1), by omega, x + 1, by omega, by omega, (szL _ _).trans hs, (defL _ _).trans hd, (ev_out rfl b0), (ev_out rfl b6), (ev_out rfl b8), (ev_in rfl (by omega)).trans (by rw [Int.natCast_add]; rfl), mr11, mp11, below_of_kept kB k11 (by omega) (by omega), by omega⟩
        · refine c_rs (m_start ?_)
          refine m_mv rfl (wanted_rd rfl) (run_lssI (b := false) _ _ rfl (ev_out rfl b29) (ev_const _ _) (decide_eq_false (by omega)) _) ?_
          obtain rfl : x = 4 := by omega
          have mp := Vh.congr mp (rlP_four s m j)
          refine l_nx ?_
          refine c_nx (c_false (ev_in rfl (by omega)) (c_exit (x_out ?_)))
          refine c_nx ?_
          have hS0 : (fun Z => Vh 30 Z w6.heap.size 12 12 (nrlF (rlN s m j))) W.drew := mp
          have mr0 : Vh _ W.drew _ _ _ _ := mr
          have mp0 : Vh _ W.drew _ _ _ _ := mp
          have ez : W.drew.heap.size = W.heap.size := rfl
          refine c_rj (S := fun Z => Vh 30 Z w6.heap.size 12 12 (nrlF (rlN s m j))) (.rd 0 (.rd 1 (.go 2 (.go 3 (.mv 4 .fin))))) [] (by kernel_rfl) (by kernel_rfl) ?_
          refine j_rd rfl rfl (fun _ _ _ h => h) (wanted_rd rfl) hS0 (fun _ hS => run_loadP _ _ rfl manyRl (ev_out rfl b8) hS (by decide)) ?_
          refine j_rd rfl rfl (fun _ _ _ h => h) (wanted_rd rfl) hS0 (fun _ hS => run_loadP _ _ rfl manyRl (ev_out rfl b8) hS (by decide)) ?_
          refine j_do rfl rfl (wanted_rd rfl) (fun K hK => ?_)
          refine wp_call1 _ 104 _ _ rfl (ev_in rfl (by omega)) (enter_cmgood _ _) (memberGood_ok (rlN s m j) _ (fun i _ => ⟨ctO_R _ _, ctO_R _ _⟩)) ?_
          rintro e w11 ⟨rfl, k11⟩
          have n11 := k11.size
          have mr11 := mr0.below k11
          have mp11 := hS0.below k11
          have hS11 : (fun Z => Vh 30 Z w6.heap.size 12 12 (nrlF (rlN s m j))) w11 := mp11
          refine ⟨_, rfl, ?_⟩
          refine hK _ _ (fun _ _ => hS11) ?_
          clear hK K
          refine j_st rfl (wanted_rd rfl) (fun K hK => ?_)
          refine wp_storeP _ _ _ _ rfl manyRl (ev_out rfl b6) (ev_in rfl (by omega)) mr11 (by decide) (nrlF_one _) rfl ?_
          intro w12 mm12 k12 z12
          have mr12 := Vh.congr mm12 (stP_all12 _ _)
          have mp12 := mp11.kept k12 (by omega)
          have hS12 : (fun Z => Vh 30 Z w6.heap.size 12 12 (nrlF (rlN s m j))) w12 := mp12
          refine hK _ (fun _ _ => hS12) ?_
          clear hK K
          refine j_mv rfl rfl (fun _ _ _ h => h) (wanted_rd rfl) (fun _ => run_assign _ rfl (ev_in rfl (by omega)) _) ?_
          refine j_nx ?_
          refine c_ret ?_
          refine ret_of ((defL _ _).trans hd) (res_ct rfl (ev_out rfl b6) (ev_in rfl (by omega)) manyRl mr12 (Nat.le_refl _)) ⟨?_, below_of_kept ((below_drew kB).trans (k11.mono (by omega))) k12 (by omega) (by omega)⟩
          rw [show okR s m j = true by unfold okR; rw [h1, h2, h3]; rfl, Bool.true_and]
          rfl
theorem res_cct {P : Program} {w : World} {a : Act} {fn : Func} {p p' p2 : Nat} {ty ty' : TypeId} {b b' n n' N N' cap cap' : Nat} {t t' : TypeId} {g g' : Nat → Value} {v : Value} (h : fn.results = #[.cell p ty, .cell p' ty', .tmp p2]) (hv : a.eval (.tmp p) = .pointer (some ⟨b, 0, none⟩)) (hv' : a.eval (.tmp p') = .pointer (some ⟨b', 0, none⟩)) (h2 : a.eval (.tmp p2) = v) (T : Many P ty n) (T' : Many P ty' n') (hm : Vh t w b N cap g) (hn : n ≤ N) (hm' : Vh t' w b' N' cap' g') (hn' : n' ≤ N') :
    (results fn a.tmps).run P w = .ok (.tuple #[agV g 0 n, agV g' 0 n', v]) w := by
  have e := getD_ev hv; have e2 := getD_ev hv'; have e3 := getD_ev h2
  simp only [Array.getD_eq_getD_getElem?] at e e2 e3
  simp [results, h, e, e2, e3, asAddr, run_cellR T hm hn, run_cellR T' hm' hn']
/-- In the words of the plain text. -/
theorem un_OKn (v : List Int) : unOK v = (okA (gL v) && (okR (gL v 21) (gL v 22) (gL v 23) && gdA (rlN (gL v 21) (gL v 22) (gL v 23)))) := by
  have e : gdA (unR v) = gdA (rlN (gL v 21) (gL v 22) (gL v 23)) := rfl
  unfold unOK okA okR wiB
  rw [e, show (List.range 3).all (fun a => decide (0 ≤ v.getD (7 * a + 5) 0) && decide (v.getD (7 * a + 5) 0 ≤ 1)) = ((decide (0 ≤ gL v 5) && decide (gL v 5 ≤ 1)) && ((decide (0 ≤ gL v 12) && decide (gL v 12 ≤ 1)) && ((decide (0 ≤ gL v 19) && decide (gL v 19 ≤ 1)) && true))) from rfl]
  show (_ && decide (0 ≤ gL v 21) && decide (gL v 21 ≤ 15) && decide (0 ≤ gL v 22) && decide (gL v 22 ≤ 4095) && decide (0 ≤ gL v 23) && decide (gL v 23 ≤ 4095) && _) = _
  simp only [Bool.and_true, Bool.and_assoc]
theorem un_OK {v : List Int} (hl : v.length = 24) : (decide (v.length = 24) && unOK v) = (okA (gL v) && (okR (gL v 21) (gL v 22) (gL v 23) && gdA (rlN (gL v 21) (gL v 22) (gL v 23)))) := by
  rw [decide_eq_true hl, Bool.true_and, un_OKn]
theorem un_A {v : List Int} (h : okA (gL v) = true) {a : Nat} (ha : a < 3) : axN (gL v) a = unA v a := by
  have hb : wiB (gL v (7 * a + 5)) 1 = true := by
    unfold okA at h
    simp only [Bool.and_eq_true] at h
    match a, ha with
    | 0, _ => exact h.1
    | 1, _ => exact h.2.1
    | 2, _ => exact h.2.2
  obtain ⟨h0, h1⟩ := wi_in hb
  have e : decide (gL v (7 * a + 5) = 1) = decide (0 < v.getD (7 * a + 5) 0) := by
    show decide (gL v (7 * a + 5) = 1) = decide (0 < gL v (7 * a + 5))
    exact decide_eq_decide.2 (by omega)
  unfold axN axS unA
  dsimp only
  rw [e]
  rfl
set_option maxHeartbeats 2000000 in
theorem stateOf_any (v : List Int) (to : Option Addr) (tc : Nat) (w : World) (hsr : Sr w to v.length tc (iF (gL v))) (htl : v.length ≤ tc) :
    Calls Tryz.prog 108 #[.slice to v.length tc] w fun e w' => ∃ fx fr : Nat → Value, e = .returned (.tuple #[agV fx 0 21, agV fr 0 12, .bool (decide (v.length = 24) && unOK v)]) ∧ (∀ j, j < 21 → (fx j).oneCell' = true) ∧ (∀ j, j < 12 → (fr j).oneCell' = true) ∧ ((decide (v.length = 24) && unOK v) = true → (∀ i, i < 21 → fx i = nstF (unA v (i / 7)) (i % 7)) ∧ ∀ i, i < 12 → fr i = nrlF (unR v) i) ∧ Below w.heap.size w w' := by
  refine enterF Tryz.func108 rfl 38 rfl (of_decide_eq_true rfl) (fun A hs hd hb => ?_)
  have b0 : A.eval (.tmp 0) = .slice to v.length tc := hb 0 _ rfl
  clear hb
  by_cases hne : ((v.length : Nat) : Int) ≠ 24
  · rw [decide_eq_false (show ¬ v.length = 24 by omega), Bool.false_and]
    refine c_rs (m_start ?_)
    refine m_do rfl (wanted_rd rfl) (fun K hK => ?_)
    refine wp_allocG _ _ rfl zeroAx (of_decide_eq_true rfl) ?_
    intro w1 m1 k1 z1
    refine hK _ _ ?_
    clear hK K
    refine m_do rfl (wanted_rd rfl) (fun K hK => ?_)
    refine wp_allocG _ _ rfl zeroRol (of_decide_eq_true rfl) ?_
    intro w2 m2 k2 z2
    have ma2 := m1.below k2
    refine hK _ _ ?_
    clear hK K
    refine m_mv rfl (wanted_rd rfl) (run_assign _ rfl (ev_const _ _) _) ?_
    refine l_nx ?_
    refine c_nx ?_
    refine c_rs ?_
    refine m_mv rfl (wanted_rd rfl) (run_move _ rfl (ev_out rfl b0) _) ?_
    refine m_mv rfl (wanted_rd rfl) (run_lenI _ rfl (ev_in rfl (by omega)) _) ?_
    refine m_mv rfl (wanted_rd rfl) (run_neqI (b := true) _ _ rfl (ev_in rfl (by omega)) (ev_const _ _) (decide_eq_true hne) _) ?_
    refine l_nx ?_
    refine c_true (ev_in rfl (by omega)) ?_
    refine c_rs ?_
    refine m_mv rfl (wanted_rd rfl) (run_bldA0 rfl _) ?_
    refine m_mv rfl (wanted_rd rfl) (run_bldR0 rfl _) ?_
    refine m_st (wanted_rd rfl) (fun K hK => ?_)
    refine wp_storeP _ _ _ _ rfl manyAx (ev_in rfl (by omega)) (ev_in rfl (by omega)) ma2 (by decide) (fun j _ => nstF_one _ _ (by omega)) rfl ?_
    intro w3 mm3 k3 z3
    have ma3 := Vh.congr mm3 (stP_all21 _ _)
    have mb3 := m2.kept k3 (by omega)
    refine hK _ ?_
    clear hK K
    refine m_st (wanted_rd rfl) (fun K hK => ?_)
    refine wp_storeP _ _ _ _ rfl manyRl (ev_in rfl (by omega)) (ev_in rfl (by omega)) mb3 (by decide) (nrlF_one _) rfl ?_
    intro w4 mm4 k4 z4
    have mb4 := Vh.congr mm4 (stP_all12 _ _)
    have ma4 := ma3.kept k4 (by omega)
    refine hK _ ?_
    clear hK K
    refine m_mv rfl (wanted_rd rfl) (run_assign _ rfl (ev_const _ _) _) ?_
    refine l_nx ?_
    refine c_ret ?_
    simp only [Nx, Exit.then]
    refine ret_of ((defL _ _).trans hd) (res_cct rfl (ev_in rfl (by omega)) (ev_in rfl (by omega)) (ev_in rfl (by omega)) manyAx manyRl ma4 (Nat.le_refl _) mb4 (Nat.le_refl _)) ⟨_, _, rfl, (fun j _ => nstF_one _ _ (by omega)), nrlF_one _, fun h => absurd h (by decide), below_of_kept (below_of_kept (k1.trans (k2.mono (by omega))) k3 (by omega) (by omega)) k4 (by omega) (by omega)⟩
  · have hl : v.length = 24 := by omega
    have htc : 24 ≤ tc := by omega
    obtain ⟨y, rfl, hy⟩ : ∃ y, to = some y ∧ ∀ i, i < 24 → w.cell? (y.add i) = some (.int .i64 (gL v i)) := by
      rcases hsr with ⟨_, e, _⟩ | ⟨y, e, hc⟩
      · omega
      · exact ⟨y, e, fun i hi => hc i (by omega)⟩
    refine c_rs (m_start ?_)
    refine m_do rfl (wanted_rd rfl) (fun K hK => ?_)
    refine wp_allocG _ _ rfl zeroAx (of_decide_eq_true rfl) ?_
    intro w1 m1 k1 z1
    refine hK _ _ ?_
    clear hK K
    refine m_do rfl (wanted_rd rfl) (fun K hK => ?_)
    refine wp_allocG _ _ rfl zeroRol (of_decide_eq_true rfl) ?_
    intro w2 m2 k2 z2
    have ma2 := m1.below k2
    refine hK _ _ ?_
    clear hK K
    refine m_mv rfl (wanted_rd rfl) (run_assign _ rfl (ev_const _ _) _) ?_
    refine l_nx ?_
    refine c_nx ?_
    refine c_rs ?_
    refine m_mv rfl (wanted_rd rfl) (run_move _ rfl (ev_out rfl b0) _) ?_
    refine m_mv rfl (wanted_rd rfl) (run_lenI _ rfl (ev_in rfl (by omega)) _) ?_
    refine m_mv rfl (wanted_rd rfl) (run_neqI (b := false) _ _ rfl (ev_in rfl (by omega)) (ev_const _ _) (decide_eq_false (fun e => e (by rw [hl]; rfl))) _) ?_
    refine l_nx ?_
    refine c_false (ev_in rfl (by omega)) (c_fin ?_)
    refine c_rs ?_
    refine m_mv rfl (wanted_rd rfl) (run_move _ rfl (ev_out rfl b0) _) ?_
    refine m_do rfl (wanted_rd rfl) (fun K hK => ?_)
    have C3 := axesOf_any y tc (gL v) w2 htc (fun i hi => at_below (hy i hi) (k1.trans (k2.mono (by omega))))
    rw [← hl] at C3
    refine wp_call1 _ 134 _ _ rfl (ev_in rfl (by omega)) (enter_caxesOf _ _) C3 ?_
    rintro e w3 ⟨rfl, k3⟩
    have n3 := k3.size
    have ma3 := ma2.below k3
    have mb3 := m2.below k3
    refine ⟨_, rfl, ?_⟩
    refine hK _ _ ?_
    clear hK K
    refine m_mv rfl (wanted_rd rfl) (run_move _ rfl (ev_in rfl (by omega)) _) ?_
    refine m_mv rfl (wanted_rd rfl) (run_extA _ rfl (ev_in rfl (by omega)) _) ?_
    refine m_mv rfl (wanted_rd rfl) (run_extB _ rfl (ev_in rfl (by omega)) _) ?_
    refine m_do rfl (wanted_rd rfl) (fun K hK => ?_)
    refine wp_allocG _ _ rfl zeroAx (of_decide_eq_true rfl) ?_
    intro w4 m4 k4 z4
    have ma4 := ma3.below k4
    have mb4 := mb3.below k4
    refine hK _ _ ?_
    clear hK K
    refine m_st (wanted_rd rfl) (fun K hK => ?_)
    refine wp_storeP _ _ _ _ rfl manyAx (ev_in rfl (by omega)) (ev_in rfl (by omega)) m4 (by decide) (fun j _ => nstF_one _ _ (by omega)) rfl ?_
    intro w5 mm5 k5 z5
    have mx5 := Vh.congr mm5 (stP_all21 _ _)
    have ma5 := ma4.kept k5 (by omega)
    have mb5 := mb4.kept k5 (by omega)
    refine hK _ ?_
    clear hK K
    refine m_mv rfl (wanted_rd rfl) (run_assign _ rfl (ev_in rfl (by omega)) _) ?_
    refine l_nx ?_
    refine c_nx ?_
    have kA : Below w.heap.size w w5.drew := below_drew (below_of_kept ((((k1).trans (k2.mono (by omega))).trans (k3.mono (by omega))).trans (k4.mono (by omega))) k5 (by omega) (by omega))
    have hS0 : (fun Z => ∀ i, i < 24 → Z.cell? (y.add i) = some (.int .i64 (gL v i))) w5.drew := fun i hi => at_below (hy i hi) kA
    have ma0 : Vh _ w5.drew _ _ _ _ := ma5
    have mb0 : Vh _ w5.drew _ _ _ _ := mb5
    have mx0 : Vh _ w5.drew _ _ _ _ := mx5
    have ez : w5.drew.heap.size = w5.heap.size := rfl
    refine c_rj (S := fun Z => ∀ i, i < 24 → Z.cell? (y.add i) = some (.int .i64 (gL v i))) (.mv 0 (.mv 1 (.rd 2 (.mv 3 (.mv 4 (.rd 5 (.mv 6 (.mv 7 (.rd 8 (.two 9 13 (.mv 10 (.mv 11 (.mv 12 (.go 13 (.go 14 (.mv 15 .fin)))))) (.go 9 (.mv 10 (.mv 11 (.mv 12 (.go 14 (.mv 15 .fin)))))))))))))))) [14] (by kernel_rfl) (by kernel_rfl) ?_
    refine j_mv rfl rfl (fun _ _ _ h => h) (wanted_rd rfl) (fun _ => run_move _ rfl (ev_out rfl b0) _) ?_
    refine j_mv rfl rfl (fun _ _ _ h => h) (wanted_rd rfl) (fun _ => run_ixN _ _ rfl (a := y) (n := v.length) (cap := tc) (ev_in rfl (by omega)) (ev_const _ _) (i := 21) rfl (by omega) _) ?_
    refine j_rd rfl rfl (fun _ _ _ h => h) (wanted_rd rfl) hS0 (fun _ hS => run_ldI _ rfl (ev_in rfl (by omega)) (hS 21 (by decide))) ?_
    refine j_mv rfl rfl (fun _ _ _ h => h) (wanted_rd rfl) (fun _ => run_move _ rfl (ev_out rfl b0) _) ?_
    refine j_mv rfl rfl (fun _ _ _ h => h) (wanted_rd rfl) (fun _ => run_ixN _ _ rfl (a := y) (n := v.length) (cap := tc) (ev_in rfl (by omega)) (ev_const _ _) (i := 22) rfl (by omega) _) ?_
    refine j_rd rfl rfl (fun _ _ _ h => h) (wanted_rd rfl) hS0 (fun _ hS => run_ldI _ rfl (ev_in rfl (by omega)) (hS 22 (by decide))) ?_
    refine j_mv rfl rfl (fun _ _ _ h => h) (wanted_rd rfl) (fun _ => run_move _ rfl (ev_out rfl b0) _) ?_
    refine j_mv rfl rfl (fun _ _ _ h => h) (wanted_rd rfl) (fun _ => run_ixN _ _ rfl (a := y) (n := v.length) (cap := tc) (ev_in rfl (by omega)) (ev_const _ _) (i := 23) rfl (by omega) _) ?_
    refine j_rd rfl rfl (fun _ _ _ h => h) (wanted_rd rfl) hS0 (fun _ hS => run_ldI _ rfl (ev_in rfl (by omega)) (hS 23 (by decide))) ?_
    refine j_two ?_ ?_
    · refine j_do rfl rfl (wanted_rd rfl) (fun K hK => ?_)
      refine wp_call3n _ 135 _ _ _ _ rfl (ev_in rfl (by omega)) (ev_in rfl (by omega)) (ev_in rfl (by omega)) (enter_crollOf _ _ _ _) (rollOf_any (gL v 21) (gL v 22) (gL v 23) _) ?_
      rintro e w6 ⟨rfl, k6⟩
      have n6 := k6.size
      have ma6 := ma0.below k6
      have mb6 := mb0.below k6
      have mx6 := mx0.below k6
      have hS6 : (fun Z => ∀ i, i < 24 → Z.cell? (y.add i) = some (.int .i64 (gL v i))) w6 := fun i hi => at_below (hS0 i hi) k6
      refine ⟨_, rfl, ?_⟩
      refine hK _ _ (fun _ _ => hS6) ?_
      clear hK K
      refine j_mv rfl rfl (fun _ _ _ h => h) (wanted_rd rfl) (fun _ => run_move _ rfl (ev_in rfl (by omega)) _) ?_
      refine j_mv rfl rfl (fun _ _ _ h => h) (wanted_rd rfl) (fun _ => run_extA _ rfl (ev_in rfl (by omega)) _) ?_
      refine j_mv rfl rfl (fun _ _ _ h => h) (wanted_rd rfl) (fun _ => run_extB _ rfl (ev_in rfl (by omega)) _) ?_
      refine j_do rfl rfl (wanted_rd rfl) (fun K hK => ?_)
      refine wp_allocG _ _ rfl zeroRol (of_decide_eq_true rfl) ?_
      intro w7 m7 k7 z7
      have ma7 := ma6.below k7
      have mb7 := mb6.below k7
      have mx7 := mx6.below k7
      have hS7 : (fun Z => ∀ i, i < 24 → Z.cell? (y.add i) = some (.int .i64 (gL v i))) w7 := fun i hi => at_below (hS6 i hi) k7
      refine hK _ _ (fun _ _ => hS7) ?_
      clear hK K
      refine j_st rfl (wanted_rd rfl) (fun K hK => ?_)
      refine wp_storeP _ _ _ _ rfl manyRl (f := nrlF (if okR (gL v 21) (gL v 22) (gL v 23) then rlN (gL v 21) (gL v 22) (gL v 23) else zeroR)) (ev_in rfl (by omega)) (ev_in rfl (by omega)) m7 (by decide) (nrlF_one _) rfl ?_
      intro w8 mm8 k8 z8
      have mp8 := Vh.congr mm8 (stP_all12 _ _)
      have ma8 := ma7.kept k8 (by omega)
      have mb8 := mb7.kept k8 (by omega)
      have mx8 := mx7.kept k8 (by omega)
      refine hK _ (fun h => absurd h (by decide)) ?_
      clear hK K
      refine j_mv rfl rfl (fun _ _ _ h => h) (wanted_rd rfl) (fun _ => run_assign _ rfl (ev_in rfl (by omega)) _) ?_
      refine j_nx ?_
      refine c_nx ?_
      have kB : Below w.heap.size w w8.drew := below_drew (below_of_kept ((kA.trans (k6.mono (by omega))).trans (k7.mono (by omega))) k8 (by omega) (by omega))
      have hS0 : (fun Z => Vh 26 Z w3.heap.size 21 21 (fun i => nstF (if okA (gL v) then axN (gL v) (i / 7) else St.nil') (i % 7)) ∧ Vh 30 Z (w6.heap.size) 12 12 (nrlF (if okR (gL v 21) (gL v 22) (gL v 23) then rlN (gL v 21) (gL v 22) (gL v 23) else zeroR))) w8.drew := ⟨mx8, mp8⟩
      have ma0 : Vh _ w8.drew _ _ _ _ := ma8
      have mb0 : Vh _ w8.drew _ _ _ _ := mb8
      have mx0 : Vh _ w8.drew _ _ _ _ := mx8
      have mp0 : Vh _ w8.drew _ _ _ _ := mp8
      have ez : w8.drew.heap.size = w8.heap.size := rfl
      rcases hoa : okA (gL v) with _ | _
      · refine c_rj (S := fun Z => Vh 26 Z w3.heap.size 21 21 (fun i => nstF (if okA (gL v) then axN (gL v) (i / 7) else St.nil') (i % 7)) ∧ Vh 30 Z (w6.heap.size) 12 12 (nrlF (if okR (gL v 21) (gL v 22) (gL v 23) then rlN (gL v 21) (gL v 22) (gL v 23) else zeroR))) (.rd 0 (.rd 1 (.mv 2 (.mv 3 (.mv 4 (.mv 5 (.go 6 (.go 7 (.mv 8 .fin))))))))) [] (by kernel_rfl) (by kernel_rfl) ?_
        refine j_rd rfl rfl (fun _ _ _ h => h) (wanted_rd rfl) hS0 (fun _ hS => run_loadP _ _ rfl manyAx (ev_in rfl (by omega)) hS.1 (by decide)) ?_
        refine j_rd rfl rfl (fun _ _ _ h => h) (wanted_rd rfl) hS0 (fun _ hS => run_loadP _ _ rfl manyRl (ev_in rfl (by omega)) hS.2 (by decide)) ?_
        refine j_mv rfl rfl (fun _ _ _ h => h) (wanted_rd rfl) (fun _ => run_move _ rfl (ev_in rfl (by omega)) _) ?_
        refine j_mv rfl rfl (fun _ _ _ h => h) (wanted_rd rfl) (fun _ => run_move _ rfl (ev_in rfl (by omega)) _) ?_
        refine j_skip rfl rfl (fun _ _ _ h => h) (wanted_n (j := 3) rfl rfl rfl (ev_in rfl (by omega)) (by decide)) ?_
        refine j_mv rfl rfl (fun _ _ _ h => h) (wanted_rd rfl) (fun _ => run_pickF _ _ _ rfl (ev_in rfl (by omega)) (ev_const _ _) _) ?_
        refine j_st rfl (wanted_rd rfl) (fun K hK => ?_)
        refine wp_storeP _ _ _ _ rfl manyAx (ev_in rfl (by omega)) (ev_in rfl (by omega)) ma0 (by decide) (fun j _ => nstF_one _ _ (by omega)) rfl ?_
        intro w9 mm9 k9 z9
        have ma9 := Vh.congr mm9 (stP_all21 _ _)
        have mb9 := mb0.kept k9 (by omega)
        have mx9 := mx0.kept k9 (by omega)
        have mp9 := mp0.kept k9 (by omega)
        have hS9 : (fun Z => Vh 26 Z w3.heap.size 21 21 (fun i => nstF (if okA (gL v) then axN (gL v) (i / 7) else St.nil') (i % 7)) ∧ Vh 30 Z (w6.heap.size) 12 12 (nrlF (if okR (gL v 21) (gL v 22) (gL v 23) then rlN (gL v 21) (gL v 22) (gL v 23) else zeroR))) w9 := ⟨mx9, mp9⟩
        refine hK _ (fun _ _ => hS9) ?_
        clear hK K
        refine j_st rfl (wanted_rd rfl) (fun K hK => ?_)
        refine wp_storeP _ _ _ _ rfl manyRl (ev_in rfl (by omega)) (ev_in rfl (by omega)) mb9 (by decide) (nrlF_one _) rfl ?_
        intro w10 mm10 k10 z10
        have mb10 := Vh.congr mm10 (stP_all12 _ _)
        have ma10 := ma9.kept k10 (by omega)
        have mx10 := mx9.kept k10 (by omega)
        have mp10 := mp9.kept k10 (by omega)
        have hS10 : (fun Z => Vh 26 Z w3.heap.size 21 21 (fun i => nstF (if okA (gL v) then axN (gL v) (i / 7) else St.nil') (i % 7)) ∧ Vh 30 Z (w6.heap.size) 12 12 (nrlF (if okR (gL v 21) (gL v 22) (gL v 23) then rlN (gL v 21) (gL v 22) (gL v 23) else zeroR))) w10 := ⟨mx10, mp10⟩
        refine hK _ (fun _ _ => hS10) ?_
        clear hK K
        refine j_mv rfl rfl (fun _ _ _ h => h) (wanted_rd rfl) (fun _ => run_assign _ rfl (ev_in rfl (by omega)) _) ?_
        refine j_nx ?_
        refine c_ret ?_
        refine ret_of ((defL _ _).trans hd) (res_cct rfl (ev_in rfl (by omega)) (ev_in rfl (by omega)) (ev_in rfl (by omega)) manyAx manyRl ma10 (Nat.le_refl _) mb10 (Nat.le_refl _)) ⟨(fun i => nstF (if okA (gL v) then axN (gL v) (i / 7) else St.nil') (i % 7)), nrlF (if okR (gL v 21) (gL v 22) (gL v 23) then rlN (gL v 21) (gL v 22) (gL v 23) else zeroR), ?_, (fun j _ => nstF_one _ _ (by omega)), nrlF_one _, ?_, below_of_kept (below_of_kept kB k9 (by omega) (by omega)) k10 (by omega) (by omega)⟩
        · rw [un_OK hl, hoa]
          rfl
        · intro h
          rw [un_OK hl, hoa] at h
          cases h
      · refine c_rj (S := fun Z => Vh 26 Z w3.heap.size 21 21 (fun i => nstF (if okA (gL v) then axN (gL v) (i / 7) else St.nil') (i % 7)) ∧ Vh 30 Z (w6.heap.size) 12 12 (nrlF (if okR (gL v 21) (gL v 22) (gL v 23) then rlN (gL v 21) (gL v 22) (gL v 23) else zeroR))) (.rd 0 (.rd 1 (.mv 2 (.mv 3 (.mv 4 (.mv 5 (.go 6 (.go 7 (.mv 8 .fin))))))))) [] (by kernel_rfl) (by kernel_rfl) ?_
        refine j_rd rfl rfl (fun _ _ _ h => h) (wanted_rd rfl) hS0 (fun _ hS => run_loadP _ _ rfl manyAx (ev_in rfl (by omega)) hS.1 (by decide)) ?_
        refine j_rd rfl rfl (fun _ _ _ h => h) (wanted_rd rfl) hS0 (fun _ hS => run_loadP _ _ rfl manyRl (ev_in rfl (by omega)) hS.2 (by decide)) ?_
        refine j_mv rfl rfl (fun _ _ _ h => h) (wanted_rd rfl) (fun _ => run_move _ rfl (ev_in rfl (by omega)) _) ?_
        refine j_mv rfl rfl (fun _ _ _ h => h) (wanted_rd rfl) (fun _ => run_move _ rfl (ev_in rfl (by omega)) _) ?_
        refine j_mv rfl rfl (fun _ _ _ h => h) (wanted_g (j := 3) rfl rfl rfl (ev_in rfl (by omega))) (fun _ => run_move _ rfl (ev_in rfl (by omega)) _) ?_
        refine j_mv rfl rfl (fun _ _ _ h => h) (wanted_rd rfl) (fun _ => run_pickT' _ _ _ rfl (ev_in rfl (by omega)) (ev_in rfl (by omega)) _) ?_
        refine j_st rfl (wanted_rd rfl) (fun K hK => ?_)
        refine wp_storeP _ _ _ _ rfl manyAx (ev_in rfl (by omega)) (ev_in rfl (by omega)) ma0 (by decide) (fun j _ => nstF_one _ _ (by omega)) rfl ?_
        intro w9 mm9 k9 z9
        have ma9 := Vh.congr mm9 (stP_all21 _ _)
        have mb9 := mb0.kept k9 (by omega)
        have mx9 := mx0.kept k9 (by omega)
        have mp9 := mp0.kept k9 (by omega)
        have hS9 : (fun Z => Vh 26 Z w3.heap.size 21 21 (fun i => nstF (if okA (gL v) then axN (gL v) (i / 7) else St.nil') (i % 7)) ∧ Vh 30 Z (w6.heap.size) 12 12 (nrlF (if okR (gL v 21) (gL v 22) (gL v 23) then rlN (gL v 21) (gL v 22) (gL v 23) else zeroR))) w9 := ⟨mx9, mp9⟩
        refine hK _ (fun _ _ => hS9) ?_
        clear hK K
        refine j_st rfl (wanted_rd rfl) (fun K hK => ?_)
        refine wp_storeP _ _ _ _ rfl manyRl (ev_in rfl (by omega)) (ev_in rfl (by omega)) mb9 (by decide) (nrlF_one _) rfl ?_
        intro w10 mm10 k10 z10
        have mb10 := Vh.congr mm10 (stP_all12 _ _)
        have ma10 := ma9.kept k10 (by omega)
        have mx10 := mx9.kept k10 (by omega)
        have mp10 := mp9.kept k10 (by omega)
        have hS10 : (fun Z => Vh 26 Z w3.heap.size 21 21 (fun i => nstF (if okA (gL v) then axN (gL v) (i / 7) else St.nil') (i % 7)) ∧ Vh 30 Z (w6.heap.size) 12 12 (nrlF (if okR (gL v 21) (gL v 22) (gL v 23) then rlN (gL v 21) (gL v 22) (gL v 23) else zeroR))) w10 := ⟨mx10, mp10⟩
        refine hK _ (fun _ _ => hS10) ?_
        clear hK K
        refine j_mv rfl rfl (fun _ _ _ h => h) (wanted_rd rfl) (fun _ => run_assign _ rfl (ev_in rfl (by omega)) _) ?_
        refine j_nx ?_
        refine c_ret ?_
        refine ret_of ((defL _ _).trans hd) (res_cct rfl (ev_in rfl (by omega)) (ev_in rfl (by omega)) (ev_in rfl (by omega)) manyAx manyRl ma10 (Nat.le_refl _) mb10 (Nat.le_refl _)) ⟨(fun i => nstF (if okA (gL v) then axN (gL v) (i / 7) else St.nil') (i % 7)), nrlF (if okR (gL v 21) (gL v 22) (gL v 23) then rlN (gL v 21) (gL v 22) (gL v 23) else zeroR), ?_, (fun j _ => nstF_one _ _ (by omega)), nrlF_one _, ?_, below_of_kept (below_of_kept kB k9 (by omega) (by omega)) k10 (by omega) (by omega)⟩
        · rw [un_OK hl, hoa]
          rfl
        · intro h
          rw [un_OK hl, hoa, Bool.true_and, Bool.and_eq_true] at h
          refine ⟨fun i _ => ?_, ?_⟩
          · dsimp only
            rw [if_pos hoa, un_A hoa (by omega)]
          · intro i _
            rw [if_pos h.1]
            rfl
    · refine j_do rfl rfl (wanted_rd rfl) (fun K hK => ?_)
      refine wp_allocG _ _ rfl zeroRol (of_decide_eq_true rfl) ?_
      intro w6 m6 k6 z6
      have ma6 := ma0.below k6
      have mb6 := mb0.below k6
      have mx6 := mx0.below k6
      have hS6 : (fun Z => ∀ i, i < 24 → Z.cell? (y.add i) = some (.int .i64 (gL v i))) w6 := fun i hi => at_below (hS0 i hi) k6
      refine hK _ _ (fun _ _ => hS6) ?_
      clear hK K
      refine j_do rfl rfl (wanted_rd rfl) (fun K hK => ?_)
      refine wp_call3n _ 135 _ _ _ _ rfl (ev_in rfl (by omega)) (ev_in rfl (by omega)) (ev_in rfl (by omega)) (enter_crollOf _ _ _ _) (rollOf_any (gL v 21) (gL v 22) (gL v 23) _) ?_
      rintro e w7 ⟨rfl, k7⟩
      have n7 := k7.size
      have ma7 := ma6.below k7
      have mb7 := mb6.below k7
      have mx7 := mx6.below k7
      have mp7 := m6.below k7
      have hS7 : (fun Z => ∀ i, i < 24 → Z.cell? (y.add i) = some (.int .i64 (gL v i))) w7 := fun i hi => at_below (hS6 i hi) k7
      refine ⟨_, rfl, ?_⟩
      refine hK _ _ (fun _ _ => hS7) ?_
      clear hK K
      refine j_mv rfl rfl (fun _ _ _ h => h) (wanted_rd rfl) (fun _ => run_move _ rfl (ev_in rfl (by omega)) _) ?_
      refine j_mv rfl rfl (fun _ _ _ h => h) (wanted_rd rfl) (fun _ => run_extA _ rfl (ev_in rfl (by omega)) _) ?_
      refine j_mv rfl rfl (fun _ _ _ h => h) (wanted_rd rfl) (fun _ => run_extB _ rfl (ev_in rfl (by omega)) _) ?_
      refine j_st rfl (wanted_rd rfl) (fun K hK => ?_)
      refine wp_storeP _ _ _ _ rfl manyRl (f := nrlF (if okR (gL v 21) (gL v 22) (gL v 23) then rlN (gL v 21) (gL v 22) (gL v 23) else zeroR)) (ev_in rfl (by omega)) (ev_in rfl (by omega)) mp7 (by decide) (nrlF_one _) rfl ?_
      intro w8 mm8 k8 z8
      have mp8 := Vh.congr mm8 (stP_all12 _ _)
      have ma8 := ma7.kept k8 (by omega)
      have mb8 := mb7.kept k8 (by omega)
      have mx8 := mx7.kept k8 (by omega)
      refine hK _ (fun h => absurd h (by decide)) ?_
      clear hK K
      refine j_mv rfl rfl (fun _ _ _ h => h) (wanted_rd rfl) (fun _ => run_assign _ rfl (ev_in rfl (by omega)) _) ?_
      refine j_nx ?_
      refine c_nx ?_
      have kB : Below w.heap.size w w8.drew := below_drew (below_of_kept ((kA.trans (k6.mono (by omega))).trans (k7.mono (by omega))) k8 (by omega) (by omega))
      have hS0 : (fun Z => Vh 26 Z w3.heap.size 21 21 (fun i => nstF (if okA (gL v) then axN (gL v) (i / 7) else St.nil') (i % 7)) ∧ Vh 30 Z (w5.drew.heap.size) 12 12 (nrlF (if okR (gL v 21) (gL v 22) (gL v 23) then rlN (gL v 21) (gL v 22) (gL v 23) else zeroR))) w8.drew := ⟨mx8, mp8⟩
      have ma0 : Vh _ w8.drew _ _ _ _ := ma8
      have mb0 : Vh _ w8.drew _ _ _ _ := mb8
      have mx0 : Vh _ w8.drew _ _ _ _ := mx8
      have mp0 : Vh _ w8.drew _ _ _ _ := mp8
      have ez : w8.drew.heap.size = w8.heap.size := rfl
      rcases hoa : okA (gL v) with _ | _
      · refine c_rj (S := fun Z => Vh 26 Z w3.heap.size 21 21 (fun i => nstF (if okA (gL v) then axN (gL v) (i / 7) else St.nil') (i % 7)) ∧ Vh 30 Z (w5.drew.heap.size) 12 12 (nrlF (if okR (gL v 21) (gL v 22) (gL v 23) then rlN (gL v 21) (gL v 22) (gL v 23) else zeroR))) (.rd 0 (.rd 1 (.mv 2 (.mv 3 (.mv 4 (.mv 5 (.go 6 (.go 7 (.mv 8 .fin))))))))) [] (by kernel_rfl) (by kernel_rfl) ?_
        refine j_rd rfl rfl (fun _ _ _ h => h) (wanted_rd rfl) hS0 (fun _ hS => run_loadP _ _ rfl manyAx (ev_in rfl (by omega)) hS.1 (by decide)) ?_
        refine j_rd rfl rfl (fun _ _ _ h => h) (wanted_rd rfl) hS0 (fun _ hS => run_loadP _ _ rfl manyRl (ev_in rfl (by omega)) hS.2 (by decide)) ?_
        refine j_mv rfl rfl (fun _ _ _ h => h) (wanted_rd rfl) (fun _ => run_move _ rfl (ev_in rfl (by omega)) _) ?_
        refine j_mv rfl rfl (fun _ _ _ h => h) (wanted_rd rfl) (fun _ => run_move _ rfl (ev_in rfl (by omega)) _) ?_
        refine j_skip rfl rfl (fun _ _ _ h => h) (wanted_n (j := 3) rfl rfl rfl (ev_in rfl (by omega)) (by decide)) ?_
        refine j_mv rfl rfl (fun _ _ _ h => h) (wanted_rd rfl) (fun _ => run_pickF _ _ _ rfl (ev_in rfl (by omega)) (ev_const _ _) _) ?_
        refine j_st rfl (wanted_rd rfl) (fun K hK => ?_)
        refine wp_storeP _ _ _ _ rfl manyAx (ev_in rfl (by omega)) (ev_in rfl (by omega)) ma0 (by decide) (fun j _ => nstF_one _ _ (by omega)) rfl ?_
        intro w9 mm9 k9 z9
        have ma9 := Vh.congr mm9 (stP_all21 _ _)
        have mb9 := mb0.kept k9 (by omega)
        have mx9 := mx0.kept k9 (by omega)
        have mp9 := mp0.kept k9 (by omega)
        have hS9 : (fun Z => Vh 26 Z w3.heap.size 21 21 (fun i => nstF (if okA (gL v) then axN (gL v) (i / 7) else St.nil') (i % 7)) ∧ Vh 30 Z (w5.drew.heap.size) 12 12 (nrlF (if okR (gL v 21) (gL v 22) (gL v 23) then rlN (gL v 21) (gL v 22) (gL v 23) else zeroR))) w9 := ⟨mx9, mp9⟩
        refine hK _ (fun _ _ => hS9) ?_
        clear hK K
        refine j_st rfl (wanted_rd rfl) (fun K hK => ?_)
        refine wp_storeP _ _ _ _ rfl manyRl (ev_in rfl (by omega)) (ev_in rfl (by omega)) mb9 (by decide) (nrlF_one _) rfl ?_
        intro w10 mm10 k10 z10
        have mb10 := Vh.congr mm10 (stP_all12 _ _)
        have ma10 := ma9.kept k10 (by omega)
        have mx10 := mx9.kept k10 (by omega)
        have mp10 := mp9.kept k10 (by omega)
        have hS10 : (fun Z => Vh 26 Z w3.heap.size 21 21 (fun i => nstF (if okA (gL v) then axN (gL v) (i / 7) else St.nil') (i % 7)) ∧ Vh 30 Z (w5.drew.heap.size) 12 12 (nrlF (if okR (gL v 21) (gL v 22) (gL v 23) then rlN (gL v 21) (gL v 22) (gL v 23) else zeroR))) w10 := ⟨mx10, mp10⟩
        refine hK _ (fun _ _ => hS10) ?_
        clear hK K
        refine j_mv rfl rfl (fun _ _ _ h => h) (wanted_rd rfl) (fun _ => run_assign _ rfl (ev_in rfl (by omega)) _) ?_
        refine j_nx ?_
        refine c_ret ?_
        refine ret_of ((defL _ _).trans hd) (res_cct rfl (ev_in rfl (by omega)) (ev_in rfl (by omega)) (ev_in rfl (by omega)) manyAx manyRl ma10 (Nat.le_refl _) mb10 (Nat.le_refl _)) ⟨(fun i => nstF (if okA (gL v) then axN (gL v) (i / 7) else St.nil') (i % 7)), nrlF (if okR (gL v 21) (gL v 22) (gL v 23) then rlN (gL v 21) (gL v 22) (gL v 23) else zeroR), ?_, (fun j _ => nstF_one _ _ (by omega)), nrlF_one _, ?_, below_of_kept (below_of_kept kB k9 (by omega) (by omega)) k10 (by omega) (by omega)⟩
        · rw [un_OK hl, hoa]
          rfl
        · intro h
          rw [un_OK hl, hoa] at h
          cases h
      · refine c_rj (S := fun Z => Vh 26 Z w3.heap.size 21 21 (fun i => nstF (if okA (gL v) then axN (gL v) (i / 7) else St.nil') (i % 7)) ∧ Vh 30 Z (w5.drew.heap.size) 12 12 (nrlF (if okR (gL v 21) (gL v 22) (gL v 23) then rlN (gL v 21) (gL v 22) (gL v 23) else zeroR))) (.rd 0 (.rd 1 (.mv 2 (.mv 3 (.mv 4 (.mv 5 (.go 6 (.go 7 (.mv 8 .fin))))))))) [] (by kernel_rfl) (by kernel_rfl) ?_
        refine j_rd rfl rfl (fun _ _ _ h => h) (wanted_rd rfl) hS0 (fun _ hS => run_loadP _ _ rfl manyAx (ev_in rfl (by omega)) hS.1 (by decide)) ?_
        refine j_rd rfl rfl (fun _ _ _ h => h) (wanted_rd rfl) hS0 (fun _ hS => run_loadP _ _ rfl manyRl (ev_in rfl (by omega)) hS.2 (by decide)) ?_
        refine j_mv rfl rfl (fun _ _ _ h => h) (wanted_rd rfl) (fun _ => run_move _ rfl (ev_in rfl (by omega)) _) ?_
        refine j_mv rfl rfl (fun _ _ _ h => h) (wanted_rd rfl) (fun _ => run_move _ rfl (ev_in rfl (by omega)) _) ?_
        refine j_mv rfl rfl (fun _ _ _ h => h) (wanted_g (j := 3) rfl rfl rfl (ev_in rfl (by omega))) (fun _ => run_move _ rfl (ev_in rfl (by omega)) _) ?_
        refine j_mv rfl rfl (fun _ _ _ h => h) (wanted_rd rfl) (fun _ => run_pickT' _ _ _ rfl (ev_in rfl (by omega)) (ev_in rfl (by omega)) _) ?_
        refine j_st rfl (wanted_rd rfl) (fun K hK => ?_)
        refine wp_storeP _ _ _ _ rfl manyAx (ev_in rfl (by omega)) (ev_in rfl (by omega)) ma0 (by decide) (fun j _ => nstF_one _ _ (by omega)) rfl ?_
        intro w9 mm9 k9 z9
        have ma9 := Vh.congr mm9 (stP_all21 _ _)
        have mb9 := mb0.kept k9 (by omega)
        have mx9 := mx0.kept k9 (by omega)
        have mp9 := mp0.kept k9 (by omega)
        have hS9 : (fun Z => Vh 26 Z w3.heap.size 21 21 (fun i => nstF (if okA (gL v) then axN (gL v) (i / 7) else St.nil') (i % 7)) ∧ Vh 30 Z (w5.drew.heap.size) 12 12 (nrlF (if okR (gL v 21) (gL v 22) (gL v 23) then rlN (gL v 21) (gL v 22) (gL v 23) else zeroR))) w9 := ⟨mx9, mp9⟩
        refine hK _ (fun _ _ => hS9) ?_
        clear hK K
        refine j_st rfl (wanted_rd rfl) (fun K hK => ?_)
        refine wp_storeP _ _ _ _ rfl manyRl (ev_in rfl (by omega)) (ev_in rfl (by omega)) mb9 (by decide) (nrlF_one _) rfl ?_
        intro w10 mm10 k10 z10
        have mb10 := Vh.congr mm10 (stP_all12 _ _)
        have ma10 := ma9.kept k10 (by omega)
        have mx10 := mx9.kept k10 (by omega)
        have mp10 := mp9.kept k10 (by omega)
        have hS10 : (fun Z => Vh 26 Z w3.heap.size 21 21 (fun i => nstF (if okA (gL v) then axN (gL v) (i / 7) else St.nil') (i % 7)) ∧ Vh 30 Z (w5.drew.heap.size) 12 12 (nrlF (if okR (gL v 21) (gL v 22) (gL v 23) then rlN (gL v 21) (gL v 22) (gL v 23) else zeroR))) w10 := ⟨mx10, mp10⟩
        refine hK _ (fun _ _ => hS10) ?_
        clear hK K
        refine j_mv rfl rfl (fun _ _ _ h => h) (wanted_rd rfl) (fun _ => run_assign _ rfl (ev_in rfl (by omega)) _) ?_
        refine j_nx ?_
        refine c_ret ?_
        refine ret_of ((defL _ _).trans hd) (res_cct rfl (ev_in rfl (by omega)) (ev_in rfl (by omega)) (ev_in rfl (by omega)) manyAx manyRl ma10 (Nat.le_refl _) mb10 (Nat.le_refl _)) ⟨(fun i => nstF (if okA (gL v) then axN (gL v) (i / 7) else St.nil') (i % 7)), nrlF (if okR (gL v 21) (gL v 22) (gL v 23) then rlN (gL v 21) (gL v 22) (gL v 23) else zeroR), ?_, (fun j _ => nstF_one _ _ (by omega)), nrlF_one _, ?_, below_of_kept (below_of_kept kB k9 (by omega) (by omega)) k10 (by omega) (by omega)⟩
        · rw [un_OK hl, hoa]
          rfl
        · intro h
          rw [un_OK hl, hoa, Bool.true_and, Bool.and_eq_true] at h
          refine ⟨fun i _ => ?_, ?_⟩
          · dsimp only
            rw [if_pos hoa, un_A hoa (by omega)]
          · intro i _
            rw [if_pos h.1]
            rfl

end Go.Proofs.YthimcecbgpamdaaGreat

namespace Go.Proofs.YthimcecbgpamdaaGreat
open Go.RowKit

theorem enter_pisNode (x : Value) (w : World) : (callFunc 59 #[x]).run Tryz.prog w = .ok (.enter 59 #[x]) w := by go_simp
theorem enter_pown (x : Value) (w : World) : (callFunc 58 #[x]).run Tryz.prog w = .ok (.enter 58 #[x]) w := by go_simp
theorem enter_ptell (x y z : Value) (w : World) : (callFunc 60 #[x, y, z]).run Tryz.prog w = .ok (.enter 60 #[x, y, z]) w := by go_simp
theorem enter_phear (x y z u : Value) (w : World) : (callFunc 61 #[x, y, z, u]).run Tryz.prog w = .ok (.enter 61 #[x, y, z, u]) w := by go_simp
theorem enter_pvotes (x y : Value) (w : World) : (callFunc 69 #[x, y]).run Tryz.prog w = .ok (.enter 69 #[x, y]) w := by go_simp
theorem enter_pflat (x : Value) (w : World) : (callFunc 62 #[x]).run Tryz.prog w = .ok (.enter 62 #[x]) w := by go_simp
theorem enter_pnumbers (x y : Value) (w : World) : (callFunc 67 #[x, y]).run Tryz.prog w = .ok (.enter 67 #[x, y]) w := by go_simp
theorem enter_pbit (x : Value) (w : World) : (callFunc 99 #[x]).run Tryz.prog w = .ok (.enter 99 #[x]) w := by go_simp
theorem enter_psetNumber (x : Value) (w : World) : (callFunc 100 #[x]).run Tryz.prog w = .ok (.enter 100 #[x]) w := by go_simp
theorem enter_pcountNumber (x : Value) (w : World) : (callFunc 101 #[x]).run Tryz.prog w = .ok (.enter 101 #[x]) w := by go_simp
theorem isNode_any (id : Int) (w : World) : Calls Tryz.prog 59 #[.int .i64 id] w fun e w' => e = .returned (.bool (!noN id)) ∧ Below w.heap.size w w' := by
  unfold noN
  by_cases h1 : id < 0
  · rw [decide_eq_true h1, Bool.true_or]
    refine enterF Tryz.func59 rfl 9 rfl (of_decide_eq_true rfl) (fun A hs hd hb => ?_)
    have b0 := hb 0 _ rfl
    clear hb
    refine c_rs (m_start ?_)
    refine m_mv rfl (wanted_rd rfl) (run_assign _ rfl (ev_const _ _) _) ?_
    refine l_nx ?_
    refine c_rs ?_
    refine m_mv rfl (wanted_rd rfl) (run_move _ rfl (ev_out rfl b0) _) ?_
    refine m_mv rfl (wanted_rd rfl) (run_geqI (b := false) _ _ rfl (ev_in rfl (by omega)) (ev_const _ _) (decide_eq_false (by omega)) _) ?_
    refine m_mv rfl (wanted_rd rfl) (run_move _ rfl (ev_in rfl (by omega)) _) ?_
    refine m_skip rfl (wanted_n (j := 2) rfl rfl rfl (ev_in rfl (by omega)) (by decide)) ?_
    refine m_skip rfl (wanted_n (j := 2) rfl rfl rfl (ev_in rfl (by omega)) (by decide)) ?_
    refine m_mv rfl (wanted_rd rfl) (run_pickF _ _ _ rfl (ev_in rfl (by omega)) (ev_const _ _) _) ?_
    refine m_mv rfl (wanted_rd rfl) (run_assign _ rfl (ev_in rfl (by omega)) _) ?_
    refine l_nx ?_
    exact c_ret (ret_of ((defL _ _).trans hd) (res_t rfl (ev_in rfl (by omega))) ⟨rfl, Below.refl _ _⟩)
  · by_cases h2 : 3 < id
    · rw [decide_eq_false h1, decide_eq_true h2, Bool.or_true]
      refine enterF Tryz.func59 rfl 9 rfl (of_decide_eq_true rfl) (fun A hs hd hb => ?_)
      have b0 := hb 0 _ rfl
      clear hb
      refine c_rs (m_start ?_)
      refine m_mv rfl (wanted_rd rfl) (run_assign _ rfl (ev_const _ _) _) ?_
      refine l_nx ?_
      refine c_rs ?_
      refine m_mv rfl (wanted_rd rfl) (run_move _ rfl (ev_out rfl b0) _) ?_
      refine m_mv rfl (wanted_rd rfl) (run_geqI (b := true) _ _ rfl (ev_in rfl (by omega)) (ev_const _ _) (decide_eq_true (by omega)) _) ?_
      refine m_mv rfl (wanted_rd rfl) (run_move _ rfl (ev_in rfl (by omega)) _) ?_
      refine m_mv rfl (wanted_g (j := 2) rfl rfl rfl (ev_in rfl (by omega))) (run_move _ rfl (ev_out rfl b0) _) ?_
      refine m_mv rfl (wanted_g (j := 2) rfl rfl rfl (ev_in rfl (by omega))) (run_lssI (b := false) _ _ rfl (ev_in rfl (by omega)) (ev_const _ _) (decide_eq_false (by omega)) _) ?_
      refine m_mv rfl (wanted_rd rfl) (run_pickT' _ _ _ rfl (ev_in rfl (by omega)) (ev_in rfl (by omega)) _) ?_
      refine m_mv rfl (wanted_rd rfl) (run_assign _ rfl (ev_in rfl (by omega)) _) ?_
      refine l_nx ?_
      exact c_ret (ret_of ((defL _ _).trans hd) (res_t rfl (ev_in rfl (by omega))) ⟨rfl, Below.refl _ _⟩)
    · rw [decide_eq_false h1, decide_eq_false h2, Bool.or_false]
      refine enterF Tryz.func59 rfl 9 rfl (of_decide_eq_true rfl) (fun A hs hd hb => ?_)
      have b0 := hb 0 _ rfl
      clear hb
      refine c_rs (m_start ?_)
      refine m_mv rfl (wanted_rd rfl) (run_assign _ rfl (ev_const _ _) _) ?_
      refine l_nx ?_
      refine c_rs ?_
      refine m_mv rfl (wanted_rd rfl) (run_move _ rfl (ev_out rfl b0) _) ?_
      refine m_mv rfl (wanted_rd rfl) (run_geqI (b := true) _ _ rfl (ev_in rfl (by omega)) (ev_const _ _) (decide_eq_true (by omega)) _) ?_
      refine m_mv rfl (wanted_rd rfl) (run_move _ rfl (ev_in rfl (by omega)) _) ?_
      refine m_mv rfl (wanted_g (j := 2) rfl rfl rfl (ev_in rfl (by omega))) (run_move _ rfl (ev_out rfl b0) _) ?_
      refine m_mv rfl (wanted_g (j := 2) rfl rfl rfl (ev_in rfl (by omega))) (run_lssI (b := true) _ _ rfl (ev_in rfl (by omega)) (ev_const _ _) (decide_eq_true (by omega)) _) ?_
      refine m_mv rfl (wanted_rd rfl) (run_pickT' _ _ _ rfl (ev_in rfl (by omega)) (ev_in rfl (by omega)) _) ?_
      refine m_mv rfl (wanted_rd rfl) (run_assign _ rfl (ev_in rfl (by omega)) _) ?_
      refine l_nx ?_
      exact c_ret (ret_of ((defL _ _).trans hd) (res_t rfl (ev_in rfl (by omega))) ⟨rfl, Below.refl _ _⟩)
theorem own_any (n : Nd) (ao : Option Addr) (c : Nat) (w : World) (hs0 : Sr w ao n.vA.length c (tF (bA n))) (hl : n.vA.length ≤ 140737488351232) :
    Calls Tryz.prog 58 #[ndV n (.slice ao n.vA.length c)] w fun e w' => ∃ a' c', e = .returned (ndV n (.slice a' n.vA.length c')) ∧ w'.ownsRow w.heap.size 4 1 (.slice a' n.vA.length c') n.vA.length (rowV (tF (bA n)) n.vA.length) ∧ Below w.heap.size w w' := by
  refine enterF Tryz.func58 rfl 10 rfl (of_decide_eq_true rfl) (fun A hs hd hb => ?_)
  have b0 := hb 0 _ rfl
  clear hb
  refine c_rs (m_start ?_)
  refine m_do rfl (wanted_rd rfl) (fun K hK => ?_)
  refine wp_boxG _ _ _ rfl (ev_out rfl b0) (of_decide_eq_true rfl) ?_
  intro w1 m1 k1 z1
  have sr1 := hs0.below k1
  refine hK _ _ ?_
  clear hK K
  refine m_do rfl (wanted_rd rfl) (fun K hK => ?_)
  refine wp_allocG _ _ rfl zeroNd (of_decide_eq_true rfl) ?_
  intro w2 m2 k2 z2
  have mn2 := m1.below k2
  have sr2 := sr1.below k2
  refine hK _ _ ?_
  clear hK K
  refine l_nx ?_
  refine c_rs ?_
  refine m_mv rfl (wanted_rd rfl) (fldNd10 rfl (ev_in rfl (by omega)) _) ?_
  refine m_mv rfl (wanted_rd rfl) (fldVd2 rfl (ev_in rfl (by omega)) _) ?_
  refine m_mv rfl (wanted_rd rfl) (run_lod1 _ _ rfl oneBs (ev_in rfl (by omega)) mn2 (by decide) rfl) ?_
  refine m_do rfl (wanted_rd rfl) (fun K hK => ?_)
  refine ⟨wp_joinT _ _ _ rfl w2.heap.size (Nat.le_refl _) (.slice none 0 0) 0 [] rfl (World.ownsRow_nil _ _ _ _) ao n.vA.length c (tF (bA n)) (ev_in rfl (by omega)) sr2 (fun i _ => rfl) (by omega) ?_⟩
  intro v3 w3 o3 k3
  rw [Nat.zero_add, List.nil_append] at o3
  obtain ⟨a3, c3, rfl, hc3⟩ := rw_slice o3
  have mn3 := mn2.below k3
  have mr3 := m2.below k3
  refine hK _ _ ?_
  clear hK K
  refine m_mv rfl (wanted_rd rfl) (fldNd10 rfl (ev_in rfl (by omega)) _) ?_
  refine m_mv rfl (wanted_rd rfl) (fldVd2 rfl (ev_in rfl (by omega)) _) ?_
  refine m_st (wanted_rd rfl) (fun K hK => ?_)
  refine wp_sto1 _ _ _ _ rfl oneBs (ev_in rfl (by omega)) (ev_in rfl (by omega)) mn3 (by decide) rfl rfl rfl ?_
  intro w4 mm4 k4 z4
  have mn4 := Vh.congr mm4 (ndF_list _ _ _)
  have mr4 := mr3.kept k4 (by omega)
  have ow4 := rw_under o3 k4 (by omega)
  refine hK _ ?_
  clear hK K
  refine l_nx ?_
  refine c_rs ?_
  refine m_mv rfl (wanted_rd rfl) (run_loadP _ _ rfl manyNd (ev_in rfl (by omega)) mn4 (by decide)) ?_
  refine m_st (wanted_rd rfl) (fun K hK => ?_)
  refine wp_storeP _ _ _ _ rfl manyNd (ev_in rfl (by omega)) (ev_in rfl (by omega)) mr4 (by decide) (ndF_one _ _ _ _) rfl ?_
  intro w5 mm5 k5 z5
  have mr5 := Vh.congr mm5 (stP_all _ _)
  have mn5 := mn4.kept k5 (by omega)
  have ow5 := rw_under ow4 k5 (by omega)
  refine hK _ ?_
  clear hK K
  refine l_nx ?_
  refine c_ret (ret_of ((defL _ _).trans hd) (res_c rfl (ev_in rfl (by omega)) manyNd mr5 (Nat.le_refl _)) ⟨a3, c3, rfl, rw_base ow5 (by omega), ?_⟩)
  exact below_of_kept (below_of_kept ((k1.trans (k2.mono (by omega))).trans (k3.mono (by omega))) k4 (by omega) (by have := k3.size; omega)) k5 (by omega) (by have := k3.size; omega)
theorem tell_any (n : Nd) (nv : Value) (kind : Int) (vo : Option Addr) (vn vc : Nat) (g : Nat → Int) (w : World) (hsr : Sr w vo vn vc (iF g)) (hl : vn ≤ 17592186044404) :
    Calls Tryz.prog 60 #[ndV n nv, .int .i64 kind, .slice vo vn vc] w fun e w' => ∃ a2 c2, e = .returned (agV (msF kind n.id n.fr (.slice a2 vn c2)) 0 4) ∧ w'.ownsRow w.heap.size 3 1 (.slice a2 vn c2) vn (rowV (iF g) vn) ∧ Below w.heap.size w w' := by
  refine enterF Tryz.func60 rfl 15 rfl (of_decide_eq_true rfl) (fun A hs hd hb => ?_)
  have b0 := hb 0 _ rfl
  have b1 := hb 1 _ rfl
  have b2 := hb 2 _ rfl
  clear hb
  refine c_rs (m_start ?_)
  refine m_do rfl (wanted_rd rfl) (fun K hK => ?_)
  refine wp_boxG _ _ _ rfl (ev_out rfl b0) (of_decide_eq_true rfl) ?_
  intro w1 m1 k1 z1
  have sr1 := hsr.below k1
  refine hK _ _ ?_
  clear hK K
  refine m_do rfl (wanted_rd rfl) (fun K hK => ?_)
  refine wp_allocG _ _ rfl zeroMs (of_decide_eq_true rfl) ?_
  intro w2 m2 k2 z2
  have mn2 := m1.below k2
  have sr2 := sr1.below k2
  refine hK _ _ ?_
  clear hK K
  refine l_nx ?_
  refine c_nx ?_
  have hS0 : (fun W => Vh 37 W w.heap.size 74 74 (ndF n nv)) w2.drew := mn2
  have mq0 : Vh _ w2.drew _ _ _ _ := m2
  have sr0 : Sr w2.drew _ _ _ _ := sr2
  have ez : w2.drew.heap.size = w2.heap.size := rfl
  refine c_rj (S := fun W => Vh 37 W w.heap.size 74 74 (ndF n nv)) (.mv 0 (.mv 1 (.rd 2 (.mv 3 (.rd 4 (.mv 5 (.go 6 (.mv 7 (.go 8 .fin))))))))) [] (by kernel_rfl) (by kernel_rfl) ?_
  refine j_mv rfl rfl (fun _ _ _ h => h) (wanted_rd rfl) (fun _ => run_move _ rfl (ev_out rfl b1) _) ?_
  refine j_mv rfl rfl (fun _ _ _ h => h) (wanted_rd rfl) (fun _ => fldNd0 rfl (ev_in rfl (by omega)) _) ?_
  refine j_rd rfl rfl (fun _ _ _ h => h) (wanted_rd rfl) hS0 (fun _ hS => run_lod1 _ _ rfl oneI (ev_in rfl (by omega)) hS (by decide) rfl) ?_
  refine j_mv rfl rfl (fun _ _ _ h => h) (wanted_rd rfl) (fun _ => fldNd1 rfl (ev_in rfl (by omega)) _) ?_
  refine j_rd rfl rfl (fun _ _ _ h => h) (wanted_rd rfl) hS0 (fun _ hS => run_lod1 _ _ rfl oneI (ev_in rfl (by omega)) hS (by decide) rfl) ?_
  refine j_mv rfl rfl (fun _ _ _ h => h) (wanted_rd rfl) (fun _ => run_move _ rfl (ev_out rfl b2) _) ?_
  refine j_do rfl rfl (wanted_rd rfl) (fun K hK => ?_)
  refine ⟨wp_joinI _ _ _ rfl w2.drew.heap.size (Nat.le_refl _) (.slice none 0 0) 0 [] (ev_const _ _) (World.ownsRow_nil _ _ _ _) vo vn vc (iF g) (ev_in rfl (by omega)) sr0 (fun i _ => rfl) (by omega) ?_⟩
  intro v3 w3 ov3 k3
  rw [Nat.zero_add, List.nil_append] at ov3
  obtain ⟨a2, c2, rfl, hc2⟩ := rw_slice ov3
  have n3 := k3.size
  have hS3 : (fun W => Vh 37 W w.heap.size 74 74 (ndF n nv)) w3 := hS0.below k3
  have mq3 := mq0.below k3
  refine hK _ _ (fun _ _ => hS3) ?_
  clear hK K
  refine j_mv rfl rfl (fun _ _ _ h => h) (wanted_rd rfl) (fun _ => run_bldM _ _ _ _ rfl (ev_in rfl (by omega)) (ev_in rfl (by omega)) (ev_in rfl (by omega)) (ev_in rfl (by omega)) _) ?_
  refine j_st rfl (wanted_rd rfl) (fun K hK => ?_)
  refine wp_storeP _ _ _ _ rfl manyMs (ev_in rfl (by omega)) (ev_in rfl (by omega)) mq3 (by decide) (msF_one _ _ _ _ _ _) rfl ?_
  intro w4 mm4 k4 z4
  have mq4 := Vh.congr mm4 (stP_all4 _ _)
  have hS4 : (fun W => Vh 37 W w.heap.size 74 74 (ndF n nv)) w4 := hS3.kept k4 (by omega)
  have ov4 := rw_under ov3 k4 (by omega)
  refine hK _ (fun _ _ => hS4) ?_
  clear hK K
  refine j_nx ?_
  refine c_ret (ret_of ((defL _ _).trans hd) (res_c rfl (ev_in rfl (by omega)) manyMs mq4 (Nat.le_refl _)) ⟨a2, c2, rfl, rw_base ov4 (by omega), ?_⟩)
  exact below_of_kept ((below_drew (k1.trans (k2.mono (by omega)))).trans (k3.mono (by omega))) k4 (by omega) (by omega)

end Go.Proofs.YthimcecbgpamdaaGreat

namespace Go.Proofs.YthimcecbgpamdaaGreat
open Go.RowKit

theorem enter_creport (x : Value) (w : World) : (callFunc 75 #[x]).run Tryz.prog w = .ok (.enter 75 #[x]) w := by go_simp
/-- A computer that takes what a list tells. -/
def movN (n : Nd) (v : List Int) : Nd := if (decide (v.length = 24) && unOK v) = true then { n with ax := unA v, rl := unR v } else n
theorem ndF_oneV (n : Nd) {nv : Value} (h : nv.oneCell' = true) : ∀ j, j < 74 → (ndF n nv j).oneCell' = true := by
  intro j _
  unfold ndF ntnF nstF nrlF iV
  repeat' split
  all_goals first | exact h | rfl
theorem upd_axW (n : Nd) (v : Value) {fx : Nat → Value} {ax : Nat → St} (hx : ∀ i, i < 21 → fx i = nstF (ax (i / 7)) (i % 7)) : ∀ j, j < 74 → stP (ndF n v) (0 + 6) 21 fx j = ndF { n with ax := ax } v j := by grind [stP, ndF]
theorem upd_rlW (n : Nd) (v : Value) {fr : Nat → Value} {r : Rl} (hx : ∀ i, i < 12 → fr i = nrlF r i) : ∀ j, j < 74 → stP (ndF n v) (0 + 27) 12 fr j = ndF { n with rl := r } v j := by
  intro j hj
  refine Eq.trans ?_ (upd_rl n v r j hj)
  unfold stP
  by_cases c : 0 + 27 ≤ j ∧ j < 0 + 27 + 12
  · rw [if_pos c, if_pos c, hx _ (by omega)]
  · rw [if_neg c, if_neg c]
set_option maxHeartbeats 2000000 in
theorem moved_any (n : Nd) (nv : Value) (v : List Int) (to : Option Addr) (tc : Nat) (w : World) (hnv : nv.oneCell' = true) (hsr : Sr w to v.length tc (iF (gL v))) (htl : v.length ≤ tc) :
    Calls Tryz.prog 73 #[ndV n nv, .slice to v.length tc] w fun e w' => e = .returned (ndV (movN n v) nv) ∧ Below w.heap.size w w' := by
  refine enterF Tryz.func73 rfl 20 rfl (of_decide_eq_true rfl) (fun A hs hd hb => ?_)
  have b0 : A.eval (.tmp 0) = ndV n nv := hb 0 _ rfl
  have b1 : A.eval (.tmp 1) = .slice to v.length tc := hb 1 _ rfl
  clear hb
  rcases hb : (decide (v.length = 24) && unOK v) with _ | _
  · refine c_rs (m_start ?_)
    refine m_do rfl (wanted_rd rfl) (fun K hK => ?_)
    refine wp_boxG _ _ _ rfl (ev_out rfl b0) (of_decide_eq_true rfl) ?_
    intro w1 m1 k1 z1
    have sr1 := hsr.below k1
    refine hK _ _ ?_
    clear hK K
    refine m_do rfl (wanted_rd rfl) (fun K hK => ?_)
    refine wp_allocG _ _ rfl zeroNd (of_decide_eq_true rfl) ?_
    intro w2 m2 k2 z2
    have mn2 := m1.below k2
    have sr2 := sr1.below k2
    refine hK _ _ ?_
    clear hK K
    refine l_nx ?_
    refine c_nx ?_
    refine c_rs ?_
    refine m_mv rfl (wanted_rd rfl) (run_move _ rfl (ev_out rfl b1) _) ?_
    refine m_do rfl (wanted_rd rfl) (fun K hK => ?_)
    have C3 := stateOf_any v to tc w2 sr2 htl
    rw [hb] at C3
    refine wp_call1 _ 108 _ _ rfl (ev_in rfl (by omega)) (enter_cstateOf _ _) C3 ?_
    rintro e w3 ⟨fx, fr, rfl, ofx, ofr, hfx, k3⟩
    have n3 := k3.size
    have mn3 := mn2.below k3
    have mr3 := m2.below k3
    refine ⟨_, rfl, ?_⟩
    refine hK _ _ ?_
    clear hK K
    refine m_mv rfl (wanted_rd rfl) (run_move _ rfl (ev_in rfl (by omega)) _) ?_
    refine m_mv rfl (wanted_rd rfl) (run_ext3A _ rfl (ev_in rfl (by omega)) _) ?_
    refine m_mv rfl (wanted_rd rfl) (run_ext3B _ rfl (ev_in rfl (by omega)) _) ?_
    refine m_mv rfl (wanted_rd rfl) (run_ext3C _ rfl (ev_in rfl (by omega)) _) ?_
    refine m_do rfl (wanted_rd rfl) (fun K hK => ?_)
    refine wp_allocG _ _ rfl zeroAx (of_decide_eq_true rfl) ?_
    intro w4 m4 k4 z4
    have mn4 := mn3.below k4
    have mr4 := mr3.below k4
    refine hK _ _ ?_
    clear hK K
    refine m_do rfl (wanted_rd rfl) (fun K hK => ?_)
    refine wp_allocG _ _ rfl zeroRol (of_decide_eq_true rfl) ?_
    intro w5 m5 k5 z5
    have mn5 := mn4.below k5
    have mr5 := mr4.below k5
    have ma5 := m4.below k5
    refine hK _ _ ?_
    clear hK K
    refine m_st (wanted_rd rfl) (fun K hK => ?_)
    refine wp_storeP _ _ _ _ rfl manyAx (f := fx) (ev_in rfl (by omega)) (ev_in rfl (by omega)) ma5 (by decide) ofx rfl ?_
    intro w6 mm6 k6 z6
    have ma6 := Vh.congr mm6 (stP_all21 _ _)
    have mn6 := mn5.kept k6 (by omega)
    have mr6 := mr5.kept k6 (by omega)
    have mb6 := m5.kept k6 (by omega)
    refine hK _ ?_
    clear hK K
    refine m_st (wanted_rd rfl) (fun K hK => ?_)
    refine wp_storeP _ _ _ _ rfl manyRl (f := fr) (ev_in rfl (by omega)) (ev_in rfl (by omega)) mb6 (by decide) ofr rfl ?_
    intro w7 mm7 k7 z7
    have mb7 := Vh.congr mm7 (stP_all12 _ _)
    have mn7 := mn6.kept k7 (by omega)
    have mr7 := mr6.kept k7 (by omega)
    have ma7 := ma6.kept k7 (by omega)
    refine hK _ ?_
    clear hK K
    refine m_mv rfl (wanted_rd rfl) (run_assign _ rfl (ev_in rfl (by omega)) _) ?_
    refine l_nx ?_
    refine c_rs ?_
    refine m_mv rfl (wanted_rd rfl) (run_move _ rfl (ev_in rfl (by omega)) _) ?_
    refine l_nx ?_
    refine c_false (ev_in rfl (by omega)) (c_fin ?_)
    refine c_rs ?_
    refine m_mv rfl (wanted_rd rfl) (run_loadP _ _ rfl manyNd (ev_in rfl (by omega)) mn7 (by decide)) ?_
    refine m_st (wanted_rd rfl) (fun K hK => ?_)
    refine wp_storeP _ _ _ _ rfl manyNd (ev_in rfl (by omega)) (ev_in rfl (by omega)) mr7 (by decide) (ndF_oneV _ hnv) rfl ?_
    intro w8 mm8 k8 z8
    have mr8 := Vh.congr mm8 (stP_all _ _)
    have mn8 := mn7.kept k8 (by omega)
    have ma8 := ma7.kept k8 (by omega)
    have mb8 := mb7.kept k8 (by omega)
    refine hK _ ?_
    clear hK K
    refine l_nx ?_
    refine c_ret (ret_of ((defL _ _).trans hd) (res_c rfl (ev_in rfl (by omega)) manyNd mr8 (Nat.le_refl _)) ⟨?_, below_of_kept (below_of_kept (below_of_kept ((((k1.trans (k2.mono (by omega))).trans (k3.mono (by omega))).trans (k4.mono (by omega))).trans (k5.mono (by omega))) k6 (by omega) (by omega)) k7 (by omega) (by omega)) k8 (by omega) (by omega)⟩)
    unfold movN
    rw [hb]
    rfl
  · refine c_rs (m_start ?_)
    refine m_do rfl (wanted_rd rfl) (fun K hK => ?_)
    refine wp_boxG _ _ _ rfl (ev_out rfl b0) (of_decide_eq_true rfl) ?_
    intro w1 m1 k1 z1
    have sr1 := hsr.below k1
    refine hK _ _ ?_
    clear hK K
    refine m_do rfl (wanted_rd rfl) (fun K hK => ?_)
    refine wp_allocG _ _ rfl zeroNd (of_decide_eq_true rfl) ?_
    intro w2 m2 k2 z2
    have mn2 := m1.below k2
    have sr2 := sr1.below k2
    refine hK _ _ ?_
    clear hK K
    refine l_nx ?_
    refine c_nx ?_
    refine c_rs ?_
    refine m_mv rfl (wanted_rd rfl) (run_move _ rfl (ev_out rfl b1) _) ?_
    refine m_do rfl (wanted_rd rfl) (fun K hK => ?_)
    have C3 := stateOf_any v to tc w2 sr2 htl
    rw [hb] at C3
    refine wp_call1 _ 108 _ _ rfl (ev_in rfl (by omega)) (enter_cstateOf _ _) C3 ?_
    rintro e w3 ⟨fx, fr, rfl, ofx, ofr, hfx, k3⟩
    have n3 := k3.size
    have mn3 := mn2.below k3
    have mr3 := m2.below k3
    refine ⟨_, rfl, ?_⟩
    refine hK _ _ ?_
    clear hK K
    refine m_mv rfl (wanted_rd rfl) (run_move _ rfl (ev_in rfl (by omega)) _) ?_
    refine m_mv rfl (wanted_rd rfl) (run_ext3A _ rfl (ev_in rfl (by omega)) _) ?_
    refine m_mv rfl (wanted_rd rfl) (run_ext3B _ rfl (ev_in rfl (by omega)) _) ?_
    refine m_mv rfl (wanted_rd rfl) (run_ext3C _ rfl (ev_in rfl (by omega)) _) ?_
    refine m_do rfl (wanted_rd rfl) (fun K hK => ?_)
    refine wp_allocG _ _ rfl zeroAx (of_decide_eq_true rfl) ?_
    intro w4 m4 k4 z4
    have mn4 := mn3.below k4
    have mr4 := mr3.below k4
    refine hK _ _ ?_
    clear hK K
    refine m_do rfl (wanted_rd rfl) (fun K hK => ?_)
    refine wp_allocG _ _ rfl zeroRol (of_decide_eq_true rfl) ?_
    intro w5 m5 k5 z5
    have mn5 := mn4.below k5
    have mr5 := mr4.below k5
    have ma5 := m4.below k5
    refine hK _ _ ?_
    clear hK K
    refine m_st (wanted_rd rfl) (fun K hK => ?_)
    refine wp_storeP _ _ _ _ rfl manyAx (f := fx) (ev_in rfl (by omega)) (ev_in rfl (by omega)) ma5 (by decide) ofx rfl ?_
    intro w6 mm6 k6 z6
    have ma6 := Vh.congr mm6 (stP_all21 _ _)
    have mn6 := mn5.kept k6 (by omega)
    have mr6 := mr5.kept k6 (by omega)
    have mb6 := m5.kept k6 (by omega)
    refine hK _ ?_
    clear hK K
    refine m_st (wanted_rd rfl) (fun K hK => ?_)
    refine wp_storeP _ _ _ _ rfl manyRl (f := fr) (ev_in rfl (by omega)) (ev_in rfl (by omega)) mb6 (by decide) ofr rfl ?_
    intro w7 mm7 k7 z7
    have mb7 := Vh.congr mm7 (stP_all12 _ _)
    have mn7 := mn6.kept k7 (by omega)
    have mr7 := mr6.kept k7 (by omega)
    have ma7 := ma6.kept k7 (by omega)
    refine hK _ ?_
    clear hK K
    refine m_mv rfl (wanted_rd rfl) (run_assign _ rfl (ev_in rfl (by omega)) _) ?_
    refine l_nx ?_
    refine c_rs ?_
    refine m_mv rfl (wanted_rd rfl) (run_move _ rfl (ev_in rfl (by omega)) _) ?_
    refine l_nx ?_
    refine c_true (ev_in rfl (by omega)) ?_
    have kA : Below w.heap.size w w7.drew := below_drew (below_of_kept (below_of_kept ((((k1.trans (k2.mono (by omega))).trans (k3.mono (by omega))).trans (k4.mono (by omega))).trans (k5.mono (by omega))) k6 (by omega) (by omega)) k7 (by omega) (by omega))
    obtain ⟨hx1, hx2⟩ := hfx rfl
    have hS0 : (fun Z => Vh 26 Z w3.heap.size 21 21 fx ∧ Vh 30 Z w4.heap.size 12 12 fr) w7.drew := ⟨ma7, mb7⟩
    have mn0 : Vh _ w7.drew _ _ _ _ := mn7
    have mr0 : Vh _ w7.drew _ _ _ _ := mr7
    have ma0 : Vh _ w7.drew _ _ _ _ := ma7
    have mb0 : Vh _ w7.drew _ _ _ _ := mb7
    have ez : w7.drew.heap.size = w7.heap.size := rfl
    refine c_rj (S := fun Z => Vh 26 Z w3.heap.size 21 21 fx ∧ Vh 30 Z w4.heap.size 12 12 fr) (.rd 0 (.rd 1 (.mv 2 (.go 3 (.mv 4 (.go 5 .fin)))))) [] (by kernel_rfl) (by kernel_rfl) ?_
    refine j_rd rfl rfl (fun _ _ _ h => h) (wanted_rd rfl) hS0 (fun _ hS => run_loadP _ _ rfl manyAx (ev_in rfl (by omega)) hS.1 (by decide)) ?_
    refine j_rd rfl rfl (fun _ _ _ h => h) (wanted_rd rfl) hS0 (fun _ hS => run_loadP _ _ rfl manyRl (ev_in rfl (by omega)) hS.2 (by decide)) ?_
    refine j_mv rfl rfl (fun _ _ _ h => h) (wanted_rd rfl) (fun _ => fldNd3 rfl (ev_in rfl (by omega)) _) ?_
    refine j_st rfl (wanted_rd rfl) (fun K hK => ?_)
    refine wp_storeP _ _ _ _ rfl manyAx (f := fx) (ev_in rfl (by omega)) (ev_in rfl (by omega)) mn0 (by decide) ofx rfl ?_
    intro w8 mm8 k8 z8
    have mn8 : Vh 37 w8 w.heap.size 74 74 (ndF { n with ax := unA v } nv) := Vh.congr mm8 (upd_axW n nv hx1)
    have mr8 := mr0.kept k8 (by omega)
    have ma8 := ma0.kept k8 (by omega)
    have mb8 := mb0.kept k8 (by omega)
    have hS8 : (fun Z => Vh 26 Z w3.heap.size 21 21 fx ∧ Vh 30 Z w4.heap.size 12 12 fr) w8 := ⟨ma8, mb8⟩
    refine hK _ (fun _ _ => hS8) ?_
    clear hK K
    refine j_mv rfl rfl (fun _ _ _ h => h) (wanted_rd rfl) (fun _ => fldNd4 rfl (ev_in rfl (by omega)) _) ?_
    refine j_st rfl (wanted_rd rfl) (fun K hK => ?_)
    refine wp_storeP _ _ _ _ rfl manyRl (f := fr) (ev_in rfl (by omega)) (ev_in rfl (by omega)) mn8 (by decide) ofr rfl ?_
    intro w9 mm9 k9 z9
    have mn9 : Vh 37 w9 w.heap.size 74 74 (ndF { n with ax := unA v, rl := unR v } nv) := Vh.congr mm9 (upd_rlW { n with ax := unA v } nv hx2)
    have mr9 := mr8.kept k9 (by omega)
    have ma9 := ma8.kept k9 (by omega)
    have mb9 := mb8.kept k9 (by omega)
    have hS9 : (fun Z => Vh 26 Z w3.heap.size 21 21 fx ∧ Vh 30 Z w4.heap.size 12 12 fr) w9 := ⟨ma9, mb9⟩
    refine hK _ (fun _ _ => hS9) ?_
    clear hK K
    refine j_nx ?_
    refine c_rs ?_
    refine m_mv rfl (wanted_rd rfl) (run_loadP _ _ rfl manyNd (ev_in rfl (by omega)) mn9 (by decide)) ?_
    refine m_st (wanted_rd rfl) (fun K hK => ?_)
    refine wp_storeP _ _ _ _ rfl manyNd (ev_in rfl (by omega)) (ev_in rfl (by omega)) mr9 (by decide) (ndF_oneV _ hnv) rfl ?_
    intro w10 mm10 k10 z10
    have mr10 := Vh.congr mm10 (stP_all _ _)
    have mn10 := mn9.kept k10 (by omega)
    have ma10 := ma9.kept k10 (by omega)
    have mb10 := mb9.kept k10 (by omega)
    refine hK _ ?_
    clear hK K
    refine l_nx ?_
    refine c_ret (ret_of ((defL _ _).trans hd) (res_c rfl (ev_in rfl (by omega)) manyNd mr10 (Nat.le_refl _)) ⟨?_, below_of_kept (below_of_kept (below_of_kept kA k8 (by omega) (by omega)) k9 (by omega) (by omega)) k10 (by omega) (by omega)⟩)
    unfold movN
    rw [hb]
    rfl
/-- What a computer puts out: its cells, of the places the first x. -/
def rpP (n : Nd) (x j : Nat) : Value := if j = 0 then iV n.id else if j = 1 then iV n.fr else if j < 5 then iV (n.us (j - 2)) else if j < 8 then iV (if j - 5 < x then (n.ax (j - 5)).X else 0) else if j = 8 then iV n.dg else if j = 9 then .bool n.vS else .bool (n.rl.I (j - 10))
def rpF (n : Nd) : Nat → Value := rpP n 3
theorem rpP_one (n : Nd) (x : Nat) : ∀ j, j < 14 → (rpP n x j).oneCell' = true := by
  intro j _
  unfold rpP iV
  repeat' split
  all_goals rfl
theorem rp_next (n : Nd) {x : Nat} (hx : x < 3) : ∀ j, j < 14 → stW (rpP n x) (0 + 5 + x * 1) (.int .i64 (n.ax x).X) j = rpP n (x + 1) j := by
  intro j _
  unfold stW
  rw [show 0 + 5 + x * 1 = 5 + x by omega]
  by_cases e : j = 5 + x
  · rw [if_pos e]
    unfold rpP
    rw [if_neg (by omega), if_neg (by omega), if_neg (by omega), if_pos (by omega), if_pos (by omega), show j - 5 = x by omega]
    rfl
  · rw [if_neg e]
    unfold rpP
    by_cases c0 : j = 0
    · rw [if_pos c0, if_pos c0]
    rw [if_neg c0, if_neg c0]
    by_cases c1 : j = 1
    · rw [if_pos c1, if_pos c1]
    rw [if_neg c1, if_neg c1]
    by_cases c5 : j < 5
    · rw [if_pos c5, if_pos c5]
    rw [if_neg c5, if_neg c5]
    by_cases c8 : j < 8
    · rw [if_pos c8, if_pos c8]
      by_cases c : j - 5 < x
      · rw [if_pos c, if_pos (by omega)]
      · rw [if_neg c, if_neg (by omega)]
    rw [if_neg c8, if_neg c8]
theorem manyRp : Many Tryz.prog 86 14 := Many.of _ Tryz.underlying86 rfl (by kernel_rfl)
theorem zeroRp (w : World) : (zeroValue 86).run Tryz.prog w = .ok (agV (rpP zeroN 3) 0 14) w := by kernel_rfl
theorem stP_all14 (g : Nat → Value) (h : Nat → Value) : ∀ j, j < 14 → stP g 0 14 h j = h j := fun j hj => by
  have := stP_in g (o := 0) (n := 14) h hj
  rwa [Nat.zero_add] at this
theorem nd_us (n : Nd) (v : Value) : ∀ j, j < 3 → ndF n v (0 + 67 + j) = iV (n.us j) := by grind [ndF]
theorem nd_ax3 (n : Nd) (v : Value) : ∀ j, j < 21 → ndF n v (0 + 6 + j) = nstF (n.ax (j / 7)) (j % 7) := by grind [ndF]
theorem ax_part (ax : Nat → St) {x : Nat} : agV (fun j => nstF (ax (j / 7)) (j % 7)) (x * 7) 7 = agV (nstF (ax x)) 0 7 := by
  unfold agV
  congr 2
  refine List.map_congr_left (fun j hj => ?_)
  have := List.mem_range.1 hj
  show nstF (ax ((x * 7 + j) / 7)) ((x * 7 + j) % 7) = nstF (ax x) (0 + j)
  rw [show (x * 7 + j) / 7 = x by omega, show (x * 7 + j) % 7 = j by omega, Nat.zero_add]
section
variable {f : Operand → Value} {o : Oper} {x : Operand} {b off : Nat}
theorem fldRp0 (ho : o.op = .fieldAddr 86 x 0) (hx : f x = .pointer (some ⟨b, off, none⟩)) (w : World) : (execOp f o).run Tryz.prog w = .ok (.value (.pointer (some ⟨b, off + 0, none⟩))) w := by
  unfold execOp
  rw [ho]
  dsimp only
  rw [hx]
  go_simp
theorem fldRp3 (ho : o.op = .fieldAddr 86 x 3) (hx : f x = .pointer (some ⟨b, off, none⟩)) (w : World) : (execOp f o).run Tryz.prog w = .ok (.value (.pointer (some ⟨b, off + 5, none⟩))) w := by
  unfold execOp
  rw [ho]
  dsimp only
  rw [hx]
  go_simp
theorem run_bldRp0 (ho : o.op = .build 86 #[]) (w : World) : (execOp f o).run Tryz.prog w = .ok (.value (agV (rpP zeroN 3) 0 14)) w := by
  unfold execOp
  rw [ho]
  dsimp only
  change _ = _
  kernel_rfl
theorem run_bldRp (a b c d e g : Operand) (ho : o.op = .build 86 #[(0, a), (1, b), (2, c), (4, d), (5, e), (6, g)]) {n : Nd} (h0 : f a = .int .i64 n.id) (h1 : f b = .int .i64 n.fr) (h2 : f c = agV (fun i => iV (n.us i)) 0 3) (h3 : f d = .int .i64 n.dg) (h4 : f e = .bool n.vS) (h5 : f g = agV (tF n.rl.I) 0 4) (w : World) :
    (execOp f o).run Tryz.prog w = .ok (.value (agV (rpP n 0) 0 14)) w := by
  have h2' : f c = .agg #[.int .i64 (n.us 0), .int .i64 (n.us 1), .int .i64 (n.us 2)] := h2
  have h5' : f g = .agg #[.bool (n.rl.I 0), .bool (n.rl.I 1), .bool (n.rl.I 2), .bool (n.rl.I 3)] := h5
  unfold execOp
  rw [ho]
  simp only [List.map_toArray, List.map_cons, List.map_nil]
  rw [h0, h1, h2', h3, h4, h5']
  clear h0 h1 h2 h3 h4 h5 h2' h5' ho
  change _ = _
  kernel_rfl
end
set_option maxHeartbeats 2000000 in
theorem report_any (n : Nd) (nv : Value) (w : World) : Calls Tryz.prog 75 #[ndV n nv] w fun e w' => e = .returned (agV (rpF n) 0 14) ∧ Below w.heap.size w w' := by
  refine enterF Tryz.func75 rfl 34 rfl (of_decide_eq_true rfl) (fun A hs hd hb => ?_)
  have b0 : A.eval (.tmp 0) = ndV n nv := hb 0 _ rfl
  clear hb
  refine c_rs (m_start ?_)
  refine m_do rfl (wanted_rd rfl) (fun K hK => ?_)
  refine wp_boxG _ _ _ rfl (ev_out rfl b0) (of_decide_eq_true rfl) ?_
  intro w1 m1 k1 z1
  refine hK _ _ ?_
  clear hK K
  refine m_do rfl (wanted_rd rfl) (fun K hK => ?_)
  refine wp_allocG _ _ rfl zeroRp (of_decide_eq_true rfl) ?_
  intro w2 m2 k2 z2
  have mn2 := m1.below k2
  refine hK _ _ ?_
  clear hK K
  refine l_nx ?_
  refine c_rs ?_
  refine m_mv rfl (wanted_rd rfl) (fldNd0 rfl (ev_in rfl (by omega)) _) ?_
  refine m_mv rfl (wanted_rd rfl) (run_lod1 _ _ rfl oneI (ev_in rfl (by omega)) mn2 (by decide) rfl) ?_
  refine m_mv rfl (wanted_rd rfl) (fldNd1 rfl (ev_in rfl (by omega)) _) ?_
  refine m_mv rfl (wanted_rd rfl) (run_lod1 _ _ rfl oneI (ev_in rfl (by omega)) mn2 (by decide) rfl) ?_
  refine m_mv rfl (wanted_rd rfl) (fldNd8 rfl (ev_in rfl (by omega)) _) ?_
  refine m_mv rfl (wanted_rd rfl) (run_loadPe (h := fun i => iV (n.us i)) _ _ rfl many3 (ev_in rfl (by omega)) mn2 (by omega) (nd_us n nv)) ?_
  refine m_mv rfl (wanted_rd rfl) (fldNd9 rfl (ev_in rfl (by omega)) _) ?_
  refine m_mv rfl (wanted_rd rfl) (run_lod1 _ _ rfl oneI (ev_in rfl (by omega)) mn2 (by decide) rfl) ?_
  refine m_mv rfl (wanted_rd rfl) (fldNd10 rfl (ev_in rfl (by omega)) _) ?_
  refine m_mv rfl (wanted_rd rfl) (fldVd1 rfl (ev_in rfl (by omega)) _) ?_
  refine m_mv rfl (wanted_rd rfl) (run_lod1 _ _ rfl oneB (ev_in rfl (by omega)) mn2 (by decide) rfl) ?_
  refine m_mv rfl (wanted_rd rfl) (fldNd4 rfl (ev_in rfl (by omega)) _) ?_
  refine m_mv rfl (wanted_rd rfl) (fldRl0 rfl (ev_in rfl (by omega)) _) ?_
  refine m_mv rfl (wanted_rd rfl) (run_loadPe _ _ rfl manyB4 (ev_in rfl (by omega)) mn2 (by omega) (ndF_inR _ _)) ?_
  refine m_mv rfl (wanted_rd rfl) (run_bldRp (n := n) _ _ _ _ _ _ rfl (ev_in rfl (by omega)) (ev_in rfl (by omega)) (ev_in rfl (by omega)) (ev_in rfl (by omega)) (ev_in rfl (by omega)) (ev_in rfl (by omega)) _) ?_
  refine m_do rfl (wanted_rd rfl) (fun K hK => ?_)
  refine wp_allocG _ _ rfl zeroRp (of_decide_eq_true rfl) ?_
  intro w3 m3 k3 z3
  have mn3 := mn2.below k3
  have mr3 := m2.below k3
  refine hK _ _ ?_
  clear hK K
  refine m_st (wanted_rd rfl) (fun K hK => ?_)
  refine wp_storeP _ _ _ _ rfl manyRp (ev_in rfl (by omega)) (ev_in rfl (by omega)) m3 (by decide) (rpP_one _ _) rfl ?_
  intro w4 mm4 k4 z4
  have mp4 := Vh.congr mm4 (stP_all14 _ _)
  have mn4 := mn3.kept k4 (by omega)
  have mr4 := mr3.kept k4 (by omega)
  refine hK _ ?_
  clear hK K
  refine l_nx ?_
  refine c_nx ?_
  refine c_rs ?_
  refine m_mv rfl (wanted_rd rfl) (fldNd3 rfl (ev_in rfl (by omega)) _) ?_
  refine m_mv rfl (wanted_rd rfl) (run_loadPe (h := fun j => nstF (n.ax (j / 7)) (j % 7)) _ _ rfl manyAx (ev_in rfl (by omega)) mn4 (by omega) (nd_ax3 n nv)) ?_
  refine m_mv rfl (wanted_rd rfl) (run_move _ rfl (ev_const _ _) _) ?_
  refine l_nx ?_
  refine c_block ?_
  refine c_loop (fun q A W => ∃ x : Nat, x ≤ 3 ∧ 3 - x ≤ q ∧ A.tmps.size = 34 ∧ A.defers = [] ∧ A.eval (.tmp 2) = .pointer (some ⟨w1.heap.size, 0, none⟩) ∧ A.eval (.tmp 3) = .pointer (some ⟨w2.heap.size, 0, none⟩) ∧ A.eval (.tmp 22) = agV (fun j => nstF (n.ax (j / 7)) (j % 7)) 0 21 ∧ A.eval (.tmp 23) = .int .i64 (x : Int) ∧ Vh 86 W w1.heap.size 14 14 (rpP zeroN 3) ∧ Vh 86 W w2.heap.size 14 14 (rpP n x) ∧ Below w.heap.size w W ∧ w4.heap.size ≤ W.heap.size) 3 ⟨0, by omega, by omega, (szL _ _).trans hs, (defL _ _).trans hd, (ev_in rfl (by omega)), (ev_in rfl (by omega)), (ev_in rfl (by omega)), (ev_in rfl (by omega)), mr4, mp4, below_of_kept (((k1).trans (k2.mono (by omega))).trans (k3.mono (by omega))) k4 (by omega) (by omega), by omega⟩ (fun q B W hI2 => ?_)
  clear b0 hs hd
  obtain ⟨x, hx, hr2, hs, hd, b2, b3, b22, b23, mr, mp, kB, hW⟩ := hI2
  by_cases hin : x < 3
  · refine c_rs (m_start ?_)
    refine m_mv rfl (wanted_rd rfl) (run_lssI (b := true) _ _ rfl (ev_out rfl b23) (ev_const _ _) (decide_eq_true (by omega)) _) ?_
    refine l_nx ?_
    refine c_nx (c_true (ev_in rfl (by omega)) (c_fin ?_))
    refine c_nx (c_block ?_)
    refine c_rs ?_
    refine m_mv rfl (wanted_rd rfl) (run_move _ rfl (ev_out rfl b23) _) ?_
    refine m_mv rfl (wanted_rd rfl) ((run_ixVM _ _ _ _ rfl Tryz.underlying26 manySt (ev_out rfl b22) rfl (ev_out rfl b23) rfl hin _).trans (by rw [ax_part n.ax])) ?_
    refine m_do rfl (wanted_rd rfl) (fun K hK => ?_)
    refine wp_allocG _ _ rfl zeroSt (of_decide_eq_true rfl) ?_
    intro w11 m11 k11 z11
    have mr11 := mr.below k11
    have mp11 := mp.below k11
    refine hK _ _ ?_
    clear hK K
    refine m_mv rfl (wanted_rd rfl) (run_assign _ rfl (ev_in rfl (by omega)) _) ?_
    refine m_st (wanted_rd rfl) (fun K hK => ?_)
    refine wp_storeP _ _ _ _ rfl manySt (ev_in rfl (by omega)) (ev_in rfl (by omega)) m11 (by decide) (nstF_one _) rfl ?_
    intro w12 mm12 k12 z12
    have ms12 := Vh.congr mm12 (stP_all7 _ _)
    have mr12 := mr11.kept k12 (by omega)
    have mp12 := mp11.kept k12 (by omega)
    refine hK _ ?_
    clear hK K
    refine l_nx ?_
    refine c_region ?_
    refine m_mv rfl (wanted_rd rfl) (run_move _ rfl (ev_in rfl (by omega)) _) ?_
    refine m_mv rfl (wanted_rd rfl) (fldSt0 rfl (ev_in rfl (by omega)) _) ?_
    refine m_mv rfl (wanted_rd rfl) (run_lod1 _ _ rfl oneI (ev_in rfl (by omega)) ms12 (by decide) rfl) ?_
    refine m_mv rfl (wanted_rd rfl) (fldRp3 rfl (ev_out rfl b3) _) ?_
    refine m_mv rfl (wanted_rd rfl) (run_ixG _ _ _ _ rfl Tryz.underlying31 oneI.size (ev_in rfl (by omega)) (ev_in rfl (by omega)) rfl hin _) ?_
    refine m_st (wanted_rd rfl) (fun K hK => ?_)
    refine wp_sto1 _ _ _ _ rfl oneI (ev_in rfl (by omega)) (ev_in rfl (by omega)) mp12 (by omega) rfl rfl rfl ?_
    intro w13 mm13 k13 z13
    have mp13 := Vh.congr mm13 (rp_next n hin)
    have mr13 := mr12.kept k13 (by omega)
    have ms13 := ms12.kept k13 (by omega)
    refine hK _ ?_
    clear hK K
    refine l_finB ?_
    refine c_region ?_
    refine m_mv rfl (wanted_rd rfl) (run_addI _ _ rfl (ev_out rfl b23) (ev_const _ _) (by omega) (by omega) _) ?_
    refine m_mv rfl (wanted_rd rfl) (run_move _ rfl (ev_in rfl (by omega)) _) ?_
    exact l_round ⟨3 - (x + 1), by omega, x + 1, by omega, by omega, (szL _ _).trans hs, (defL _ _).trans hd, (ev_out rfl b2), (ev_out rfl b3), (ev_out rfl b22), (ev_in rfl (by omega)).trans (by rw [Int.natCast_add]; rfl), mr13, mp13, below_of_kept (below_of_kept (kB.trans (k11.mono (by omega))) k12 (by omega) (by omega)) k13 (by omega) (by omega), by omega⟩
  · refine c_rs (m_start ?_)
    refine m_mv rfl (wanted_rd rfl) (run_lssI (b := false) _ _ rfl (ev_out rfl b23) (ev_const _ _) (decide_eq_false (by omega)) _) ?_
    obtain rfl : x = 3 := by omega
    refine l_nx ?_
    refine c_nx (c_false (ev_in rfl (by omega)) (c_exit (x_out ?_)))
    refine c_rs ?_
    refine m_mv rfl (wanted_rd rfl) (run_loadP _ _ rfl manyRp (ev_out rfl b3) mp (by decide)) ?_
    refine m_st (wanted_rd rfl) (fun K hK => ?_)
    refine wp_storeP _ _ _ _ rfl manyRp (ev_out rfl b2) (ev_in rfl (by omega)) mr (by decide) (rpP_one _ _) rfl ?_
    intro w11 mm11 k11 z11
    have mr11 := Vh.congr mm11 (stP_all14 _ _)
    have mp11 := mp.kept k11 (by omega)
    refine hK _ ?_
    clear hK K
    refine l_nx ?_
    refine c_ret (ret_of ((defL _ _).trans hd) (res_c rfl (ev_out rfl b2) manyRp mr11 (Nat.le_refl _)) ⟨rfl, below_of_kept kB k11 (by omega) (by omega)⟩)

end Go.Proofs.YthimcecbgpamdaaGreat
