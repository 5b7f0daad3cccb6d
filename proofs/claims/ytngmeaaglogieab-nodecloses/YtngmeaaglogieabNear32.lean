/- Joined: LawNod1, NodRow, LawNod2, RolEq. -/
import Derived.Test.YtngmeaaglogieabNear34
import Derived.Test.YtngmeaaglogieabMemOK
namespace Go.Proofs.Ytngmeaaglogieab
open Go.RowKit

theorem message_any (K F R : Int) (ao : Option Addr) (n c : Nat) (g : Nat → Int) (w : World) (hs0 : Sr w ao n c (iF g)) (hl : n ≤ 17592186044404) :
    Calls Try.prog 16 #[agV (msF K F R (.slice ao n c)) 0 4] w fun e w' => ∃ a' c', e = .returned (agV (msF K F R (.slice a' n c')) 0 4) ∧ w'.ownsRow w.heap.size 3 1 (.slice a' n c') n (rowV (iF g) n) ∧ Below w.heap.size w w' := by
  refine enterF Try.func16 rfl 8 rfl (of_decide_eq_true rfl) (fun A hs hd hb => ?_)
  have b0 : A.eval (.tmp 0) = agV (msF K F R (.slice ao n c)) 0 4 := hb 0 _ rfl
  clear hb
  refine c_rs (m_start ?_)
  refine m_do rfl (wanted_rd rfl) (fun K hK => ?_)
  refine wp_boxG _ _ _ rfl (ev_out rfl b0) (of_decide_eq_true rfl) ?_
  intro w1 m1 k1 z1
  have sr1 := hs0.below k1
  refine hK _ _ ?_
  clear hK K
  refine m_do rfl (wanted_rd rfl) (fun K hK => ?_)
  refine wp_allocG _ _ rfl zeroMs (of_decide_eq_true rfl) ?_
  intro w2 m2 k2 z2
  have mm2 := m1.below k2
  have sr2 := sr1.below k2
  refine hK _ _ ?_
  clear hK K
  refine l_nx ?_
  refine c_rs ?_
  refine m_mv rfl (wanted_rd rfl) (fldMs3 rfl (ev_in rfl (by omega)) _) ?_
  refine m_mv rfl (wanted_rd rfl) (run_lod1 _ _ rfl oneIs (ev_in rfl (by omega)) mm2 (by decide) rfl) ?_
  refine m_do rfl (wanted_rd rfl) (fun K hK => ?_)
  refine ⟨wp_joinI _ _ _ rfl w2.heap.size (Nat.le_refl _) (.slice none 0 0) 0 [] rfl (World.ownsRow_nil _ _ _ _) ao n c (iF g) (ev_in rfl (by omega)) sr2 (fun i _ => rfl) (by omega) ?_⟩
  intro v3 w3 o3 k3
  rw [Nat.zero_add, List.nil_append] at o3
  obtain ⟨a3, c3, rfl, hc3⟩ := rw_slice o3
  have mm3 := mm2.below k3
  have mr3 := m2.below k3
  refine hK _ _ ?_
  clear hK K
  refine m_mv rfl (wanted_rd rfl) (fldMs3 rfl (ev_in rfl (by omega)) _) ?_
  refine m_st (wanted_rd rfl) (fun K hK => ?_)
  refine wp_sto1 _ _ _ _ rfl oneIs (ev_in rfl (by omega)) (ev_in rfl (by omega)) mm3 (by decide) rfl rfl rfl ?_
  intro w4 mm4 k4 z4
  have mm4 := Vh.congr mm4 (msF_set _ _ _ _ _)
  have mr4 := mr3.kept k4 (by omega)
  have ow4 := rw_under o3 k4 (by omega)
  refine hK _ ?_
  clear hK K
  refine l_nx ?_
  refine c_rs ?_
  refine m_mv rfl (wanted_rd rfl) (run_loadP _ _ rfl manyMs (ev_in rfl (by omega)) mm4 (by decide)) ?_
  refine m_st (wanted_rd rfl) (fun K hK => ?_)
  refine wp_storeP _ _ _ _ rfl manyMs (ev_in rfl (by omega)) (ev_in rfl (by omega)) mr4 (by decide) (msF_one _ _ _ _ _ _) rfl ?_
  intro w5 mm5 k5 z5
  have mr5 := Vh.congr mm5 (stP_all4 _ _)
  have mm5 := mm4.kept k5 (by omega)
  have ow5 := rw_under ow4 k5 (by omega)
  refine hK _ ?_
  clear hK K
  refine l_nx ?_
  refine c_ret (ret_of ((defL _ _).trans hd) (res_c rfl (ev_in rfl (by omega)) manyMs mr5 (Nat.le_refl _)) ⟨a3, c3, rfl, rw_base ow5 (by omega), ?_⟩)
  exact below_of_kept (below_of_kept ((k1.trans (k2.mono (by omega))).trans (k3.mono (by omega))) k4 (by omega) (by have := k3.size; omega)) k5 (by omega) (by have := k3.size; omega)
theorem run_bldTn {f : Operand → Value} {o : Oper} (a : Operand) (ho : o.op = .build 23 #[(0, a)]) {x : Int} (h0 : f a = .int .i64 x) (w : World) : (execOp f o).run Try.prog w = .ok (.value (agV (ntnF ⟨x, 0, 0, 0⟩) 0 4)) w := by
  unfold execOp
  rw [ho]
  go_simp
  rfl
theorem enter_bgnode (x y : Value) (w : World) : (callFunc 21 #[x, y]).run Try.prog w = .ok (.enter 21 #[x, y]) w := by go_simp
theorem tn1_ok : (⟨1, 0, 0, 0⟩ : Tn).Ok := by
  constructor <;> exact ⟨by decide, by decide⟩
theorem begun_any (w : World) : Calls Try.prog 8 #[] w fun e w' => ∃ a' c', e = .returned (ndV (begN 2 ⟨1, 0, 0, 0⟩) (.slice a' (begN 2 ⟨1, 0, 0, 0⟩).vA.length c')) ∧ AgNew w.heap.size w' (begN 2 ⟨1, 0, 0, 0⟩) a' c' ∧ Below w.heap.size w w' := by
  refine enterF Try.func8 rfl 9 rfl (of_decide_eq_true rfl) (fun A hs hd hb => ?_)

  clear hb
  refine c_rs (m_start ?_)
  refine m_do rfl (wanted_rd rfl) (fun K hK => ?_)
  refine wp_allocG _ _ rfl zeroNd (of_decide_eq_true rfl) ?_
  intro w1 m1 k1 z1
  refine hK _ _ ?_
  clear hK K
  refine l_nx ?_
  refine c_rs ?_
  refine m_mv rfl (wanted_rd rfl) (run_bldTn _ rfl (ev_const _ _) _) ?_
  refine m_do rfl (wanted_rd rfl) (fun K hK => ?_)
  refine wp_call2 _ 21 _ _ _ rfl (ev_const _ _) (ev_in rfl (by omega)) (enter_bgnode _ _ _) (refBeginNode_ok 2 ⟨1, 0, 0, 0⟩ _ ⟨by decide, by decide⟩ tn1_ok) ?_
  rintro e w2 ⟨a3, c3, rfl, o2, k2⟩
  have n2 := k2.size
  have mr2 := m1.below k2
  refine ⟨_, rfl, ?_⟩
  refine hK _ _ ?_
  clear hK K
  refine m_mv rfl (wanted_rd rfl) (run_move _ rfl (ev_in rfl (by omega)) _) ?_
  refine m_mv rfl (wanted_rd rfl) (run_extA _ rfl (ev_in rfl (by omega)) _) ?_
  refine m_mv rfl (wanted_rd rfl) (run_extB _ rfl (ev_in rfl (by omega)) _) ?_
  refine m_do rfl (wanted_rd rfl) (fun K hK => ?_)
  refine wp_allocG _ _ rfl zeroNd (of_decide_eq_true rfl) ?_
  intro w3 m3 k3 z3
  have mr3 := mr2.below k3
  have ow3 := rw_below o2 k3
  refine hK _ _ ?_
  clear hK K
  refine m_st (wanted_rd rfl) (fun K hK => ?_)
  refine wp_storeP _ _ _ _ rfl manyNd (ev_in rfl (by omega)) (ev_in rfl (by omega)) m3 (by decide) (ndF_one _ _ _ _) rfl ?_
  intro w4 mm4 k4 z4
  have mn4 := Vh.congr mm4 (stP_all _ _)
  have mr4 := mr3.kept k4 (by omega)
  have ow4 := rw_kept ow3 k4 (fun e => by have e1 := (o2.lt _ e).1; have e2 := (o2.lt _ e).2; omega)
  refine hK _ ?_
  clear hK K
  refine m_mv rfl (wanted_rd rfl) (run_assign _ rfl (ev_in rfl (by omega)) _) ?_
  refine l_nx ?_
  refine c_rs ?_
  refine m_mv rfl (wanted_rd rfl) (run_loadP _ _ rfl manyNd (ev_in rfl (by omega)) mn4 (by decide)) ?_
  refine m_st (wanted_rd rfl) (fun K hK => ?_)
  refine wp_storeP _ _ _ _ rfl manyNd (ev_in rfl (by omega)) (ev_in rfl (by omega)) mr4 (by decide) (ndF_one _ _ _ _) rfl ?_
  intro w5 mm5 k5 z5
  have mr5 := Vh.congr mm5 (stP_all _ _)
  have mn5 := mn4.kept k5 (by omega)
  have ow5 := rw_kept ow4 k5 (fun e => by have e1 := (o2.lt _ e).1; have e2 := (o2.lt _ e).2; omega)
  refine hK _ ?_
  clear hK K
  refine l_nx ?_
  refine c_ret (ret_of ((defL _ _).trans hd) (res_c rfl (ev_in rfl (by omega)) manyNd mr5 (Nat.le_refl _)) ⟨a3, c3, rfl, rw_base ow5 (by omega), ?_⟩)
  exact below_of_kept (below_of_kept ((k1.trans (k2.mono (by omega))).trans (k3.mono (by omega))) k4 (by omega) (by omega)) k5 (by omega) (by omega)

end Go.Proofs.Ytngmeaaglogieab

namespace Go.Proofs.Ytngmeaaglogieab
open Go.RowKit

/-- The cells of a row of messages. -/
def lmC (c : Lm) : List Value := [iV c.m.K, iV c.m.F, iV c.m.R, lmV c]
def lmL : List Lm → List Value
  | [] => []
  | c :: L => lmC c ++ lmL L
theorem lmL_append (L M : List Lm) : lmL (L ++ M) = lmL L ++ lmL M := by
  induction L with
  | nil => rfl
  | cons c L ih => show lmC c ++ lmL (L ++ M) = (lmC c ++ lmL L) ++ lmL M; rw [ih, List.append_assoc]
theorem lmL_len (L : List Lm) : (lmL L).length = L.length * 4 := by
  induction L with
  | nil => rfl
  | cons c L ih => show (lmC c ++ lmL L).length = _; rw [List.length_append, ih, List.length_cons]; show 4 + _ = _; omega
theorem lmL_one {L : List Lm} : ∀ u, u ∈ lmL L → u.oneCell' = true := by
  induction L with
  | nil => intro u hu; exact absurd hu (List.not_mem_nil)
  | cons c L ih =>
    intro u hu
    rcases List.mem_append.1 hu with h | h
    · unfold lmC lmV iV at h
      simp at h
      rcases h with rfl | rfl | rfl | rfl <;> rfl
    · exact ih u h
theorem lmL_at (L : List Lm) : ∀ (i : Nat) (c : Lm), L[i]? = some c → ∀ k, k < 4 → (lmL L)[i * 4 + k]? = some (lmF c k) := by
  induction L with
  | nil => intro i c h; simp at h
  | cons d L ih =>
    intro i c h k hk
    show (lmC d ++ lmL L)[i * 4 + k]? = _
    cases i with
    | zero =>
      have e : d = c := by simpa using h
      subst e
      rw [List.getElem?_append_left (by show 0 * 4 + k < 4; omega)]
      match k, hk with
      | 0, _ => rfl
      | 1, _ => rfl
      | 2, _ => rfl
      | 3, _ => rfl
    | succ i =>
      rw [List.getElem?_append_right (by show 4 ≤ _; omega)]
      have := ih i c (by simpa using h) k hk
      rw [← this]
      congr 1
      show (i + 1) * 4 + k - 4 = _
      omega
theorem infoMs : (Try.prog.info? 57).map (fun i => (i.zero, i.size, i.bytes)) = some (some (.agg #[.int .i64 0, .int .i64 0, .int .i64 0, .slice none 0 0]), 4, 48) := by kernel_rfl
/-- A message's numbers of one's own; messages of one's own. -/
def OwnV (w : World) (B : Nat) (c : Lm) : Prop := w.ownsRow B 3 1 (lmV c) c.m.L.length (rowV (iF (gL c.m.L)) c.m.L.length)
def OwnM (w : World) (B : Nat) (v : Value) (L : List Lm) : Prop := w.ownsRow B 57 4 v L.length (lmL L) ∧ ∀ c, c ∈ L → OwnV w B c
theorem own_type {t : TypeId} {B s n b : Nat} {w : World} {v : Value} {xs : List Value} (h : w.ownsRow B t s v n xs) (e : v.ownBlock = some b) : ∃ cur, w.heap[b]? = some (.cells cur t (0, 0)) := by
  rcases h.2 with ⟨rfl, h0⟩ | ⟨g, c, cur, rfl, hb, hg, _⟩
  · cases e
  · cases e; exact ⟨cur, hg⟩
theorem OwnM.below {w w' : World} {B : Nat} {v : Value} {L : List Lm} (h : OwnM w B v L) (k : Below w.heap.size w w') : OwnM w' B v L := ⟨rw_below h.1 k, fun c hc => rw_below (h.2 c hc) k⟩
theorem OwnM.nil (w : World) (B : Nat) : OwnM w B (.slice none 0 0) [] := ⟨World.ownsRow_nil _ _ _ _, fun _ h => absurd h (List.not_mem_nil)⟩
theorem OwnM.rd {w : World} {B n cap : Nat} {ao : Option Addr} {L : List Lm} (h : OwnM w B (.slice ao n cap) L) (hl : ∀ c, c ∈ L → c.m.L.length ≤ 17592186044404) : MRd w ao L := by
  refine ⟨fun hp => ?_, fun c hc => ?_⟩
  · rcases h.1.2 with ⟨e, h0⟩ | ⟨g, cp, cur, e, hb, hg, hc, hm, hsz, hcur⟩
    · omega
    · cases e
      refine ⟨g, 0, rfl, fun i c hi k hk => ?_⟩
      have hlt := (List.getElem?_eq_some_iff.1 hi).1
      have h1 := lmL_at L i c hi k hk
      have hL := lmL_len L
      rw [← hcur, List.getElem?_take, if_pos (by omega), Array.getElem?_toList] at h1
      unfold World.cell?
      rw [hg]
      show cur[0 + i * 4 + k]? = _
      rw [Nat.zero_add]
      exact h1
  · obtain ⟨ao2, cap2, e, hs, hc2⟩ := owns_sr (h.2 c hc)
    unfold lmV at e
    cases e
    exact ⟨hs, hc2, hl c hc⟩
/-- A row of one message; one message appended. -/
theorem wp_oneMs (w : World) {o : Oper} {a : Act} {K : Act → World → Prop} {Q : Exit → Act → World → Prop} (x : Operand) (ho : o.op = .buildSlice 38 1 #[(0, x)]) {c : Lm} (hx : a.eval x = agV (lmF c) 0 4)
    (h : ∀ w', Vh 57 w' w.heap.size 4 4 (lmF c) → Below w.heap.size w w' → w'.heap.size = w.heap.size + 1 → K (a.put o.dst (.slice (some ⟨w.heap.size, 0, none⟩) 1 1)) w') : WpI Try.prog o a w K Q := by
  have hh := h (w.alloc (.cells #[.int .i64 c.m.K, .int .i64 c.m.F, .int .i64 c.m.R, .slice c.ao c.m.L.length c.cap] 57)) (Vh.of_row (lmF c) 4 (by decide) (by show (w.heap.push _)[w.heap.size]? = _; rw [Array.getElem?_push_size]; rfl)) (al_below _ _) (al_size _ _)
  have hx' : a.eval x = .agg #[.int .i64 c.m.K, .int .i64 c.m.F, .int .i64 c.m.R, .slice c.ao c.m.L.length c.cap] := hx
  have e : (execOp a.eval o).run Try.prog w = .ok (.value (.slice (some ⟨w.heap.size, 0, none⟩) 1 1)) (w.alloc (.cells #[.int .i64 c.m.K, .int .i64 c.m.F, .int .i64 c.m.R, .slice c.ao c.m.L.length c.cap] 57)) := by
    clear hx hh
    generalize a.eval = f at hx'
    unfold execOp
    rw [ho]
    simp only [List.map_toArray, List.map_cons, List.map_nil]
    rw [hx']
    go_simp
  refine ⟨?_⟩
  unfold Oper.wp
  rw [e]
  exact hh
theorem wp_joinM (w : World) {o : Oper} {a : Act} {K : Act → World → Prop} {Q : Exit → Act → World → Prop} (s x : Operand)
    (ho : o.op = .call { callee := .builtin .append, args := #[s, x], argTypes := #[38, 38] }) (B : Nat) (hB : B ≤ w.heap.size)
    (v : Value) (L : List Lm) (hs : a.eval s = v) (hown : OwnM w B v L) (b : Nat) (c : Lm) (hx : a.eval x = .slice (some ⟨b, 0, none⟩) 1 1) (hc : Vh 57 w b 4 4 (lmF c)) (hcB : OwnV w B c) (hl : L.length ≤ 2932031007317)
    (h : ∀ v' w', OwnM w' B v' (L ++ [c]) → Below B w w' → K (a.put o.dst v') w') : WpI Try.prog o a w K Q := by
  obtain ⟨i0, hi, hz0, hz1, hz2⟩ := info_parts infoMs
  refine ⟨?_⟩
  refine wp_append_own (P := Try.prog) w s x 38 ho B 57 i0 (.agg #[.int .i64 0, .int .i64 0, .int .i64 0, .slice none 0 0]) 4 48 Try.underlying38 hi hz0 hz1 hz2 rfl (by decide) v L.length (lmL L) hs hown.1 ⟨b, 0, none⟩ 1 1 (lmL [c]) hx rfl ?_ lmL_one (by unfold maxLen; omega) (by omega) hB ?_
  · intro j u hj
    rw [Addr.add_lit, Nat.zero_add]
    rcases Nat.lt_or_ge j 4 with h4 | h4
    · have h1 := lmL_at [c] 0 c rfl j h4
      rw [Nat.zero_mul, Nat.zero_add] at h1
      rw [h1] at hj
      cases hj
      exact hc.cell h4
    · rw [List.getElem?_eq_none (by rw [lmL_len]; exact h4)] at hj
      cases hj
  · intro v' w2 ho2 hgr _
    have apart : ∀ d, OwnV w B d → ∀ g, (lmV d).ownBlock = some g → v.ownBlock ≠ some g := fun d hd g hg e => by
      obtain ⟨u1, hu1⟩ := own_type hd hg
      obtain ⟨u2, hu2⟩ := own_type hown.1 e
      rw [hu1] at hu2
      cases hu2
    refine h v' w2 ⟨?_, ?_⟩ ?_
    · rw [List.length_append, lmL_append]; exact ho2
    · intro d hd
      rcases List.mem_append.1 hd with hd | hd
      · exact rw_grown (hown.2 d hd) hgr (apart d (hown.2 d hd))
      · simp at hd; subst hd
        exact rw_grown hcB hgr (apart d hcB)
    · refine ⟨hgr.os, hgr.tape, hgr.output, hgr.size, fun k hk => hgr.block k (by omega) (fun e => ?_)⟩
      have := (hown.1.lt k e.symm).1
      omega

end Go.Proofs.Ytngmeaaglogieab

namespace Go.Proofs.Ytngmeaaglogieab
open Go.RowKit

theorem enter_msg (x : Value) (w : World) : (callFunc 16 #[x]).run Try.prog w = .ok (.enter 16 #[x]) w := by go_simp
set_option maxHeartbeats 2000000 in
theorem messages_any (mo : Option Addr) (mc : Nat) (L : List Lm) (w : World) (hr : MRd w mo L) (hN : L.length ≤ 2932031007317) :
    Calls Try.prog 6 #[.slice mo L.length mc] w fun e w' => ∃ mo' mc' M, e = .returned (.slice mo' L.length mc') ∧ M.map Lm.m = L.map Lm.m ∧ OwnM w' w.heap.size (.slice mo' L.length mc') M ∧ L.length ≤ mc' ∧ Below w.heap.size w w' := by
  refine enterF Try.func6 rfl 20 rfl (of_decide_eq_true rfl) (fun A hs hd hb => ?_)
  have b0 : A.eval (.tmp 0) = .slice mo L.length mc := hb 0 _ rfl
  clear hb
  refine c_rs (m_start ?_)
  refine m_mv rfl (wanted_rd rfl) (run_assign _ rfl (ev_const _ _) _) ?_
  refine l_nx ?_
  refine c_rs ?_
  refine m_mv rfl (wanted_rd rfl) (run_assign _ rfl (ev_const _ _) _) ?_
  refine l_nx ?_
  refine c_nx ?_
  refine c_rs ?_
  refine m_mv rfl (wanted_rd rfl) (run_assign _ rfl (ev_const _ _) _) ?_
  refine l_nx ?_
  refine c_block ?_
  refine c_loop (fun r a W => ∃ (i : Nat) (v : Value) (M : List Lm), i ≤ L.length ∧ L.length - i ≤ r ∧ a.tmps.size = 20 ∧ a.defers = [] ∧ a.eval (.tmp 0) = .slice mo L.length mc ∧ a.eval (.tmp 3) = v ∧ a.eval (.tmp 4) = .int .i64 (i : Int) ∧ M.map Lm.m = (L.take i).map Lm.m ∧ OwnM W w.heap.size v M ∧ Below w.heap.size w W) L.length ⟨0, _, [], by omega, by omega, (szL _ _).trans hs, (defL _ _).trans hd, (ev_out rfl b0), (ev_in rfl (by omega)), (ev_in rfl (by omega)), rfl, OwnM.nil _ _, Below.refl _ _⟩ (fun r B W hI => ?_)
  clear b0 hs hd
  obtain ⟨i, v, M, hi, hr2, hs, hd, b0, b3, b4, hM, ov, kB⟩ := hI
  have hW := kB.size
  have hML : M.length = i := by have := congrArg List.length hM; simp at this; omega
  by_cases hin : i < L.length
  · refine c_nx ?_
    refine c_rs (m_start ?_)
    refine m_mv rfl (wanted_rd rfl) (run_move _ rfl (ev_out rfl b4) _) ?_
    refine m_mv rfl (wanted_rd rfl) (run_move _ rfl (ev_out rfl b0) _) ?_
    refine m_mv rfl (wanted_rd rfl) (run_lenM _ rfl (ev_in rfl (by omega)) _) ?_
    refine m_mv rfl (wanted_rd rfl) (run_lssI (b := true) _ _ rfl (ev_in rfl (by omega)) (ev_in rfl (by omega)) (decide_eq_true (by omega)) _) ?_
    refine l_nx ?_
    refine c_true (ev_in rfl (by omega)) (c_fin ?_)
    refine c_nx (c_block ?_)
    refine c_region ?_
    have hc := List.getElem?_eq_getElem hin
    obtain ⟨c, ec⟩ : ∃ c, c = L[i] := ⟨_, rfl⟩
    rw [← ec] at hc
    obtain ⟨pb, po, rfl, hcell⟩ := (hr.below kB).1 (by omega)
    have hcell := hcell i c hc
    have hlv := (hr.below kB).2 c (by rw [ec]; exact List.getElem_mem hin)
    refine m_mv rfl (wanted_rd rfl) (run_move _ rfl (ev_out rfl b3) _) ?_
    refine m_mv rfl (wanted_rd rfl) (run_move _ rfl (ev_out rfl b0) _) ?_
    refine m_mv rfl (wanted_rd rfl) (run_move _ rfl (ev_out rfl b4) _) ?_
    refine m_mv rfl (wanted_rd rfl) (run_ixM _ _ rfl (ev_in rfl (by omega)) (ev_in rfl (by omega)) rfl hin _) ?_
    refine m_mv rfl (wanted_rd rfl) (run_lodM _ rfl (ev_in rfl (by omega)) hcell) ?_
    refine m_do rfl (wanted_rd rfl) (fun K hK => ?_)
    refine wp_call1 _ 16 _ _ rfl (ev_in rfl (by omega)) (enter_msg _ _) (message_any c.m.K c.m.F c.m.R c.ao c.m.L.length c.cap (gL c.m.L) _ hlv.1 hlv.2.2) ?_
    rintro e w1 ⟨a3, c3, rfl, o1, k1⟩
    have n1 := k1.size
    have ov1 := ov.below k1
    refine ⟨_, rfl, ?_⟩
    refine hK _ _ ?_
    clear hK K
    refine m_do rfl (wanted_rd rfl) (fun K hK => ?_)
    refine wp_oneMs _ _ rfl (c := ⟨c.m, a3, c3⟩) (ev_in rfl (by omega)) ?_
    intro w2 m2 k2 z2
    have ov2 := ov1.below k2
    refine hK _ _ ?_
    clear hK K
    refine m_do rfl (wanted_rd rfl) (fun K hK => ?_)
    refine wp_joinM _ _ _ rfl w.heap.size (by omega) v M (ev_in rfl (by omega)) ov2 _ ⟨c.m, a3, c3⟩ (ev_in rfl (by omega)) m2 (rw_base (rw_below o1 k2) (by omega)) (by omega) ?_
    intro v3 w3 ov3 k3
    have n3 := k3.size
    refine hK _ _ ?_
    clear hK K
    refine m_mv rfl (wanted_rd rfl) (run_assign _ rfl (ev_in rfl (by omega)) _) ?_
    refine l_finB ?_
    refine c_region ?_
    refine m_mv rfl (wanted_rd rfl) (run_move _ rfl (ev_out rfl b4) _) ?_
    refine m_mv rfl (wanted_rd rfl) (run_addI _ _ rfl (ev_in rfl (by omega)) (ev_const _ _) (by omega) (by omega) _) ?_
    refine m_mv rfl (wanted_rd rfl) (run_assign _ rfl (ev_in rfl (by omega)) _) ?_
    exact l_round ⟨L.length - (i + 1), by omega, i + 1, _, _, by omega, by omega, (szL _ _).trans hs, (defL _ _).trans hd, (ev_out rfl b0), (ev_in rfl (by omega)), (ev_in rfl (by omega)).trans (by rw [Int.natCast_add]; rfl), by rw [List.map_append, hM, List.take_add_one, hc, List.map_append]; rfl, ov3, ((kB.trans (k1.mono (by omega))).trans (k2.mono (by omega))).trans k3⟩
  · refine c_nx ?_
    refine c_rs (m_start ?_)
    refine m_mv rfl (wanted_rd rfl) (run_move _ rfl (ev_out rfl b4) _) ?_
    refine m_mv rfl (wanted_rd rfl) (run_move _ rfl (ev_out rfl b0) _) ?_
    refine m_mv rfl (wanted_rd rfl) (run_lenM _ rfl (ev_in rfl (by omega)) _) ?_
    refine m_mv rfl (wanted_rd rfl) (run_lssI (b := false) _ _ rfl (ev_in rfl (by omega)) (ev_in rfl (by omega)) (decide_eq_false (by omega)) _) ?_
    obtain rfl : i = L.length := by omega
    rw [List.take_length] at hM
    obtain ⟨ao, cap, rfl, hcap⟩ := rw_slice ov.1
    rw [hML] at ov hcap
    refine l_nx ?_
    refine c_false (ev_in rfl (by omega)) (c_exit (x_out ?_))
    refine c_rs ?_
    refine m_mv rfl (wanted_rd rfl) (run_move _ rfl (ev_out rfl b3) _) ?_
    refine m_mv rfl (wanted_rd rfl) (run_assign _ rfl (ev_in rfl (by omega)) _) ?_
    refine l_nx ?_
    refine c_ret ?_
    refine ret_of ((defL _ _).trans hd) (res_t rfl (ev_in rfl (by omega))) ⟨ao, cap, M, by rw [hML], hM, ov, hcap, kB⟩

end Go.Proofs.Ytngmeaaglogieab

namespace Go.Proofs.Ytngmeaaglogieab
open Go.RowKit

theorem run_eqI4 (d : Nat) (a b c e : Int) (w : World) : (Op.equalIn (d + 1 + 1) 28 (.agg #[.int .i64 a, .int .i64 b, .int .i64 c, .int .i64 e]) (.agg #[.int .i64 a, .int .i64 b, .int .i64 c, .int .i64 e])).run Try.prog w = .ok true w := by
  have u3 := Try.underlying3
  have a3 := Try.isAgg3
  have z3 := Try.sizeOf3
  have ta : (a == a) = true := by simp
  have tb : (b == b) = true := by simp
  have tc : (c == c) = true := by simp
  have td : (e == e) = true := by simp
  rw [Op.equalIn]
  simp only [Sem.run_bind, run_underlying Try.underlying28, Result.andThen_ok]
  simp only [Std.Legacy.Range.forIn_eq_forIn_range', Std.Legacy.Range.size, Nat.sub_zero, Nat.add_sub_cancel, Nat.div_one, List.range'_succ, List.range'_zero, List.forIn_cons, List.forIn_nil]
  go_simp
theorem run_eqB4 (d : Nat) (a b c e : Bool) (w : World) : (Op.equalIn (d + 1 + 1) 27 (.agg #[.bool a, .bool b, .bool c, .bool e]) (.agg #[.bool a, .bool b, .bool c, .bool e])).run Try.prog w = .ok true w := by
  have u3 := Try.underlying4
  have a3 := Try.isAgg4
  have z3 := Try.sizeOf4
  have ta : (a == a) = true := by simp
  have tb : (b == b) = true := by simp
  have tc : (c == c) = true := by simp
  have td : (e == e) = true := by simp
  rw [Op.equalIn]
  simp only [Sem.run_bind, run_underlying Try.underlying27, Result.andThen_ok]
  simp only [Std.Legacy.Range.forIn_eq_forIn_range', Std.Legacy.Range.size, Nat.sub_zero, Nat.add_sub_cancel, Nat.div_one, List.range'_succ, List.range'_zero, List.forIn_cons, List.forIn_nil]
  go_simp
set_option maxRecDepth 100000 in
theorem run_eqRl (r : Rl) (w : World) : (Op.equalIn 10000 30 (rollV r) (rollV r)).run Try.prog w = .ok true w := by
  have u3 := Try.underlying28
  have a3 := Try.isAgg28
  have z3 := Try.sizeOf28
  have u4 := Try.underlying27
  have a4 := Try.isAgg27
  have z4 := Try.sizeOf27
  have h0 := run_eqB4 9997 (r.I 0) (r.I 1) (r.I 2) (r.I 3) w
  have h1 := run_eqI4 9997 (r.M 0) (r.M 1) (r.M 2) (r.M 3) w
  have h2 := run_eqI4 9997 (r.J 0) (r.J 1) (r.J 2) (r.J 3) w
  unfold rollV
  rw [show (10000 : Nat) = 9997 + 1 + 1 + 1 from rfl, Op.equalIn]
  simp only [Sem.run_bind, run_underlying Try.underlying30, Result.andThen_ok]
  go_simp
theorem run_eqlRl {f : Operand → Value} {o : Oper} (x y : Operand) (ho : o.op = .binOp .eql 30 x y 30) {r : Rl} (hx : f x = rollV r) (hy : f y = rollV r) (w : World) :
    (execOp f o).run Try.prog w = .ok (.value (.bool true)) w := by
  have h0 : (Op.equalIn 9999 27 (.agg #[.bool (r.I 0), .bool (r.I 1), .bool (r.I 2), .bool (r.I 3)]) (.agg #[.bool (r.I 0), .bool (r.I 1), .bool (r.I 2), .bool (r.I 3)])).run Try.prog w = .ok true w := run_eqB4 9997 (r.I 0) (r.I 1) (r.I 2) (r.I 3) w
  have h1 : (Op.equalIn 9999 28 (.agg #[.int .i64 (r.M 0), .int .i64 (r.M 1), .int .i64 (r.M 2), .int .i64 (r.M 3)]) (.agg #[.int .i64 (r.M 0), .int .i64 (r.M 1), .int .i64 (r.M 2), .int .i64 (r.M 3)])).run Try.prog w = .ok true w := run_eqI4 9997 (r.M 0) (r.M 1) (r.M 2) (r.M 3) w
  have h2 : (Op.equalIn 9999 28 (.agg #[.int .i64 (r.J 0), .int .i64 (r.J 1), .int .i64 (r.J 2), .int .i64 (r.J 3)]) (.agg #[.int .i64 (r.J 0), .int .i64 (r.J 1), .int .i64 (r.J 2), .int .i64 (r.J 3)])).run Try.prog w = .ok true w := run_eqI4 9997 (r.J 0) (r.J 1) (r.J 2) (r.J 3) w
  unfold rollV at hx hy
  unfold execOp
  rw [ho]
  dsimp only
  rw [hx, hy]
  go_simp

end Go.Proofs.Ytngmeaaglogieab
