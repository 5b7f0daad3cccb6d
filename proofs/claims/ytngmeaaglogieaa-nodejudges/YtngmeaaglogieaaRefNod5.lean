/- Contracts of the reference: taken. -/
import Derived.Test.YtngmeaaglogieaaNear10
import Derived.Test.YtngmeaaglogieaaNear51
import Derived.Test.YtngmeaaglogieaaNear23
namespace Go.Proofs.Ytngmeaaglogieaa
open Go.RowKit

/-- The list that is voted on. -/
def tkL (I s : Nat) (T : Nat → Int) (h : Int) : Nat → List Int
  | 0 => [h]
  | i + 1 => tkL I s T h i ++ if i = I ∨ i = s then [] else [T i]
theorem tkL_len (I s : Nat) (T : Nat → Int) (h : Int) (i : Nat) : (tkL I s T h i).length ≤ i + 1 := by
  induction i with
  | zero => exact Nat.le_refl 1
  | succ i ih =>
    show (tkL I s T h i ++ _).length ≤ _
    rw [List.length_append]
    split
    · show _ + 0 ≤ _; omega
    · show _ + 1 ≤ _; omega
theorem tk_skip {I s i : Nat} {T : Nat → Int} {h : Int} (e : i = I ∨ i = s) : tkL I s T h (i + 1) = tkL I s T h i := by
  show tkL I s T h i ++ _ = _
  rw [if_pos e, List.append_nil]
theorem tk_take {I s i : Nat} {T : Nat → Int} {h x : Int} (e1 : i ≠ I) (e2 : i ≠ s) (ex : T i = x) : tkL I s T h (i + 1) = tkL I s T h i ++ [x] := by
  show tkL I s T h i ++ _ = _
  rw [if_neg (fun c => c.elim e1 e2), ex]
theorem tk_four {I s : Nat} {T : Nat → Int} {h : Int} (hI : I < 4) (hs : s < 4) (e : I ≠ s) : tkL I s T h 4 = [h, T (o1 I s), T (o2 I s)] := by
  have : I = 0 ∨ I = 1 ∨ I = 2 ∨ I = 3 := by omega
  have : s = 0 ∨ s = 1 ∨ s = 2 ∨ s = 3 := by omega
  rcases ‹I = 0 ∨ _› with rfl | rfl | rfl | rfl <;> rcases ‹s = 0 ∨ _› with rfl | rfl | rfl | rfl <;> first | (exact absurd rfl e) | rfl
theorem tld_some {n : Nd} {L : List Lm} {i k many : Nat} {c : Lm} (h : fL n.id n.fr L (i : Int) 2 (many : Int) = some c) : tldN n (L.map Lm.m) i k many = gL c.m.L k := by
  have := fL_frst n L i 2 many
  rw [h] at this
  unfold tldN
  rw [← this]
  rfl
theorem tld_none {n : Nd} {L : List Lm} {i k many : Nat} (h : fL n.id n.fr L (i : Int) 2 (many : Int) = none) : tldN n (L.map Lm.m) i k many = 0 := by
  have := fL_frst n L i 2 many
  rw [h] at this
  unfold tldN
  rw [← this]
  rfl
set_option maxHeartbeats 2000000 in
theorem refTaken_any (n : Nd) (nv : Value) (mo : Option Addr) (mc : Nat) (L : List Lm) (I s : Nat) (h : Int) (k many : Nat) (w : World) (hI : n.id = (I : Int)) (hI4 : I < 4) (hs4 : s < 4) (hk : k < many) (hmr : MRd w mo L) (hN : L.length ≤ 140737488351232) :
    Calls Try.prog 41 #[ndV n nv, .slice mo L.length mc, .int .i64 (s : Int), .int .i64 h, .int .i64 (k : Int), .int .i64 (many : Int)] w fun e w' => e = .returned (.int .i64 (tkn n (L.map Lm.m) s h k many)) ∧ Below w.heap.size w w' := by
  refine enterF Try.func41 rfl 58 rfl (of_decide_eq_true rfl) (fun A hs hd hb => ?_)
  have b0 : A.eval (.tmp 0) = ndV n nv := hb 0 _ rfl
  have b1 : A.eval (.tmp 1) = .slice mo L.length mc := hb 1 _ rfl
  have b2 : A.eval (.tmp 2) = .int .i64 (s : Int) := hb 2 _ rfl
  have b3 : A.eval (.tmp 3) = .int .i64 h := hb 3 _ rfl
  have b4 : A.eval (.tmp 4) = .int .i64 (k : Int) := hb 4 _ rfl
  have b5 : A.eval (.tmp 5) = .int .i64 (many : Int) := hb 5 _ rfl
  clear hb
  refine c_rs (m_start ?_)
  refine m_do rfl (wanted_rd rfl) (fun K hK => ?_)
  refine wp_boxG _ _ _ rfl (ev_out rfl b0) (of_decide_eq_true rfl) ?_
  intro w1 m1 k1 z1
  refine hK _ _ ?_
  clear hK K
  refine m_mv rfl (wanted_rd rfl) (run_assign _ rfl (ev_const _ _) _) ?_
  refine l_nx ?_
  refine c_nx ?_
  refine c_rs ?_
  by_cases hsi : (s : Int) = n.id
  · refine m_mv rfl (wanted_rd rfl) (run_move _ rfl (ev_out rfl b2) _) ?_
    refine m_mv rfl (wanted_rd rfl) (fldNd0 rfl (ev_in rfl (by omega)) _) ?_
    refine m_mv rfl (wanted_rd rfl) (run_lod1 _ _ rfl oneI (ev_in rfl (by omega)) m1 (by decide) rfl) ?_
    refine m_mv rfl (wanted_rd rfl) (run_eqlI (b := true) _ _ rfl (ev_in rfl (by omega)) (ev_in rfl (by omega)) (decide_eq_true hsi) _) ?_
    refine l_nx ?_
    refine c_true (ev_in rfl (by omega)) ?_
    refine c_rs ?_
    refine m_mv rfl (wanted_rd rfl) (run_move _ rfl (ev_out rfl b3) _) ?_
    refine m_mv rfl (wanted_rd rfl) (run_assign _ rfl (ev_in rfl (by omega)) _) ?_
    refine l_nx ?_
    refine c_ret ?_
    simp only [Nx, Exit.then]
    refine ret_of ((defL _ _).trans hd) (res_t rfl (ev_in rfl (by omega))) ⟨by unfold tkn; rw [if_pos hsi], k1⟩
  · refine m_mv rfl (wanted_rd rfl) (run_move _ rfl (ev_out rfl b2) _) ?_
    refine m_mv rfl (wanted_rd rfl) (fldNd0 rfl (ev_in rfl (by omega)) _) ?_
    refine m_mv rfl (wanted_rd rfl) (run_lod1 _ _ rfl oneI (ev_in rfl (by omega)) m1 (by decide) rfl) ?_
    refine m_mv rfl (wanted_rd rfl) (run_eqlI (b := false) _ _ rfl (ev_in rfl (by omega)) (ev_in rfl (by omega)) (decide_eq_false hsi) _) ?_
    refine l_nx ?_
    refine c_false (ev_in rfl (by omega)) (c_fin ?_)
    refine c_rs ?_
    refine m_mv rfl (wanted_rd rfl) (run_move _ rfl (ev_out rfl b3) _) ?_
    refine m_do rfl (wanted_rd rfl) (fun K hK => ?_)
    refine wp_row1 _ _ rfl (ev_in rfl (by omega)) ?_
    intro w2 m2 k2 z2
    have mn2 := m1.below k2
    refine hK _ _ ?_
    clear hK K
    refine m_mv rfl (wanted_rd rfl) (run_assign _ rfl (ev_in rfl (by omega)) _) ?_
    refine l_nx ?_
    refine c_nx ?_
    refine c_rs ?_
    refine m_mv rfl (wanted_rd rfl) (run_assign _ rfl (ev_const _ _) _) ?_
    refine l_nx ?_
    refine c_block ?_
    refine c_loop (fun r a W => ∃ (i : Nat) (v : Value), i ≤ 4 ∧ 4 - i ≤ r ∧ a.tmps.size = 58 ∧ a.defers = [] ∧ a.eval (.tmp 1) = .slice mo L.length mc ∧ a.eval (.tmp 2) = .int .i64 (s : Int) ∧ a.eval (.tmp 4) = .int .i64 (k : Int) ∧ a.eval (.tmp 5) = .int .i64 (many : Int) ∧ a.eval (.tmp 6) = .pointer (some ⟨w.heap.size, 0, none⟩) ∧ a.eval (.tmp 13) = v ∧ a.eval (.tmp 14) = .int .i64 (i : Int) ∧ Vh 37 W w.heap.size 74 74 (ndF n nv) ∧ W.ownsRow w1.heap.size 3 1 v (tkL I s (fun j => tldN n (L.map Lm.m) j k many) h i).length ((tkL I s (fun j => tldN n (L.map Lm.m) j k many) h i).map iV) ∧ Below w.heap.size w W ∧ w1.heap.size ≤ W.heap.size) 4 ⟨0, _, by omega, by omega, (szL _ _).trans hs, (defL _ _).trans hd, (ev_out rfl b1), (ev_out rfl b2), (ev_out rfl b4), (ev_out rfl b5), (ev_in rfl (by omega)), (ev_in rfl (by omega)), (ev_in rfl (by omega)), mn2, Vh.owns m2 (Nat.le_refl _), k1.trans (k2.mono (by omega)), by omega⟩ (fun r B W hI => ?_)
    clear b0 b1 b2 b3 b4 b5 hs hd
    obtain ⟨i, v, hi, hr2, hs, hd, b1, b2, b4, b5, b6, b13, b14, mn, ow, kB, hW⟩ := hI
    by_cases hin : i < 4
    · have hll := tkL_len I s (fun j => tldN n (L.map Lm.m) j k many) h i
      by_cases hci : (i : Int) = n.id
      · have hcs : True := trivial
        refine c_nx ?_
        refine c_rs (m_start ?_)
        refine m_mv rfl (wanted_rd rfl) (run_move _ rfl (ev_out rfl b14) _) ?_
        refine m_mv rfl (wanted_rd rfl) (run_lssI (b := true) _ _ rfl (ev_in rfl (by omega)) (ev_const _ _) (decide_eq_true (by omega)) _) ?_
        refine l_nx ?_
        refine c_true (ev_in rfl (by omega)) (c_fin ?_)
        refine c_nx (c_block ?_)
        refine c_nx ?_
        refine c_rs ?_
        refine m_mv rfl (wanted_rd rfl) (run_move _ rfl (ev_out rfl b14) _) ?_
        refine m_mv rfl (wanted_rd rfl) (fldNd0 rfl (ev_out rfl b6) _) ?_
        refine m_mv rfl (wanted_rd rfl) (run_lod1 _ _ rfl oneI (ev_in rfl (by omega)) mn (by decide) rfl) ?_
        refine m_mv rfl (wanted_rd rfl) (run_eqlI (b := true) _ _ rfl (ev_in rfl (by omega)) (ev_in rfl (by omega)) (decide_eq_true hci) _) ?_
        refine m_mv rfl (wanted_rd rfl) (run_move _ rfl (ev_in rfl (by omega)) _) ?_
        refine m_skip rfl (wanted_n (j := 4) rfl rfl rfl (ev_in rfl (by omega)) (by decide)) ?_
        refine m_skip rfl (wanted_n (j := 4) rfl rfl rfl (ev_in rfl (by omega)) (by decide)) ?_
        refine m_skip rfl (wanted_n (j := 4) rfl rfl rfl (ev_in rfl (by omega)) (by decide)) ?_
        refine m_mv rfl (wanted_rd rfl) (run_pickT' _ _ _ rfl (ev_in rfl (by omega)) (ev_const _ _) _) ?_
        refine l_nx ?_
        refine c_true (ev_in rfl (by omega)) (c_exit (x_in ?_))
        refine c_region ?_
        refine m_mv rfl (wanted_rd rfl) (run_move _ rfl (ev_out rfl b14) _) ?_
        refine m_mv rfl (wanted_rd rfl) (run_addI _ _ rfl (ev_in rfl (by omega)) (ev_const _ _) (by omega) (by omega) _) ?_
        refine m_mv rfl (wanted_rd rfl) (run_assign _ rfl (ev_in rfl (by omega)) _) ?_
        exact l_round ⟨4 - (i + 1), by omega, i + 1, _, by omega, by omega, (szL _ _).trans hs, (defL _ _).trans hd, (ev_out rfl b1), (ev_out rfl b2), (ev_out rfl b4), (ev_out rfl b5), (ev_out rfl b6), (ev_out rfl b13), (ev_in rfl (by omega)).trans (by rw [Int.natCast_add]; rfl), mn, by rw [(tk_skip (by omega))]; exact ow, kB, by omega⟩
      · by_cases hcs : (i : Int) = (s : Int)
        · refine c_nx ?_
          refine c_rs (m_start ?_)
          refine m_mv rfl (wanted_rd rfl) (run_move _ rfl (ev_out rfl b14) _) ?_
          refine m_mv rfl (wanted_rd rfl) (run_lssI (b := true) _ _ rfl (ev_in rfl (by omega)) (ev_const _ _) (decide_eq_true (by omega)) _) ?_
          refine l_nx ?_
          refine c_true (ev_in rfl (by omega)) (c_fin ?_)
          refine c_nx (c_block ?_)
          refine c_nx ?_
          refine c_rs ?_
          refine m_mv rfl (wanted_rd rfl) (run_move _ rfl (ev_out rfl b14) _) ?_
          refine m_mv rfl (wanted_rd rfl) (fldNd0 rfl (ev_out rfl b6) _) ?_
          refine m_mv rfl (wanted_rd rfl) (run_lod1 _ _ rfl oneI (ev_in rfl (by omega)) mn (by decide) rfl) ?_
          refine m_mv rfl (wanted_rd rfl) (run_eqlI (b := false) _ _ rfl (ev_in rfl (by omega)) (ev_in rfl (by omega)) (decide_eq_false hci) _) ?_
          refine m_mv rfl (wanted_rd rfl) (run_move _ rfl (ev_in rfl (by omega)) _) ?_
          refine m_mv rfl (wanted_g (j := 4) rfl rfl rfl (ev_in rfl (by omega))) (run_move _ rfl (ev_out rfl b14) _) ?_
          refine m_mv rfl (wanted_g (j := 4) rfl rfl rfl (ev_in rfl (by omega))) (run_move _ rfl (ev_out rfl b2) _) ?_
          refine m_mv rfl (wanted_g (j := 4) rfl rfl rfl (ev_in rfl (by omega))) (run_eqlI (b := true) _ _ rfl (ev_in rfl (by omega)) (ev_in rfl (by omega)) (decide_eq_true hcs) _) ?_
          refine m_mv rfl (wanted_rd rfl) (run_pickF _ _ _ rfl (ev_in rfl (by omega)) (ev_in rfl (by omega)) _) ?_
          refine l_nx ?_
          refine c_true (ev_in rfl (by omega)) (c_exit (x_in ?_))
          refine c_region ?_
          refine m_mv rfl (wanted_rd rfl) (run_move _ rfl (ev_out rfl b14) _) ?_
          refine m_mv rfl (wanted_rd rfl) (run_addI _ _ rfl (ev_in rfl (by omega)) (ev_const _ _) (by omega) (by omega) _) ?_
          refine m_mv rfl (wanted_rd rfl) (run_assign _ rfl (ev_in rfl (by omega)) _) ?_
          exact l_round ⟨4 - (i + 1), by omega, i + 1, _, by omega, by omega, (szL _ _).trans hs, (defL _ _).trans hd, (ev_out rfl b1), (ev_out rfl b2), (ev_out rfl b4), (ev_out rfl b5), (ev_out rfl b6), (ev_out rfl b13), (ev_in rfl (by omega)).trans (by rw [Int.natCast_add]; rfl), mn, by rw [(tk_skip (by omega))]; exact ow, kB, by omega⟩
        · rcases hfl : fL n.id n.fr L (i : Int) 2 (many : Int) with _ | cm
          · refine c_nx ?_
            refine c_rs (m_start ?_)
            refine m_mv rfl (wanted_rd rfl) (run_move _ rfl (ev_out rfl b14) _) ?_
            refine m_mv rfl (wanted_rd rfl) (run_lssI (b := true) _ _ rfl (ev_in rfl (by omega)) (ev_const _ _) (decide_eq_true (by omega)) _) ?_
            refine l_nx ?_
            refine c_true (ev_in rfl (by omega)) (c_fin ?_)
            refine c_nx (c_block ?_)
            refine c_nx ?_
            refine c_rs ?_
            refine m_mv rfl (wanted_rd rfl) (run_move _ rfl (ev_out rfl b14) _) ?_
            refine m_mv rfl (wanted_rd rfl) (fldNd0 rfl (ev_out rfl b6) _) ?_
            refine m_mv rfl (wanted_rd rfl) (run_lod1 _ _ rfl oneI (ev_in rfl (by omega)) mn (by decide) rfl) ?_
            refine m_mv rfl (wanted_rd rfl) (run_eqlI (b := false) _ _ rfl (ev_in rfl (by omega)) (ev_in rfl (by omega)) (decide_eq_false hci) _) ?_
            refine m_mv rfl (wanted_rd rfl) (run_move _ rfl (ev_in rfl (by omega)) _) ?_
            refine m_mv rfl (wanted_g (j := 4) rfl rfl rfl (ev_in rfl (by omega))) (run_move _ rfl (ev_out rfl b14) _) ?_
            refine m_mv rfl (wanted_g (j := 4) rfl rfl rfl (ev_in rfl (by omega))) (run_move _ rfl (ev_out rfl b2) _) ?_
            refine m_mv rfl (wanted_g (j := 4) rfl rfl rfl (ev_in rfl (by omega))) (run_eqlI (b := false) _ _ rfl (ev_in rfl (by omega)) (ev_in rfl (by omega)) (decide_eq_false hcs) _) ?_
            refine m_mv rfl (wanted_rd rfl) (run_pickF _ _ _ rfl (ev_in rfl (by omega)) (ev_in rfl (by omega)) _) ?_
            refine l_nx ?_
            refine c_false (ev_in rfl (by omega)) (c_fin ?_)
            refine c_rs ?_
            refine m_mv rfl (wanted_rd rfl) (run_loadP _ _ rfl manyNd (ev_out rfl b6) mn (by decide)) ?_
            refine m_mv rfl (wanted_rd rfl) (run_move _ rfl (ev_out rfl b1) _) ?_
            refine m_mv rfl (wanted_rd rfl) (run_move _ rfl (ev_out rfl b14) _) ?_
            refine m_mv rfl (wanted_rd rfl) (run_move _ rfl (ev_out rfl b5) _) ?_
            refine m_do rfl (wanted_rd rfl) (fun K hK => ?_)
            have C1 : Calls Try.prog 36 #[ndV n nv, .slice mo L.length mc, .int .i64 (i : Int), .int .i64 2, .int .i64 (many : Int)] W fun e w' => e = .returned (fstV (fL n.id n.fr L (i : Int) 2 (many : Int))) ∧ Below W.heap.size W w' := refFirst_any n _ mo mc L (i : Int) 2 (many : Int) _ (hmr.below kB) hN
            rw [hfl] at C1
            refine wp_call5 _ 36 _ _ _ _ _ _ rfl (ev_in rfl (by omega)) (ev_in rfl (by omega)) (ev_in rfl (by omega)) (ev_const _ _) (ev_in rfl (by omega)) (enter_first _ _ _ _ _ _) C1 ?_
            rintro e w7 ⟨rfl, k7⟩
            have n7 := k7.size
            have mn7 := mn.below k7
            have ow7 := rw_below ow k7
            refine ⟨_, rfl, ?_⟩
            refine hK _ _ ?_
            clear hK K
            refine m_mv rfl (wanted_rd rfl) (run_move _ rfl (ev_in rfl (by omega)) _) ?_
            refine m_mv rfl (wanted_rd rfl) (run_extA _ rfl (ev_in rfl (by omega)) _) ?_
            refine m_mv rfl (wanted_rd rfl) (run_extB _ rfl (ev_in rfl (by omega)) _) ?_
            refine m_mv rfl (wanted_rd rfl) (run_assign _ rfl (ev_in rfl (by omega)) _) ?_
            refine m_mv rfl (wanted_rd rfl) (run_assign _ rfl (ev_in rfl (by omega)) _) ?_
            refine l_nx ?_
            refine c_rs ?_
            refine m_mv rfl (wanted_rd rfl) (run_move _ rfl (ev_in rfl (by omega)) _) ?_
            refine l_nx ?_
            refine c_false (ev_in rfl (by omega)) ?_
            refine c_region ?_
            refine m_mv rfl (wanted_rd rfl) (run_move _ rfl (ev_out rfl b13) _) ?_
            refine m_do rfl (wanted_rd rfl) (fun K hK => ?_)
            refine wp_row1 _ _ rfl (ev_const _ _) ?_
            intro w8 m8 k8 z8
            have mn8 := mn7.below k8
            have ow8 := rw_below ow7 k8
            refine hK _ _ ?_
            clear hK K
            refine m_do rfl (wanted_rd rfl) (fun K hK => ?_)
            refine ⟨wp_joinI _ _ _ rfl w1.heap.size (by omega) v _ _ (ev_in rfl (by omega)) ow8 _ 1 1 _ (ev_in rfl (by omega)) (Or.inr ⟨_, rfl, fun i hi => by rw [add_at, Nat.zero_add]; exact m8.cell hi⟩) (fun i _ => rfl) (by omega) ?_⟩
            intro v9 w9 ov9 k9
            have n9 := k9.size
            have mn9 := mn8.same (k9.block _ (by omega))
            refine hK _ _ ?_
            clear hK K
            refine m_mv rfl (wanted_rd rfl) (run_assign _ rfl (ev_in rfl (by omega)) _) ?_
            refine l_finB ?_
            refine c_region ?_
            refine m_mv rfl (wanted_rd rfl) (run_move _ rfl (ev_out rfl b14) _) ?_
            refine m_mv rfl (wanted_rd rfl) (run_addI _ _ rfl (ev_in rfl (by omega)) (ev_const _ _) (by omega) (by omega) _) ?_
            refine m_mv rfl (wanted_rd rfl) (run_assign _ rfl (ev_in rfl (by omega)) _) ?_
            exact l_round ⟨4 - (i + 1), by omega, i + 1, _, by omega, by omega, (szL _ _).trans hs, (defL _ _).trans hd, (ev_out rfl b1), (ev_out rfl b2), (ev_out rfl b4), (ev_out rfl b5), (ev_out rfl b6), (ev_in rfl (by omega)), (ev_in rfl (by omega)).trans (by rw [Int.natCast_add]; rfl), mn9, by rw [(tk_take (T := fun j => tldN n (L.map Lm.m) j k many) (by omega) (by omega) (tld_none hfl)), List.length_append, List.map_append]; exact ov9, (((kB.trans (k7.mono (by omega))).trans (k8.mono (by omega))).trans (k9.mono (by omega))), by omega⟩
          · obtain ⟨cmem, cfit⟩ := fL_mem hfl
            have clen := fit_len cfit
            obtain ⟨ca, cmy, hy⟩ : ∃ y, cm.ao = some y ∧ ∀ W', Below w.heap.size w W' → ∀ i, i < cm.m.L.length → W'.cell? (y.add i) = some (.int .i64 (gL cm.m.L i)) := by
              obtain ⟨y, e, _⟩ := (hmr.2 cm cmem).at (by omega)
              refine ⟨y, e, fun W' k => ?_⟩
              obtain ⟨y', e', hy'⟩ := ((hmr.2 cm cmem).below k).at (by omega)
              rw [e] at e'; cases e'
              exact hy'
            obtain ⟨mm, mo2, mc2⟩ := cm
            dsimp only at cmy hy clen
            subst cmy
            have hl0 : k < mm.L.length := by omega
            refine c_nx ?_
            refine c_rs (m_start ?_)
            refine m_mv rfl (wanted_rd rfl) (run_move _ rfl (ev_out rfl b14) _) ?_
            refine m_mv rfl (wanted_rd rfl) (run_lssI (b := true) _ _ rfl (ev_in rfl (by omega)) (ev_const _ _) (decide_eq_true (by omega)) _) ?_
            refine l_nx ?_
            refine c_true (ev_in rfl (by omega)) (c_fin ?_)
            refine c_nx (c_block ?_)
            refine c_nx ?_
            refine c_rs ?_
            refine m_mv rfl (wanted_rd rfl) (run_move _ rfl (ev_out rfl b14) _) ?_
            refine m_mv rfl (wanted_rd rfl) (fldNd0 rfl (ev_out rfl b6) _) ?_
            refine m_mv rfl (wanted_rd rfl) (run_lod1 _ _ rfl oneI (ev_in rfl (by omega)) mn (by decide) rfl) ?_
            refine m_mv rfl (wanted_rd rfl) (run_eqlI (b := false) _ _ rfl (ev_in rfl (by omega)) (ev_in rfl (by omega)) (decide_eq_false hci) _) ?_
            refine m_mv rfl (wanted_rd rfl) (run_move _ rfl (ev_in rfl (by omega)) _) ?_
            refine m_mv rfl (wanted_g (j := 4) rfl rfl rfl (ev_in rfl (by omega))) (run_move _ rfl (ev_out rfl b14) _) ?_
            refine m_mv rfl (wanted_g (j := 4) rfl rfl rfl (ev_in rfl (by omega))) (run_move _ rfl (ev_out rfl b2) _) ?_
            refine m_mv rfl (wanted_g (j := 4) rfl rfl rfl (ev_in rfl (by omega))) (run_eqlI (b := false) _ _ rfl (ev_in rfl (by omega)) (ev_in rfl (by omega)) (decide_eq_false hcs) _) ?_
            refine m_mv rfl (wanted_rd rfl) (run_pickF _ _ _ rfl (ev_in rfl (by omega)) (ev_in rfl (by omega)) _) ?_
            refine l_nx ?_
            refine c_false (ev_in rfl (by omega)) (c_fin ?_)
            refine c_rs ?_
            refine m_mv rfl (wanted_rd rfl) (run_loadP _ _ rfl manyNd (ev_out rfl b6) mn (by decide)) ?_
            refine m_mv rfl (wanted_rd rfl) (run_move _ rfl (ev_out rfl b1) _) ?_
            refine m_mv rfl (wanted_rd rfl) (run_move _ rfl (ev_out rfl b14) _) ?_
            refine m_mv rfl (wanted_rd rfl) (run_move _ rfl (ev_out rfl b5) _) ?_
            refine m_do rfl (wanted_rd rfl) (fun K hK => ?_)
            have C1 : Calls Try.prog 36 #[ndV n nv, .slice mo L.length mc, .int .i64 (i : Int), .int .i64 2, .int .i64 (many : Int)] W fun e w' => e = .returned (fstV (fL n.id n.fr L (i : Int) 2 (many : Int))) ∧ Below W.heap.size W w' := refFirst_any n _ mo mc L (i : Int) 2 (many : Int) _ (hmr.below kB) hN
            rw [hfl] at C1
            refine wp_call5 _ 36 _ _ _ _ _ _ rfl (ev_in rfl (by omega)) (ev_in rfl (by omega)) (ev_in rfl (by omega)) (ev_const _ _) (ev_in rfl (by omega)) (enter_first _ _ _ _ _ _) C1 ?_
            rintro e w7 ⟨rfl, k7⟩
            have n7 := k7.size
            have mn7 := mn.below k7
            have ow7 := rw_below ow k7
            refine ⟨_, rfl, ?_⟩
            refine hK _ _ ?_
            clear hK K
            refine m_mv rfl (wanted_rd rfl) (run_move _ rfl (ev_in rfl (by omega)) _) ?_
            refine m_mv rfl (wanted_rd rfl) (run_extA _ rfl (ev_in rfl (by omega)) _) ?_
            refine m_mv rfl (wanted_rd rfl) (run_extB _ rfl (ev_in rfl (by omega)) _) ?_
            refine m_mv rfl (wanted_rd rfl) (run_assign _ rfl (ev_in rfl (by omega)) _) ?_
            refine m_mv rfl (wanted_rd rfl) (run_assign _ rfl (ev_in rfl (by omega)) _) ?_
            refine l_nx ?_
            refine c_rs ?_
            refine m_mv rfl (wanted_rd rfl) (run_move _ rfl (ev_in rfl (by omega)) _) ?_
            refine l_nx ?_
            refine c_true (ev_in rfl (by omega)) ?_
            refine c_region ?_
            refine m_mv rfl (wanted_rd rfl) (run_move _ rfl (ev_out rfl b13) _) ?_
            refine m_mv rfl (wanted_rd rfl) (run_move _ rfl (ev_in rfl (by omega)) _) ?_
            refine m_mv rfl (wanted_rd rfl) (run_move _ rfl (ev_out rfl b4) _) ?_
            refine m_mv rfl (wanted_rd rfl) (run_ixN _ _ rfl (a := ca) (n := mm.L.length) (cap := mc2) (ev_in rfl (by omega)) (ev_in rfl (by omega)) (i := k) rfl hl0 _) ?_
            refine m_mv rfl (wanted_rd rfl) (run_ldI _ rfl (ev_in rfl (by omega)) (hy _ (kB.trans (k7.mono (by omega))) k hl0)) ?_
            refine m_do rfl (wanted_rd rfl) (fun K hK => ?_)
            refine wp_row1 _ _ rfl (ev_in rfl (by omega)) ?_
            intro w8 m8 k8 z8
            have mn8 := mn7.below k8
            have ow8 := rw_below ow7 k8
            refine hK _ _ ?_
            clear hK K
            refine m_do rfl (wanted_rd rfl) (fun K hK => ?_)
            refine ⟨wp_joinI _ _ _ rfl w1.heap.size (by omega) v _ _ (ev_in rfl (by omega)) ow8 _ 1 1 _ (ev_in rfl (by omega)) (Or.inr ⟨_, rfl, fun i hi => by rw [add_at, Nat.zero_add]; exact m8.cell hi⟩) (fun i _ => rfl) (by omega) ?_⟩
            intro v9 w9 ov9 k9
            have n9 := k9.size
            have mn9 := mn8.same (k9.block _ (by omega))
            refine hK _ _ ?_
            clear hK K
            refine m_mv rfl (wanted_rd rfl) (run_assign _ rfl (ev_in rfl (by omega)) _) ?_
            refine l_finB ?_
            refine c_region ?_
            refine m_mv rfl (wanted_rd rfl) (run_move _ rfl (ev_out rfl b14) _) ?_
            refine m_mv rfl (wanted_rd rfl) (run_addI _ _ rfl (ev_in rfl (by omega)) (ev_const _ _) (by omega) (by omega) _) ?_
            refine m_mv rfl (wanted_rd rfl) (run_assign _ rfl (ev_in rfl (by omega)) _) ?_
            exact l_round ⟨4 - (i + 1), by omega, i + 1, _, by omega, by omega, (szL _ _).trans hs, (defL _ _).trans hd, (ev_out rfl b1), (ev_out rfl b2), (ev_out rfl b4), (ev_out rfl b5), (ev_out rfl b6), (ev_in rfl (by omega)), (ev_in rfl (by omega)).trans (by rw [Int.natCast_add]; rfl), mn9, by rw [(tk_take (T := fun j => tldN n (L.map Lm.m) j k many) (by omega) (by omega) (tld_some hfl)), List.length_append, List.map_append]; exact ov9, (((kB.trans (k7.mono (by omega))).trans (k8.mono (by omega))).trans (k9.mono (by omega))), by omega⟩
    · refine c_nx ?_
      refine c_rs (m_start ?_)
      refine m_mv rfl (wanted_rd rfl) (run_move _ rfl (ev_out rfl b14) _) ?_
      refine m_mv rfl (wanted_rd rfl) (run_lssI (b := false) _ _ rfl (ev_in rfl (by omega)) (ev_const _ _) (decide_eq_false (by omega)) _) ?_
      refine l_nx ?_
      refine c_false (ev_in rfl (by omega)) (c_exit (x_out ?_))
      refine c_rs ?_
      obtain rfl : i = 4 := by omega
      rw [tk_four (T := fun j => tldN n (L.map Lm.m) j k many) hI4 hs4 (by omega)] at ow
      obtain ⟨ao, cap, rfl, hcap⟩ := rw_slice ow
      refine m_mv rfl (wanted_rd rfl) (run_move _ rfl (ev_out rfl b13) _) ?_
      refine m_do rfl (wanted_rd rfl) (fun K hK => ?_)
      refine wp_call2 _ 53 _ _ _ rfl (ev_in rfl (by omega)) (ev_const _ _) (enter_major _ _ _) (refMajority_rd ao 3 cap (gL [h, tldN n (L.map Lm.m) (o1 I s) k many, tldN n (L.map Lm.m) (o2 I s) k many]) 0 _ (by omega) (owns_rd ow)) ?_
      rintro e w' ⟨m, hm, rfl, rfl⟩
      have em := maj_one hm (dc3_maj _)
      refine ⟨_, rfl, ?_⟩
      refine hK _ _ ?_
      clear hK K
      refine m_mv rfl (wanted_rd rfl) (run_assign _ rfl (ev_in rfl (by omega)) _) ?_
      refine l_nx ?_
      refine c_ret ?_
      refine ret_of ((defL _ _).trans hd) (res_t rfl (ev_in rfl (by omega))) ⟨by unfold tkn; rw [if_neg hsi, em, hI]; rfl, kB⟩

end Go.Proofs.Ytngmeaaglogieaa
