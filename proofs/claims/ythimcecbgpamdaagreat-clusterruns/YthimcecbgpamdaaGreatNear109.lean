/- Joined: NodPr9, NodPr11. -/
import Derived.Test.YthimcecbgpamdaaGreatNear160
import Derived.Test.YthimcecbgpamdaaGreatNear151
import Derived.Test.YthimcecbgpamdaaGreatNear141
import Derived.Test.YthimcecbgpamdaaGreatNear90
import Derived.Test.YthimcecbgpamdaaGreatNear24
import Derived.Test.YthimcecbgpamdaaGreatNear148
namespace Go.Proofs.YthimcecbgpamdaaGreat
open Go.RowKit

theorem enter_adecide (x y z : Value) (w : World) : (callFunc 121 #[x, y, z]).run Tryz.prog w = .ok (.enter 121 #[x, y, z]) w := by go_simp
theorem enter_hat (x y z : Value) (w : World) : (callFunc 120 #[x, y, z]).run Tryz.prog w = .ok (.enter 120 #[x, y, z]) w := by go_simp
theorem enter_htaken (x y z u v : Value) (w : World) : (callFunc 94 #[x, y, z, u, v]).run Tryz.prog w = .ok (.enter 94 #[x, y, z, u, v]) w := by go_simp
theorem heardAt_any (n : Nd) (mo : Option Addr) (L : List Lm) (many i k : Nat) (w : World) (hmr : MRd w mo L) (hi4 : i < 4) (hk : k < many) :
    Calls Tryz.prog 120 #[agV (hrO n.id n.fr L 2 (many : Int)) 0 4, .int .i64 (i : Int), .int .i64 (k : Int)] w fun e w' => e = .returned (.int .i64 (tldN n (L.map Lm.m) i k many)) ∧ Below w.heap.size w w' := by
  refine enterF Tryz.func120 rfl 18 rfl (of_decide_eq_true rfl) (fun A hs hd hb => ?_)
  have b0 := hb 0 _ rfl
  have b1 := hb 1 _ rfl
  have b2 := hb 2 _ rfl
  clear hb
  rcases hfl : fL n.id n.fr L (i : Int) 2 (many : Int) with _ | cm
  · have hho : hrO n.id n.fr L 2 (many : Int) (0 + i * 1) = .slice none 0 0 := by unfold hrO; rw [Nat.zero_add, Nat.mul_one, hfl]
    refine c_rs (m_start ?_)
    refine m_do rfl (wanted_rd rfl) (fun K hK => ?_)
    refine wp_boxG _ _ _ rfl (ev_out rfl b0) (of_decide_eq_true rfl) ?_
    intro w1 m1 k1 z1
    refine hK _ _ ?_
    clear hK K
    refine m_mv rfl (wanted_rd rfl) (run_assign _ rfl (ev_const _ _) _) ?_
    refine l_nx ?_
    refine c_nx ?_
    refine c_rs ?_
    refine m_mv rfl (wanted_rd rfl) (run_move _ rfl (ev_out rfl b1) _) ?_
    refine m_mv rfl (wanted_rd rfl) (run_ixG _ _ _ _ rfl Tryz.underlying120 oneIs.size (ev_in rfl (by omega)) (ev_in rfl (by omega)) rfl hi4 _) ?_
    refine m_mv rfl (wanted_rd rfl) (run_lod1 _ _ rfl oneIs (ev_in rfl (by omega)) m1 (by omega) hho) ?_
    refine m_mv rfl (wanted_rd rfl) (run_lenI _ rfl (ev_in rfl (by omega)) _) ?_
    refine m_mv rfl (wanted_rd rfl) (run_eqlI (b := true) _ _ rfl (ev_in rfl (by omega)) (ev_const _ _) (decide_eq_true (by omega)) _) ?_
    refine l_nx ?_
    refine c_true (ev_in rfl (by omega)) ?_
    refine c_rs ?_
    refine m_mv rfl (wanted_rd rfl) (run_assign _ rfl (ev_const _ _) _) ?_
    refine l_nx ?_
    refine c_ret ?_
    simp only [Nx, Exit.then]
    exact ret_of ((defL _ _).trans hd) (res_t rfl (ev_in rfl (by omega))) ⟨by rw [tld_none hfl], k1⟩
  · have hho0 : hrO n.id n.fr L 2 (many : Int) (0 + i * 1) = lmV cm := by unfold hrO; rw [Nat.zero_add, Nat.mul_one, hfl]
    obtain ⟨cmem, cfit⟩ := fL_mem hfl
    have clen := fit_len cfit
    obtain ⟨ca, cmy, hy⟩ : ∃ y, cm.ao = some y ∧ ∀ W', Below w.heap.size w W' → ∀ i, i < cm.m.L.length → W'.cell? (y.add i) = some (.int .i64 (gL cm.m.L i)) := by
      obtain ⟨y, e, _⟩ := (hmr.2 cm cmem).at (by omega)
      refine ⟨y, e, fun W' k => ?_⟩
      obtain ⟨y', e', hy'⟩ := ((hmr.2 cm cmem).below k).at (by omega)
      rw [e] at e'; cases e'
      exact hy'
    obtain ⟨mm, mo2, mc2⟩ := cm
    dsimp only at cmy hy clen
    subst cmy
    have hho : hrO n.id n.fr L 2 (many : Int) (0 + i * 1) = .slice (some ca) mm.L.length mc2 := hho0
    refine c_rs (m_start ?_)
    refine m_do rfl (wanted_rd rfl) (fun K hK => ?_)
    refine wp_boxG _ _ _ rfl (ev_out rfl b0) (of_decide_eq_true rfl) ?_
    intro w1 m1 k1 z1
    refine hK _ _ ?_
    clear hK K
    refine m_mv rfl (wanted_rd rfl) (run_assign _ rfl (ev_const _ _) _) ?_
    refine l_nx ?_
    refine c_nx ?_
    refine c_rs ?_
    refine m_mv rfl (wanted_rd rfl) (run_move _ rfl (ev_out rfl b1) _) ?_
    refine m_mv rfl (wanted_rd rfl) (run_ixG _ _ _ _ rfl Tryz.underlying120 oneIs.size (ev_in rfl (by omega)) (ev_in rfl (by omega)) rfl hi4 _) ?_
    refine m_mv rfl (wanted_rd rfl) (run_lod1 _ _ rfl oneIs (ev_in rfl (by omega)) m1 (by omega) hho) ?_
    refine m_mv rfl (wanted_rd rfl) (run_lenI _ rfl (ev_in rfl (by omega)) _) ?_
    refine m_mv rfl (wanted_rd rfl) (run_eqlI (b := false) _ _ rfl (ev_in rfl (by omega)) (ev_const _ _) (decide_eq_false (by omega)) _) ?_
    refine l_nx ?_
    refine c_false (ev_in rfl (by omega)) (c_fin ?_)
    refine c_rs ?_
    refine m_mv rfl (wanted_rd rfl) (run_move _ rfl (ev_out rfl b1) _) ?_
    refine m_mv rfl (wanted_rd rfl) (run_ixG _ _ _ _ rfl Tryz.underlying120 oneIs.size (ev_in rfl (by omega)) (ev_in rfl (by omega)) rfl hi4 _) ?_
    refine m_mv rfl (wanted_rd rfl) (run_lod1 _ _ rfl oneIs (ev_in rfl (by omega)) m1 (by omega) hho) ?_
    refine m_mv rfl (wanted_rd rfl) (run_move _ rfl (ev_out rfl b2) _) ?_
    refine m_mv rfl (wanted_rd rfl) (run_ixN _ _ rfl (a := ca) (n := mm.L.length) (cap := mc2) (ev_in rfl (by omega)) (ev_in rfl (by omega)) (i := k) rfl (by omega) _) ?_
    refine m_mv rfl (wanted_rd rfl) (run_ldI _ rfl (ev_in rfl (by omega)) (hy _ k1 k (by omega))) ?_
    refine m_mv rfl (wanted_rd rfl) (run_assign _ rfl (ev_in rfl (by omega)) _) ?_
    refine l_nx ?_
    refine c_ret ?_
    exact ret_of ((defL _ _).trans hd) (res_t rfl (ev_in rfl (by omega))) ⟨by rw [tld_some hfl], k1⟩
/-- What the others tell, behind the first i nodes. -/
def tl2 (I s : Nat) (T : Nat → Int) : Nat → List Int
  | 0 => []
  | i + 1 => tl2 I s T i ++ if i = I ∨ i = s then [] else [T i]
theorem tl2_len (I s : Nat) (T : Nat → Int) (i : Nat) : (tl2 I s T i).length ≤ i := by
  induction i with
  | zero => exact Nat.le_refl 0
  | succ i ih =>
    show (tl2 I s T i ++ _).length ≤ _
    rw [List.length_append]
    split
    · show _ + 0 ≤ _; omega
    · show _ + 1 ≤ _; omega
theorem tl2_skip {I s i : Nat} {T : Nat → Int} (e : i = I ∨ i = s) : tl2 I s T (i + 1) = tl2 I s T i := by
  show tl2 I s T i ++ _ = _
  rw [if_pos e, List.append_nil]
theorem tl2_take {I s i : Nat} {T : Nat → Int} (e1 : i ≠ I) (e2 : i ≠ s) : tl2 I s T (i + 1) = tl2 I s T i ++ [T i] := by
  show tl2 I s T i ++ _ = _
  rw [if_neg (fun c => c.elim e1 e2)]
theorem tl2_four {I s : Nat} {T : Nat → Int} (hI : I < 4) (hs : s < 4) (e : I ≠ s) : tl2 I s T 4 = [T (o1 I s), T (o2 I s)] := by
  have : I = 0 ∨ I = 1 ∨ I = 2 ∨ I = 3 := by omega
  have : s = 0 ∨ s = 1 ∨ s = 2 ∨ s = 3 := by omega
  rcases ‹I = 0 ∨ _› with rfl | rfl | rfl | rfl <;> rcases ‹s = 0 ∨ _› with rfl | rfl | rfl | rfl <;> first | (exact absurd rfl e) | rfl
theorem rw_sr2 {w : World} {B n c : Nat} {a : Option Addr} {g : Nat → Value} {t : TypeId} (h : w.ownsRow B t 1 (.slice a n c) n (rowV g n)) : Sr w a n c g := by
  obtain ⟨ao, cap, e, hs, _⟩ := owns_sr h
  cases e
  exact hs
set_option maxHeartbeats 2000000 in
theorem heardTaken_any (n : Nd) (mo : Option Addr) (L : List Lm) (I s : Nat) (h : Int) (k many : Nat) (w : World) (hI : n.id = (I : Int)) (hI4 : I < 4) (hs4 : s < 4) (hk : k < many) (hh : R64 h) (hmr : MRd w mo L) (hRL : ∀ m, m ∈ L → ∀ i, R64 (gL m.m.L i)) :
    Calls Tryz.prog 94 #[agV (hrO n.id n.fr L 2 (many : Int)) 0 4, .int .i64 n.id, .int .i64 (s : Int), .int .i64 h, .int .i64 (k : Int)] w fun e w' => e = .returned (.int .i64 (tkn n (L.map Lm.m) s h k many)) ∧ Below w.heap.size w w' := by
  refine enterF Tryz.func94 rfl 44 rfl (of_decide_eq_true rfl) (fun A hs hd hb => ?_)
  have b0 := hb 0 _ rfl
  have b1 := hb 1 _ rfl
  have b2 := hb 2 _ rfl
  have b3 := hb 3 _ rfl
  have b4 := hb 4 _ rfl
  clear hb
  refine c_rs (m_start ?_)
  refine m_do rfl (wanted_rd rfl) (fun K hK => ?_)
  refine wp_boxG _ _ _ rfl (ev_out rfl b0) (of_decide_eq_true rfl) ?_
  intro w1 m1 k1 z1
  refine hK _ _ ?_
  clear hK K
  refine m_mv rfl (wanted_rd rfl) (run_assign _ rfl (ev_const _ _) _) ?_
  refine l_nx ?_
  refine c_nx ?_
  refine c_rs ?_
  by_cases hs0 : (s : Int) = n.id
  · refine m_mv rfl (wanted_rd rfl) (run_move _ rfl (ev_out rfl b2) _) ?_
    refine m_mv rfl (wanted_rd rfl) (run_move _ rfl (ev_out rfl b1) _) ?_
    refine m_mv rfl (wanted_rd rfl) (run_eqlI (b := true) _ _ rfl (ev_in rfl (by omega)) (ev_in rfl (by omega)) (decide_eq_true hs0) _) ?_
    refine l_nx ?_
    refine c_true (ev_in rfl (by omega)) ?_
    refine c_rs ?_
    refine m_mv rfl (wanted_rd rfl) (run_move _ rfl (ev_out rfl b3) _) ?_
    refine m_mv rfl (wanted_rd rfl) (run_assign _ rfl (ev_in rfl (by omega)) _) ?_
    refine l_nx ?_
    refine c_ret ?_
    simp only [Nx, Exit.then]
    refine ret_of ((defL _ _).trans hd) (res_t rfl (ev_in rfl (by omega))) ⟨?_, k1⟩
    unfold tkn
    rw [if_pos hs0]
    rfl
  · refine m_mv rfl (wanted_rd rfl) (run_move _ rfl (ev_out rfl b2) _) ?_
    refine m_mv rfl (wanted_rd rfl) (run_move _ rfl (ev_out rfl b1) _) ?_
    refine m_mv rfl (wanted_rd rfl) (run_eqlI (b := false) _ _ rfl (ev_in rfl (by omega)) (ev_in rfl (by omega)) (decide_eq_false hs0) _) ?_
    refine l_nx ?_
    refine c_false (ev_in rfl (by omega)) (c_fin ?_)
    refine c_rs ?_
    refine m_mv rfl (wanted_rd rfl) (run_assign _ rfl (ev_const _ _) _) ?_
    refine l_nx ?_
    refine c_nx ?_
    refine c_rs ?_
    refine m_mv rfl (wanted_rd rfl) (run_move _ rfl (ev_const _ _) _) ?_
    refine l_nx ?_
    refine c_block ?_
    refine c_loop (fun q a W => ∃ (i : Nat) (v : Value), i ≤ 4 ∧ 4 - i ≤ q ∧ a.tmps.size = 44 ∧ a.defers = [] ∧ a.eval (.tmp 1) = .int .i64 n.id ∧ a.eval (.tmp 2) = .int .i64 (s : Int) ∧ a.eval (.tmp 3) = .int .i64 h ∧ a.eval (.tmp 4) = .int .i64 (k : Int) ∧ a.eval (.tmp 5) = .pointer (some ⟨w.heap.size, 0, none⟩) ∧ a.eval (.tmp 17) = .int .i64 (i : Int) ∧ a.eval (.tmp 11) = v ∧ Vh 120 W w.heap.size 4 4 (hrO n.id n.fr L 2 (many : Int)) ∧ W.ownsRow w1.heap.size 3 1 v (tl2 I s (fun i => tldN n (L.map Lm.m) i k many) i).length ((tl2 I s (fun i => tldN n (L.map Lm.m) i k many) i).map iV) ∧ Below w.heap.size w W ∧ w1.heap.size ≤ W.heap.size) 4 ⟨0, _, by omega, by omega, (szL _ _).trans hs, (defL _ _).trans hd, (ev_out rfl b1), (ev_out rfl b2), (ev_out rfl b3), (ev_out rfl b4), (ev_in rfl (by omega)), (ev_in rfl (by omega)), (ev_in rfl (by omega)), m1, World.ownsRow_nil _ _ _ _, k1, by omega⟩ (fun q B W hI => ?_)
    clear b0 b1 b2 b3 b4 hs hd
    obtain ⟨i, v, hi, hr2, hs, hd, b1, b2, b3, b4, b5, b17, b11, mh, ov, kB, hW⟩ := hI
    have hlen := tl2_len I s (fun i => tldN n (L.map Lm.m) i k many) i
    by_cases hin : i < 4
    · by_cases e1 : i = I
      · refine c_rs (m_start ?_)
        refine m_mv rfl (wanted_rd rfl) (run_lssI (b := true) _ _ rfl (ev_out rfl b17) (ev_const _ _) (decide_eq_true (by omega)) _) ?_
        refine l_nx ?_
        refine c_nx (c_true (ev_in rfl (by omega)) (c_fin ?_))
        refine c_nx (c_block ?_)
        refine c_rs ?_
        refine m_mv rfl (wanted_rd rfl) (run_move _ rfl (ev_out rfl b17) _) ?_
        refine m_mv rfl (wanted_rd rfl) (run_assign _ rfl (ev_in rfl (by omega)) _) ?_
        refine l_nx ?_
        refine c_rs ?_
        refine m_mv rfl (wanted_rd rfl) (run_move _ rfl (ev_in rfl (by omega)) _) ?_
        refine m_mv rfl (wanted_rd rfl) (run_move _ rfl (ev_out rfl b1) _) ?_
        refine m_mv rfl (wanted_rd rfl) (run_neqI (b := false) _ _ rfl (ev_in rfl (by omega)) (ev_in rfl (by omega)) (decide_eq_false (by omega)) _) ?_
        refine m_mv rfl (wanted_rd rfl) (run_move _ rfl (ev_in rfl (by omega)) _) ?_
        refine m_skip rfl (wanted_n (j := 3) rfl rfl rfl (ev_in rfl (by omega)) (by decide)) ?_
        refine m_skip rfl (wanted_n (j := 3) rfl rfl rfl (ev_in rfl (by omega)) (by decide)) ?_
        refine m_skip rfl (wanted_n (j := 3) rfl rfl rfl (ev_in rfl (by omega)) (by decide)) ?_
        refine m_mv rfl (wanted_rd rfl) (run_pickF _ _ _ rfl (ev_in rfl (by omega)) (ev_const _ _) _) ?_
        refine l_nx ?_
        refine c_false (ev_in rfl (by omega)) (c_finB ?_)
        refine c_region ?_
        refine m_mv rfl (wanted_rd rfl) (run_addI _ _ rfl (ev_out rfl b17) (ev_const _ _) (by omega) (by omega) _) ?_
        refine m_mv rfl (wanted_rd rfl) (run_move _ rfl (ev_in rfl (by omega)) _) ?_
        exact l_round ⟨4 - (i + 1), by omega, i + 1, _, by omega, by omega, (szL _ _).trans hs, (defL _ _).trans hd, (ev_out rfl b1), (ev_out rfl b2), (ev_out rfl b3), (ev_out rfl b4), (ev_out rfl b5), (ev_in rfl (by omega)).trans (by rw [Int.natCast_add]; rfl), (ev_out rfl b11), mh, by rw [tl2_skip (by omega)]; exact ov, kB, by omega⟩
      · by_cases e2 : i = s
        · refine c_rs (m_start ?_)
          refine m_mv rfl (wanted_rd rfl) (run_lssI (b := true) _ _ rfl (ev_out rfl b17) (ev_const _ _) (decide_eq_true (by omega)) _) ?_
          refine l_nx ?_
          refine c_nx (c_true (ev_in rfl (by omega)) (c_fin ?_))
          refine c_nx (c_block ?_)
          refine c_rs ?_
          refine m_mv rfl (wanted_rd rfl) (run_move _ rfl (ev_out rfl b17) _) ?_
          refine m_mv rfl (wanted_rd rfl) (run_assign _ rfl (ev_in rfl (by omega)) _) ?_
          refine l_nx ?_
          refine c_rs ?_
          refine m_mv rfl (wanted_rd rfl) (run_move _ rfl (ev_in rfl (by omega)) _) ?_
          refine m_mv rfl (wanted_rd rfl) (run_move _ rfl (ev_out rfl b1) _) ?_
          refine m_mv rfl (wanted_rd rfl) (run_neqI (b := true) _ _ rfl (ev_in rfl (by omega)) (ev_in rfl (by omega)) (decide_eq_true (by omega)) _) ?_
          refine m_mv rfl (wanted_rd rfl) (run_move _ rfl (ev_in rfl (by omega)) _) ?_
          refine m_mv rfl (wanted_g (j := 3) rfl rfl rfl (ev_in rfl (by omega))) (run_move _ rfl (ev_in rfl (by omega)) _) ?_
          refine m_mv rfl (wanted_g (j := 3) rfl rfl rfl (ev_in rfl (by omega))) (run_move _ rfl (ev_out rfl b2) _) ?_
          refine m_mv rfl (wanted_g (j := 3) rfl rfl rfl (ev_in rfl (by omega))) (run_neqI (b := false) _ _ rfl (ev_in rfl (by omega)) (ev_in rfl (by omega)) (decide_eq_false (by omega)) _) ?_
          refine m_mv rfl (wanted_rd rfl) (run_pickT' _ _ _ rfl (ev_in rfl (by omega)) (ev_in rfl (by omega)) _) ?_
          refine l_nx ?_
          refine c_false (ev_in rfl (by omega)) (c_finB ?_)
          refine c_region ?_
          refine m_mv rfl (wanted_rd rfl) (run_addI _ _ rfl (ev_out rfl b17) (ev_const _ _) (by omega) (by omega) _) ?_
          refine m_mv rfl (wanted_rd rfl) (run_move _ rfl (ev_in rfl (by omega)) _) ?_
          exact l_round ⟨4 - (i + 1), by omega, i + 1, _, by omega, by omega, (szL _ _).trans hs, (defL _ _).trans hd, (ev_out rfl b1), (ev_out rfl b2), (ev_out rfl b3), (ev_out rfl b4), (ev_out rfl b5), (ev_in rfl (by omega)).trans (by rw [Int.natCast_add]; rfl), (ev_out rfl b11), mh, by rw [tl2_skip (by omega)]; exact ov, kB, by omega⟩
        · refine c_rs (m_start ?_)
          refine m_mv rfl (wanted_rd rfl) (run_lssI (b := true) _ _ rfl (ev_out rfl b17) (ev_const _ _) (decide_eq_true (by omega)) _) ?_
          refine l_nx ?_
          refine c_nx (c_true (ev_in rfl (by omega)) (c_fin ?_))
          refine c_nx (c_block ?_)
          refine c_rs ?_
          refine m_mv rfl (wanted_rd rfl) (run_move _ rfl (ev_out rfl b17) _) ?_
          refine m_mv rfl (wanted_rd rfl) (run_assign _ rfl (ev_in rfl (by omega)) _) ?_
          refine l_nx ?_
          refine c_rs ?_
          refine m_mv rfl (wanted_rd rfl) (run_move _ rfl (ev_in rfl (by omega)) _) ?_
          refine m_mv rfl (wanted_rd rfl) (run_move _ rfl (ev_out rfl b1) _) ?_
          refine m_mv rfl (wanted_rd rfl) (run_neqI (b := true) _ _ rfl (ev_in rfl (by omega)) (ev_in rfl (by omega)) (decide_eq_true (by omega)) _) ?_
          refine m_mv rfl (wanted_rd rfl) (run_move _ rfl (ev_in rfl (by omega)) _) ?_
          refine m_mv rfl (wanted_g (j := 3) rfl rfl rfl (ev_in rfl (by omega))) (run_move _ rfl (ev_in rfl (by omega)) _) ?_
          refine m_mv rfl (wanted_g (j := 3) rfl rfl rfl (ev_in rfl (by omega))) (run_move _ rfl (ev_out rfl b2) _) ?_
          refine m_mv rfl (wanted_g (j := 3) rfl rfl rfl (ev_in rfl (by omega))) (run_neqI (b := true) _ _ rfl (ev_in rfl (by omega)) (ev_in rfl (by omega)) (decide_eq_true (by omega)) _) ?_
          refine m_mv rfl (wanted_rd rfl) (run_pickT' _ _ _ rfl (ev_in rfl (by omega)) (ev_in rfl (by omega)) _) ?_
          refine l_nx ?_
          refine c_true (ev_in rfl (by omega)) ?_
          refine c_region ?_
          refine m_mv rfl (wanted_rd rfl) (run_move _ rfl (ev_out rfl b11) _) ?_
          refine m_mv rfl (wanted_rd rfl) (run_loadP _ _ rfl manyHr (ev_out rfl b5) mh (by decide)) ?_
          refine m_mv rfl (wanted_rd rfl) (run_move _ rfl (ev_in rfl (by omega)) _) ?_
          refine m_mv rfl (wanted_rd rfl) (run_move _ rfl (ev_out rfl b4) _) ?_
          refine m_do rfl (wanted_rd rfl) (fun K hK => ?_)
          refine wp_call3n _ 120 _ _ _ _ rfl (ev_in rfl (by omega)) (ev_in rfl (by omega)) (ev_in rfl (by omega)) (enter_hat _ _ _ _) (heardAt_any n mo L many i k _ (hmr.below kB) hin hk) ?_
          rintro e w11 ⟨rfl, k11⟩
          have n11 := k11.size
          have mh11 := mh.below k11
          have ov11 := rw_below ov k11
          refine ⟨_, rfl, ?_⟩
          refine hK _ _ ?_
          clear hK K
          refine m_do rfl (wanted_rd rfl) (fun K hK => ?_)
          refine wp_row1 _ _ rfl (ev_in rfl (by omega)) ?_
          intro w12 m12 k12 z12
          have mh12 := mh11.below k12
          have ov12 := rw_below ov11 k12
          refine hK _ _ ?_
          clear hK K
          refine m_do rfl (wanted_rd rfl) (fun K hK => ?_)
          refine ⟨wp_joinI _ _ _ rfl w1.heap.size (by omega) v _ _ (ev_in rfl (by omega)) ov12 _ 1 1 _ (ev_in rfl (by omega)) (Or.inr ⟨_, rfl, fun i hi => by rw [add_at, Nat.zero_add]; exact m12.cell hi⟩) (fun i _ => rfl) (by omega) ?_⟩
          intro v13 w13 ov13 k13
          have n13 := k13.size
          have mh13 := mh12.same (k13.block _ (by omega))
          refine hK _ _ ?_
          clear hK K
          refine m_mv rfl (wanted_rd rfl) (run_assign _ rfl (ev_in rfl (by omega)) _) ?_
          refine l_finB ?_
          refine c_region ?_
          refine m_mv rfl (wanted_rd rfl) (run_addI _ _ rfl (ev_out rfl b17) (ev_const _ _) (by omega) (by omega) _) ?_
          refine m_mv rfl (wanted_rd rfl) (run_move _ rfl (ev_in rfl (by omega)) _) ?_
          exact l_round ⟨4 - (i + 1), by omega, i + 1, _, by omega, by omega, (szL _ _).trans hs, (defL _ _).trans hd, (ev_out rfl b1), (ev_out rfl b2), (ev_out rfl b3), (ev_out rfl b4), (ev_out rfl b5), (ev_in rfl (by omega)).trans (by rw [Int.natCast_add]; rfl), (ev_in rfl (by omega)), mh13, by rw [tl2_take (by omega) (by omega), List.length_append, List.map_append]; exact ov13, ((kB.trans (k11.mono (by omega))).trans (k12.mono (by omega))).trans (k13.mono (by omega)), by omega⟩
    · refine c_rs (m_start ?_)
      refine m_mv rfl (wanted_rd rfl) (run_lssI (b := false) _ _ rfl (ev_out rfl b17) (ev_const _ _) (decide_eq_false (by omega)) _) ?_
      obtain rfl : i = 4 := by omega
      refine l_nx ?_
      refine c_nx (c_false (ev_in rfl (by omega)) (c_exit (x_out ?_)))
      refine c_nx ?_
      have et := tl2_four (T := (fun i => tldN n (L.map Lm.m) i k many)) hI4 hs4 (show I ≠ s by omega)
      rw [et, gL_map] at ov
      obtain ⟨ta, tc, rfl, htc⟩ := rw_slice ov
      obtain ⟨y, rfl, hy⟩ : ∃ y, ta = some y ∧ ∀ i, i < 2 → W.cell? (y.add i) = some (.int .i64 (gL [tldN n (L.map Lm.m) (o1 I s) k many, tldN n (L.map Lm.m) (o2 I s) k many] i)) := by
        rcases rw_sr2 ov with ⟨_, e, _⟩ | ⟨y, e, hc⟩
        · exact absurd (show (2 : Nat) = 0 from e) (by decide)
        · exact ⟨y, e, fun i hi => hc i hi⟩
      have hS0 : (fun Z => ∀ i, i < 2 → Z.cell? (y.add i) = some (.int .i64 (gL [tldN n (L.map Lm.m) (o1 I s) k many, tldN n (L.map Lm.m) (o2 I s) k many] i))) W.drew := hy
      have ez : W.drew.heap.size = W.heap.size := rfl
      refine c_rj (S := fun Z => ∀ i, i < 2 → Z.cell? (y.add i) = some (.int .i64 (gL [tldN n (L.map Lm.m) (o1 I s) k many, tldN n (L.map Lm.m) (o2 I s) k many] i))) (.mv 0 (.mv 1 (.mv 2 (.rd 3 (.mv 4 (.mv 5 (.rd 6 (.go 7 (.mv 8 .fin))))))))) [7] (by kernel_rfl) (by kernel_rfl) ?_
      refine j_mv rfl rfl (fun _ _ _ h => h) (wanted_rd rfl) (fun _ => run_move _ rfl (ev_out rfl b3) _) ?_
      refine j_mv rfl rfl (fun _ _ _ h => h) (wanted_rd rfl) (fun _ => run_move _ rfl (ev_out rfl b11) _) ?_
      refine j_mv rfl rfl (fun _ _ _ h => h) (wanted_rd rfl) (fun _ => run_ixN _ _ rfl (a := y) (n := 2) (cap := tc) (ev_in rfl (by omega)) (ev_const _ _) (i := 0) rfl (by decide) _) ?_
      refine j_rd rfl rfl (fun _ _ _ h => h) (wanted_rd rfl) hS0 (fun _ hS => run_ldI _ rfl (ev_in rfl (by omega)) (hS 0 (by decide))) ?_
      refine j_mv rfl rfl (fun _ _ _ h => h) (wanted_rd rfl) (fun _ => run_move _ rfl (ev_out rfl b11) _) ?_
      refine j_mv rfl rfl (fun _ _ _ h => h) (wanted_rd rfl) (fun _ => run_ixN _ _ rfl (a := y) (n := 2) (cap := tc) (ev_in rfl (by omega)) (ev_const _ _) (i := 1) rfl (by decide) _) ?_
      refine j_rd rfl rfl (fun _ _ _ h => h) (wanted_rd rfl) hS0 (fun _ hS => run_ldI _ rfl (ev_in rfl (by omega)) (hS 1 (by decide))) ?_
      refine j_do rfl rfl (wanted_rd rfl) (fun K hK => ?_)
      refine wp_call3n _ 121 _ _ _ _ rfl (ev_in rfl (by omega)) (ev_in rfl (by omega)) (ev_in rfl (by omega)) (enter_adecide _ _ _ _) (agreeDecide_ok h (tldN n (L.map Lm.m) (o1 I s) k many) (tldN n (L.map Lm.m) (o2 I s) k many) _ hh (tld_R hRL _ _ _) (tld_R hRL _ _ _)) ?_
      rintro e w11 ⟨rfl, k11⟩
      have n11 := k11.size
      refine ⟨_, rfl, ?_⟩
      refine hK _ _ (fun h => absurd h (by decide)) ?_
      clear hK K
      refine j_mv rfl rfl (fun _ _ _ h => h) (wanted_rd rfl) (fun _ => run_assign _ rfl (ev_in rfl (by omega)) _) ?_
      refine j_nx ?_
      refine c_ret ?_
      refine ret_of ((defL _ _).trans hd) (res_t rfl (ev_in rfl (by omega))) ⟨?_, (below_drew kB).trans (k11.mono (by omega))⟩
      unfold tkn
      rw [if_neg hs0, hI, Int.toNat_natCast]

end Go.Proofs.YthimcecbgpamdaaGreat

namespace Go.Proofs.YthimcecbgpamdaaGreat
open Go.RowKit

theorem enter_pagreed (x y : Value) (w : World) : (callFunc 63 #[x, y]).run Tryz.prog w = .ok (.enter 63 #[x, y]) w := by go_simp
theorem zero3a (w : World) : (zeroValue 31).run Tryz.prog w = .ok (agV (fun _ => iV 0) 0 3) w := by kernel_rfl
theorem stP_all3a (g : Nat → Value) (h : Nat → Value) : ∀ j, j < 3 → stP g 0 3 h j = h j := fun j hj => by
  have := stP_in g (o := 0) (n := 3) h hj
  rwa [Nat.zero_add] at this
theorem x_out3 {P : Program} {Q : Exit → Act → World → Prop} {J : Act → World → Prop} {a : Act} {w : World} {x y : Code} {id id2 : Nat} (h : CodI P y Q a w) : Nx P x (Exit.then J (Exit.inBlock id (Exit.inBlock id2 (Nx P y Q)))) (.exit id) a w := x_out2 h
/-- Four times three numbers. -/
def diF (d : Nat → Nat → Int) (j : Nat) : Value := iV (d (j / 3) (j % 3))
theorem nd_di (n : Nd) (v : Value) : ∀ j, j < 12 → ndF n v (0 + 39 + j) = diF n.di j := by grind [ndF, diF]
theorem di_part (d : Nat → Nat → Int) {x : Nat} : agV (diF d) (x * 3) 3 = agV (fun a => iV (d x a)) 0 3 := by
  unfold agV diF
  congr 2
  refine List.map_congr_left (fun j hj => ?_)
  have := List.mem_range.1 hj
  rw [show (x * 3 + j) / 3 = x by omega, show (x * 3 + j) % 3 = j by omega, Nat.zero_add]
/-- What is agreed, of the first m numbers. -/
def agF (n : Nd) (l : List Ms) (m j : Nat) : Value := iV (if j < m then decG n l (j / 3) (j % 3) else n.di (j / 3) (j % 3))
theorem ag_zero (n : Nd) (l : List Ms) : ∀ j, j < 12 → diF n.di j = agF n l (3 * 0) j := fun j _ => by unfold agF diF; rw [if_neg (by omega)]
theorem ag_step (n : Nd) (l : List Ms) {i x : Nat} (hx : x < 3) : ∀ j, j < 12 → stW (agF n l (3 * i + x)) (0 + i * 3 + x * 1) (.int .i64 (tkn n l i (n.di i x) (3 * i + x) 12)) j = agF n l (3 * i + (x + 1)) j := by
  intro j _
  unfold stW
  rw [show 0 + i * 3 + x * 1 = 3 * i + x by omega]
  by_cases e : j = 3 * i + x
  · rw [if_pos e]
    unfold agF
    rw [if_pos (by omega), show j / 3 = i by omega, show j % 3 = x by omega]
    rfl
  · rw [if_neg e]
    unfold agF
    by_cases c : j < 3 * i + x
    · rw [if_pos c, if_pos (by omega)]
    · rw [if_neg c, if_neg (by omega)]
theorem ag_four (n : Nd) (l : List Ms) : ∀ j, j < 12 → agF n l (3 * 4) j = diF (decG n l) j := fun j hj => by
  unfold agF diF
  rw [if_pos (by omega)]
set_option maxHeartbeats 2000000 in
theorem agreed_any (n : Nd) (nv : Value) (mo : Option Addr) (L : List Lm) (I : Nat) (w : World) (hok : NdOK n) (hI : n.id = (I : Int)) (hI4 : I < 4) (hmr : MRd w mo L) (hRL : ∀ m, m ∈ L → ∀ i, R64 (gL m.m.L i)) :
    Calls Tryz.prog 63 #[ndV n nv, agV (hrO n.id n.fr L 2 ((12 : Nat) : Int)) 0 4] w fun e w' => e = .returned (agV (diF (decG n (L.map Lm.m))) 0 12) ∧ Below w.heap.size w w' := by
  refine enterF Tryz.func63 rfl 40 rfl (of_decide_eq_true rfl) (fun A hs hd hb => ?_)
  have b0 : A.eval (.tmp 0) = ndV n nv := hb 0 _ rfl
  have b1 : A.eval (.tmp 1) = agV (hrO n.id n.fr L 2 ((12 : Nat) : Int)) 0 4 := hb 1 _ rfl
  clear hb
  refine c_rs (m_start ?_)
  refine m_do rfl (wanted_rd rfl) (fun K hK => ?_)
  refine wp_boxG _ _ _ rfl (ev_out rfl b0) (of_decide_eq_true rfl) ?_
  intro w1 m1 k1 z1
  refine hK _ _ ?_
  clear hK K
  refine m_do rfl (wanted_rd rfl) (fun K hK => ?_)
  refine wp_boxG _ _ _ rfl (ev_out rfl b1) (of_decide_eq_true rfl) ?_
  intro w2 m2 k2 z2
  have mn2 := m1.below k2
  refine hK _ _ ?_
  clear hK K
  refine m_do rfl (wanted_rd rfl) (fun K hK => ?_)
  refine wp_allocG _ _ rfl zero43 (of_decide_eq_true rfl) ?_
  intro w3 m3 k3 z3
  have mn3 := mn2.below k3
  have mh3 := m2.below k3
  refine hK _ _ ?_
  clear hK K
  refine l_nx ?_
  refine c_rs ?_
  refine m_mv rfl (wanted_rd rfl) (fldNd5 rfl (ev_in rfl (by omega)) _) ?_
  refine m_mv rfl (wanted_rd rfl) (run_loadPe (h := diF n.di) _ _ rfl many43 (ev_in rfl (by omega)) mn3 (by decide) (nd_di n nv)) ?_
  refine m_do rfl (wanted_rd rfl) (fun K hK => ?_)
  refine wp_allocG _ _ rfl zero43 (of_decide_eq_true rfl) ?_
  intro w4 m4 k4 z4
  have mn4 := mn3.below k4
  have mh4 := mh3.below k4
  have mr4 := m3.below k4
  refine hK _ _ ?_
  clear hK K
  refine m_st (wanted_rd rfl) (fun K hK => ?_)
  refine wp_storeP _ _ _ _ rfl many43 (ev_in rfl (by omega)) (ev_in rfl (by omega)) m4 (by decide) (fun j hj => rfl) rfl ?_
  intro w5 mm5 k5 z5
  have ml5 := Vh.congr mm5 (stP_all12 _ _)
  have mn5 := mn4.kept k5 (by omega)
  have mh5 := mh4.kept k5 (by omega)
  have mr5 := mr4.kept k5 (by omega)
  refine hK _ ?_
  clear hK K
  refine l_nx ?_
  refine c_nx ?_
  refine c_rs ?_
  refine m_mv rfl (wanted_rd rfl) (fldNd5 rfl (ev_in rfl (by omega)) _) ?_
  refine m_mv rfl (wanted_rd rfl) (run_loadPe (h := diF n.di) _ _ rfl many43 (ev_in rfl (by omega)) mn5 (by decide) (nd_di n nv)) ?_
  refine m_mv rfl (wanted_rd rfl) (run_move _ rfl (ev_const _ _) _) ?_
  refine l_nx ?_
  refine c_block ?_
  refine c_loop (fun q a W => ∃ i : Nat, i ≤ 4 ∧ 4 - i ≤ q ∧ a.tmps.size = 40 ∧ a.defers = [] ∧ a.eval (.tmp 2) = .pointer (some ⟨w.heap.size, 0, none⟩) ∧ a.eval (.tmp 3) = .pointer (some ⟨w1.heap.size, 0, none⟩) ∧ a.eval (.tmp 4) = .pointer (some ⟨w2.heap.size, 0, none⟩) ∧ a.eval (.tmp 5) = .pointer (some ⟨w3.heap.size, 0, none⟩) ∧ a.eval (.tmp 13) = agV (diF n.di) 0 12 ∧ a.eval (.tmp 14) = .int .i64 (i : Int) ∧ Vh 37 W w.heap.size 74 74 (ndF n nv) ∧ Vh 120 W w1.heap.size 4 4 (hrO n.id n.fr L 2 ((12 : Nat) : Int)) ∧ Vh 32 W w2.heap.size 12 12 (fun _ => iV 0) ∧ Vh 32 W w3.heap.size 12 12 (agF n (L.map Lm.m) (3 * i)) ∧ Below w.heap.size w W ∧ w5.heap.size ≤ W.heap.size) 4 ⟨0, by omega, by omega, (szL _ _).trans hs, (defL _ _).trans hd, (ev_in rfl (by omega)), (ev_in rfl (by omega)), (ev_in rfl (by omega)), (ev_in rfl (by omega)), (ev_in rfl (by omega)), (ev_in rfl (by omega)), mn5, mh5, mr5, Vh.congr ml5 (ag_zero n (L.map Lm.m)), below_of_kept ((((k1).trans (k2.mono (by omega))).trans (k3.mono (by omega))).trans (k4.mono (by omega))) k5 (by omega) (by omega), by omega⟩ (fun q B W hI2 => ?_)
  clear b0 b1 hs hd
  obtain ⟨i, hi, hr2, hs, hd, b2, b3, b4, b5, b13, b14, mn, mh, mr, ml, kB, hW⟩ := hI2
  by_cases hin : i < 4
  · refine c_rs (m_start ?_)
    refine m_mv rfl (wanted_rd rfl) (run_lssI (b := true) _ _ rfl (ev_out rfl b14) (ev_const _ _) (decide_eq_true (by omega)) _) ?_
    refine l_nx ?_
    refine c_nx (c_true (ev_in rfl (by omega)) (c_fin ?_))
    refine c_nx (c_block ?_)
    refine c_rs ?_
    refine m_mv rfl (wanted_rd rfl) (run_move _ rfl (ev_out rfl b14) _) ?_
    refine m_mv rfl (wanted_rd rfl) ((run_ixVM _ _ _ _ rfl Tryz.underlying32 many3 (ev_out rfl b13) rfl (ev_out rfl b14) rfl hin _).trans (by rw [di_part n.di])) ?_
    refine m_do rfl (wanted_rd rfl) (fun K hK => ?_)
    refine wp_allocG _ _ rfl zero3a (of_decide_eq_true rfl) ?_
    intro w11 m11 k11 z11
    have mn11 := mn.below k11
    have mh11 := mh.below k11
    have mr11 := mr.below k11
    have ml11 := ml.below k11
    refine hK _ _ ?_
    clear hK K
    refine m_mv rfl (wanted_rd rfl) (run_assign _ rfl (ev_in rfl (by omega)) _) ?_
    refine m_st (wanted_rd rfl) (fun K hK => ?_)
    refine wp_storeP _ _ _ _ rfl many3 (ev_in rfl (by omega)) (ev_in rfl (by omega)) m11 (by decide) (fun j hj => rfl) rfl ?_
    intro w12 mm12 k12 z12
    have mw12 := Vh.congr mm12 (stP_all3a _ _)
    have mn12 := mn11.kept k12 (by omega)
    have mh12 := mh11.kept k12 (by omega)
    have mr12 := mr11.kept k12 (by omega)
    have ml12 := ml11.kept k12 (by omega)
    refine hK _ ?_
    clear hK K
    refine l_nx ?_
    refine c_rs ?_
    refine m_mv rfl (wanted_rd rfl) (run_loadP _ _ rfl many3 (ev_in rfl (by omega)) mw12 (by decide)) ?_
    refine m_mv rfl (wanted_rd rfl) (run_move _ rfl (ev_const _ _) _) ?_
    refine l_nx ?_
    refine c_block ?_
    refine c_loop (fun q a W => ∃ x : Nat, x ≤ 3 ∧ 3 - x ≤ q ∧ a.tmps.size = 40 ∧ a.defers = [] ∧ a.eval (.tmp 2) = .pointer (some ⟨w.heap.size, 0, none⟩) ∧ a.eval (.tmp 3) = .pointer (some ⟨w1.heap.size, 0, none⟩) ∧ a.eval (.tmp 4) = .pointer (some ⟨w2.heap.size, 0, none⟩) ∧ a.eval (.tmp 5) = .pointer (some ⟨w3.heap.size, 0, none⟩) ∧ a.eval (.tmp 13) = agV (diF n.di) 0 12 ∧ a.eval (.tmp 14) = .int .i64 (i : Int) ∧ a.eval (.tmp 6) = .int .i64 (i : Int) ∧ a.eval (.tmp 18) = agV (fun a => iV (n.di i a)) 0 3 ∧ a.eval (.tmp 19) = .int .i64 (x : Int) ∧ Vh 37 W w.heap.size 74 74 (ndF n nv) ∧ Vh 120 W w1.heap.size 4 4 (hrO n.id n.fr L 2 ((12 : Nat) : Int)) ∧ Vh 32 W w2.heap.size 12 12 (fun _ => iV 0) ∧ Vh 32 W w3.heap.size 12 12 (agF n (L.map Lm.m) (3 * i + x)) ∧ Below w.heap.size w W ∧ w5.heap.size ≤ W.heap.size) 3 ⟨0, by omega, by omega, (szL _ _).trans hs, (defL _ _).trans hd, (ev_out rfl b2), (ev_out rfl b3), (ev_out rfl b4), (ev_out rfl b5), (ev_out rfl b13), (ev_out rfl b14), (ev_in rfl (by omega)), (ev_in rfl (by omega)), (ev_in rfl (by omega)), mn12, mh12, mr12, ml12, below_of_kept (kB.trans (k11.mono (by omega))) k12 (by omega) (by omega), by omega⟩ (fun q3 B3 W3 hI3 => ?_)
    clear b2 b3 b4 b5 b13 b14 hs hd mn mh mr ml
    obtain ⟨x, hx, hr3, hs, hd, b2, b3, b4, b5, b13, b14, b6, b18, b19, mn, mh, mr, ml, kB3, hW3⟩ := hI3
    by_cases hin3 : x < 3
    · refine c_rs (m_start ?_)
      refine m_mv rfl (wanted_rd rfl) (run_lssI (b := true) _ _ rfl (ev_out rfl b19) (ev_const _ _) (decide_eq_true (by omega)) _) ?_
      refine l_nx ?_
      refine c_nx (c_true (ev_in rfl (by omega)) (c_fin ?_))
      refine c_nx (c_block ?_)
      refine c_rs ?_
      refine m_mv rfl (wanted_rd rfl) (run_move _ rfl (ev_out rfl b19) _) ?_
      refine m_mv rfl (wanted_rd rfl) (run_ixV1 _ _ _ _ rfl Tryz.underlying31 oneI (ev_out rfl b18) (ev_out rfl b19) rfl hin3 _) ?_
      refine m_mv rfl (wanted_rd rfl) (run_assign _ rfl (ev_in rfl (by omega)) _) ?_
      refine m_mv rfl (wanted_rd rfl) (run_assign _ rfl (ev_in rfl (by omega)) _) ?_
      refine l_nx ?_
      have hS0 : (fun W => Vh 37 W w.heap.size 74 74 (ndF n nv) ∧ Vh 120 W w1.heap.size 4 4 (hrO n.id n.fr L 2 ((12 : Nat) : Int))) W3.drew := ⟨mn, mh⟩
      have mn0 : Vh _ W3.drew _ _ _ _ := mn
      have mh0 : Vh _ W3.drew _ _ _ _ := mh
      have mr0 : Vh _ W3.drew _ _ _ _ := mr
      have ml0 : Vh _ W3.drew _ _ _ _ := ml
      have ez : W3.drew.heap.size = W3.heap.size := rfl
      have ekx : ((i : Int) * 3 + (x : Int)) = ((3 * i + x : Nat) : Int) := by omega
      refine c_rj (S := fun W => Vh 37 W w.heap.size 74 74 (ndF n nv) ∧ Vh 120 W w1.heap.size 4 4 (hrO n.id n.fr L 2 ((12 : Nat) : Int))) (.mv 0 (.mv 1 (.rd 2 (.mv 3 (.rd 4 (.mv 5 (.mv 6 (.mv 7 (.mv 8 (.mv 9 (.mv 10 (.mv 12 (.go 11 (.mv 13 (.go 14 .fin))))))))))))))) [14] (by kernel_rfl) (by kernel_rfl) ?_
      refine j_mv rfl rfl (fun _ _ _ h => h) (wanted_rd rfl) (fun _ => run_move _ rfl (ev_out rfl b6) _) ?_
      refine j_mv rfl rfl (fun _ _ _ h => h) (wanted_rd rfl) (fun _ => run_move _ rfl (ev_in rfl (by omega)) _) ?_
      refine j_rd rfl rfl (fun _ _ _ h => h) (wanted_rd rfl) hS0 (fun _ hS => run_loadP _ _ rfl manyHr (ev_out rfl b3) hS.2 (by decide)) ?_
      refine j_mv rfl rfl (fun _ _ _ h => h) (wanted_rd rfl) (fun _ => fldNd0 rfl (ev_out rfl b2) _) ?_
      refine j_rd rfl rfl (fun _ _ _ h => h) (wanted_rd rfl) hS0 (fun _ hS => run_lod1 _ _ rfl oneI (ev_in rfl (by omega)) hS.1 (by decide) rfl) ?_
      refine j_mv rfl rfl (fun _ _ _ h => h) (wanted_rd rfl) (fun _ => run_move _ rfl (ev_out rfl b6) _) ?_
      refine j_mv rfl rfl (fun _ _ _ h => h) (wanted_rd rfl) (fun _ => run_move _ rfl (ev_in rfl (by omega)) _) ?_
      refine j_mv rfl rfl (fun _ _ _ h => h) (wanted_rd rfl) (fun _ => run_move _ rfl (ev_out rfl b6) _) ?_
      refine j_mv rfl rfl (fun _ _ _ h => h) (wanted_rd rfl) (fun _ => run_mulN _ _ rfl (ev_in rfl (by omega)) (ev_const _ _) (by omega) (by omega) _) ?_
      refine j_mv rfl rfl (fun _ _ _ h => h) (wanted_rd rfl) (fun _ => run_move _ rfl (ev_in rfl (by omega)) _) ?_
      refine j_mv rfl rfl (fun _ _ _ h => h) (wanted_rd rfl) (fun _ => run_addI _ _ rfl (ev_in rfl (by omega)) (ev_in rfl (by omega)) (by omega) (by omega) _) ?_
      refine j_mv rfl rfl (fun _ _ _ h => h) (wanted_rd rfl) (fun _ => run_ixG _ _ _ _ rfl Tryz.underlying32 many3.size (ev_out rfl b5) (ev_in rfl (by omega)) rfl hin _) ?_
      refine j_do rfl rfl (wanted_rd rfl) (fun K hK => ?_)
      refine wp_call5 _ 94 _ _ _ _ _ _ rfl (ev_in rfl (by omega)) (ev_in rfl (by omega)) (ev_in rfl (by omega)) (ev_in rfl (by omega)) ((ev_in rfl (by omega)).trans (by rw [ekx])) (enter_htaken _ _ _ _ _ _) (heardTaken_any n mo L I i (n.di i x) (3 * i + x) 12 _ hI hI4 hin (by omega) (hok.di i x) (hmr.below (below_drew kB3)) hRL) ?_
      rintro e w21 ⟨rfl, k21⟩
      have n21 := k21.size
      have mn21 := mn0.below k21
      have mh21 := mh0.below k21
      have mr21 := mr0.below k21
      have ml21 := ml0.below k21
      have hS21 : (fun W => Vh 37 W w.heap.size 74 74 (ndF n nv) ∧ Vh 120 W w1.heap.size 4 4 (hrO n.id n.fr L 2 ((12 : Nat) : Int))) w21 := ⟨mn21, mh21⟩
      refine ⟨_, rfl, ?_⟩
      refine hK _ _ (fun _ _ => hS21) ?_
      clear hK K
      refine j_mv rfl rfl (fun _ _ _ h => h) (wanted_rd rfl) (fun _ => run_ixG _ _ _ _ rfl Tryz.underlying31 oneI.size (ev_in rfl (by omega)) (ev_in rfl (by omega)) rfl hin3 _) ?_
      refine j_st rfl (wanted_rd rfl) (fun K hK => ?_)
      refine wp_sto1 _ _ _ _ rfl oneI (ev_in rfl (by omega)) (ev_in rfl (by omega)) ml21 (by omega) rfl rfl rfl ?_
      intro w22 mm22 k22 z22
      have ml22 := Vh.congr mm22 (ag_step n (L.map Lm.m) hin3)
      have mn22 := mn21.kept k22 (by omega)
      have mh22 := mh21.kept k22 (by omega)
      have mr22 := mr21.kept k22 (by omega)
      refine hK _ (fun h => absurd h (by decide)) ?_
      clear hK K
      refine j_finB ?_
      refine c_region ?_
      refine m_mv rfl (wanted_rd rfl) (run_addI _ _ rfl (ev_out rfl b19) (ev_const _ _) (by omega) (by omega) _) ?_
      refine m_mv rfl (wanted_rd rfl) (run_move _ rfl (ev_in rfl (by omega)) _) ?_
      exact l_round ⟨3 - (x + 1), by omega, x + 1, by omega, by omega, (szL _ _).trans hs, (defL _ _).trans hd, (ev_out rfl b2), (ev_out rfl b3), (ev_out rfl b4), (ev_out rfl b5), (ev_out rfl b13), (ev_out rfl b14), (ev_out rfl b6), (ev_out rfl b18), (ev_in rfl (by omega)).trans (by rw [Int.natCast_add]; rfl), mn22, mh22, mr22, ml22, below_of_kept ((below_drew kB3).trans (k21.mono (by omega))) k22 (by omega) (by omega), by omega⟩
    · refine c_rs (m_start ?_)
      refine m_mv rfl (wanted_rd rfl) (run_lssI (b := false) _ _ rfl (ev_out rfl b19) (ev_const _ _) (decide_eq_false (by omega)) _) ?_
      obtain rfl : x = 3 := by omega
      refine l_nx ?_
      refine c_nx (c_false (ev_in rfl (by omega)) (c_exit (x_out3 ?_)))
      refine c_region ?_
      refine m_mv rfl (wanted_rd rfl) (run_addI _ _ rfl (ev_out rfl b14) (ev_const _ _) (by omega) (by omega) _) ?_
      refine m_mv rfl (wanted_rd rfl) (run_move _ rfl (ev_in rfl (by omega)) _) ?_
      exact l_round ⟨4 - (i + 1), by omega, i + 1, by omega, by omega, (szL _ _).trans hs, (defL _ _).trans hd, (ev_out rfl b2), (ev_out rfl b3), (ev_out rfl b4), (ev_out rfl b5), (ev_out rfl b13), (ev_in rfl (by omega)).trans (by rw [Int.natCast_add]; rfl), mn, mh, mr, ml, kB3, hW3⟩
  · refine c_rs (m_start ?_)
    refine m_mv rfl (wanted_rd rfl) (run_lssI (b := false) _ _ rfl (ev_out rfl b14) (ev_const _ _) (decide_eq_false (by omega)) _) ?_
    obtain rfl : i = 4 := by omega
    have ml := Vh.congr ml (ag_four n (L.map Lm.m))
    refine l_nx ?_
    refine c_nx (c_false (ev_in rfl (by omega)) (c_exit (x_out ?_)))
    refine c_rs ?_
    refine m_mv rfl (wanted_rd rfl) (run_loadP _ _ rfl many43 (ev_out rfl b5) ml (by decide)) ?_
    refine m_st (wanted_rd rfl) (fun K hK => ?_)
    refine wp_storeP _ _ _ _ rfl many43 (ev_out rfl b4) (ev_in rfl (by omega)) mr (by decide) (fun j hj => rfl) rfl ?_
    intro w11 mm11 k11 z11
    have mr11 := Vh.congr mm11 (stP_all12 _ _)
    have mn11 := mn.kept k11 (by omega)
    have mh11 := mh.kept k11 (by omega)
    have ml11 := ml.kept k11 (by omega)
    refine hK _ ?_
    clear hK K
    refine l_nx ?_
    refine c_ret (ret_of ((defL _ _).trans hd) (res_c rfl (ev_out rfl b4) many43 mr11 (Nat.le_refl _)) ⟨rfl, below_of_kept kB k11 (by omega) (by omega)⟩)

end Go.Proofs.YthimcecbgpamdaaGreat
