/- Joined: NodPr9, NodPr9v, Call4, LawsO1. -/
import Derived.Test.YtngmeaaglogieaaNodPr4
import Derived.Test.YtngmeaaglogieaaNear52
import Derived.Test.YtngmeaaglogieaaNear50
import Derived.Test.YtngmeaaglogieaaNear10
import Derived.Test.YtngmeaaglogieaaNear47
import Derived.Test.YtngmeaaglogieaaRefVot2
import Derived.Test.YtngmeaaglogieaaNear46
namespace Go.Proofs.Ytngmeaaglogieaa
open Go.RowKit

theorem enter_adecide (x y z : Value) (w : World) : (callFunc 58 #[x, y, z]).run Try.prog w = .ok (.enter 58 #[x, y, z]) w := by go_simp
theorem enter_hat (x y z : Value) (w : World) : (callFunc 57 #[x, y, z]).run Try.prog w = .ok (.enter 57 #[x, y, z]) w := by go_simp
theorem enter_htaken (x y z u v : Value) (w : World) : (callFunc 47 #[x, y, z, u, v]).run Try.prog w = .ok (.enter 47 #[x, y, z, u, v]) w := by go_simp
theorem heardAt_any (n : Nd) (mo : Option Addr) (L : List Lm) (many i k : Nat) (w : World) (hmr : MRd w mo L) (hi4 : i < 4) (hk : k < many) :
    Calls Try.prog 57 #[agV (hrO n.id n.fr L 2 (many : Int)) 0 4, .int .i64 (i : Int), .int .i64 (k : Int)] w fun e w' => e = .returned (.int .i64 (tldN n (L.map Lm.m) i k many)) ∧ Below w.heap.size w w' := by
  refine enterF Try.func57 rfl 18 rfl (of_decide_eq_true rfl) (fun A hs hd hb => ?_)
  have b0 := hb 0 _ rfl
  have b1 := hb 1 _ rfl
  have b2 := hb 2 _ rfl
  clear hb
  rcases hfl : fL n.id n.fr L (i : Int) 2 (many : Int) with _ | cm
  · have hho : hrO n.id n.fr L 2 (many : Int) (0 + i * 1) = .slice none 0 0 := by unfold hrO; rw [Nat.zero_add, Nat.mul_one, hfl]
    refine c_rs (m_start ?_)
    refine m_do rfl (wanted_rd rfl) (fun K hK => ?_)
    refine wp_boxG _ _ _ rfl (ev_out rfl b0) (of_decide_eq_true rfl) ?_
    intro w1 m1 k1 z1
    refine hK _ _ ?_
    clear hK K
    refine m_mv rfl (wanted_rd rfl) (run_assign _ rfl (ev_const _ _) _) ?_
    refine l_nx ?_
    refine c_nx ?_
    refine c_rs ?_
    refine m_mv rfl (wanted_rd rfl) (run_move _ rfl (ev_out rfl b1) _) ?_
    refine m_mv rfl (wanted_rd rfl) (run_ixG _ _ _ _ rfl Try.underlying64 oneIs.size (ev_in rfl (by omega)) (ev_in rfl (by omega)) rfl hi4 _) ?_
    refine m_mv rfl (wanted_rd rfl) (run_lod1 _ _ rfl oneIs (ev_in rfl (by omega)) m1 (by omega) hho) ?_
    refine m_mv rfl (wanted_rd rfl) (run_lenI _ rfl (ev_in rfl (by omega)) _) ?_
    refine m_mv rfl (wanted_rd rfl) (run_eqlI (b := true) _ _ rfl (ev_in rfl (by omega)) (ev_const _ _) (decide_eq_true (by omega)) _) ?_
    refine l_nx ?_
    refine c_true (ev_in rfl (by omega)) ?_
    refine c_rs ?_
    refine m_mv rfl (wanted_rd rfl) (run_assign _ rfl (ev_const _ _) _) ?_
    refine l_nx ?_
    refine c_ret ?_
    simp only [Nx, Exit.then]
    exact ret_of ((defL _ _).trans hd) (res_t rfl (ev_in rfl (by omega))) ⟨by rw [tld_none hfl], k1⟩
  · have hho0 : hrO n.id n.fr L 2 (many : Int) (0 + i * 1) = lmV cm := by unfold hrO; rw [Nat.zero_add, Nat.mul_one, hfl]
    obtain ⟨cmem, cfit⟩ := fL_mem hfl
    have clen := fit_len cfit
    obtain ⟨ca, cmy, hy⟩ : ∃ y, cm.ao = some y ∧ ∀ W', Below w.heap.size w W' → ∀ i, i < cm.m.L.length → W'.cell? (y.add i) = some (.int .i64 (gL cm.m.L i)) := by
      obtain ⟨y, e, _⟩ := (hmr.2 cm cmem).at (by omega)
      refine ⟨y, e, fun W' k => ?_⟩
      obtain ⟨y', e', hy'⟩ := ((hmr.2 cm cmem).below k).at (by omega)
      rw [e] at e'; cases e'
      exact hy'
    obtain ⟨mm, mo2, mc2⟩ := cm
    dsimp only at cmy hy clen
    subst cmy
    have hho : hrO n.id n.fr L 2 (many : Int) (0 + i * 1) = .slice (some ca) mm.L.length mc2 := hho0
    refine c_rs (m_start ?_)
    refine m_do rfl (wanted_rd rfl) (fun K hK => ?_)
    refine wp_boxG _ _ _ rfl (ev_out rfl b0) (of_decide_eq_true rfl) ?_
    intro w1 m1 k1 z1
    refine hK _ _ ?_
    clear hK K
    refine m_mv rfl (wanted_rd rfl) (run_assign _ rfl (ev_const _ _) _) ?_
    refine l_nx ?_
    refine c_nx ?_
    refine c_rs ?_
    refine m_mv rfl (wanted_rd rfl) (run_move _ rfl (ev_out rfl b1) _) ?_
    refine m_mv rfl (wanted_rd rfl) (run_ixG _ _ _ _ rfl Try.underlying64 oneIs.size (ev_in rfl (by omega)) (ev_in rfl (by omega)) rfl hi4 _) ?_
    refine m_mv rfl (wanted_rd rfl) (run_lod1 _ _ rfl oneIs (ev_in rfl (by omega)) m1 (by omega) hho) ?_
    refine m_mv rfl (wanted_rd rfl) (run_lenI _ rfl (ev_in rfl (by omega)) _) ?_
    refine m_mv rfl (wanted_rd rfl) (run_eqlI (b := false) _ _ rfl (ev_in rfl (by omega)) (ev_const _ _) (decide_eq_false (by omega)) _) ?_
    refine l_nx ?_
    refine c_false (ev_in rfl (by omega)) (c_fin ?_)
    refine c_rs ?_
    refine m_mv rfl (wanted_rd rfl) (run_move _ rfl (ev_out rfl b1) _) ?_
    refine m_mv rfl (wanted_rd rfl) (run_ixG _ _ _ _ rfl Try.underlying64 oneIs.size (ev_in rfl (by omega)) (ev_in rfl (by omega)) rfl hi4 _) ?_
    refine m_mv rfl (wanted_rd rfl) (run_lod1 _ _ rfl oneIs (ev_in rfl (by omega)) m1 (by omega) hho) ?_
    refine m_mv rfl (wanted_rd rfl) (run_move _ rfl (ev_out rfl b2) _) ?_
    refine m_mv rfl (wanted_rd rfl) (run_ixN _ _ rfl (a := ca) (n := mm.L.length) (cap := mc2) (ev_in rfl (by omega)) (ev_in rfl (by omega)) (i := k) rfl (by omega) _) ?_
    refine m_mv rfl (wanted_rd rfl) (run_ldI _ rfl (ev_in rfl (by omega)) (hy _ k1 k (by omega))) ?_
    refine m_mv rfl (wanted_rd rfl) (run_assign _ rfl (ev_in rfl (by omega)) _) ?_
    refine l_nx ?_
    refine c_ret ?_
    exact ret_of ((defL _ _).trans hd) (res_t rfl (ev_in rfl (by omega))) ⟨by rw [tld_some hfl], k1⟩
/-- What the others tell, behind the first i nodes. -/
def tl2 (I s : Nat) (T : Nat → Int) : Nat → List Int
  | 0 => []
  | i + 1 => tl2 I s T i ++ if i = I ∨ i = s then [] else [T i]
theorem tl2_len (I s : Nat) (T : Nat → Int) (i : Nat) : (tl2 I s T i).length ≤ i := by
  induction i with
  | zero => exact Nat.le_refl 0
  | succ i ih =>
    show (tl2 I s T i ++ _).length ≤ _
    rw [List.length_append]
    split
    · show _ + 0 ≤ _; omega
    · show _ + 1 ≤ _; omega
theorem tl2_skip {I s i : Nat} {T : Nat → Int} (e : i = I ∨ i = s) : tl2 I s T (i + 1) = tl2 I s T i := by
  show tl2 I s T i ++ _ = _
  rw [if_pos e, List.append_nil]
theorem tl2_take {I s i : Nat} {T : Nat → Int} (e1 : i ≠ I) (e2 : i ≠ s) : tl2 I s T (i + 1) = tl2 I s T i ++ [T i] := by
  show tl2 I s T i ++ _ = _
  rw [if_neg (fun c => c.elim e1 e2)]
theorem tl2_four {I s : Nat} {T : Nat → Int} (hI : I < 4) (hs : s < 4) (e : I ≠ s) : tl2 I s T 4 = [T (o1 I s), T (o2 I s)] := by
  have : I = 0 ∨ I = 1 ∨ I = 2 ∨ I = 3 := by omega
  have : s = 0 ∨ s = 1 ∨ s = 2 ∨ s = 3 := by omega
  rcases ‹I = 0 ∨ _› with rfl | rfl | rfl | rfl <;> rcases ‹s = 0 ∨ _› with rfl | rfl | rfl | rfl <;> first | (exact absurd rfl e) | rfl
theorem rw_sr2 {w : World} {B n c : Nat} {a : Option Addr} {g : Nat → Value} {t : TypeId} (h : w.ownsRow B t 1 (.slice a n c) n (rowV g n)) : Sr w a n c g := by
  obtain ⟨ao, cap, e, hs, _⟩ := owns_sr h
  cases e
  exact hs
set_option maxHeartbeats 2000000 in
theorem heardTaken_any (n : Nd) (mo : Option Addr) (L : List Lm) (I s : Nat) (h : Int) (k many : Nat) (w : World) (hI : n.id = (I : Int)) (hI4 : I < 4) (hs4 : s < 4) (hk : k < many) (hh : R64 h) (hmr : MRd w mo L) (hRL : ∀ m, m ∈ L → ∀ i, R64 (gL m.m.L i)) :
    Calls Try.prog 47 #[agV (hrO n.id n.fr L 2 (many : Int)) 0 4, .int .i64 n.id, .int .i64 (s : Int), .int .i64 h, .int .i64 (k : Int)] w fun e w' => e = .returned (.int .i64 (tkn n (L.map Lm.m) s h k many)) ∧ Below w.heap.size w w' := by
  refine enterF Try.func47 rfl 44 rfl (of_decide_eq_true rfl) (fun A hs hd hb => ?_)
  have b0 := hb 0 _ rfl
  have b1 := hb 1 _ rfl
  have b2 := hb 2 _ rfl
  have b3 := hb 3 _ rfl
  have b4 := hb 4 _ rfl
  clear hb
  refine c_rs (m_start ?_)
  refine m_do rfl (wanted_rd rfl) (fun K hK => ?_)
  refine wp_boxG _ _ _ rfl (ev_out rfl b0) (of_decide_eq_true rfl) ?_
  intro w1 m1 k1 z1
  refine hK _ _ ?_
  clear hK K
  refine m_mv rfl (wanted_rd rfl) (run_assign _ rfl (ev_const _ _) _) ?_
  refine l_nx ?_
  refine c_nx ?_
  refine c_rs ?_
  by_cases hs0 : (s : Int) = n.id
  · refine m_mv rfl (wanted_rd rfl) (run_move _ rfl (ev_out rfl b2) _) ?_
    refine m_mv rfl (wanted_rd rfl) (run_move _ rfl (ev_out rfl b1) _) ?_
    refine m_mv rfl (wanted_rd rfl) (run_eqlI (b := true) _ _ rfl (ev_in rfl (by omega)) (ev_in rfl (by omega)) (decide_eq_true hs0) _) ?_
    refine l_nx ?_
    refine c_true (ev_in rfl (by omega)) ?_
    refine c_rs ?_
    refine m_mv rfl (wanted_rd rfl) (run_move _ rfl (ev_out rfl b3) _) ?_
    refine m_mv rfl (wanted_rd rfl) (run_assign _ rfl (ev_in rfl (by omega)) _) ?_
    refine l_nx ?_
    refine c_ret ?_
    simp only [Nx, Exit.then]
    refine ret_of ((defL _ _).trans hd) (res_t rfl (ev_in rfl (by omega))) ⟨?_, k1⟩
    unfold tkn
    rw [if_pos hs0]
    rfl
  · refine m_mv rfl (wanted_rd rfl) (run_move _ rfl (ev_out rfl b2) _) ?_
    refine m_mv rfl (wanted_rd rfl) (run_move _ rfl (ev_out rfl b1) _) ?_
    refine m_mv rfl (wanted_rd rfl) (run_eqlI (b := false) _ _ rfl (ev_in rfl (by omega)) (ev_in rfl (by omega)) (decide_eq_false hs0) _) ?_
    refine l_nx ?_
    refine c_false (ev_in rfl (by omega)) (c_fin ?_)
    refine c_rs ?_
    refine m_mv rfl (wanted_rd rfl) (run_assign _ rfl (ev_const _ _) _) ?_
    refine l_nx ?_
    refine c_nx ?_
    refine c_rs ?_
    refine m_mv rfl (wanted_rd rfl) (run_move _ rfl (ev_const _ _) _) ?_
    refine l_nx ?_
    refine c_block ?_
    refine c_loop (fun q a W => ∃ (i : Nat) (v : Value), i ≤ 4 ∧ 4 - i ≤ q ∧ a.tmps.size = 44 ∧ a.defers = [] ∧ a.eval (.tmp 1) = .int .i64 n.id ∧ a.eval (.tmp 2) = .int .i64 (s : Int) ∧ a.eval (.tmp 3) = .int .i64 h ∧ a.eval (.tmp 4) = .int .i64 (k : Int) ∧ a.eval (.tmp 5) = .pointer (some ⟨w.heap.size, 0, none⟩) ∧ a.eval (.tmp 17) = .int .i64 (i : Int) ∧ a.eval (.tmp 11) = v ∧ Vh 64 W w.heap.size 4 4 (hrO n.id n.fr L 2 (many : Int)) ∧ W.ownsRow w1.heap.size 3 1 v (tl2 I s (fun i => tldN n (L.map Lm.m) i k many) i).length ((tl2 I s (fun i => tldN n (L.map Lm.m) i k many) i).map iV) ∧ Below w.heap.size w W ∧ w1.heap.size ≤ W.heap.size) 4 ⟨0, _, by omega, by omega, (szL _ _).trans hs, (defL _ _).trans hd, (ev_out rfl b1), (ev_out rfl b2), (ev_out rfl b3), (ev_out rfl b4), (ev_in rfl (by omega)), (ev_in rfl (by omega)), (ev_in rfl (by omega)), m1, World.ownsRow_nil _ _ _ _, k1, by omega⟩ (fun q B W hI => ?_)
    clear b0 b1 b2 b3 b4 hs hd
    obtain ⟨i, v, hi, hr2, hs, hd, b1, b2, b3, b4, b5, b17, b11, mh, ov, kB, hW⟩ := hI
    have hlen := tl2_len I s (fun i => tldN n (L.map Lm.m) i k many) i
    by_cases hin : i < 4
    · by_cases e1 : i = I
      · refine c_rs (m_start ?_)
        refine m_mv rfl (wanted_rd rfl) (run_lssI (b := true) _ _ rfl (ev_out rfl b17) (ev_const _ _) (decide_eq_true (by omega)) _) ?_
        refine l_nx ?_
        refine c_nx (c_true (ev_in rfl (by omega)) (c_fin ?_))
        refine c_nx (c_block ?_)
        refine c_rs ?_
        refine m_mv rfl (wanted_rd rfl) (run_move _ rfl (ev_out rfl b17) _) ?_
        refine m_mv rfl (wanted_rd rfl) (run_assign _ rfl (ev_in rfl (by omega)) _) ?_
        refine l_nx ?_
        refine c_rs ?_
        refine m_mv rfl (wanted_rd rfl) (run_move _ rfl (ev_in rfl (by omega)) _) ?_
        refine m_mv rfl (wanted_rd rfl) (run_move _ rfl (ev_out rfl b1) _) ?_
        refine m_mv rfl (wanted_rd rfl) (run_neqI (b := false) _ _ rfl (ev_in rfl (by omega)) (ev_in rfl (by omega)) (decide_eq_false (by omega)) _) ?_
        refine m_mv rfl (wanted_rd rfl) (run_move _ rfl (ev_in rfl (by omega)) _) ?_
        refine m_skip rfl (wanted_n (j := 3) rfl rfl rfl (ev_in rfl (by omega)) (by decide)) ?_
        refine m_skip rfl (wanted_n (j := 3) rfl rfl rfl (ev_in rfl (by omega)) (by decide)) ?_
        refine m_skip rfl (wanted_n (j := 3) rfl rfl rfl (ev_in rfl (by omega)) (by decide)) ?_
        refine m_mv rfl (wanted_rd rfl) (run_pickF _ _ _ rfl (ev_in rfl (by omega)) (ev_const _ _) _) ?_
        refine l_nx ?_
        refine c_false (ev_in rfl (by omega)) (c_finB ?_)
        refine c_region ?_
        refine m_mv rfl (wanted_rd rfl) (run_addI _ _ rfl (ev_out rfl b17) (ev_const _ _) (by omega) (by omega) _) ?_
        refine m_mv rfl (wanted_rd rfl) (run_move _ rfl (ev_in rfl (by omega)) _) ?_
        exact l_round ⟨4 - (i + 1), by omega, i + 1, _, by omega, by omega, (szL _ _).trans hs, (defL _ _).trans hd, (ev_out rfl b1), (ev_out rfl b2), (ev_out rfl b3), (ev_out rfl b4), (ev_out rfl b5), (ev_in rfl (by omega)).trans (by rw [Int.natCast_add]; rfl), (ev_out rfl b11), mh, by rw [tl2_skip (by omega)]; exact ov, kB, by omega⟩
      · by_cases e2 : i = s
        · refine c_rs (m_start ?_)
          refine m_mv rfl (wanted_rd rfl) (run_lssI (b := true) _ _ rfl (ev_out rfl b17) (ev_const _ _) (decide_eq_true (by omega)) _) ?_
          refine l_nx ?_
          refine c_nx (c_true (ev_in rfl (by omega)) (c_fin ?_))
          refine c_nx (c_block ?_)
          refine c_rs ?_
          refine m_mv rfl (wanted_rd rfl) (run_move _ rfl (ev_out rfl b17) _) ?_
          refine m_mv rfl (wanted_rd rfl) (run_assign _ rfl (ev_in rfl (by omega)) _) ?_
          refine l_nx ?_
          refine c_rs ?_
          refine m_mv rfl (wanted_rd rfl) (run_move _ rfl (ev_in rfl (by omega)) _) ?_
          refine m_mv rfl (wanted_rd rfl) (run_move _ rfl (ev_out rfl b1) _) ?_
          refine m_mv rfl (wanted_rd rfl) (run_neqI (b := true) _ _ rfl (ev_in rfl (by omega)) (ev_in rfl (by omega)) (decide_eq_true (by omega)) _) ?_
          refine m_mv rfl (wanted_rd rfl) (run_move _ rfl (ev_in rfl (by omega)) _) ?_
          refine m_mv rfl (wanted_g (j := 3) rfl rfl rfl (ev_in rfl (by omega))) (run_move _ rfl (ev_in rfl (by omega)) _) ?_
          refine m_mv rfl (wanted_g (j := 3) rfl rfl rfl (ev_in rfl (by omega))) (run_move _ rfl (ev_out rfl b2) _) ?_
          refine m_mv rfl (wanted_g (j := 3) rfl rfl rfl (ev_in rfl (by omega))) (run_neqI (b := false) _ _ rfl (ev_in rfl (by omega)) (ev_in rfl (by omega)) (decide_eq_false (by omega)) _) ?_
          refine m_mv rfl (wanted_rd rfl) (run_pickT' _ _ _ rfl (ev_in rfl (by omega)) (ev_in rfl (by omega)) _) ?_
          refine l_nx ?_
          refine c_false (ev_in rfl (by omega)) (c_finB ?_)
          refine c_region ?_
          refine m_mv rfl (wanted_rd rfl) (run_addI _ _ rfl (ev_out rfl b17) (ev_const _ _) (by omega) (by omega) _) ?_
          refine m_mv rfl (wanted_rd rfl) (run_move _ rfl (ev_in rfl (by omega)) _) ?_
          exact l_round ⟨4 - (i + 1), by omega, i + 1, _, by omega, by omega, (szL _ _).trans hs, (defL _ _).trans hd, (ev_out rfl b1), (ev_out rfl b2), (ev_out rfl b3), (ev_out rfl b4), (ev_out rfl b5), (ev_in rfl (by omega)).trans (by rw [Int.natCast_add]; rfl), (ev_out rfl b11), mh, by rw [tl2_skip (by omega)]; exact ov, kB, by omega⟩
        · refine c_rs (m_start ?_)
          refine m_mv rfl (wanted_rd rfl) (run_lssI (b := true) _ _ rfl (ev_out rfl b17) (ev_const _ _) (decide_eq_true (by omega)) _) ?_
          refine l_nx ?_
          refine c_nx (c_true (ev_in rfl (by omega)) (c_fin ?_))
          refine c_nx (c_block ?_)
          refine c_rs ?_
          refine m_mv rfl (wanted_rd rfl) (run_move _ rfl (ev_out rfl b17) _) ?_
          refine m_mv rfl (wanted_rd rfl) (run_assign _ rfl (ev_in rfl (by omega)) _) ?_
          refine l_nx ?_
          refine c_rs ?_
          refine m_mv rfl (wanted_rd rfl) (run_move _ rfl (ev_in rfl (by omega)) _) ?_
          refine m_mv rfl (wanted_rd rfl) (run_move _ rfl (ev_out rfl b1) _) ?_
          refine m_mv rfl (wanted_rd rfl) (run_neqI (b := true) _ _ rfl (ev_in rfl (by omega)) (ev_in rfl (by omega)) (decide_eq_true (by omega)) _) ?_
          refine m_mv rfl (wanted_rd rfl) (run_move _ rfl (ev_in rfl (by omega)) _) ?_
          refine m_mv rfl (wanted_g (j := 3) rfl rfl rfl (ev_in rfl (by omega))) (run_move _ rfl (ev_in rfl (by omega)) _) ?_
          refine m_mv rfl (wanted_g (j := 3) rfl rfl rfl (ev_in rfl (by omega))) (run_move _ rfl (ev_out rfl b2) _) ?_
          refine m_mv rfl (wanted_g (j := 3) rfl rfl rfl (ev_in rfl (by omega))) (run_neqI (b := true) _ _ rfl (ev_in rfl (by omega)) (ev_in rfl (by omega)) (decide_eq_true (by omega)) _) ?_
          refine m_mv rfl (wanted_rd rfl) (run_pickT' _ _ _ rfl (ev_in rfl (by omega)) (ev_in rfl (by omega)) _) ?_
          refine l_nx ?_
          refine c_true (ev_in rfl (by omega)) ?_
          refine c_region ?_
          refine m_mv rfl (wanted_rd rfl) (run_move _ rfl (ev_out rfl b11) _) ?_
          refine m_mv rfl (wanted_rd rfl) (run_loadP _ _ rfl manyHr (ev_out rfl b5) mh (by decide)) ?_
          refine m_mv rfl (wanted_rd rfl) (run_move _ rfl (ev_in rfl (by omega)) _) ?_
          refine m_mv rfl (wanted_rd rfl) (run_move _ rfl (ev_out rfl b4) _) ?_
          refine m_do rfl (wanted_rd rfl) (fun K hK => ?_)
          refine wp_call3n _ 57 _ _ _ _ rfl (ev_in rfl (by omega)) (ev_in rfl (by omega)) (ev_in rfl (by omega)) (enter_hat _ _ _ _) (heardAt_any n mo L many i k _ (hmr.below kB) hin hk) ?_
          rintro e w11 ⟨rfl, k11⟩
          have n11 := k11.size
          have mh11 := mh.below k11
          have ov11 := rw_below ov k11
          refine ⟨_, rfl, ?_⟩
          refine hK _ _ ?_
          clear hK K
          refine m_do rfl (wanted_rd rfl) (fun K hK => ?_)
          refine wp_row1 _ _ rfl (ev_in rfl (by omega)) ?_
          intro w12 m12 k12 z12
          have mh12 := mh11.below k12
          have ov12 := rw_below ov11 k12
          refine hK _ _ ?_
          clear hK K
          refine m_do rfl (wanted_rd rfl) (fun K hK => ?_)
          refine ⟨wp_joinI _ _ _ rfl w1.heap.size (by omega) v _ _ (ev_in rfl (by omega)) ov12 _ 1 1 _ (ev_in rfl (by omega)) (Or.inr ⟨_, rfl, fun i hi => by rw [add_at, Nat.zero_add]; exact m12.cell hi⟩) (fun i _ => rfl) (by omega) ?_⟩
          intro v13 w13 ov13 k13
          have n13 := k13.size
          have mh13 := mh12.same (k13.block _ (by omega))
          refine hK _ _ ?_
          clear hK K
          refine m_mv rfl (wanted_rd rfl) (run_assign _ rfl (ev_in rfl (by omega)) _) ?_
          refine l_finB ?_
          refine c_region ?_
          refine m_mv rfl (wanted_rd rfl) (run_addI _ _ rfl (ev_out rfl b17) (ev_const _ _) (by omega) (by omega) _) ?_
          refine m_mv rfl (wanted_rd rfl) (run_move _ rfl (ev_in rfl (by omega)) _) ?_
          exact l_round ⟨4 - (i + 1), by omega, i + 1, _, by omega, by omega, (szL _ _).trans hs, (defL _ _).trans hd, (ev_out rfl b1), (ev_out rfl b2), (ev_out rfl b3), (ev_out rfl b4), (ev_out rfl b5), (ev_in rfl (by omega)).trans (by rw [Int.natCast_add]; rfl), (ev_in rfl (by omega)), mh13, by rw [tl2_take (by omega) (by omega), List.length_append, List.map_append]; exact ov13, ((kB.trans (k11.mono (by omega))).trans (k12.mono (by omega))).trans (k13.mono (by omega)), by omega⟩
    · refine c_rs (m_start ?_)
      refine m_mv rfl (wanted_rd rfl) (run_lssI (b := false) _ _ rfl (ev_out rfl b17) (ev_const _ _) (decide_eq_false (by omega)) _) ?_
      obtain rfl : i = 4 := by omega
      refine l_nx ?_
      refine c_nx (c_false (ev_in rfl (by omega)) (c_exit (x_out ?_)))
      refine c_nx ?_
      have et := tl2_four (T := (fun i => tldN n (L.map Lm.m) i k many)) hI4 hs4 (show I ≠ s by omega)
      rw [et, gL_map] at ov
      obtain ⟨ta, tc, rfl, htc⟩ := rw_slice ov
      obtain ⟨y, rfl, hy⟩ : ∃ y, ta = some y ∧ ∀ i, i < 2 → W.cell? (y.add i) = some (.int .i64 (gL [tldN n (L.map Lm.m) (o1 I s) k many, tldN n (L.map Lm.m) (o2 I s) k many] i)) := by
        rcases rw_sr2 ov with ⟨_, e, _⟩ | ⟨y, e, hc⟩
        · exact absurd (show (2 : Nat) = 0 from e) (by decide)
        · exact ⟨y, e, fun i hi => hc i hi⟩
      have hS0 : (fun Z => ∀ i, i < 2 → Z.cell? (y.add i) = some (.int .i64 (gL [tldN n (L.map Lm.m) (o1 I s) k many, tldN n (L.map Lm.m) (o2 I s) k many] i))) W.drew := hy
      have ez : W.drew.heap.size = W.heap.size := rfl
      refine c_rj (S := fun Z => ∀ i, i < 2 → Z.cell? (y.add i) = some (.int .i64 (gL [tldN n (L.map Lm.m) (o1 I s) k many, tldN n (L.map Lm.m) (o2 I s) k many] i))) (.mv 0 (.mv 1 (.mv 2 (.rd 3 (.mv 4 (.mv 5 (.rd 6 (.go 7 (.mv 8 .fin))))))))) [7] (by kernel_rfl) (by kernel_rfl) ?_
      refine j_mv rfl rfl (fun _ _ _ h => h) (wanted_rd rfl) (fun _ => run_move _ rfl (ev_out rfl b3) _) ?_
      refine j_mv rfl rfl (fun _ _ _ h => h) (wanted_rd rfl) (fun _ => run_move _ rfl (ev_out rfl b11) _) ?_
      refine j_mv rfl rfl (fun _ _ _ h => h) (wanted_rd rfl) (fun _ => run_ixN _ _ rfl (a := y) (n := 2) (cap := tc) (ev_in rfl (by omega)) (ev_const _ _) (i := 0) rfl (by decide) _) ?_
      refine j_rd rfl rfl (fun _ _ _ h => h) (wanted_rd rfl) hS0 (fun _ hS => run_ldI _ rfl (ev_in rfl (by omega)) (hS 0 (by decide))) ?_
      refine j_mv rfl rfl (fun _ _ _ h => h) (wanted_rd rfl) (fun _ => run_move _ rfl (ev_out rfl b11) _) ?_
      refine j_mv rfl rfl (fun _ _ _ h => h) (wanted_rd rfl) (fun _ => run_ixN _ _ rfl (a := y) (n := 2) (cap := tc) (ev_in rfl (by omega)) (ev_const _ _) (i := 1) rfl (by decide) _) ?_
      refine j_rd rfl rfl (fun _ _ _ h => h) (wanted_rd rfl) hS0 (fun _ hS => run_ldI _ rfl (ev_in rfl (by omega)) (hS 1 (by decide))) ?_
      refine j_do rfl rfl (wanted_rd rfl) (fun K hK => ?_)
      refine wp_call3n _ 58 _ _ _ _ rfl (ev_in rfl (by omega)) (ev_in rfl (by omega)) (ev_in rfl (by omega)) (enter_adecide _ _ _ _) (agreeDecide_ok h (tldN n (L.map Lm.m) (o1 I s) k many) (tldN n (L.map Lm.m) (o2 I s) k many) _ hh (tld_R hRL _ _ _) (tld_R hRL _ _ _)) ?_
      rintro e w11 ⟨rfl, k11⟩
      have n11 := k11.size
      refine ⟨_, rfl, ?_⟩
      refine hK _ _ (fun h => absurd h (by decide)) ?_
      clear hK K
      refine j_mv rfl rfl (fun _ _ _ h => h) (wanted_rd rfl) (fun _ => run_assign _ rfl (ev_in rfl (by omega)) _) ?_
      refine j_nx ?_
      refine c_ret ?_
      refine ret_of ((defL _ _).trans hd) (res_t rfl (ev_in rfl (by omega))) ⟨?_, (below_drew kB).trans (k11.mono (by omega))⟩
      unfold tkn
      rw [if_neg hs0, hI, Int.toNat_natCast]

end Go.Proofs.Ytngmeaaglogieaa

namespace Go.Proofs.Ytngmeaaglogieaa
open Go.RowKit

theorem nd_he (n : Nd) (v : Value) : ∀ j, j < 4 → ndF n v (0 + 51 + j) = iV (n.he j) := fun j hj => by
  have := ndF_he n v hj
  rw [Nat.mul_one] at this
  exact this
/-- The votes, of the first x nodes reckoned. -/
def vtF (n : Nd) (l : List Ms) (x j : Nat) : Value := iV (if j < x then judV n l j else n.he j)
theorem vt_zero (n : Nd) (l : List Ms) : ∀ j, j < 4 → iV (n.he j) = vtF n l 0 j := fun j _ => by unfold vtF; rw [if_neg (by omega)]
theorem vt_next (n : Nd) (l : List Ms) (x : Nat) : ∀ j, j < 4 → stW (vtF n l x) (0 + x * 1) (.int .i64 (tkn n l x (n.he x) x 4)) j = vtF n l (x + 1) j := by
  intro j _
  unfold stW
  rw [show 0 + x * 1 = x by omega]
  by_cases e : j = x
  · subst e
    rw [if_pos rfl]
    unfold vtF
    rw [if_pos (by omega)]
    rfl
  · rw [if_neg e]
    unfold vtF
    by_cases c : j < x
    · rw [if_pos c, if_pos (by omega)]
    · rw [if_neg c, if_neg (by omega)]
theorem vt_four (n : Nd) (l : List Ms) : ∀ j, j < 4 → vtF n l 4 j = iV (judV n l j) := fun j hj => by
  unfold vtF
  rw [if_pos hj]
set_option maxHeartbeats 2000000 in
theorem votes_any2 (n : Nd) (nv : Value) (mo : Option Addr) (L : List Lm) (I : Nat) (w : World) (hok : NdOK n) (hI : n.id = (I : Int)) (hI4 : I < 4) (hmr : MRd w mo L) (hRL : ∀ m, m ∈ L → ∀ i, R64 (gL m.m.L i)) :
    Calls Try.prog 38 #[ndV n nv, agV (hrO n.id n.fr L 2 ((4 : Nat) : Int)) 0 4] w fun e w' => e = .returned (agV (fun j => iV (judV n (L.map Lm.m) j)) 0 4) ∧ Below w.heap.size w w' := by
  refine enterF Try.func38 rfl 27 rfl (of_decide_eq_true rfl) (fun A hs hd hb => ?_)
  have b0 : A.eval (.tmp 0) = ndV n nv := hb 0 _ rfl
  have b1 : A.eval (.tmp 1) = agV (hrO n.id n.fr L 2 ((4 : Nat) : Int)) 0 4 := hb 1 _ rfl
  clear hb
  refine c_rs (m_start ?_)
  refine m_do rfl (wanted_rd rfl) (fun K hK => ?_)
  refine wp_boxG _ _ _ rfl (ev_out rfl b0) (of_decide_eq_true rfl) ?_
  intro w1 m1 k1 z1
  refine hK _ _ ?_
  clear hK K
  refine m_do rfl (wanted_rd rfl) (fun K hK => ?_)
  refine wp_boxG _ _ _ rfl (ev_out rfl b1) (of_decide_eq_true rfl) ?_
  intro w2 m2 k2 z2
  have mn2 := m1.below k2
  refine hK _ _ ?_
  clear hK K
  refine m_do rfl (wanted_rd rfl) (fun K hK => ?_)
  refine wp_allocG _ _ rfl zero4i (of_decide_eq_true rfl) ?_
  intro w3 m3 k3 z3
  have mn3 := mn2.below k3
  have mh3 := m2.below k3
  refine hK _ _ ?_
  clear hK K
  refine l_nx ?_
  refine c_rs ?_
  refine m_mv rfl (wanted_rd rfl) (fldNd6 rfl (ev_in rfl (by omega)) _) ?_
  refine m_mv rfl (wanted_rd rfl) (run_loadPe (h := fun j => iV (n.he j)) _ _ rfl many4 (ev_in rfl (by omega)) mn3 (by decide) (nd_he n nv)) ?_
  refine m_do rfl (wanted_rd rfl) (fun K hK => ?_)
  refine wp_allocG _ _ rfl zero4i (of_decide_eq_true rfl) ?_
  intro w4 m4 k4 z4
  have mn4 := mn3.below k4
  have mh4 := mh3.below k4
  have mr4 := m3.below k4
  refine hK _ _ ?_
  clear hK K
  refine m_st (wanted_rd rfl) (fun K hK => ?_)
  refine wp_storeP _ _ _ _ rfl many4 (ev_in rfl (by omega)) (ev_in rfl (by omega)) m4 (by decide) (fun j hj => rfl) rfl ?_
  intro w5 mm5 k5 z5
  have ml5 := Vh.congr mm5 (stP_all4 _ _)
  have mn5 := mn4.kept k5 (by omega)
  have mh5 := mh4.kept k5 (by omega)
  have mr5 := mr4.kept k5 (by omega)
  refine hK _ ?_
  clear hK K
  refine l_nx ?_
  refine c_nx ?_
  refine c_rs ?_
  refine m_mv rfl (wanted_rd rfl) (fldNd6 rfl (ev_in rfl (by omega)) _) ?_
  refine m_mv rfl (wanted_rd rfl) (run_loadPe (h := fun j => iV (n.he j)) _ _ rfl many4 (ev_in rfl (by omega)) mn5 (by decide) (nd_he n nv)) ?_
  refine m_mv rfl (wanted_rd rfl) (run_move _ rfl (ev_const _ _) _) ?_
  refine l_nx ?_
  refine c_block ?_
  refine c_loop (fun q a W => ∃ i : Nat, i ≤ 4 ∧ 4 - i ≤ q ∧ a.tmps.size = 27 ∧ a.defers = [] ∧ a.eval (.tmp 2) = .pointer (some ⟨w.heap.size, 0, none⟩) ∧ a.eval (.tmp 3) = .pointer (some ⟨w1.heap.size, 0, none⟩) ∧ a.eval (.tmp 4) = .pointer (some ⟨w2.heap.size, 0, none⟩) ∧ a.eval (.tmp 5) = .pointer (some ⟨w3.heap.size, 0, none⟩) ∧ a.eval (.tmp 11) = agV (fun j => iV (n.he j)) 0 4 ∧ a.eval (.tmp 12) = .int .i64 (i : Int) ∧ Vh 37 W w.heap.size 74 74 (ndF n nv) ∧ Vh 64 W w1.heap.size 4 4 (hrO n.id n.fr L 2 ((4 : Nat) : Int)) ∧ Vh 28 W w2.heap.size 4 4 (fun _ => iV 0) ∧ Vh 28 W w3.heap.size 4 4 (vtF n (L.map Lm.m) i) ∧ Below w.heap.size w W ∧ w5.heap.size ≤ W.heap.size) 4 ⟨0, by omega, by omega, (szL _ _).trans hs, (defL _ _).trans hd, (ev_in rfl (by omega)), (ev_in rfl (by omega)), (ev_in rfl (by omega)), (ev_in rfl (by omega)), (ev_in rfl (by omega)), (ev_in rfl (by omega)), mn5, mh5, mr5, Vh.congr ml5 (vt_zero n (L.map Lm.m)), below_of_kept ((((k1).trans (k2.mono (by omega))).trans (k3.mono (by omega))).trans (k4.mono (by omega))) k5 (by omega) (by omega), by omega⟩ (fun q B W hI2 => ?_)
  clear b0 b1 hs hd
  obtain ⟨i, hi, hr2, hs, hd, b2, b3, b4, b5, b11, b12, mn, mh, mr, ml, kB, hW⟩ := hI2
  by_cases hin : i < 4
  · refine c_rs (m_start ?_)
    refine m_mv rfl (wanted_rd rfl) (run_lssI (b := true) _ _ rfl (ev_out rfl b12) (ev_const _ _) (decide_eq_true (by omega)) _) ?_
    refine l_nx ?_
    refine c_nx (c_true (ev_in rfl (by omega)) (c_fin ?_))
    refine c_nx (c_block ?_)
    refine c_rs ?_
    refine m_mv rfl (wanted_rd rfl) (run_move _ rfl (ev_out rfl b12) _) ?_
    refine m_mv rfl (wanted_rd rfl) (run_ixV1 _ _ _ _ rfl Try.underlying28 oneI (ev_out rfl b11) (ev_out rfl b12) rfl hin _) ?_
    refine m_mv rfl (wanted_rd rfl) (run_assign _ rfl (ev_in rfl (by omega)) _) ?_
    refine m_mv rfl (wanted_rd rfl) (run_assign _ rfl (ev_in rfl (by omega)) _) ?_
    refine l_nx ?_
    refine c_region ?_
    refine m_mv rfl (wanted_rd rfl) (run_move _ rfl (ev_in rfl (by omega)) _) ?_
    refine m_mv rfl (wanted_rd rfl) (run_loadP _ _ rfl manyHr (ev_out rfl b3) mh (by decide)) ?_
    refine m_mv rfl (wanted_rd rfl) (fldNd0 rfl (ev_out rfl b2) _) ?_
    refine m_mv rfl (wanted_rd rfl) (run_lod1 _ _ rfl oneI (ev_in rfl (by omega)) mn (by decide) rfl) ?_
    refine m_mv rfl (wanted_rd rfl) (run_move _ rfl (ev_in rfl (by omega)) _) ?_
    refine m_mv rfl (wanted_rd rfl) (run_move _ rfl (ev_in rfl (by omega)) _) ?_
    refine m_mv rfl (wanted_rd rfl) (run_move _ rfl (ev_in rfl (by omega)) _) ?_
    refine m_do rfl (wanted_rd rfl) (fun K hK => ?_)
    refine wp_call5 _ 47 _ _ _ _ _ _ rfl (ev_in rfl (by omega)) (ev_in rfl (by omega)) (ev_in rfl (by omega)) (ev_in rfl (by omega)) (ev_in rfl (by omega)) (enter_htaken _ _ _ _ _ _) (heardTaken_any n mo L I i (n.he i) i 4 _ hI hI4 hin (by omega) (hok.he i) (hmr.below kB) hRL) ?_
    rintro e w11 ⟨rfl, k11⟩
    have n11 := k11.size
    have mn11 := mn.below k11
    have mh11 := mh.below k11
    have mr11 := mr.below k11
    have ml11 := ml.below k11
    refine ⟨_, rfl, ?_⟩
    refine hK _ _ ?_
    clear hK K
    refine m_mv rfl (wanted_rd rfl) (run_ixG _ _ _ _ rfl Try.underlying28 oneI.size (ev_out rfl b5) (ev_in rfl (by omega)) rfl hin _) ?_
    refine m_st (wanted_rd rfl) (fun K hK => ?_)
    refine wp_sto1 _ _ _ _ rfl oneI (ev_in rfl (by omega)) (ev_in rfl (by omega)) ml11 (by omega) rfl rfl rfl ?_
    intro w12 mm12 k12 z12
    have ml12 := Vh.congr mm12 (vt_next n (L.map Lm.m) i)
    have mn12 := mn11.kept k12 (by omega)
    have mh12 := mh11.kept k12 (by omega)
    have mr12 := mr11.kept k12 (by omega)
    refine hK _ ?_
    clear hK K
    refine l_finB ?_
    refine c_region ?_
    refine m_mv rfl (wanted_rd rfl) (run_addI _ _ rfl (ev_out rfl b12) (ev_const _ _) (by omega) (by omega) _) ?_
    refine m_mv rfl (wanted_rd rfl) (run_move _ rfl (ev_in rfl (by omega)) _) ?_
    exact l_round ⟨4 - (i + 1), by omega, i + 1, by omega, by omega, (szL _ _).trans hs, (defL _ _).trans hd, (ev_out rfl b2), (ev_out rfl b3), (ev_out rfl b4), (ev_out rfl b5), (ev_out rfl b11), (ev_in rfl (by omega)).trans (by rw [Int.natCast_add]; rfl), mn12, mh12, mr12, ml12, below_of_kept (kB.trans (k11.mono (by omega))) k12 (by omega) (by omega), by omega⟩
  · refine c_rs (m_start ?_)
    refine m_mv rfl (wanted_rd rfl) (run_lssI (b := false) _ _ rfl (ev_out rfl b12) (ev_const _ _) (decide_eq_false (by omega)) _) ?_
    obtain rfl : i = 4 := by omega
    have ml := Vh.congr ml (vt_four n (L.map Lm.m))
    refine l_nx ?_
    refine c_nx (c_false (ev_in rfl (by omega)) (c_exit (x_out ?_)))
    refine c_rs ?_
    refine m_mv rfl (wanted_rd rfl) (run_loadP _ _ rfl many4 (ev_out rfl b5) ml (by decide)) ?_
    refine m_st (wanted_rd rfl) (fun K hK => ?_)
    refine wp_storeP _ _ _ _ rfl many4 (ev_out rfl b4) (ev_in rfl (by omega)) mr (by decide) (fun j hj => rfl) rfl ?_
    intro w11 mm11 k11 z11
    have mr11 := Vh.congr mm11 (stP_all4 _ _)
    have mn11 := mn.kept k11 (by omega)
    have mh11 := mh.kept k11 (by omega)
    have ml11 := ml.kept k11 (by omega)
    refine hK _ ?_
    clear hK K
    refine l_nx ?_
    refine c_ret (ret_of ((defL _ _).trans hd) (res_c rfl (ev_out rfl b4) many4 mr11 (Nat.le_refl _)) ⟨rfl, below_of_kept kB k11 (by omega) (by omega)⟩)

end Go.Proofs.Ytngmeaaglogieaa

namespace Go.Proofs.Ytngmeaaglogieaa
open Go

theorem wp_call4n (w : World) {P : Program} {Q : Exit → Act → World → Prop} {o : Oper} {a : Act} {K : Act → World → Prop} (n : Nat) (x y z u : Operand) (T : Array TypeId) (ho : o.op = .call { callee := .value (.func n), args := #[x, y, z, u], argTypes := T }) {p q r s : Value} (hx : a.eval x = p) (hy : a.eval y = q) (hz : a.eval z = r) (hu : a.eval u = s) (hf : (callFunc n #[p, q, r, s]).run P w = .ok (.enter n #[p, q, r, s]) w) {R : Ending → World → Prop} (hc : Calls P n #[p, q, r, s] w R)
    (h : ∀ e w', R e w' → ∃ r, e = .returned r ∧ K (a.put o.dst r) w') : WpI P o a w K Q := by
  refine ⟨?_⟩
  have e : (execOp a.eval o).run P w = .ok (.enter n #[p, q, r, s]) w := by
    unfold execOp
    rw [ho]
    have hv2 : a.eval (Operand.func n) = .func (.func n) #[] #[] := rfl
    simp only [resolve, invoke, Sem.run_bind, List.map_toArray, List.map_cons, List.map_nil, hx, hy, hz, hu, hv2]
    go_simp
  unfold Oper.wp
  rw [e, Oper.upon_enter]
  refine hc.mono ?_
  intro e w' hr
  obtain ⟨r, rfl, hk⟩ := h e w' hr
  exact hk

end Go.Proofs.Ytngmeaaglogieaa

namespace Go.Proofs.Ytngmeaaglogieaa
open Go.RowKit

theorem enter_vote (u p : Value) (w : World) : (callFunc 37 #[u, p]).run Try.prog w = .ok (.enter 37 #[u, p]) w := by go_simp
theorem enter_rvoteO (u p : Value) (w : World) : (callFunc 42 #[u, p]).run Try.prog w = .ok (.enter 42 #[u, p]) w := by go_simp
theorem enter_samevO (u p : Value) (w : World) : (callFunc 28 #[u, p]).run Try.prog w = .ok (.enter 28 #[u, p]) w := by go_simp
/-- All say five, all are in. -/
theorem all_five {X : Int} (h : IsV (fun _ => 5) (fun _ => true) 4 X) : X = 5 ∧ vtS (fun _ => 5) (fun _ => true) X = true := by
  rcases h with ⟨h, _⟩ | ⟨m, _, _, h, _⟩
  · exact absurd h (by decide)
  · subst h; exact ⟨rfl, show vtS (fun _ => 5) (fun _ => true) 5 = true by decide⟩
/-- Two boxes. -/
theorem vt_two (w : World) (v : Nat → Int) (b : Nat → Bool) : ∃ w1, w1 = ((w.alloc (.cells #[.int .i64 (v 0), .int .i64 (v 1), .int .i64 (v 2), .int .i64 (v 3)] 28)).alloc (.cells #[.bool (b 0), .bool (b 1), .bool (b 2), .bool (b 3)] 27)) ∧
    F4 w1 w.heap.size v ∧ B4 w1 (w.heap.size + 1) b ∧ Below w.heap.size w w1 ∧ w1.heap.size = w.heap.size + 1 + 1 := by
  obtain ⟨u, eu, mu, ku, su⟩ := f4_alloc w v
  obtain ⟨x, ex, mx, kx, sx⟩ := b4_alloc u b
  subst eu
  rw [su] at mx
  exact ⟨x, ex, mu.below kx, mx, ku.trans (kx.mono (by omega)), by omega⟩

/-- What the last statement reads. -/
def vtR (v : Nat → Int) (b : Nat → Bool) (p q : Nat) (W : World) : Prop := F4 W p v ∧ B4 W (p + 1) b ∧ W.cell? ⟨q, 1, none⟩ = some (.bool true)
theorem below3 {v : Nat → Int} {b : Nat → Bool} {p q : Nat} {W W' : World} (h : vtR v b p q W) (k : Below W.heap.size W W') : vtR v b p q W' := ⟨h.1.below k, h.2.1.below k, at_below h.2.2 k⟩

end Go.Proofs.Ytngmeaaglogieaa
