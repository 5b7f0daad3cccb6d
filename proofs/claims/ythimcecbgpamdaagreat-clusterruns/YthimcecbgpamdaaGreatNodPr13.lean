/- Contracts of the program: digest. -/
import Derived.Test.YthimcecbgpamdaaGreatNear109
import Derived.Test.YthimcecbgpamdaaGreatNear169
import Derived.Test.YthimcecbgpamdaaGreatNear167
namespace Go.Proofs.YthimcecbgpamdaaGreat
open Go.RowKit

theorem enter_pdigest (x : Value) (w : World) : (callFunc 66 #[x]).run Tryz.prog w = .ok (.enter 66 #[x]) w := by go_simp
theorem enter_csum (x : Value) (w : World) : (callFunc 98 #[x]).run Tryz.prog w = .ok (.enter 98 #[x]) w := by go_simp
theorem run_cvU {f : Operand → Value} {o : Oper} (x : Operand) (ho : o.op = .convert 3 138 x) {v : Int} (hx : f x = .int .i64 v) (w : World) : (execOp f o).run Tryz.prog w = .ok (.value (.int .u64 (v % 18446744073709551616))) w := by
  unfold execOp
  rw [ho]
  dsimp only
  rw [hx]
  go_simp
  rfl
theorem run_shrU {f : Operand → Value} {o : Oper} {s : Nat} (x y : Operand) (ho : o.op = .binOp .shr 138 x y 3) {u : Int} (hx : f x = .int .u64 u) (hy : f y = .int .i64 (s : Int)) (hs : s < 64) (w : World) : (execOp f o).run Tryz.prog w = .ok (.value (.int .u64 (u / 2 ^ s))) w := by
  unfold execOp
  rw [ho]
  dsimp only
  rw [hx, hy]
  go_simp
theorem run_cvB {f : Operand → Value} {o : Oper} (x : Operand) (ho : o.op = .convert 138 5 x) {u : Int} (hx : f x = .int .u64 u) (w : World) : (execOp f o).run Tryz.prog w = .ok (.value (bV (u % 256).toNat)) w := by
  unfold execOp
  rw [ho]
  dsimp only
  rw [hx]
  go_simp
  show Value.int .u8 (u % 256) = .int .u8 ((u % 256).toNat : Int)
  rw [Int.toNat_of_nonneg (by omega)]
theorem bt_shift (v : Int) {x : Nat} (hx : x < 8) : (v % 18446744073709551616 / 2 ^ (56 - 8 * x) % 256).toNat = bt v 8 x := by
  unfold bt
  congr 1
  match x, hx with
  | 0, _ => show v % 18446744073709551616 / 72057594037927936 % 256 = v / 72057594037927936 % 256; omega
  | 1, _ => show v % 18446744073709551616 / 281474976710656 % 256 = v / 281474976710656 % 256; omega
  | 2, _ => show v % 18446744073709551616 / 1099511627776 % 256 = v / 1099511627776 % 256; omega
  | 3, _ => show v % 18446744073709551616 / 4294967296 % 256 = v / 4294967296 % 256; omega
  | 4, _ => show v % 18446744073709551616 / 16777216 % 256 = v / 16777216 % 256; omega
  | 5, _ => show v % 18446744073709551616 / 65536 % 256 = v / 65536 % 256; omega
  | 6, _ => show v % 18446744073709551616 / 256 % 256 = v / 256 % 256; omega
  | 7, _ => show v % 18446744073709551616 / 1 % 256 = v / 1 % 256; omega
theorem wp_rowB (w : World) {o : Oper} {a : Act} {K : Act → World → Prop} {Q : Exit → Act → World → Prop} (x : Operand) (ho : o.op = .buildSlice 76 1 #[(0, x)]) {g : Nat} (hx : a.eval x = bV g)
    (h : ∀ w', Vh 5 w' w.heap.size 1 1 (fun _ => bV g) → Below w.heap.size w w' → w'.heap.size = w.heap.size + 1 → K (a.put o.dst (.slice (some ⟨w.heap.size, 0, none⟩) 1 1)) w') : WpI Tryz.prog o a w K Q := by
  have hh := h (w.alloc (.cells #[bV g] 5)) (Vh.of_row (fun _ => bV g) 1 (by decide) (by show (w.heap.push _)[w.heap.size]? = _; rw [Array.getElem?_push_size]; rfl)) (al_below _ _) (al_size _ _)
  have e : (execOp a.eval o).run Tryz.prog w = .ok (.value (.slice (some ⟨w.heap.size, 0, none⟩) 1 1)) (w.alloc (.cells #[bV g] 5)) := by
    generalize a.eval = f at hx
    unfold bV at hx ⊢
    unfold execOp
    rw [ho]
    simp only [List.map_toArray, List.map_cons, List.map_nil]
    rw [hx]
    go_simp
  refine ⟨?_⟩
  unfold Oper.wp
  rw [e]
  exact hh
theorem dg_next {ax : Nat → St} {r : Rl} {i x : Nat} (hx : x < 8) : rowV (bF (pckB ax r)) (8 * i + x) ++ rowV (fun _ => bV (bt (gL (pck ax r) i) 8 x)) 1 = rowV (bF (pckB ax r)) (8 * i + (x + 1)) := by
  rw [rowV_append]
  refine rowV_congr (fun j hj => ?_)
  by_cases c : j < 8 * i + x
  · rw [if_pos c]
  · rw [if_neg c]
    show bV (bt (gL (pck ax r) i) 8 x) = bV (bt ((pck ax r).getD (j / 8) 0) 8 (j % 8))
    rw [show j / 8 = i by omega, show j % 8 = x by omega]
    rfl
set_option maxHeartbeats 2000000 in
theorem digest_any (ax : Nat → St) (r : Rl) (vo : Option Addr) (vc : Nat) (w : World) (hsr : Sr w vo 24 vc (iF (gL (pck ax r)))) :
    Calls Tryz.prog 66 #[.slice vo 24 vc] w fun e w' => e = .returned (.int .i64 (dgN ax r)) ∧ Below w.heap.size w w' := by
  obtain ⟨y, rfl, hy⟩ : ∃ y, vo = some y ∧ ∀ i, i < 24 → w.cell? (y.add i) = some (.int .i64 (gL (pck ax r) i)) := by
    rcases hsr with ⟨_, e, _⟩ | ⟨y, e, hc⟩
    · exact absurd e (by decide)
    · exact ⟨y, e, fun i hi => hc i hi⟩
  refine enterF Tryz.func66 rfl 28 rfl (of_decide_eq_true rfl) (fun A hs hd hb => ?_)
  have b0 := hb 0 _ rfl
  clear hb
  refine c_rs (m_start ?_)
  refine m_mv rfl (wanted_rd rfl) (run_assign _ rfl (ev_const _ _) _) ?_
  refine l_nx ?_
  refine c_rs ?_
  refine m_mv rfl (wanted_rd rfl) (run_assign _ rfl (ev_const _ _) _) ?_
  refine l_nx ?_
  refine c_nx ?_
  refine c_rs ?_
  refine m_mv rfl (wanted_rd rfl) (run_move _ rfl (ev_out rfl b0) _) ?_
  refine m_mv rfl (wanted_rd rfl) (run_lenI _ rfl (ev_in rfl (by omega)) _) ?_
  refine m_mv rfl (wanted_rd rfl) (run_move _ rfl (ev_const _ _) _) ?_
  refine l_nx ?_
  refine c_block ?_
  refine c_loop (fun q A W => ∃ (i : Nat) (v : Value), i ≤ 24 ∧ 24 - i ≤ q ∧ A.tmps.size = 28 ∧ A.defers = [] ∧ A.eval (.tmp 7) = .slice (some y) 24 vc ∧ A.eval (.tmp 8) = .int .i64 ((24 : Nat) : Int) ∧ A.eval (.tmp 9) = .int .i64 (i : Int) ∧ A.eval (.tmp 3) = v ∧ W.ownsRow w.heap.size 5 1 v (8 * i) (rowV (bF (pckB ax r)) (8 * i)) ∧ Below w.heap.size w W) 24 ⟨0, _, by omega, by omega, (szL _ _).trans hs, (defL _ _).trans hd, (ev_in rfl (by omega)), (ev_in rfl (by omega)), (ev_in rfl (by omega)), (ev_in rfl (by omega)), World.ownsRow_nil _ _ _ _, Below.refl _ _⟩ (fun q B W hI2 => ?_)
  clear b0 hs hd
  obtain ⟨i, v, hi, hr2, hs, hd, b7, b8, b9, b3, ov, kB⟩ := hI2
  have hWs := kB.size
  by_cases hin : i < 24
  · refine c_rs (m_start ?_)
    refine m_mv rfl (wanted_rd rfl) (run_lssI (b := true) _ _ rfl (ev_out rfl b9) (ev_out rfl b8) (decide_eq_true (by omega)) _) ?_
    refine l_nx ?_
    refine c_nx (c_true (ev_in rfl (by omega)) (c_fin ?_))
    refine c_nx (c_block ?_)
    refine c_rs ?_
    refine m_mv rfl (wanted_rd rfl) (run_ixN _ _ rfl (a := y) (n := 24) (cap := vc) (ev_out rfl b7) (ev_out rfl b9) (i := i) rfl hin _) ?_
    refine m_mv rfl (wanted_rd rfl) (run_ldI _ rfl (ev_in rfl (by omega)) (at_below (hy i hin) kB)) ?_
    refine m_mv rfl (wanted_rd rfl) (run_assign _ rfl (ev_in rfl (by omega)) _) ?_
    refine l_nx ?_
    refine c_rs ?_
    refine m_mv rfl (wanted_rd rfl) (run_assign _ rfl (ev_const _ _) _) ?_
    refine l_nx ?_
    refine c_block ?_
    refine c_loop (fun q A W => ∃ (x : Nat) (v : Value), x ≤ 8 ∧ 8 - x ≤ q ∧ A.tmps.size = 28 ∧ A.defers = [] ∧ A.eval (.tmp 7) = .slice (some y) 24 vc ∧ A.eval (.tmp 8) = .int .i64 ((24 : Nat) : Int) ∧ A.eval (.tmp 9) = .int .i64 (i : Int) ∧ A.eval (.tmp 5) = .int .i64 (gL (pck ax r) i) ∧ A.eval (.tmp 6) = .int .i64 (56 - 8 * (x : Int)) ∧ A.eval (.tmp 3) = v ∧ W.ownsRow w.heap.size 5 1 v (8 * i + x) (rowV (bF (pckB ax r)) (8 * i + x)) ∧ Below w.heap.size w W) 8 ⟨0, v, by omega, by omega, (szL _ _).trans hs, (defL _ _).trans hd, (ev_out rfl b7), (ev_out rfl b8), (ev_out rfl b9), (ev_in rfl (by omega)), (ev_in rfl (by omega)), (ev_out rfl b3), ov, kB⟩ (fun q3 B3 W3 hI3 => ?_)
    clear b3 b7 b8 b9 hs hd ov
    obtain ⟨x, v3, hx, hr3, hs, hd, b7, b8, b9, b5, b6, b3, ov, kB3⟩ := hI3
    have hWs3 := kB3.size
    by_cases hin3 : x < 8
    · refine c_nx ?_
      refine c_rs (m_start ?_)
      refine m_mv rfl (wanted_rd rfl) (run_move _ rfl (ev_out rfl b6) _) ?_
      refine m_mv rfl (wanted_rd rfl) (run_geqI (b := true) _ _ rfl (ev_in rfl (by omega)) (ev_const _ _) (decide_eq_true (by omega)) _) ?_
      refine l_nx ?_
      refine c_true (ev_in rfl (by omega)) (c_fin ?_)
      refine c_nx (c_block ?_)
      refine c_region ?_
      refine m_mv rfl (wanted_rd rfl) (run_move _ rfl (ev_out rfl b3) _) ?_
      refine m_mv rfl (wanted_rd rfl) (run_move _ rfl (ev_out rfl b5) _) ?_
      refine m_mv rfl (wanted_rd rfl) (run_cvU _ rfl (ev_in rfl (by omega)) _) ?_
      refine m_mv rfl (wanted_rd rfl) (run_move _ rfl (ev_out rfl b6) _) ?_
      refine m_mv rfl (wanted_rd rfl) (run_shrU (s := 56 - 8 * x) _ _ rfl (ev_in rfl (by omega)) ((ev_in rfl (by omega)).trans (by rw [show (56 - 8 * (x : Int)) = ((56 - 8 * x : Nat) : Int) by omega])) (by omega) _) ?_
      refine m_mv rfl (wanted_rd rfl) ((run_cvB _ rfl (ev_in rfl (by omega)) _).trans (by rw [bt_shift _ hin3])) ?_
      refine m_do rfl (wanted_rd rfl) (fun K hK => ?_)
      refine wp_rowB _ _ rfl (ev_in rfl (by omega)) ?_
      intro w21 m21 k21 z21
      have ov21 := rw_below ov k21
      refine hK _ _ ?_
      clear hK K
      refine m_do rfl (wanted_rd rfl) (fun K hK => ?_)
      refine ⟨wp_join _ _ _ rfl w.heap.size (by omega) v3 _ _ (ev_in rfl (by omega)) ov21 _ 1 1 _ (ev_in rfl (by omega)) (Or.inr ⟨_, rfl, fun i hi => by rw [add_at, Nat.zero_add]; exact m21.cell hi⟩) (fun i _ => rfl) (by omega) ?_⟩
      intro v22 w22 ov22 k22
      have n22 := k22.size
      rw [dg_next hin3] at ov22
      refine hK _ _ ?_
      clear hK K
      refine m_mv rfl (wanted_rd rfl) (run_assign _ rfl (ev_in rfl (by omega)) _) ?_
      refine l_finB ?_
      refine c_region ?_
      refine m_mv rfl (wanted_rd rfl) (run_move _ rfl (ev_out rfl b6) _) ?_
      refine m_mv rfl (wanted_rd rfl) (run_subI _ _ rfl (ev_in rfl (by omega)) (ev_const _ _) (by omega) (by omega) _) ?_
      refine m_mv rfl (wanted_rd rfl) (run_assign _ rfl (ev_in rfl (by omega)) _) ?_
      exact l_round ⟨8 - (x + 1), by omega, x + 1, _, by omega, by omega, (szL _ _).trans hs, (defL _ _).trans hd, (ev_out rfl b7), (ev_out rfl b8), (ev_out rfl b9), (ev_out rfl b5), (ev_in rfl (by omega)).trans (by congr 1; omega), (ev_in rfl (by omega)), ov22, (kB3.trans (k21.mono (by omega))).trans (k22.mono (by omega))⟩
    · refine c_nx ?_
      refine c_rs (m_start ?_)
      refine m_mv rfl (wanted_rd rfl) (run_move _ rfl (ev_out rfl b6) _) ?_
      refine m_mv rfl (wanted_rd rfl) (run_geqI (b := false) _ _ rfl (ev_in rfl (by omega)) (ev_const _ _) (decide_eq_false (by omega)) _) ?_
      obtain rfl : x = 8 := by omega
      refine l_nx ?_
      refine c_false (ev_in rfl (by omega)) (c_exit (x_out3 ?_))
      refine c_region ?_
      refine m_mv rfl (wanted_rd rfl) (run_addI _ _ rfl (ev_out rfl b9) (ev_const _ _) (by omega) (by omega) _) ?_
      refine m_mv rfl (wanted_rd rfl) (run_move _ rfl (ev_in rfl (by omega)) _) ?_
      exact l_round ⟨24 - (i + 1), by omega, i + 1, _, by omega, by omega, (szL _ _).trans hs, (defL _ _).trans hd, (ev_out rfl b7), (ev_out rfl b8), (ev_in rfl (by omega)).trans (by rw [Int.natCast_add]; rfl), (ev_out rfl b3), ov, kB3⟩
  · refine c_rs (m_start ?_)
    refine m_mv rfl (wanted_rd rfl) (run_lssI (b := false) _ _ rfl (ev_out rfl b9) (ev_out rfl b8) (decide_eq_false (by omega)) _) ?_
    obtain rfl : i = 24 := by omega
    refine l_nx ?_
    refine c_nx (c_false (ev_in rfl (by omega)) (c_exit (x_out ?_)))
    obtain ⟨ta, tc, rfl, htc⟩ := rw_slice ov
    refine c_rs ?_
    refine m_mv rfl (wanted_rd rfl) (run_move _ rfl (ev_out rfl b3) _) ?_
    refine m_do rfl (wanted_rd rfl) (fun K hK => ?_)
    refine wp_call1 _ 98 _ _ rfl (ev_in rfl (by omega)) (enter_csum _ _) (csum_any ta (8 * 24) tc (pckB ax r) _ (pckB_lt ax r) (by decide) (owns_rd ov)) ?_
    rintro e w11 ⟨rfl, k11⟩
    have n11 := k11.size
    refine ⟨_, rfl, ?_⟩
    refine hK _ _ ?_
    clear hK K
    refine m_mv rfl (wanted_rd rfl) (run_assign _ rfl (ev_in rfl (by omega)) _) ?_
    refine l_nx ?_
    exact c_ret (ret_of ((defL _ _).trans hd) (res_t rfl (ev_in rfl (by omega))) ⟨rfl, kB.trans (k11.mono (by omega))⟩)

end Go.Proofs.YthimcecbgpamdaaGreat
