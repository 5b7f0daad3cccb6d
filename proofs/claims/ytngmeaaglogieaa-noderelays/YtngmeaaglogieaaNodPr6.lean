/- Contracts of the program: flat. -/
import Derived.Test.YtngmeaaglogieaaNear25
namespace Go.Proofs.Ytngmeaaglogieaa
open Go.RowKit

theorem zero3 (w : World) : (zeroValue 31).run Try.prog w = .ok (agV (fun _ => iV 0) 0 3) w := by kernel_rfl
theorem stP_all3 (g : Nat → Value) (h : Nat → Value) : ∀ j, j < 3 → stP g 0 3 h j = h j := fun j hj => by
  have := stP_in g (o := 0) (n := 3) h hj
  rwa [Nat.zero_add] at this
theorem run_len3 {f : Operand → Value} {o : Oper} (x : Operand) (ho : o.op = .call { callee := .builtin .len, args := #[x], argTypes := #[67] }) {ao : Option Addr} {n c : Nat} (hx : f x = .slice ao n c) (w : World) : (execOp f o).run Try.prog w = .ok (.value (.int .i64 ((n : Nat) : Int))) w := by
  unfold execOp
  rw [ho]
  dsimp only
  go_simp
theorem run_ix3 {f : Operand → Value} {o : Oper} (x y : Operand) (ho : o.op = .indexAddr 67 x y) {b off n cap i : Nat} {z : Int} (hx : f x = .slice (some ⟨b, off, none⟩) n cap) (hy : f y = .int .i64 z) (hz : z = (i : Int)) (hi : i < n) (w : World) :
    (execOp f o).run Try.prog w = .ok (.value (.pointer (some ⟨b, off + i * 3, none⟩))) w := by
  subst hz
  have hi2 : (i : Int) < n := by omega
  unfold execOp
  rw [ho]
  dsimp only
  rw [hx, hy]
  go_simp
theorem flat_next {d : Nat → Nat → Int} {i : Nat} : rowV (iF (fun j => d (j / 3) (j % 3))) (3 * i) ++ rowV (fun k => iV (d i k)) 3 = rowV (iF (fun j => d (j / 3) (j % 3))) (3 * (i + 1)) := by
  rw [rowV_append]
  refine rowV_congr (fun j hj => ?_)
  by_cases c : j < 3 * i
  · rw [if_pos c]
  · rw [if_neg c]
    show iV (d i (j - 3 * i)) = iV (d (j / 3) (j % 3))
    rw [show j / 3 = i by omega, show j % 3 = j - 3 * i by omega]
theorem flat_any (b o N cap : Nat) (t : TypeId) (g : Nat → Value) (d : Nat → Nat → Int) (w : World) (hm : Vh t w b N cap g) (ho : o + 12 ≤ N) (hg : ∀ i k, i < 4 → k < 3 → g (o + i * 3 + k) = iV (d i k)) :
    Calls Try.prog 34 #[.slice (some ⟨b, o, none⟩) 4 4] w fun e w' => ∃ a2 c2, e = .returned (.slice a2 12 c2) ∧ w'.ownsRow w.heap.size 3 1 (.slice a2 12 c2) 12 (rowV (iF (fun j => d (j / 3) (j % 3))) 12) ∧ Below w.heap.size w w' := by
  refine enterF Try.func34 rfl 17 rfl (of_decide_eq_true rfl) (fun A hs hd hb => ?_)
  have b0 := hb 0 _ rfl
  clear hb
  refine c_rs (m_start ?_)
  refine m_mv rfl (wanted_rd rfl) (run_assign _ rfl (ev_const _ _) _) ?_
  refine l_nx ?_
  refine c_rs ?_
  refine m_mv rfl (wanted_rd rfl) (run_assign _ rfl (ev_const _ _) _) ?_
  refine l_nx ?_
  refine c_nx ?_
  refine c_rs ?_
  refine m_mv rfl (wanted_rd rfl) (run_move _ rfl (ev_out rfl b0) _) ?_
  refine m_mv rfl (wanted_rd rfl) (run_len3 _ rfl (ev_in rfl (by omega)) _) ?_
  refine m_mv rfl (wanted_rd rfl) (run_move _ rfl (ev_const _ _) _) ?_
  refine l_nx ?_
  refine c_block ?_
  refine c_loop (fun r a W => ∃ (i : Nat) (v : Value), i ≤ 4 ∧ 4 - i ≤ r ∧ a.tmps.size = 17 ∧ a.defers = [] ∧ a.eval (.tmp 6) = .slice (some ⟨b, o, none⟩) 4 4 ∧ a.eval (.tmp 7) = .int .i64 ((4 : Nat) : Int) ∧ a.eval (.tmp 8) = .int .i64 (i : Int) ∧ a.eval (.tmp 3) = v ∧ W.ownsRow w.heap.size 3 1 v (3 * i) (rowV (iF (fun j => d (j / 3) (j % 3))) (3 * i)) ∧ Below w.heap.size w W) 4 ⟨0, _, by omega, by omega, (szL _ _).trans hs, (defL _ _).trans hd, (ev_in rfl (by omega)), (ev_in rfl (by omega)), (ev_in rfl (by omega)), (ev_in rfl (by omega)), World.ownsRow_nil _ _ _ _, Below.refl _ _⟩ (fun r B W hI => ?_)
  clear b0 hs hd
  obtain ⟨i, v, hi, hr2, hs, hd, b6, b7, b8, b3, ov, kB⟩ := hI
  have hWs := kB.size
  have hbl := hm.lt
  by_cases hin : i < 4
  · refine c_rs (m_start ?_)
    refine m_mv rfl (wanted_rd rfl) (run_lssI (b := true) _ _ rfl (ev_out rfl b8) (ev_out rfl b7) (decide_eq_true (by omega)) _) ?_
    refine l_nx ?_
    refine c_nx (c_true (ev_in rfl (by omega)) (c_fin ?_))
    refine c_nx (c_block ?_)
    refine c_rs ?_
    refine m_mv rfl (wanted_rd rfl) (run_ix3 _ _ rfl (ev_out rfl b6) (ev_out rfl b8) rfl hin _) ?_
    refine m_mv rfl (wanted_rd rfl) (run_loadPe (h := fun k => iV (d i k)) _ _ rfl many3 (ev_in rfl (by omega)) (hm.below kB) (by omega) (fun k hk => hg i k hin hk)) ?_
    refine m_do rfl (wanted_rd rfl) (fun K hK => ?_)
    refine wp_allocG _ _ rfl zero3 (of_decide_eq_true rfl) ?_
    intro w1 m1 k1 z1
    have ov1 := rw_below ov k1
    refine hK _ _ ?_
    clear hK K
    refine m_st (wanted_rd rfl) (fun K hK => ?_)
    refine wp_storeP _ _ _ _ rfl many3 (ev_in rfl (by omega)) (ev_in rfl (by omega)) m1 (by decide) (fun j hj => rfl) rfl ?_
    intro w2 mm2 k2 z2
    have mrow2 := Vh.congr mm2 (stP_all3 _ _)
    have ov2 := rw_kept ov1 k2 (fun e => by have e2 := (ov.lt _ e).2; omega)
    refine hK _ ?_
    clear hK K
    refine l_nx ?_
    refine c_region ?_
    refine m_mv rfl (wanted_rd rfl) (run_move _ rfl (ev_out rfl b3) _) ?_
    refine m_mv rfl (wanted_rd rfl) (run_cutI3 _ rfl (ev_in rfl (by omega)) _) ?_
    refine m_do rfl (wanted_rd rfl) (fun K hK => ?_)
    refine ⟨wp_joinI _ _ _ rfl w.heap.size (by omega) v _ _ (ev_in rfl (by omega)) ov2 _ 3 3 _ (ev_in rfl (by omega)) (Or.inr ⟨_, rfl, fun i hi => by rw [add_at, Nat.zero_add]; exact mrow2.cell hi⟩) (fun i _ => rfl) (by omega) ?_⟩
    intro v3 w3 ov3 k3
    have n3 := k3.size
    rw [flat_next] at ov3
    refine hK _ _ ?_
    clear hK K
    refine m_mv rfl (wanted_rd rfl) (run_assign _ rfl (ev_in rfl (by omega)) _) ?_
    refine l_finB ?_
    refine c_region ?_
    refine m_mv rfl (wanted_rd rfl) (run_addI _ _ rfl (ev_out rfl b8) (ev_const _ _) (by omega) (by omega) _) ?_
    refine m_mv rfl (wanted_rd rfl) (run_move _ rfl (ev_in rfl (by omega)) _) ?_
    exact l_round ⟨4 - (i + 1), by omega, i + 1, _, by omega, by omega, (szL _ _).trans hs, (defL _ _).trans hd, (ev_out rfl b6), (ev_out rfl b7), (ev_in rfl (by omega)).trans (by rw [Int.natCast_add]; rfl), (ev_in rfl (by omega)), ov3, (below_of_kept (kB.trans (k1.mono (by omega))) k2 (by omega) (by omega)).trans (k3.mono (by omega))⟩
  · refine c_rs (m_start ?_)
    refine m_mv rfl (wanted_rd rfl) (run_lssI (b := false) _ _ rfl (ev_out rfl b8) (ev_out rfl b7) (decide_eq_false (by omega)) _) ?_
    obtain rfl : i = 4 := by omega
    refine l_nx ?_
    refine c_nx (c_false (ev_in rfl (by omega)) (c_exit (x_out ?_)))
    refine c_rs ?_
    refine m_mv rfl (wanted_rd rfl) (run_move _ rfl (ev_out rfl b3) _) ?_
    refine m_mv rfl (wanted_rd rfl) (run_assign _ rfl (ev_in rfl (by omega)) _) ?_
    obtain ⟨a2, c2, rfl, hc2⟩ := rw_slice ov
    refine l_nx ?_
    exact c_ret (ret_of ((defL _ _).trans hd) (res_t rfl (ev_in rfl (by omega))) ⟨a2, c2, rfl, ov, kB⟩)

end Go.Proofs.Ytngmeaaglogieaa
