/- Contracts of the program: bit, setNumber, countNumber, numbers. -/
import Derived.Test.YtngmeaaglogieaaNear48
import Derived.Test.YtngmeaaglogieaaNear43
namespace Go.Proofs.Ytngmeaaglogieaa
open Go.RowKit

def bz (b : Bool) : Int := if b then 1 else 0
theorem pbit_any (b : Bool) (w : World) : Calls Try.prog 50 #[.bool b] w fun e w' => e = .returned (.int .i64 (bz b)) ∧ Below w.heap.size w w' := by
  cases b
  · refine enterF Try.func50 rfl 4 rfl (of_decide_eq_true rfl) (fun A hs hd hb => ?_)
    have b0 := hb 0 _ rfl
    clear hb
    refine c_rs (m_start ?_)
    refine m_mv rfl (wanted_rd rfl) (run_assign _ rfl (ev_const _ _) _) ?_
    refine l_nx ?_
    refine c_nx ?_
    refine c_rs ?_
    refine m_mv rfl (wanted_rd rfl) (run_move _ rfl (ev_out rfl b0) _) ?_
    refine l_nx ?_
    refine c_false (ev_in rfl (by omega)) (c_fin ?_)
    refine c_rs ?_
    refine m_mv rfl (wanted_rd rfl) (run_assign _ rfl (ev_const _ _) _) ?_
    refine l_nx ?_
    refine c_ret ?_
    exact ret_of ((defL _ _).trans hd) (res_t rfl (ev_in rfl (by omega))) ⟨rfl, Below.refl _ _⟩
  · refine enterF Try.func50 rfl 4 rfl (of_decide_eq_true rfl) (fun A hs hd hb => ?_)
    have b0 := hb 0 _ rfl
    clear hb
    refine c_rs (m_start ?_)
    refine m_mv rfl (wanted_rd rfl) (run_assign _ rfl (ev_const _ _) _) ?_
    refine l_nx ?_
    refine c_nx ?_
    refine c_rs ?_
    refine m_mv rfl (wanted_rd rfl) (run_move _ rfl (ev_out rfl b0) _) ?_
    refine l_nx ?_
    refine c_true (ev_in rfl (by omega)) ?_
    refine c_rs ?_
    refine m_mv rfl (wanted_rd rfl) (run_assign _ rfl (ev_const _ _) _) ?_
    refine l_nx ?_
    refine c_ret ?_
    simp only [Nx, Exit.then]
    exact ret_of ((defL _ _).trans hd) (res_t rfl (ev_in rfl (by omega))) ⟨rfl, Below.refl _ _⟩
theorem run_shl1 {f : Operand → Value} {o : Oper} (x y : Operand) (ho : o.op = .binOp .shl 3 x y 3) {b : Bool} {i : Nat} (hx : f x = .int .i64 (bz b)) (hy : f y = .int .i64 (i : Int)) (hi : i < 4) (w : World) : (execOp f o).run Try.prog w = .ok (.value (.int .i64 (if b then 2 ^ i else 0))) w := by
  have : i = 0 ∨ i = 1 ∨ i = 2 ∨ i = 3 := by omega
  unfold execOp
  rw [ho]
  dsimp only
  rw [hx, hy]
  rcases this with rfl | rfl | rfl | rfl <;> cases b <;> (change _ = _; kernel_rfl)
theorem run_ixT {f : Operand → Value} {o : Oper} (x y : Operand) (ho : o.op = .indexAddr 33 x y) {b off n cap i : Nat} {z : Int} (hx : f x = .slice (some ⟨b, off, none⟩) n cap) (hy : f y = .int .i64 z) (hz : z = (i : Int)) (hi : i < n) (w : World) :
    (execOp f o).run Try.prog w = .ok (.value (.pointer (some ⟨b, off + i, none⟩))) w := by
  subst hz
  have hi2 : (i : Int) < n := by omega
  unfold execOp
  rw [ho]
  dsimp only
  rw [hx, hy]
  go_simp
theorem run_ixIa {f : Operand → Value} {o : Oper} (x y : Operand) (ho : o.op = .indexAddr 43 x y) {b off n cap i : Nat} {z : Int} (hx : f x = .slice (some ⟨b, off, none⟩) n cap) (hy : f y = .int .i64 z) (hz : z = (i : Int)) (hi : i < n) (w : World) :
    (execOp f o).run Try.prog w = .ok (.value (.pointer (some ⟨b, off + i, none⟩))) w := by
  subst hz
  have hi2 : (i : Int) < n := by omega
  unfold execOp
  rw [ho]
  dsimp only
  rw [hx, hy]
  go_simp
/-- Who is in, as a number, behind the first k. -/
def sN (b : Nat → Bool) : Nat → Int
  | 0 => 0
  | k + 1 => sN b k + (if b k then 2 ^ k else 0)
theorem sN_four (b : Nat → Bool) : sN b 4 = inN b := by
  show 0 + _ + _ + _ + _ = _
  unfold inN
  rw [Int.zero_add]
  rfl
theorem sN_in (b : Nat → Bool) {k : Nat} (hk : k ≤ 4) : 0 ≤ sN b k ∧ sN b k ≤ 15 ∧ (k < 4 → 0 ≤ (if b k then (2 : Int) ^ k else 0) ∧ (if b k then (2 : Int) ^ k else 0) ≤ 8) := by
  have h1 : ∀ (x : Bool) (i : Nat), 0 ≤ (if x then (2 : Int) ^ i else 0) ∧ (if x then (2 : Int) ^ i else 0) ≤ (2 : Int) ^ i := fun x i => by
    have : (0 : Int) ≤ 2 ^ i := Int.pow_nonneg (by decide)
    cases x
    · exact ⟨Int.le_refl _, this⟩
    · exact ⟨this, Int.le_refl _⟩
  have e0 := h1 (b 0) 0; have e1 := h1 (b 1) 1; have e2 := h1 (b 2) 2; have e3 := h1 (b 3) 3
  rw [show (2 : Int) ^ 0 = 1 from rfl] at e0
  rw [show (2 : Int) ^ 1 = 2 from rfl] at e1
  rw [show (2 : Int) ^ 2 = 4 from rfl] at e2
  rw [show (2 : Int) ^ 3 = 8 from rfl] at e3
  match k, hk with
  | 0, _ => exact ⟨Int.le_refl _, by show (0 : Int) ≤ 15; decide, fun _ => ⟨e0.1, by show (if b 0 then (1 : Int) else 0) ≤ 8; omega⟩⟩
  | 1, _ => exact ⟨by show 0 ≤ 0 + (if b 0 then (1 : Int) else 0); omega, by show 0 + (if b 0 then (1 : Int) else 0) ≤ 15; omega, fun _ => ⟨e1.1, by show (if b 1 then (2 : Int) else 0) ≤ 8; omega⟩⟩
  | 2, _ => exact ⟨by show 0 ≤ 0 + (if b 0 then (1 : Int) else 0) + (if b 1 then (2 : Int) else 0); omega, by show 0 + (if b 0 then (1 : Int) else 0) + (if b 1 then (2 : Int) else 0) ≤ 15; omega, fun _ => ⟨e2.1, by show (if b 2 then (4 : Int) else 0) ≤ 8; omega⟩⟩
  | 3, _ => exact ⟨by show 0 ≤ 0 + (if b 0 then (1 : Int) else 0) + (if b 1 then (2 : Int) else 0) + (if b 2 then (4 : Int) else 0); omega, by show 0 + (if b 0 then (1 : Int) else 0) + (if b 1 then (2 : Int) else 0) + (if b 2 then (4 : Int) else 0) ≤ 15; omega, fun _ => ⟨e3.1, e3.2⟩⟩
  | 4, _ => exact ⟨by show 0 ≤ 0 + (if b 0 then (1 : Int) else 0) + (if b 1 then (2 : Int) else 0) + (if b 2 then (4 : Int) else 0) + (if b 3 then (8 : Int) else 0); omega, by show 0 + (if b 0 then (1 : Int) else 0) + (if b 1 then (2 : Int) else 0) + (if b 2 then (4 : Int) else 0) + (if b 3 then (8 : Int) else 0) ≤ 15; omega, fun h => absurd h (by omega)⟩
theorem setNumber_any (b o N cap : Nat) (t : TypeId) (g : Nat → Value) (c : Nat → Bool) (w : World) (hm : Vh t w b N cap g) (ho : o + 4 ≤ N) (hg : ∀ i, i < 4 → g (o + i) = .bool (c i)) :
    Calls Try.prog 51 #[.slice (some ⟨b, o, none⟩) 4 4] w fun e w' => e = .returned (.int .i64 (inN c)) ∧ Below w.heap.size w w' := by
  refine enterF Try.func51 rfl 21 rfl (of_decide_eq_true rfl) (fun A hs hd hb => ?_)
  have b0 := hb 0 _ rfl
  clear hb
  refine c_rs (m_start ?_)
  refine m_mv rfl (wanted_rd rfl) (run_assign _ rfl (ev_const _ _) _) ?_
  refine l_nx ?_
  refine c_rs ?_
  refine m_mv rfl (wanted_rd rfl) (run_assign _ rfl (ev_const _ _) _) ?_
  refine l_nx ?_
  refine c_nx ?_
  refine c_rs ?_
  refine m_mv rfl (wanted_rd rfl) (run_move _ rfl (ev_out rfl b0) _) ?_
  refine m_mv rfl (wanted_rd rfl) (run_lenT _ rfl (ev_in rfl (by omega)) _) ?_
  refine m_mv rfl (wanted_rd rfl) (run_move _ rfl (ev_const _ _) _) ?_
  refine l_nx ?_
  refine c_block ?_
  refine c_loop (fun r a W => ∃ i : Nat, i ≤ 4 ∧ 4 - i ≤ r ∧ a.tmps.size = 21 ∧ a.defers = [] ∧ a.eval (.tmp 6) = .slice (some ⟨b, o, none⟩) 4 4 ∧ a.eval (.tmp 7) = .int .i64 ((4 : Nat) : Int) ∧ a.eval (.tmp 8) = .int .i64 (i : Int) ∧ a.eval (.tmp 3) = .int .i64 (sN c i) ∧ Below w.heap.size w W) 4 ⟨0, by omega, by omega, (szL _ _).trans hs, (defL _ _).trans hd, (ev_in rfl (by omega)), (ev_in rfl (by omega)), (ev_in rfl (by omega)), (ev_in rfl (by omega)), Below.refl _ _⟩ (fun r B W hI => ?_)
  clear b0 hs hd
  obtain ⟨i, hi, hr2, hs, hd, b6, b7, b8, b3, kB⟩ := hI
  have hWs := kB.size
  by_cases hin : i < 4
  · refine c_rs (m_start ?_)
    refine m_mv rfl (wanted_rd rfl) (run_lssI (b := true) _ _ rfl (ev_out rfl b8) (ev_out rfl b7) (decide_eq_true (by omega)) _) ?_
    refine l_nx ?_
    refine c_nx (c_true (ev_in rfl (by omega)) (c_fin ?_))
    refine c_nx (c_block ?_)
    refine c_rs ?_
    refine m_mv rfl (wanted_rd rfl) (run_move _ rfl (ev_out rfl b8) _) ?_
    refine m_mv rfl (wanted_rd rfl) (run_ixT _ _ rfl (ev_out rfl b6) (ev_out rfl b8) rfl hin _) ?_
    refine m_mv rfl (wanted_rd rfl) (run_lod1 _ _ rfl oneB (ev_in rfl (by omega)) (hm.below kB) (by omega) (hg i hin)) ?_
    refine m_mv rfl (wanted_rd rfl) (run_assign _ rfl (ev_in rfl (by omega)) _) ?_
    refine m_mv rfl (wanted_rd rfl) (run_assign _ rfl (ev_in rfl (by omega)) _) ?_
    refine l_nx ?_
    refine c_region ?_
    refine m_mv rfl (wanted_rd rfl) (run_move _ rfl (ev_out rfl b3) _) ?_
    refine m_mv rfl (wanted_rd rfl) (run_move _ rfl (ev_in rfl (by omega)) _) ?_
    refine m_do rfl (wanted_rd rfl) (fun K hK => ?_)
    refine wp_call1 _ 50 _ _ rfl (ev_in rfl (by omega)) (enter_pbit _ _) (pbit_any _ _) ?_
    rintro e w1 ⟨rfl, k1⟩
    have n1 := k1.size
    refine ⟨_, rfl, ?_⟩
    refine hK _ _ ?_
    clear hK K
    refine m_mv rfl (wanted_rd rfl) (run_move _ rfl (ev_in rfl (by omega)) _) ?_
    refine m_mv rfl (wanted_rd rfl) (run_shl1 _ _ rfl (ev_in rfl (by omega)) (ev_in rfl (by omega)) hin _) ?_
    refine m_mv rfl (wanted_rd rfl) (run_addI _ _ rfl (ev_in rfl (by omega)) (ev_in rfl (by omega)) (by have := sN_in c hi; have := this.2.2 hin; omega) (by have := sN_in c hi; have := this.2.2 hin; omega) _) ?_
    refine m_mv rfl (wanted_rd rfl) (run_assign _ rfl (ev_in rfl (by omega)) _) ?_
    refine l_finB ?_
    refine c_region ?_
    refine m_mv rfl (wanted_rd rfl) (run_addI _ _ rfl (ev_out rfl b8) (ev_const _ _) (by omega) (by omega) _) ?_
    refine m_mv rfl (wanted_rd rfl) (run_move _ rfl (ev_in rfl (by omega)) _) ?_
    exact l_round ⟨4 - (i + 1), by omega, i + 1, by omega, by omega, (szL _ _).trans hs, (defL _ _).trans hd, (ev_out rfl b6), (ev_out rfl b7), (ev_in rfl (by omega)).trans (by rw [Int.natCast_add]; rfl), (ev_in rfl (by omega)), kB.trans (k1.mono (by omega))⟩
  · refine c_rs (m_start ?_)
    refine m_mv rfl (wanted_rd rfl) (run_lssI (b := false) _ _ rfl (ev_out rfl b8) (ev_out rfl b7) (decide_eq_false (by omega)) _) ?_
    obtain rfl : i = 4 := by omega
    refine l_nx ?_
    refine c_nx (c_false (ev_in rfl (by omega)) (c_exit (x_out ?_)))
    refine c_rs ?_
    refine m_mv rfl (wanted_rd rfl) (run_move _ rfl (ev_out rfl b3) _) ?_
    refine m_mv rfl (wanted_rd rfl) (run_assign _ rfl (ev_in rfl (by omega)) _) ?_
    refine l_nx ?_
    exact c_ret (ret_of ((defL _ _).trans hd) (res_t rfl (ev_in rfl (by omega))) ⟨by rw [sN_four], kB⟩)
theorem countNumber_any (b o N cap : Nat) (t : TypeId) (g : Nat → Value) (c : Nat → Int) (w : World) (hm : Vh t w b N cap g) (ho : o + 4 ≤ N) (hg : ∀ i, i < 4 → g (o + i) = .int .i64 (c i)) :
    Calls Try.prog 52 #[.slice (some ⟨b, o, none⟩) 4 4] w fun e w' => e = .returned (.int .i64 (ctN8 c 4)) ∧ Below w.heap.size w w' := by
  refine enterF Try.func52 rfl 18 rfl (of_decide_eq_true rfl) (fun A hs hd hb => ?_)
  have b0 := hb 0 _ rfl
  clear hb
  refine c_rs (m_start ?_)
  refine m_mv rfl (wanted_rd rfl) (run_assign _ rfl (ev_const _ _) _) ?_
  refine l_nx ?_
  refine c_rs ?_
  refine m_mv rfl (wanted_rd rfl) (run_assign _ rfl (ev_const _ _) _) ?_
  refine l_nx ?_
  refine c_nx ?_
  refine c_rs ?_
  refine m_mv rfl (wanted_rd rfl) (run_move _ rfl (ev_out rfl b0) _) ?_
  refine m_mv rfl (wanted_rd rfl) (run_lenI _ rfl (ev_in rfl (by omega)) _) ?_
  refine m_mv rfl (wanted_rd rfl) (run_move _ rfl (ev_const _ _) _) ?_
  refine l_nx ?_
  refine c_block ?_
  refine c_loop (fun r a W => ∃ i : Nat, i ≤ 4 ∧ 4 - i ≤ r ∧ a.tmps.size = 18 ∧ a.defers = [] ∧ a.eval (.tmp 6) = .slice (some ⟨b, o, none⟩) 4 4 ∧ a.eval (.tmp 7) = .int .i64 ((4 : Nat) : Int) ∧ a.eval (.tmp 8) = .int .i64 (i : Int) ∧ a.eval (.tmp 3) = .int .i64 (ctN8 c i) ∧ Below w.heap.size w W) 4 ⟨0, by omega, by omega, (szL _ _).trans hs, (defL _ _).trans hd, (ev_in rfl (by omega)), (ev_in rfl (by omega)), (ev_in rfl (by omega)), (ev_in rfl (by omega)), Below.refl _ _⟩ (fun r B W hI => ?_)
  clear b0 hs hd
  obtain ⟨i, hi, hr2, hs, hd, b6, b7, b8, b3, kB⟩ := hI
  have hWs := kB.size
  by_cases hin : i < 4
  · refine c_rs (m_start ?_)
    refine m_mv rfl (wanted_rd rfl) (run_lssI (b := true) _ _ rfl (ev_out rfl b8) (ev_out rfl b7) (decide_eq_true (by omega)) _) ?_
    refine l_nx ?_
    refine c_nx (c_true (ev_in rfl (by omega)) (c_fin ?_))
    refine c_nx (c_block ?_)
    refine c_rs ?_
    refine m_mv rfl (wanted_rd rfl) (run_ixIa _ _ rfl (ev_out rfl b6) (ev_out rfl b8) rfl hin _) ?_
    refine m_mv rfl (wanted_rd rfl) (run_lod1 _ _ rfl oneI (ev_in rfl (by omega)) (hm.below kB) (by omega) (hg i hin)) ?_
    refine m_mv rfl (wanted_rd rfl) (run_assign _ rfl (ev_in rfl (by omega)) _) ?_
    refine l_nx ?_
    refine c_region ?_
    refine m_mv rfl (wanted_rd rfl) (run_move _ rfl (ev_out rfl b3) _) ?_
    refine m_mv rfl (wanted_rd rfl) (run_mulW _ _ rfl (ev_in rfl (by omega)) (ev_const _ _) _) ?_
    refine m_mv rfl (wanted_rd rfl) (run_move _ rfl (ev_in rfl (by omega)) _) ?_
    refine m_mv rfl (wanted_rd rfl) (run_addW _ _ rfl (ev_in rfl (by omega)) (ev_in rfl (by omega)) _) ?_
    refine m_mv rfl (wanted_rd rfl) (run_assign _ rfl (ev_in rfl (by omega)) _) ?_
    refine l_finB ?_
    refine c_region ?_
    refine m_mv rfl (wanted_rd rfl) (run_addI _ _ rfl (ev_out rfl b8) (ev_const _ _) (by omega) (by omega) _) ?_
    refine m_mv rfl (wanted_rd rfl) (run_move _ rfl (ev_in rfl (by omega)) _) ?_
    exact l_round ⟨4 - (i + 1), by omega, i + 1, by omega, by omega, (szL _ _).trans hs, (defL _ _).trans hd, (ev_out rfl b6), (ev_out rfl b7), (ev_in rfl (by omega)).trans (by rw [Int.natCast_add]; rfl), (ev_in rfl (by omega)).trans (by show Value.int .i64 (wrap64 (wrap64 (ctN8 c i * 8) + c i)) = .int .i64 (wrap64 (wrap64 (8 * ctN8 c i) + c i)); rw [Int.mul_comm]), kB⟩
  · refine c_rs (m_start ?_)
    refine m_mv rfl (wanted_rd rfl) (run_lssI (b := false) _ _ rfl (ev_out rfl b8) (ev_out rfl b7) (decide_eq_false (by omega)) _) ?_
    obtain rfl : i = 4 := by omega
    refine l_nx ?_
    refine c_nx (c_false (ev_in rfl (by omega)) (c_exit (x_out ?_)))
    refine c_rs ?_
    refine m_mv rfl (wanted_rd rfl) (run_move _ rfl (ev_out rfl b3) _) ?_
    refine m_mv rfl (wanted_rd rfl) (run_assign _ rfl (ev_in rfl (by omega)) _) ?_
    refine l_nx ?_
    exact c_ret (ret_of ((defL _ _).trans hd) (res_t rfl (ev_in rfl (by omega))) ⟨rfl, kB⟩)
/-- The axes' cells. -/
def naxF (ax : Nat → St) (j : Nat) : Value := nstF (ax (j / 7)) (j % 7)
theorem nax_part (ax : Nat → St) {x : Nat} : agV (naxF ax) (x * 7) 7 = agV (nstF (ax x)) 0 7 := by
  unfold agV naxF
  congr 2
  refine List.map_congr_left (fun j hj => ?_)
  have := List.mem_range.1 hj
  rw [show (x * 7 + j) / 7 = x by omega, show (x * 7 + j) % 7 = j by omega, Nat.zero_add]
theorem pk_allS (ax : Nat → St) (r : Rl) : (pck ax r).map iV = (pkL ax 3).map iV ++ rowV (fun i => iV (gL [inN r.I, ctN8 r.M 4, ctN8 r.J 4] i)) 3 := by
  unfold pck
  rw [List.map_append]
  rfl
theorem nrl_in (r : Rl) {i : Nat} (hi : i < 4) : nrlF r (0 + 0 + i) = .bool (r.I i) := by unfold nrlF; rw [if_pos (by omega), show 0 + 0 + i = i by omega]
theorem nrl_mi (r : Rl) {i : Nat} (hi : i < 4) : nrlF r (0 + 4 + i) = .int .i64 (r.M i) := by unfold nrlF; rw [if_neg (by omega), if_pos (by omega), show 0 + 4 + i - 4 = i by omega]; rfl
theorem nrl_jo (r : Rl) {i : Nat} (hi : i < 4) : nrlF r (0 + 8 + i) = .int .i64 (r.J i) := by unfold nrlF; rw [if_neg (by omega), if_neg (by omega), show 0 + 8 + i - 8 = i by omega]; rfl
set_option maxHeartbeats 2000000 in
theorem numbers_any (ax : Nat → St) (r : Rl) (w : World) : Calls Try.prog 40 #[agV (naxF ax) 0 21, agV (nrlF r) 0 12] w fun e w' => ∃ ao c, e = .returned (.slice ao 24 c) ∧ w'.ownsRow w.heap.size 3 1 (.slice ao 24 c) 24 (rowV (iF (gL (pck ax r))) 24) ∧ Below w.heap.size w w' := by
  refine enterF Try.func40 rfl 43 rfl (of_decide_eq_true rfl) (fun A hs hd hb => ?_)
  have b0 := hb 0 _ rfl
  have b1 := hb 1 _ rfl
  clear hb
  refine c_rs (m_start ?_)
  refine m_do rfl (wanted_rd rfl) (fun K hK => ?_)
  refine wp_boxG _ _ _ rfl (ev_out rfl b0) (of_decide_eq_true rfl) ?_
  intro w1 m1 k1 z1
  refine hK _ _ ?_
  clear hK K
  refine m_do rfl (wanted_rd rfl) (fun K hK => ?_)
  refine wp_boxG _ _ _ rfl (ev_out rfl b1) (of_decide_eq_true rfl) ?_
  intro w2 m2 k2 z2
  have mx2 := m1.below k2
  refine hK _ _ ?_
  clear hK K
  refine m_mv rfl (wanted_rd rfl) (run_assign _ rfl (ev_const _ _) _) ?_
  refine l_nx ?_
  refine c_rs ?_
  refine m_mv rfl (wanted_rd rfl) (run_assign _ rfl (ev_const _ _) _) ?_
  refine l_nx ?_
  refine c_nx ?_
  refine c_rs ?_
  refine m_mv rfl (wanted_rd rfl) (run_loadP _ _ rfl manyAx (ev_in rfl (by omega)) mx2 (by decide)) ?_
  refine m_mv rfl (wanted_rd rfl) (run_move _ rfl (ev_const _ _) _) ?_
  refine l_nx ?_
  refine c_block ?_
  refine c_loop (fun q a W => ∃ (x : Nat) (v : Value), x ≤ 3 ∧ 3 - x ≤ q ∧ a.tmps.size = 43 ∧ a.defers = [] ∧ a.eval (.tmp 3) = .pointer (some ⟨w1.heap.size, 0, none⟩) ∧ a.eval (.tmp 8) = agV (naxF ax) 0 21 ∧ a.eval (.tmp 9) = .int .i64 (x : Int) ∧ a.eval (.tmp 5) = v ∧ Vh 30 W w1.heap.size 12 12 (nrlF r) ∧ W.ownsRow w2.heap.size 3 1 v (7 * x) ((pkL ax x).map iV) ∧ Below w.heap.size w W ∧ w2.heap.size ≤ W.heap.size) 3 ⟨0, _, by omega, by omega, (szL _ _).trans hs, (defL _ _).trans hd, (ev_in rfl (by omega)), (ev_in rfl (by omega)), (ev_in rfl (by omega)), (ev_in rfl (by omega)), m2, World.ownsRow_nil _ _ _ _, k1.trans (k2.mono (by omega)), by omega⟩ (fun q B W hI => ?_)
  clear b0 b1 hs hd
  obtain ⟨x, v, hx, hr2, hs, hd, b3, b8, b9, b5, mr, ov, kB, hW⟩ := hI
  by_cases hin : x < 3
  · refine c_rs (m_start ?_)
    refine m_mv rfl (wanted_rd rfl) (run_lssI (b := true) _ _ rfl (ev_out rfl b9) (ev_const _ _) (decide_eq_true (by omega)) _) ?_
    refine l_nx ?_
    refine c_nx (c_true (ev_in rfl (by omega)) (c_fin ?_))
    refine c_nx (c_block ?_)
    refine c_rs ?_
    refine m_mv rfl (wanted_rd rfl) ((run_ixVM _ _ _ _ rfl Try.underlying26 manySt (ev_out rfl b8) rfl (ev_out rfl b9) rfl hin _).trans (by rw [nax_part ax])) ?_
    refine m_do rfl (wanted_rd rfl) (fun K hK => ?_)
    refine wp_allocG _ _ rfl zeroSt (of_decide_eq_true rfl) ?_
    intro w11 m11 k11 z11
    have mr11 := mr.below k11
    have ov11 := rw_below ov k11
    refine hK _ _ ?_
    clear hK K
    refine m_st (wanted_rd rfl) (fun K hK => ?_)
    refine wp_storeP _ _ _ _ rfl manySt (ev_in rfl (by omega)) (ev_in rfl (by omega)) m11 (by decide) (nstF_one _) rfl ?_
    intro w12 mm12 k12 z12
    have ms12 := Vh.congr mm12 (stP_all7 _ _)
    have mr12 := mr11.kept k12 (by omega)
    have ov12 := rw_kept ov11 k12 (fun e => by have e2 := (ov.lt _ e).2; omega)
    refine hK _ ?_
    clear hK K
    refine l_nx ?_
    have hS0 : (fun Z => Vh 25 Z W.heap.size 7 7 (nstF (ax x))) w12.drew := ms12
    have mr0 : Vh _ w12.drew _ _ _ _ := mr12
    have ms0 : Vh _ w12.drew _ _ _ _ := ms12
    have ov0 := (show World.ownsRow w12.drew _ _ _ _ _ _ from ov12)
    have ez : w12.drew.heap.size = w12.heap.size := rfl
    refine c_rj (S := fun Z => Vh 25 Z W.heap.size 7 7 (nstF (ax x))) (.mv 0 (.mv 1 (.rd 2 (.mv 3 (.rd 4 (.mv 5 (.rd 6 (.mv 7 (.rd 8 (.mv 9 (.rd 10 (.mv 11 (.rd 12 (.mv 14 (.rd 15 (.go 13 (.go 16 (.go 17 (.mv 18 .fin))))))))))))))))))) [17] (by kernel_rfl) (by kernel_rfl) ?_
    refine j_mv rfl rfl (fun _ _ _ h => h) (wanted_rd rfl) (fun _ => run_move _ rfl (ev_out rfl b5) _) ?_
    refine j_mv rfl rfl (fun _ _ _ h => h) (wanted_rd rfl) (fun _ => fldSt0 rfl (ev_in rfl (by omega)) _) ?_
    refine j_rd rfl rfl (fun _ _ _ h => h) (wanted_rd rfl) hS0 (fun _ hS => run_lod1 _ _ rfl oneI (ev_in rfl (by omega)) hS (by decide) rfl) ?_
    refine j_mv rfl rfl (fun _ _ _ h => h) (wanted_rd rfl) (fun _ => fldSt1 rfl (ev_in rfl (by omega)) _) ?_
    refine j_rd rfl rfl (fun _ _ _ h => h) (wanted_rd rfl) hS0 (fun _ hS => run_lod1 _ _ rfl oneI (ev_in rfl (by omega)) hS (by decide) rfl) ?_
    refine j_mv rfl rfl (fun _ _ _ h => h) (wanted_rd rfl) (fun _ => fldSt2 rfl (ev_in rfl (by omega)) _) ?_
    refine j_rd rfl rfl (fun _ _ _ h => h) (wanted_rd rfl) hS0 (fun _ hS => run_lod1 _ _ rfl oneI (ev_in rfl (by omega)) hS (by decide) rfl) ?_
    refine j_mv rfl rfl (fun _ _ _ h => h) (wanted_rd rfl) (fun _ => fldSt3 rfl (ev_in rfl (by omega)) _) ?_
    refine j_rd rfl rfl (fun _ _ _ h => h) (wanted_rd rfl) hS0 (fun _ hS => run_lod1 _ _ rfl oneI (ev_in rfl (by omega)) hS (by decide) rfl) ?_
    refine j_mv rfl rfl (fun _ _ _ h => h) (wanted_rd rfl) (fun _ => fldSt4 rfl (ev_in rfl (by omega)) _) ?_
    refine j_rd rfl rfl (fun _ _ _ h => h) (wanted_rd rfl) hS0 (fun _ hS => run_lod1 _ _ rfl oneI (ev_in rfl (by omega)) hS (by decide) rfl) ?_
    refine j_mv rfl rfl (fun _ _ _ h => h) (wanted_rd rfl) (fun _ => fldSt5 rfl (ev_in rfl (by omega)) _) ?_
    refine j_rd rfl rfl (fun _ _ _ h => h) (wanted_rd rfl) hS0 (fun _ hS => run_lod1 _ _ rfl oneB (ev_in rfl (by omega)) hS (by decide) rfl) ?_
    refine j_mv rfl rfl (fun _ _ _ h => h) (wanted_rd rfl) (fun _ => fldSt6 rfl (ev_in rfl (by omega)) _) ?_
    refine j_rd rfl rfl (fun _ _ _ h => h) (wanted_rd rfl) hS0 (fun _ hS => run_lod1 _ _ rfl oneI (ev_in rfl (by omega)) hS (by decide) rfl) ?_
    refine j_do rfl rfl (wanted_rd rfl) (fun K hK => ?_)
    refine wp_call1 _ 50 _ _ rfl (ev_in rfl (by omega)) (enter_pbit _ _) (pbit_any (ax x).B _) ?_
    rintro e w13 ⟨rfl, k13⟩
    have n13 := k13.size
    have mr13 := mr0.below k13
    have ms13 := hS0.below k13
    have ov13 := rw_below ov0 k13
    have hS13 : (fun Z => Vh 25 Z W.heap.size 7 7 (nstF (ax x))) w13 := ms13
    refine ⟨_, rfl, ?_⟩
    refine hK _ _ (fun _ _ => hS13) ?_
    clear hK K
    refine j_do rfl rfl (wanted_rd rfl) (fun K hK => ?_)
    refine wp_row7 _ _ _ _ _ _ _ _ rfl (g := gL (axL (ax x))) (ev_in rfl (by omega)) (ev_in rfl (by omega)) (ev_in rfl (by omega)) (ev_in rfl (by omega)) (ev_in rfl (by omega)) (ev_in rfl (by omega)) (ev_in rfl (by omega)) ?_
    intro w14 m14 k14 z14
    have mr14 := mr13.below k14
    have ms14 := ms13.below k14
    have ov14 := rw_below ov13 k14
    have hS14 : (fun Z => Vh 25 Z W.heap.size 7 7 (nstF (ax x))) w14 := ms14
    refine hK _ _ (fun _ _ => hS14) ?_
    clear hK K
    refine j_do rfl rfl (wanted_rd rfl) (fun K hK => ?_)
    refine ⟨wp_joinI _ _ _ rfl w2.heap.size (by omega) v _ _ (ev_in rfl (by omega)) ov14 _ 7 7 _ (ev_in rfl (by omega)) (Or.inr ⟨_, rfl, fun i hi => by rw [add_at, Nat.zero_add]; exact m14.cell hi⟩) (fun i _ => rfl) (by omega) ?_⟩
    intro v15 w15 ov15 k15
    have n15 := k15.size
    have mr15 := mr14.same (k15.block _ (by omega))
    rw [← pk_next] at ov15
    refine hK _ _ (fun h => absurd h (by decide)) ?_
    clear hK K
    refine j_mv rfl rfl (fun _ _ _ h => h) (wanted_rd rfl) (fun _ => run_assign _ rfl (ev_in rfl (by omega)) _) ?_
    refine j_finB ?_
    refine c_region ?_
    refine m_mv rfl (wanted_rd rfl) (run_addI _ _ rfl (ev_out rfl b9) (ev_const _ _) (by omega) (by omega) _) ?_
    refine m_mv rfl (wanted_rd rfl) (run_move _ rfl (ev_in rfl (by omega)) _) ?_
    exact l_round ⟨3 - (x + 1), by omega, x + 1, _, by omega, by omega, (szL _ _).trans hs, (defL _ _).trans hd, (ev_out rfl b3), (ev_out rfl b8), (ev_in rfl (by omega)).trans (by rw [Int.natCast_add]; rfl), (ev_in rfl (by omega)), mr15, ov15, (((below_drew (below_of_kept (kB.trans (k11.mono (by omega))) k12 (by omega) (by omega))).trans (k13.mono (by omega))).trans (k14.mono (by omega))).trans (k15.mono (by omega)), by omega⟩
  · refine c_rs (m_start ?_)
    refine m_mv rfl (wanted_rd rfl) (run_lssI (b := false) _ _ rfl (ev_out rfl b9) (ev_const _ _) (decide_eq_false (by omega)) _) ?_
    obtain rfl : x = 3 := by omega
    refine l_nx ?_
    refine c_nx (c_false (ev_in rfl (by omega)) (c_exit (x_out ?_)))
    refine c_nx ?_
    have hS0 : (fun Z => Vh 30 Z w1.heap.size 12 12 (nrlF r)) W.drew := mr
    have mr0 : Vh _ W.drew _ _ _ _ := mr
    have ov0 := (show World.ownsRow W.drew _ _ _ _ _ _ from ov)
    have ez : W.drew.heap.size = W.heap.size := rfl
    refine c_rj (S := fun Z => Vh 30 Z w1.heap.size 12 12 (nrlF r)) (.mv 0 (.mv 1 (.mv 2 (.mv 4 (.mv 5 (.mv 7 (.mv 8 (.go 3 (.go 6 (.go 9 (.go 10 (.go 11 (.mv 12 .fin))))))))))))) [] (by kernel_rfl) (by kernel_rfl) ?_
    refine j_mv rfl rfl (fun _ _ _ h => h) (wanted_rd rfl) (fun _ => run_move _ rfl (ev_out rfl b5) _) ?_
    refine j_mv rfl rfl (fun _ _ _ h => h) (wanted_rd rfl) (fun _ => fldRl0 rfl (ev_out rfl b3) _) ?_
    refine j_mv rfl rfl (fun _ _ _ h => h) (wanted_rd rfl) (fun _ => run_cutB4 _ rfl (ev_in rfl (by omega)) _) ?_
    refine j_mv rfl rfl (fun _ _ _ h => h) (wanted_rd rfl) (fun _ => fldRl1 rfl (ev_out rfl b3) _) ?_
    refine j_mv rfl rfl (fun _ _ _ h => h) (wanted_rd rfl) (fun _ => run_cut4 _ rfl (ev_in rfl (by omega)) _) ?_
    refine j_mv rfl rfl (fun _ _ _ h => h) (wanted_rd rfl) (fun _ => fldRl2 rfl (ev_out rfl b3) _) ?_
    refine j_mv rfl rfl (fun _ _ _ h => h) (wanted_rd rfl) (fun _ => run_cut4 _ rfl (ev_in rfl (by omega)) _) ?_
    refine j_do rfl rfl (wanted_rd rfl) (fun K hK => ?_)
    refine wp_call1 _ 51 _ _ rfl (ev_in rfl (by omega)) (enter_psetNumber _ _) (setNumber_any _ (0 + 0) 12 12 _ _ r.I _ hS0 (by decide) (fun i hi => nrl_in r hi)) ?_
    rintro e w11 ⟨rfl, k11⟩
    have n11 := k11.size
    have mr11 := hS0.below k11
    have ov11 := rw_below ov0 k11
    have hS11 : (fun Z => Vh 30 Z w1.heap.size 12 12 (nrlF r)) w11 := mr11
    refine ⟨_, rfl, ?_⟩
    refine hK _ _ (fun _ _ => hS11) ?_
    clear hK K
    refine j_do rfl rfl (wanted_rd rfl) (fun K hK => ?_)
    refine wp_call1 _ 52 _ _ rfl (ev_in rfl (by omega)) (enter_pcountNumber _ _) (countNumber_any _ (0 + 4) 12 12 _ _ r.M _ mr11 (by decide) (fun i hi => nrl_mi r hi)) ?_
    rintro e w12 ⟨rfl, k12⟩
    have n12 := k12.size
    have mr12 := mr11.below k12
    have ov12 := rw_below ov11 k12
    have hS12 : (fun Z => Vh 30 Z w1.heap.size 12 12 (nrlF r)) w12 := mr12
    refine ⟨_, rfl, ?_⟩
    refine hK _ _ (fun _ _ => hS12) ?_
    clear hK K
    refine j_do rfl rfl (wanted_rd rfl) (fun K hK => ?_)
    refine wp_call1 _ 52 _ _ rfl (ev_in rfl (by omega)) (enter_pcountNumber _ _) (countNumber_any _ (0 + 8) 12 12 _ _ r.J _ mr12 (by decide) (fun i hi => nrl_jo r hi)) ?_
    rintro e w13 ⟨rfl, k13⟩
    have n13 := k13.size
    have mr13 := mr12.below k13
    have ov13 := rw_below ov12 k13
    have hS13 : (fun Z => Vh 30 Z w1.heap.size 12 12 (nrlF r)) w13 := mr13
    refine ⟨_, rfl, ?_⟩
    refine hK _ _ (fun _ _ => hS13) ?_
    clear hK K
    refine j_do rfl rfl (wanted_rd rfl) (fun K hK => ?_)
    refine wp_row3 _ _ _ _ rfl (g := gL [inN r.I, ctN8 r.M 4, ctN8 r.J 4]) (ev_in rfl (by omega)) (ev_in rfl (by omega)) (ev_in rfl (by omega)) ?_
    intro w14 m14 k14 z14
    have mr14 := mr13.below k14
    have ov14 := rw_below ov13 k14
    have hS14 : (fun Z => Vh 30 Z w1.heap.size 12 12 (nrlF r)) w14 := mr14
    refine hK _ _ (fun _ _ => hS14) ?_
    clear hK K
    refine j_do rfl rfl (wanted_rd rfl) (fun K hK => ?_)
    refine ⟨wp_joinI _ _ _ rfl w2.heap.size (by omega) v _ _ (ev_in rfl (by omega)) ov14 _ 3 3 _ (ev_in rfl (by omega)) (Or.inr ⟨_, rfl, fun i hi => by rw [add_at, Nat.zero_add]; exact m14.cell hi⟩) (fun i _ => rfl) (by omega) ?_⟩
    intro v15 w15 ov15 k15
    have n15 := k15.size
    have mr15 := mr14.same (k15.block _ (by omega))
    have hS15 : (fun Z => Vh 30 Z w1.heap.size 12 12 (nrlF r)) w15 := mr15
    rw [← pk_allS] at ov15
    obtain ⟨a2, c2, rfl, hc2⟩ := rw_slice ov15
    refine hK _ _ (fun _ _ => hS15) ?_
    clear hK K
    refine j_mv rfl rfl (fun _ _ _ h => h) (wanted_rd rfl) (fun _ => run_assign _ rfl (ev_in rfl (by omega)) _) ?_
    refine j_nx ?_
    refine c_ret (ret_of ((defL _ _).trans hd) (res_t rfl (ev_in rfl (by omega))) ⟨a2, c2, rfl, ?_, (((((below_drew kB).trans (k11.mono (by omega))).trans (k12.mono (by omega))).trans (k13.mono (by omega))).trans (k14.mono (by omega))).trans (k15.mono (by omega))⟩)
    rw [gL_map] at ov15
    exact rw_base ov15 (by omega)

end Go.Proofs.Ytngmeaaglogieaa
