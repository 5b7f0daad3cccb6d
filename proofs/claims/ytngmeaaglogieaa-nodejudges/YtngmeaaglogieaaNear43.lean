/- Joined: RefNod7, RefMsg. -/
import Derived.Test.YtngmeaaglogieaaNear11
import Derived.Test.YtngmeaaglogieaaNear46
namespace Go.Proofs.Ytngmeaaglogieaa
open Go.RowKit

/-- The axes' numbers; the roll's, as they are reckoned. -/
def pkL (ax : Nat → St) : Nat → List Int
  | 0 => []
  | a + 1 => pkL ax a ++ axL (ax a)
def inP (b : Nat → Bool) : Nat → Int
  | 0 => 0
  | k + 1 => inP b k * 2 + if b (3 - k) then 1 else 0
theorem inP_in (b : Nat → Bool) (k : Nat) : 0 ≤ inP b k ∧ inP b k < 2 ^ k := by
  induction k with
  | zero => exact ⟨Int.le_refl 0, (by decide : (0 : Int) < 2 ^ 0)⟩
  | succ k ih =>
    have : (2 : Int) ^ (k + 1) = 2 ^ k * 2 := Int.pow_succ _ _
    show 0 ≤ inP b k * 2 + _ ∧ inP b k * 2 + _ < _
    rw [this]
    split <;> omega
theorem two_four {x : Nat} (h : x ≤ 4) : (2 : Int) ^ x ≤ 16 := by
  have : x = 0 ∨ x = 1 ∨ x = 2 ∨ x = 3 ∨ x = 4 := by omega
  rcases this with rfl | rfl | rfl | rfl | rfl <;> decide
theorem inP_four (b : Nat → Bool) : inP b 4 = inN b := by
  show ((((0 * 2 + if b 3 then (1 : Int) else 0) * 2 + if b 2 then 1 else 0) * 2 + if b 1 then 1 else 0) * 2 + if b 0 then 1 else 0) = _
  unfold inN
  cases b 0 <;> cases b 1 <;> cases b 2 <;> cases b 3 <;> rfl
theorem in_f {b : Nat → Bool} {x : Nat} (h : b (3 - x) = false) : (.int .i64 (inP b x * 2) : Value) = .int .i64 (inP b (x + 1)) := by
  show _ = Value.int .i64 (inP b x * 2 + if b (3 - x) then 1 else 0)
  rw [h, if_neg (by decide), Int.add_zero]
theorem in_t {b : Nat → Bool} {x : Nat} (h : b (3 - x) = true) : (.int .i64 (inP b x * 2 + 1) : Value) = .int .i64 (inP b (x + 1)) := by
  show _ = Value.int .i64 (inP b x * 2 + if b (3 - x) then 1 else 0)
  rw [h, if_pos rfl]
theorem nst_bent {s : St} {b : Bool} (h : s.B = b) : nstF s (0 + 5) = .bool b := by rw [← h]; rfl
theorem bent_f {s : St} (h : s.B = false) : (.int .i64 0 : Value) = .int .i64 (gL (axL s) 5) := by
  show _ = Value.int .i64 (if s.B then 1 else 0)
  rw [h]; rfl
theorem bent_t {s : St} (h : s.B = true) : (.int .i64 (0 + 1) : Value) = .int .i64 (gL (axL s) 5) := by
  show _ = Value.int .i64 (if s.B then 1 else 0)
  rw [h]; rfl
theorem pk_next (ax : Nat → St) (x : Nat) : (pkL ax (x + 1)).map iV = (pkL ax x).map iV ++ rowV (fun i => iV (gL (axL (ax x)) i)) 7 := by
  show (pkL ax x ++ axL (ax x)).map iV = _
  rw [List.map_append]
  rfl
theorem pk_all (ax : Nat → St) (r : Rl) : (pck ax r).map iV = (pkL ax 3).map iV ++ rowV (fun i => iV (gL [inP r.I 4, ctN8 r.M 4, ctN8 r.J 4] i)) 3 := by
  have e := inP_four r.I
  generalize inP r.I 4 = q at e
  subst e
  unfold pck
  rw [List.map_append]
  rfl
set_option maxHeartbeats 2000000 in
theorem refPacked_any (n : Nd) (nv : Value) (w : World) :
    Calls Try.prog 44 #[ndV n nv] w fun e w' => ∃ ao c, e = .returned (.slice ao 24 c) ∧ w'.ownsRow w.heap.size 3 1 (.slice ao 24 c) 24 (rowV (iF (gL (pck n.ax n.rl))) 24) ∧ Below w.heap.size w w' := by
  refine enterF Try.func44 rfl 79 rfl (of_decide_eq_true rfl) (fun A hs hd hb => ?_)
  have b0 : A.eval (.tmp 0) = ndV n nv := hb 0 _ rfl
  clear hb
  refine c_rs (m_start ?_)
  refine m_do rfl (wanted_rd rfl) (fun K hK => ?_)
  refine wp_boxG _ _ _ rfl (ev_out rfl b0) (of_decide_eq_true rfl) ?_
  intro w1 m1 k1 z1
  refine hK _ _ ?_
  clear hK K
  refine m_mv rfl (wanted_rd rfl) (run_assign _ rfl (ev_const _ _) _) ?_
  refine l_nx ?_
  refine c_rs ?_
  refine m_mv rfl (wanted_rd rfl) (run_assign _ rfl (ev_const _ _) _) ?_
  refine l_nx ?_
  refine c_nx ?_
  refine c_rs ?_
  refine m_mv rfl (wanted_rd rfl) (run_assign _ rfl (ev_const _ _) _) ?_
  refine l_nx ?_
  refine c_block ?_
  refine c_loop (fun r a W => ∃ (x : Nat) (v : Value), x ≤ 3 ∧ 3 - x ≤ r ∧ a.tmps.size = 79 ∧ a.defers = [] ∧ a.eval (.tmp 1) = .pointer (some ⟨w.heap.size, 0, none⟩) ∧ a.eval (.tmp 3) = v ∧ a.eval (.tmp 4) = .int .i64 (x : Int) ∧ Vh 37 W w.heap.size 74 74 (ndF n nv) ∧ W.ownsRow w1.heap.size 3 1 v (7 * x) ((pkL n.ax x).map iV) ∧ Below w.heap.size w W ∧ w1.heap.size ≤ W.heap.size) 3 ⟨0, _, by omega, by omega, (szL _ _).trans hs, (defL _ _).trans hd, (ev_in rfl (by omega)), (ev_in rfl (by omega)), (ev_in rfl (by omega)), m1, World.ownsRow_nil _ _ _ _, k1, by omega⟩ (fun r B W hI => ?_)
  clear b0 hs hd
  obtain ⟨x, v, hx, hr, hs, hd, b1, b3, b4, mn, ov, kB, hW⟩ := hI
  by_cases hin : x < 3
  · cases hb : (n.ax x).B
    · refine c_nx ?_
      refine c_rs (m_start ?_)
      refine m_mv rfl (wanted_rd rfl) (run_move _ rfl (ev_out rfl b4) _) ?_
      refine m_mv rfl (wanted_rd rfl) (run_lssI (b := true) _ _ rfl (ev_in rfl (by omega)) (ev_const _ _) (decide_eq_true (by omega)) _) ?_
      refine l_nx ?_
      refine c_true (ev_in rfl (by omega)) (c_fin ?_)
      refine c_nx (c_block ?_)
      refine c_rs ?_
      refine m_mv rfl (wanted_rd rfl) (run_move _ rfl (ev_out rfl b4) _) ?_
      refine m_mv rfl (wanted_rd rfl) (fldNd3 rfl (ev_out rfl b1) _) ?_
      refine m_mv rfl (wanted_rd rfl) (run_ixG _ _ _ _ rfl Try.underlying26 manySt.size (ev_in rfl (by omega)) (ev_in rfl (by omega)) rfl hin _) ?_
      refine m_mv rfl (wanted_rd rfl) (run_loadPe _ _ rfl manySt (ev_in rfl (by omega)) mn (by omega) (ndF_ax _ _ hin)) ?_
      refine m_do rfl (wanted_rd rfl) (fun K hK => ?_)
      refine wp_allocG _ _ rfl zeroSt (of_decide_eq_true rfl) ?_
      intro w11 m11 k11 z11
      have mn11 := mn.below k11
      have ov11 := rw_below ov k11
      refine hK _ _ ?_
      clear hK K
      refine m_st (wanted_rd rfl) (fun K hK => ?_)
      refine wp_storeP _ _ _ _ rfl manySt (ev_in rfl (by omega)) (ev_in rfl (by omega)) m11 (by decide) (nstF_one _) rfl ?_
      intro w12 mm12 k12 z12
      have ms12 := Vh.congr mm12 (stP_all7 _ _)
      have mn12 := mn11.kept k12 (by omega)
      have ov12 := rw_kept ov11 k12 (fun e => by have e2 := (ov.lt _ e).2; omega)
      refine hK _ ?_
      clear hK K
      refine l_nx ?_
      refine c_rs ?_
      refine m_mv rfl (wanted_rd rfl) (run_assign _ rfl (ev_const _ _) _) ?_
      refine l_nx ?_
      refine c_nx ?_
      refine c_rs ?_
      refine m_mv rfl (wanted_rd rfl) (fldSt5 rfl (ev_in rfl (by omega)) _) ?_
      refine m_mv rfl (wanted_rd rfl) (run_lod1 _ _ rfl oneB (ev_in rfl (by omega)) ms12 (by decide) (nst_bent hb)) ?_
      refine l_nx ?_
      refine c_false (ev_in rfl (by omega)) (c_fin ?_)
      refine c_region ?_
      refine m_mv rfl (wanted_rd rfl) (run_move _ rfl (ev_out rfl b3) _) ?_
      refine m_mv rfl (wanted_rd rfl) (fldSt0 rfl (ev_in rfl (by omega)) _) ?_
      refine m_mv rfl (wanted_rd rfl) (run_lod1 _ _ rfl oneI (ev_in rfl (by omega)) ms12 (by decide) rfl) ?_
      refine m_mv rfl (wanted_rd rfl) (fldSt1 rfl (ev_in rfl (by omega)) _) ?_
      refine m_mv rfl (wanted_rd rfl) (run_lod1 _ _ rfl oneI (ev_in rfl (by omega)) ms12 (by decide) rfl) ?_
      refine m_mv rfl (wanted_rd rfl) (fldSt2 rfl (ev_in rfl (by omega)) _) ?_
      refine m_mv rfl (wanted_rd rfl) (run_lod1 _ _ rfl oneI (ev_in rfl (by omega)) ms12 (by decide) rfl) ?_
      refine m_mv rfl (wanted_rd rfl) (fldSt3 rfl (ev_in rfl (by omega)) _) ?_
      refine m_mv rfl (wanted_rd rfl) (run_lod1 _ _ rfl oneI (ev_in rfl (by omega)) ms12 (by decide) rfl) ?_
      refine m_mv rfl (wanted_rd rfl) (fldSt4 rfl (ev_in rfl (by omega)) _) ?_
      refine m_mv rfl (wanted_rd rfl) (run_lod1 _ _ rfl oneI (ev_in rfl (by omega)) ms12 (by decide) rfl) ?_
      refine m_mv rfl (wanted_rd rfl) (run_move _ rfl (ev_in rfl (by omega)) _) ?_
      refine m_mv rfl (wanted_rd rfl) (fldSt6 rfl (ev_in rfl (by omega)) _) ?_
      refine m_mv rfl (wanted_rd rfl) (run_lod1 _ _ rfl oneI (ev_in rfl (by omega)) ms12 (by decide) rfl) ?_
      refine m_do rfl (wanted_rd rfl) (fun K hK => ?_)
      refine wp_row7 _ _ _ _ _ _ _ _ rfl (g := gL (axL (n.ax x))) (ev_in rfl (by omega)) (ev_in rfl (by omega)) (ev_in rfl (by omega)) (ev_in rfl (by omega)) (ev_in rfl (by omega)) ((ev_in rfl (by omega)).trans (bent_f hb)) (ev_in rfl (by omega)) ?_
      intro w13 m13 k13 z13
      have mn13 := mn12.below k13
      have ms13 := ms12.below k13
      have ov13 := rw_below ov12 k13
      refine hK _ _ ?_
      clear hK K
      refine m_do rfl (wanted_rd rfl) (fun K hK => ?_)
      refine ⟨wp_joinI _ _ _ rfl w1.heap.size (by omega) v _ _ (ev_in rfl (by omega)) ov13 _ 7 7 _ (ev_in rfl (by omega)) (Or.inr ⟨_, rfl, fun i hi => by rw [add_at, Nat.zero_add]; exact m13.cell hi⟩) (fun i _ => rfl) (by omega) ?_⟩
      intro v14 w14 ov14 k14
      have n14 := k14.size
      have mn14 := mn13.same (k14.block _ (by omega))
      refine hK _ _ ?_
      clear hK K
      refine m_mv rfl (wanted_rd rfl) (run_assign _ rfl (ev_in rfl (by omega)) _) ?_
      refine l_finB ?_
      refine c_region ?_
      refine m_mv rfl (wanted_rd rfl) (run_move _ rfl (ev_out rfl b4) _) ?_
      refine m_mv rfl (wanted_rd rfl) (run_addI _ _ rfl (ev_in rfl (by omega)) (ev_const _ _) (by omega) (by omega) _) ?_
      refine m_mv rfl (wanted_rd rfl) (run_assign _ rfl (ev_in rfl (by omega)) _) ?_
      exact l_round ⟨3 - (x + 1), by omega, x + 1, _, by omega, by omega, (szL _ _).trans hs, (defL _ _).trans hd, (ev_out rfl b1), (ev_in rfl (by omega)), (ev_in rfl (by omega)).trans (by rw [Int.natCast_add]; rfl), mn14, by rw [pk_next]; exact ov14, (((below_of_kept (kB.trans (k11.mono (by omega))) k12 (by omega) (by omega)).trans (k13.mono (by omega))).trans (k14.mono (by omega))), by omega⟩
    · refine c_nx ?_
      refine c_rs (m_start ?_)
      refine m_mv rfl (wanted_rd rfl) (run_move _ rfl (ev_out rfl b4) _) ?_
      refine m_mv rfl (wanted_rd rfl) (run_lssI (b := true) _ _ rfl (ev_in rfl (by omega)) (ev_const _ _) (decide_eq_true (by omega)) _) ?_
      refine l_nx ?_
      refine c_true (ev_in rfl (by omega)) (c_fin ?_)
      refine c_nx (c_block ?_)
      refine c_rs ?_
      refine m_mv rfl (wanted_rd rfl) (run_move _ rfl (ev_out rfl b4) _) ?_
      refine m_mv rfl (wanted_rd rfl) (fldNd3 rfl (ev_out rfl b1) _) ?_
      refine m_mv rfl (wanted_rd rfl) (run_ixG _ _ _ _ rfl Try.underlying26 manySt.size (ev_in rfl (by omega)) (ev_in rfl (by omega)) rfl hin _) ?_
      refine m_mv rfl (wanted_rd rfl) (run_loadPe _ _ rfl manySt (ev_in rfl (by omega)) mn (by omega) (ndF_ax _ _ hin)) ?_
      refine m_do rfl (wanted_rd rfl) (fun K hK => ?_)
      refine wp_allocG _ _ rfl zeroSt (of_decide_eq_true rfl) ?_
      intro w11 m11 k11 z11
      have mn11 := mn.below k11
      have ov11 := rw_below ov k11
      refine hK _ _ ?_
      clear hK K
      refine m_st (wanted_rd rfl) (fun K hK => ?_)
      refine wp_storeP _ _ _ _ rfl manySt (ev_in rfl (by omega)) (ev_in rfl (by omega)) m11 (by decide) (nstF_one _) rfl ?_
      intro w12 mm12 k12 z12
      have ms12 := Vh.congr mm12 (stP_all7 _ _)
      have mn12 := mn11.kept k12 (by omega)
      have ov12 := rw_kept ov11 k12 (fun e => by have e2 := (ov.lt _ e).2; omega)
      refine hK _ ?_
      clear hK K
      refine l_nx ?_
      refine c_rs ?_
      refine m_mv rfl (wanted_rd rfl) (run_assign _ rfl (ev_const _ _) _) ?_
      refine l_nx ?_
      refine c_nx ?_
      refine c_rs ?_
      refine m_mv rfl (wanted_rd rfl) (fldSt5 rfl (ev_in rfl (by omega)) _) ?_
      refine m_mv rfl (wanted_rd rfl) (run_lod1 _ _ rfl oneB (ev_in rfl (by omega)) ms12 (by decide) (nst_bent hb)) ?_
      refine l_nx ?_
      refine c_true (ev_in rfl (by omega)) ?_
      refine c_region ?_
      refine m_mv rfl (wanted_rd rfl) (run_move _ rfl (ev_in rfl (by omega)) _) ?_
      refine m_mv rfl (wanted_rd rfl) (run_addI _ _ rfl (ev_in rfl (by omega)) (ev_const _ _) (by omega) (by omega) _) ?_
      refine m_mv rfl (wanted_rd rfl) (run_assign _ rfl (ev_in rfl (by omega)) _) ?_
      refine l_nx ?_
      refine c_region ?_
      refine m_mv rfl (wanted_rd rfl) (run_move _ rfl (ev_out rfl b3) _) ?_
      refine m_mv rfl (wanted_rd rfl) (fldSt0 rfl (ev_in rfl (by omega)) _) ?_
      refine m_mv rfl (wanted_rd rfl) (run_lod1 _ _ rfl oneI (ev_in rfl (by omega)) ms12 (by decide) rfl) ?_
      refine m_mv rfl (wanted_rd rfl) (fldSt1 rfl (ev_in rfl (by omega)) _) ?_
      refine m_mv rfl (wanted_rd rfl) (run_lod1 _ _ rfl oneI (ev_in rfl (by omega)) ms12 (by decide) rfl) ?_
      refine m_mv rfl (wanted_rd rfl) (fldSt2 rfl (ev_in rfl (by omega)) _) ?_
      refine m_mv rfl (wanted_rd rfl) (run_lod1 _ _ rfl oneI (ev_in rfl (by omega)) ms12 (by decide) rfl) ?_
      refine m_mv rfl (wanted_rd rfl) (fldSt3 rfl (ev_in rfl (by omega)) _) ?_
      refine m_mv rfl (wanted_rd rfl) (run_lod1 _ _ rfl oneI (ev_in rfl (by omega)) ms12 (by decide) rfl) ?_
      refine m_mv rfl (wanted_rd rfl) (fldSt4 rfl (ev_in rfl (by omega)) _) ?_
      refine m_mv rfl (wanted_rd rfl) (run_lod1 _ _ rfl oneI (ev_in rfl (by omega)) ms12 (by decide) rfl) ?_
      refine m_mv rfl (wanted_rd rfl) (run_move _ rfl (ev_in rfl (by omega)) _) ?_
      refine m_mv rfl (wanted_rd rfl) (fldSt6 rfl (ev_in rfl (by omega)) _) ?_
      refine m_mv rfl (wanted_rd rfl) (run_lod1 _ _ rfl oneI (ev_in rfl (by omega)) ms12 (by decide) rfl) ?_
      refine m_do rfl (wanted_rd rfl) (fun K hK => ?_)
      refine wp_row7 _ _ _ _ _ _ _ _ rfl (g := gL (axL (n.ax x))) (ev_in rfl (by omega)) (ev_in rfl (by omega)) (ev_in rfl (by omega)) (ev_in rfl (by omega)) (ev_in rfl (by omega)) ((ev_in rfl (by omega)).trans (bent_t hb)) (ev_in rfl (by omega)) ?_
      intro w13 m13 k13 z13
      have mn13 := mn12.below k13
      have ms13 := ms12.below k13
      have ov13 := rw_below ov12 k13
      refine hK _ _ ?_
      clear hK K
      refine m_do rfl (wanted_rd rfl) (fun K hK => ?_)
      refine ⟨wp_joinI _ _ _ rfl w1.heap.size (by omega) v _ _ (ev_in rfl (by omega)) ov13 _ 7 7 _ (ev_in rfl (by omega)) (Or.inr ⟨_, rfl, fun i hi => by rw [add_at, Nat.zero_add]; exact m13.cell hi⟩) (fun i _ => rfl) (by omega) ?_⟩
      intro v14 w14 ov14 k14
      have n14 := k14.size
      have mn14 := mn13.same (k14.block _ (by omega))
      refine hK _ _ ?_
      clear hK K
      refine m_mv rfl (wanted_rd rfl) (run_assign _ rfl (ev_in rfl (by omega)) _) ?_
      refine l_finB ?_
      refine c_region ?_
      refine m_mv rfl (wanted_rd rfl) (run_move _ rfl (ev_out rfl b4) _) ?_
      refine m_mv rfl (wanted_rd rfl) (run_addI _ _ rfl (ev_in rfl (by omega)) (ev_const _ _) (by omega) (by omega) _) ?_
      refine m_mv rfl (wanted_rd rfl) (run_assign _ rfl (ev_in rfl (by omega)) _) ?_
      exact l_round ⟨3 - (x + 1), by omega, x + 1, _, by omega, by omega, (szL _ _).trans hs, (defL _ _).trans hd, (ev_out rfl b1), (ev_in rfl (by omega)), (ev_in rfl (by omega)).trans (by rw [Int.natCast_add]; rfl), mn14, by rw [pk_next]; exact ov14, (((below_of_kept (kB.trans (k11.mono (by omega))) k12 (by omega) (by omega)).trans (k13.mono (by omega))).trans (k14.mono (by omega))), by omega⟩
  · refine c_nx ?_
    refine c_rs (m_start ?_)
    refine m_mv rfl (wanted_rd rfl) (run_move _ rfl (ev_out rfl b4) _) ?_
    refine m_mv rfl (wanted_rd rfl) (run_lssI (b := false) _ _ rfl (ev_in rfl (by omega)) (ev_const _ _) (decide_eq_false (by omega)) _) ?_
    obtain rfl : x = 3 := by omega
    refine l_nx ?_
    refine c_false (ev_in rfl (by omega)) (c_exit (x_out ?_))
    refine c_rs ?_
    refine m_mv rfl (wanted_rd rfl) (run_assign _ rfl (ev_const _ _) _) ?_
    refine m_mv rfl (wanted_rd rfl) (run_assign _ rfl (ev_const _ _) _) ?_
    refine m_mv rfl (wanted_rd rfl) (run_assign _ rfl (ev_const _ _) _) ?_
    refine l_nx ?_
    refine c_nx ?_
    refine c_rs ?_
    refine m_mv rfl (wanted_rd rfl) (run_assign _ rfl (ev_const _ _) _) ?_
    refine l_nx ?_
    refine c_block ?_
    refine c_loop (fun r a W => ∃ (x : Nat) (v : Value), x ≤ 4 ∧ 4 - x ≤ r ∧ a.tmps.size = 79 ∧ a.defers = [] ∧ a.eval (.tmp 1) = .pointer (some ⟨w.heap.size, 0, none⟩) ∧ a.eval (.tmp 3) = v ∧ a.eval (.tmp 7) = .int .i64 (inP n.rl.I x) ∧ a.eval (.tmp 8) = .int .i64 0 ∧ a.eval (.tmp 9) = .int .i64 0 ∧ a.eval (.tmp 10) = .int .i64 (3 - (x : Int)) ∧ Vh 37 W w.heap.size 74 74 (ndF n nv) ∧ W.ownsRow w1.heap.size 3 1 v (7 * 3) ((pkL n.ax 3).map iV) ∧ Below w.heap.size w W ∧ w1.heap.size ≤ W.heap.size) 4 ⟨0, _, by omega, by omega, (szL _ _).trans hs, (defL _ _).trans hd, (ev_out rfl b1), (ev_out rfl b3), (ev_in rfl (by omega)), (ev_in rfl (by omega)), (ev_in rfl (by omega)), (ev_in rfl (by omega)), mn, ov, kB, hW⟩ (fun r B W hI => ?_)
    clear b1 b3 b4 hs hd hx mn ov kB hW
    obtain ⟨x, v, hx, hr, hs, hd, b1, b3, b7, b8, b9, b10, mn, ov, kB, hW⟩ := hI
    have hP := inP_in n.rl.I x
    have h16 : (2 : Int) ^ x ≤ 16 := two_four hx
    by_cases hin : x < 4
    · cases hb : n.rl.I (3 - x)
      · refine c_nx ?_
        refine c_rs (m_start ?_)
        refine m_mv rfl (wanted_rd rfl) (run_move _ rfl (ev_out rfl b10) _) ?_
        refine m_mv rfl (wanted_rd rfl) (run_geqI (b := true) _ _ rfl (ev_in rfl (by omega)) (ev_const _ _) (decide_eq_true (by omega)) _) ?_
        refine l_nx ?_
        refine c_true (ev_in rfl (by omega)) (c_fin ?_)
        refine c_nx (c_block ?_)
        refine c_rs ?_
        refine m_mv rfl (wanted_rd rfl) (run_move _ rfl (ev_out rfl b7) _) ?_
        refine m_mv rfl (wanted_rd rfl) (run_mulN _ _ rfl (ev_in rfl (by omega)) (ev_const _ _) (by omega) (by omega) _) ?_
        refine m_mv rfl (wanted_rd rfl) (run_assign _ rfl (ev_in rfl (by omega)) _) ?_
        refine l_nx ?_
        refine c_rs ?_
        refine m_mv rfl (wanted_rd rfl) (run_move _ rfl (ev_out rfl b10) _) ?_
        refine m_mv rfl (wanted_rd rfl) (fldNd4 rfl (ev_out rfl b1) _) ?_
        refine m_mv rfl (wanted_rd rfl) (fldRl0 rfl (ev_in rfl (by omega)) _) ?_
        refine m_mv rfl (wanted_rd rfl) (run_ixG _ _ _ _ rfl Try.underlying27 oneB.size (ev_in rfl (by omega)) (ev_in rfl (by omega)) (i := 3 - x) (by omega) (by omega) _) ?_
        refine m_mv rfl (wanted_rd rfl) (run_lod1 _ _ rfl oneB (ev_in rfl (by omega)) mn (by omega) ((ndF_in _ _ (by omega)).trans (by rw [hb]))) ?_
        refine l_nx ?_
        refine c_false (ev_in rfl (by omega)) (c_finB ?_)
        refine c_region ?_
        refine m_mv rfl (wanted_rd rfl) (run_move _ rfl (ev_out rfl b10) _) ?_
        refine m_mv rfl (wanted_rd rfl) (run_subI _ _ rfl (ev_in rfl (by omega)) (ev_const _ _) (by omega) (by omega) _) ?_
        refine m_mv rfl (wanted_rd rfl) (run_assign _ rfl (ev_in rfl (by omega)) _) ?_
        exact l_round ⟨4 - (x + 1), by omega, x + 1, _, by omega, by omega, (szL _ _).trans hs, (defL _ _).trans hd, (ev_out rfl b1), (ev_out rfl b3), (ev_in rfl (by omega)).trans (in_f hb), (ev_out rfl b8), (ev_out rfl b9), (ev_in rfl (by omega)).trans (by congr 1; omega), mn, ov, kB, hW⟩
      · refine c_nx ?_
        refine c_rs (m_start ?_)
        refine m_mv rfl (wanted_rd rfl) (run_move _ rfl (ev_out rfl b10) _) ?_
        refine m_mv rfl (wanted_rd rfl) (run_geqI (b := true) _ _ rfl (ev_in rfl (by omega)) (ev_const _ _) (decide_eq_true (by omega)) _) ?_
        refine l_nx ?_
        refine c_true (ev_in rfl (by omega)) (c_fin ?_)
        refine c_nx (c_block ?_)
        refine c_rs ?_
        refine m_mv rfl (wanted_rd rfl) (run_move _ rfl (ev_out rfl b7) _) ?_
        refine m_mv rfl (wanted_rd rfl) (run_mulN _ _ rfl (ev_in rfl (by omega)) (ev_const _ _) (by omega) (by omega) _) ?_
        refine m_mv rfl (wanted_rd rfl) (run_assign _ rfl (ev_in rfl (by omega)) _) ?_
        refine l_nx ?_
        refine c_rs ?_
        refine m_mv rfl (wanted_rd rfl) (run_move _ rfl (ev_out rfl b10) _) ?_
        refine m_mv rfl (wanted_rd rfl) (fldNd4 rfl (ev_out rfl b1) _) ?_
        refine m_mv rfl (wanted_rd rfl) (fldRl0 rfl (ev_in rfl (by omega)) _) ?_
        refine m_mv rfl (wanted_rd rfl) (run_ixG _ _ _ _ rfl Try.underlying27 oneB.size (ev_in rfl (by omega)) (ev_in rfl (by omega)) (i := 3 - x) (by omega) (by omega) _) ?_
        refine m_mv rfl (wanted_rd rfl) (run_lod1 _ _ rfl oneB (ev_in rfl (by omega)) mn (by omega) ((ndF_in _ _ (by omega)).trans (by rw [hb]))) ?_
        refine l_nx ?_
        refine c_true (ev_in rfl (by omega)) ?_
        refine c_region ?_
        refine m_mv rfl (wanted_rd rfl) (run_move _ rfl (ev_in rfl (by omega)) _) ?_
        refine m_mv rfl (wanted_rd rfl) (run_addI _ _ rfl (ev_in rfl (by omega)) (ev_const _ _) (by omega) (by omega) _) ?_
        refine m_mv rfl (wanted_rd rfl) (run_assign _ rfl (ev_in rfl (by omega)) _) ?_
        refine l_finB ?_
        refine c_region ?_
        refine m_mv rfl (wanted_rd rfl) (run_move _ rfl (ev_out rfl b10) _) ?_
        refine m_mv rfl (wanted_rd rfl) (run_subI _ _ rfl (ev_in rfl (by omega)) (ev_const _ _) (by omega) (by omega) _) ?_
        refine m_mv rfl (wanted_rd rfl) (run_assign _ rfl (ev_in rfl (by omega)) _) ?_
        exact l_round ⟨4 - (x + 1), by omega, x + 1, _, by omega, by omega, (szL _ _).trans hs, (defL _ _).trans hd, (ev_out rfl b1), (ev_out rfl b3), (ev_in rfl (by omega)).trans (in_t hb), (ev_out rfl b8), (ev_out rfl b9), (ev_in rfl (by omega)).trans (by congr 1; omega), mn, ov, kB, hW⟩
    · refine c_nx ?_
      refine c_rs (m_start ?_)
      refine m_mv rfl (wanted_rd rfl) (run_move _ rfl (ev_out rfl b10) _) ?_
      refine m_mv rfl (wanted_rd rfl) (run_geqI (b := false) _ _ rfl (ev_in rfl (by omega)) (ev_const _ _) (decide_eq_false (by omega)) _) ?_
      obtain rfl : x = 4 := by omega
      refine l_nx ?_
      refine c_false (ev_in rfl (by omega)) (c_exit (x_out ?_))
      refine c_nx ?_
      refine c_rs ?_
      refine m_mv rfl (wanted_rd rfl) (run_assign _ rfl (ev_const _ _) _) ?_
      refine l_nx ?_
      refine c_block ?_
      refine c_loop (fun r a W => ∃ (x : Nat) (v : Value), x ≤ 4 ∧ 4 - x ≤ r ∧ a.tmps.size = 79 ∧ a.defers = [] ∧ a.eval (.tmp 1) = .pointer (some ⟨w.heap.size, 0, none⟩) ∧ a.eval (.tmp 3) = v ∧ a.eval (.tmp 7) = .int .i64 (inP n.rl.I 4) ∧ a.eval (.tmp 8) = .int .i64 (ctN8 n.rl.M x) ∧ a.eval (.tmp 9) = .int .i64 (ctN8 n.rl.J x) ∧ a.eval (.tmp 11) = .int .i64 (x : Int) ∧ Vh 37 W w.heap.size 74 74 (ndF n nv) ∧ W.ownsRow w1.heap.size 3 1 v (7 * 3) ((pkL n.ax 3).map iV) ∧ Below w.heap.size w W ∧ w1.heap.size ≤ W.heap.size) 4 ⟨0, _, by omega, by omega, (szL _ _).trans hs, (defL _ _).trans hd, (ev_out rfl b1), (ev_out rfl b3), (ev_out rfl b7), (ev_out rfl b8), (ev_out rfl b9), (ev_in rfl (by omega)), mn, ov, kB, hW⟩ (fun r B W hI => ?_)
      clear b1 b3 b7 b8 b9 b10 hs hd hx mn ov kB hW
      obtain ⟨x, v, hx, hr, hs, hd, b1, b3, b7, b8, b9, b11, mn, ov, kB, hW⟩ := hI
      by_cases hin : x < 4
      · refine c_nx ?_
        refine c_rs (m_start ?_)
        refine m_mv rfl (wanted_rd rfl) (run_move _ rfl (ev_out rfl b11) _) ?_
        refine m_mv rfl (wanted_rd rfl) (run_lssI (b := true) _ _ rfl (ev_in rfl (by omega)) (ev_const _ _) (decide_eq_true (by omega)) _) ?_
        refine l_nx ?_
        refine c_true (ev_in rfl (by omega)) (c_fin ?_)
        refine c_nx (c_block ?_)
        refine c_rs ?_
        refine m_mv rfl (wanted_rd rfl) (run_move _ rfl (ev_out rfl b8) _) ?_
        refine m_mv rfl (wanted_rd rfl) (run_mulW _ _ rfl (ev_const _ _) (ev_in rfl (by omega)) _) ?_
        refine m_mv rfl (wanted_rd rfl) (run_move _ rfl (ev_out rfl b11) _) ?_
        refine m_mv rfl (wanted_rd rfl) (fldNd4 rfl (ev_out rfl b1) _) ?_
        refine m_mv rfl (wanted_rd rfl) (fldRl1 rfl (ev_in rfl (by omega)) _) ?_
        refine m_mv rfl (wanted_rd rfl) (run_ixG _ _ _ _ rfl Try.underlying28 oneI.size (ev_in rfl (by omega)) (ev_in rfl (by omega)) rfl hin _) ?_
        refine m_mv rfl (wanted_rd rfl) (run_lod1 _ _ rfl oneI (ev_in rfl (by omega)) mn (by omega) (ndF_mi _ _ hin)) ?_
        refine m_mv rfl (wanted_rd rfl) (run_addW _ _ rfl (ev_in rfl (by omega)) (ev_in rfl (by omega)) _) ?_
        refine m_mv rfl (wanted_rd rfl) (run_assign _ rfl (ev_in rfl (by omega)) _) ?_
        refine l_nx ?_
        refine c_region ?_
        refine m_mv rfl (wanted_rd rfl) (run_move _ rfl (ev_out rfl b9) _) ?_
        refine m_mv rfl (wanted_rd rfl) (run_mulW _ _ rfl (ev_const _ _) (ev_in rfl (by omega)) _) ?_
        refine m_mv rfl (wanted_rd rfl) (run_move _ rfl (ev_out rfl b11) _) ?_
        refine m_mv rfl (wanted_rd rfl) (fldNd4 rfl (ev_out rfl b1) _) ?_
        refine m_mv rfl (wanted_rd rfl) (fldRl2 rfl (ev_in rfl (by omega)) _) ?_
        refine m_mv rfl (wanted_rd rfl) (run_ixG _ _ _ _ rfl Try.underlying28 oneI.size (ev_in rfl (by omega)) (ev_in rfl (by omega)) rfl hin _) ?_
        refine m_mv rfl (wanted_rd rfl) (run_lod1 _ _ rfl oneI (ev_in rfl (by omega)) mn (by omega) (ndF_jo _ _ hin)) ?_
        refine m_mv rfl (wanted_rd rfl) (run_addW _ _ rfl (ev_in rfl (by omega)) (ev_in rfl (by omega)) _) ?_
        refine m_mv rfl (wanted_rd rfl) (run_assign _ rfl (ev_in rfl (by omega)) _) ?_
        refine l_finB ?_
        refine c_region ?_
        refine m_mv rfl (wanted_rd rfl) (run_move _ rfl (ev_out rfl b11) _) ?_
        refine m_mv rfl (wanted_rd rfl) (run_addI _ _ rfl (ev_in rfl (by omega)) (ev_const _ _) (by omega) (by omega) _) ?_
        refine m_mv rfl (wanted_rd rfl) (run_assign _ rfl (ev_in rfl (by omega)) _) ?_
        exact l_round ⟨4 - (x + 1), by omega, x + 1, _, by omega, by omega, (szL _ _).trans hs, (defL _ _).trans hd, (ev_out rfl b1), (ev_out rfl b3), (ev_out rfl b7), (ev_in rfl (by omega)), (ev_in rfl (by omega)), (ev_in rfl (by omega)).trans (by rw [Int.natCast_add]; rfl), mn, ov, kB, hW⟩
      · refine c_nx ?_
        refine c_rs (m_start ?_)
        refine m_mv rfl (wanted_rd rfl) (run_move _ rfl (ev_out rfl b11) _) ?_
        refine m_mv rfl (wanted_rd rfl) (run_lssI (b := false) _ _ rfl (ev_in rfl (by omega)) (ev_const _ _) (decide_eq_false (by omega)) _) ?_
        obtain rfl : x = 4 := by omega
        refine l_nx ?_
        refine c_false (ev_in rfl (by omega)) (c_exit (x_out ?_))
        refine c_rs ?_
        refine m_mv rfl (wanted_rd rfl) (run_move _ rfl (ev_out rfl b3) _) ?_
        refine m_mv rfl (wanted_rd rfl) (run_move _ rfl (ev_out rfl b7) _) ?_
        refine m_mv rfl (wanted_rd rfl) (run_move _ rfl (ev_out rfl b8) _) ?_
        refine m_mv rfl (wanted_rd rfl) (run_move _ rfl (ev_out rfl b9) _) ?_
        refine m_do rfl (wanted_rd rfl) (fun K hK => ?_)
        refine wp_row3 _ _ _ _ rfl (g := gL [inP n.rl.I 4, ctN8 n.rl.M 4, ctN8 n.rl.J 4]) (ev_in rfl (by omega)) (ev_in rfl (by omega)) (ev_in rfl (by omega)) ?_
        intro w31 m31 k31 z31
        have mn31 := mn.below k31
        have ov31 := rw_below ov k31
        refine hK _ _ ?_
        clear hK K
        refine m_do rfl (wanted_rd rfl) (fun K hK => ?_)
        refine ⟨wp_joinI _ _ _ rfl w1.heap.size (by omega) v _ _ (ev_in rfl (by omega)) ov31 _ 3 3 _ (ev_in rfl (by omega)) (Or.inr ⟨_, rfl, fun i hi => by rw [add_at, Nat.zero_add]; exact m31.cell hi⟩) (fun i _ => rfl) (by omega) ?_⟩
        intro v32 w32 ov32 k32
        have n32 := k32.size
        have mn32 := mn31.same (k32.block _ (by omega))
        refine hK _ _ ?_
        clear hK K
        refine m_mv rfl (wanted_rd rfl) (run_assign _ rfl (ev_in rfl (by omega)) _) ?_
        refine l_nx ?_
        refine c_ret ?_
        obtain ⟨ao, c, rfl, hc⟩ := rw_slice ov32
        refine ret_of ((defL _ _).trans hd) (res_t rfl (ev_in rfl (by omega))) ⟨ao, c, rfl, ?_, (kB.trans (k31.mono (by omega))).trans (k32.mono (by omega))⟩
        have e : (pck n.ax n.rl).map iV = rowV (iF (gL (pck n.ax n.rl))) 24 := gL_map _
        rw [← e, pk_all]
        exact rw_base ov32 (by omega)

end Go.Proofs.Ytngmeaaglogieaa

namespace Go.Proofs.Ytngmeaaglogieaa
open Go.RowKit

/-- One byte ahead of a row. -/
theorem bt_row (v : Int) (k : Nat) : [Value.int .u8 (v / 256 ^ k % 256)] ++ rowV (bF (bt v k)) k = rowV (bF (bt v (k + 1))) (1 + k) := by
  have e : [Value.int .u8 (v / 256 ^ k % 256)] = rowV (fun _ => Value.int .u8 (v / 256 ^ k % 256)) 1 := rfl
  rw [e, rowV_append]
  refine rowV_congr (fun i hi => ?_)
  by_cases h : i < 1
  · rw [if_pos h]
    have : i = 0 := by omega
    subst this
    show _ = Value.int .u8 ((bt v (k + 1) 0 : Nat) : Int)
    rw [bt_head]
  · rw [if_neg h]
    obtain ⟨j, rfl⟩ : ∃ j, i = j + 1 := ⟨i - 1, by omega⟩
    show Value.int .u8 ((bt v k (j + 1 - 1) : Nat) : Int) = Value.int .u8 ((bt v (k + 1) (j + 1) : Nat) : Int)
    rw [bt_tail, Nat.add_sub_cancel]

end Go.Proofs.Ytngmeaaglogieaa
