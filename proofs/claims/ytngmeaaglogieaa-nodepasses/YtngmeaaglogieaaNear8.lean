/- Joined: LawNod2, RolEq. -/
import Derived.Test.YtngmeaaglogieaaNear20
import Derived.Test.YtngmeaaglogieaaMemOK
namespace Go.Proofs.Ytngmeaaglogieaa
open Go.RowKit

theorem enter_msg (x : Value) (w : World) : (callFunc 35 #[x]).run Try.prog w = .ok (.enter 35 #[x]) w := by go_simp
set_option maxHeartbeats 2000000 in
theorem messages_any (mo : Option Addr) (mc : Nat) (L : List Lm) (w : World) (hr : MRd w mo L) (hN : L.length ≤ 2932031007317) :
    Calls Try.prog 17 #[.slice mo L.length mc] w fun e w' => ∃ mo' mc' M, e = .returned (.slice mo' L.length mc') ∧ M.map Lm.m = L.map Lm.m ∧ OwnM w' w.heap.size (.slice mo' L.length mc') M ∧ L.length ≤ mc' ∧ Below w.heap.size w w' := by
  refine enterF Try.func17 rfl 20 rfl (of_decide_eq_true rfl) (fun A hs hd hb => ?_)
  have b0 : A.eval (.tmp 0) = .slice mo L.length mc := hb 0 _ rfl
  clear hb
  refine c_rs (m_start ?_)
  refine m_mv rfl (wanted_rd rfl) (run_assign _ rfl (ev_const _ _) _) ?_
  refine l_nx ?_
  refine c_rs ?_
  refine m_mv rfl (wanted_rd rfl) (run_assign _ rfl (ev_const _ _) _) ?_
  refine l_nx ?_
  refine c_nx ?_
  refine c_rs ?_
  refine m_mv rfl (wanted_rd rfl) (run_assign _ rfl (ev_const _ _) _) ?_
  refine l_nx ?_
  refine c_block ?_
  refine c_loop (fun r a W => ∃ (i : Nat) (v : Value) (M : List Lm), i ≤ L.length ∧ L.length - i ≤ r ∧ a.tmps.size = 20 ∧ a.defers = [] ∧ a.eval (.tmp 0) = .slice mo L.length mc ∧ a.eval (.tmp 3) = v ∧ a.eval (.tmp 4) = .int .i64 (i : Int) ∧ M.map Lm.m = (L.take i).map Lm.m ∧ OwnM W w.heap.size v M ∧ Below w.heap.size w W) L.length ⟨0, _, [], by omega, by omega, (szL _ _).trans hs, (defL _ _).trans hd, (ev_out rfl b0), (ev_in rfl (by omega)), (ev_in rfl (by omega)), rfl, OwnM.nil _ _, Below.refl _ _⟩ (fun r B W hI => ?_)
  clear b0 hs hd
  obtain ⟨i, v, M, hi, hr2, hs, hd, b0, b3, b4, hM, ov, kB⟩ := hI
  have hW := kB.size
  have hML : M.length = i := by have := congrArg List.length hM; simp at this; omega
  by_cases hin : i < L.length
  · refine c_nx ?_
    refine c_rs (m_start ?_)
    refine m_mv rfl (wanted_rd rfl) (run_move _ rfl (ev_out rfl b4) _) ?_
    refine m_mv rfl (wanted_rd rfl) (run_move _ rfl (ev_out rfl b0) _) ?_
    refine m_mv rfl (wanted_rd rfl) (run_lenM _ rfl (ev_in rfl (by omega)) _) ?_
    refine m_mv rfl (wanted_rd rfl) (run_lssI (b := true) _ _ rfl (ev_in rfl (by omega)) (ev_in rfl (by omega)) (decide_eq_true (by omega)) _) ?_
    refine l_nx ?_
    refine c_true (ev_in rfl (by omega)) (c_fin ?_)
    refine c_nx (c_block ?_)
    refine c_region ?_
    have hc := List.getElem?_eq_getElem hin
    obtain ⟨c, ec⟩ : ∃ c, c = L[i] := ⟨_, rfl⟩
    rw [← ec] at hc
    obtain ⟨pb, po, rfl, hcell⟩ := (hr.below kB).1 (by omega)
    have hcell := hcell i c hc
    have hlv := (hr.below kB).2 c (by rw [ec]; exact List.getElem_mem hin)
    refine m_mv rfl (wanted_rd rfl) (run_move _ rfl (ev_out rfl b3) _) ?_
    refine m_mv rfl (wanted_rd rfl) (run_move _ rfl (ev_out rfl b0) _) ?_
    refine m_mv rfl (wanted_rd rfl) (run_move _ rfl (ev_out rfl b4) _) ?_
    refine m_mv rfl (wanted_rd rfl) (run_ixM _ _ rfl (ev_in rfl (by omega)) (ev_in rfl (by omega)) rfl hin _) ?_
    refine m_mv rfl (wanted_rd rfl) (run_lodM _ rfl (ev_in rfl (by omega)) hcell) ?_
    refine m_do rfl (wanted_rd rfl) (fun K hK => ?_)
    refine wp_call1 _ 35 _ _ rfl (ev_in rfl (by omega)) (enter_msg _ _) (message_any c.m.K c.m.F c.m.R c.ao c.m.L.length c.cap (gL c.m.L) _ hlv.1 hlv.2.2) ?_
    rintro e w1 ⟨a3, c3, rfl, o1, k1⟩
    have n1 := k1.size
    have ov1 := ov.below k1
    refine ⟨_, rfl, ?_⟩
    refine hK _ _ ?_
    clear hK K
    refine m_do rfl (wanted_rd rfl) (fun K hK => ?_)
    refine wp_oneMs _ _ rfl (c := ⟨c.m, a3, c3⟩) (ev_in rfl (by omega)) ?_
    intro w2 m2 k2 z2
    have ov2 := ov1.below k2
    refine hK _ _ ?_
    clear hK K
    refine m_do rfl (wanted_rd rfl) (fun K hK => ?_)
    refine wp_joinM _ _ _ rfl w.heap.size (by omega) v M (ev_in rfl (by omega)) ov2 _ ⟨c.m, a3, c3⟩ (ev_in rfl (by omega)) m2 (rw_base (rw_below o1 k2) (by omega)) (by omega) ?_
    intro v3 w3 ov3 k3
    have n3 := k3.size
    refine hK _ _ ?_
    clear hK K
    refine m_mv rfl (wanted_rd rfl) (run_assign _ rfl (ev_in rfl (by omega)) _) ?_
    refine l_finB ?_
    refine c_region ?_
    refine m_mv rfl (wanted_rd rfl) (run_move _ rfl (ev_out rfl b4) _) ?_
    refine m_mv rfl (wanted_rd rfl) (run_addI _ _ rfl (ev_in rfl (by omega)) (ev_const _ _) (by omega) (by omega) _) ?_
    refine m_mv rfl (wanted_rd rfl) (run_assign _ rfl (ev_in rfl (by omega)) _) ?_
    exact l_round ⟨L.length - (i + 1), by omega, i + 1, _, _, by omega, by omega, (szL _ _).trans hs, (defL _ _).trans hd, (ev_out rfl b0), (ev_in rfl (by omega)), (ev_in rfl (by omega)).trans (by rw [Int.natCast_add]; rfl), by rw [List.map_append, hM, List.take_add_one, hc, List.map_append]; rfl, ov3, ((kB.trans (k1.mono (by omega))).trans (k2.mono (by omega))).trans k3⟩
  · refine c_nx ?_
    refine c_rs (m_start ?_)
    refine m_mv rfl (wanted_rd rfl) (run_move _ rfl (ev_out rfl b4) _) ?_
    refine m_mv rfl (wanted_rd rfl) (run_move _ rfl (ev_out rfl b0) _) ?_
    refine m_mv rfl (wanted_rd rfl) (run_lenM _ rfl (ev_in rfl (by omega)) _) ?_
    refine m_mv rfl (wanted_rd rfl) (run_lssI (b := false) _ _ rfl (ev_in rfl (by omega)) (ev_in rfl (by omega)) (decide_eq_false (by omega)) _) ?_
    obtain rfl : i = L.length := by omega
    rw [List.take_length] at hM
    obtain ⟨ao, cap, rfl, hcap⟩ := rw_slice ov.1
    rw [hML] at ov hcap
    refine l_nx ?_
    refine c_false (ev_in rfl (by omega)) (c_exit (x_out ?_))
    refine c_rs ?_
    refine m_mv rfl (wanted_rd rfl) (run_move _ rfl (ev_out rfl b3) _) ?_
    refine m_mv rfl (wanted_rd rfl) (run_assign _ rfl (ev_in rfl (by omega)) _) ?_
    refine l_nx ?_
    refine c_ret ?_
    refine ret_of ((defL _ _).trans hd) (res_t rfl (ev_in rfl (by omega))) ⟨ao, cap, M, by rw [hML], hM, ov, hcap, kB⟩

end Go.Proofs.Ytngmeaaglogieaa

namespace Go.Proofs.Ytngmeaaglogieaa
open Go.RowKit

theorem run_eqI4 (d : Nat) (a b c e : Int) (w : World) : (Op.equalIn (d + 1 + 1) 28 (.agg #[.int .i64 a, .int .i64 b, .int .i64 c, .int .i64 e]) (.agg #[.int .i64 a, .int .i64 b, .int .i64 c, .int .i64 e])).run Try.prog w = .ok true w := by
  have u3 := Try.underlying3
  have a3 := Try.isAgg3
  have z3 := Try.sizeOf3
  have ta : (a == a) = true := by simp
  have tb : (b == b) = true := by simp
  have tc : (c == c) = true := by simp
  have td : (e == e) = true := by simp
  rw [Op.equalIn]
  simp only [Sem.run_bind, run_underlying Try.underlying28, Result.andThen_ok]
  simp only [Std.Legacy.Range.forIn_eq_forIn_range', Std.Legacy.Range.size, Nat.sub_zero, Nat.add_sub_cancel, Nat.div_one, List.range'_succ, List.range'_zero, List.forIn_cons, List.forIn_nil]
  go_simp
theorem run_eqB4 (d : Nat) (a b c e : Bool) (w : World) : (Op.equalIn (d + 1 + 1) 27 (.agg #[.bool a, .bool b, .bool c, .bool e]) (.agg #[.bool a, .bool b, .bool c, .bool e])).run Try.prog w = .ok true w := by
  have u3 := Try.underlying4
  have a3 := Try.isAgg4
  have z3 := Try.sizeOf4
  have ta : (a == a) = true := by simp
  have tb : (b == b) = true := by simp
  have tc : (c == c) = true := by simp
  have td : (e == e) = true := by simp
  rw [Op.equalIn]
  simp only [Sem.run_bind, run_underlying Try.underlying27, Result.andThen_ok]
  simp only [Std.Legacy.Range.forIn_eq_forIn_range', Std.Legacy.Range.size, Nat.sub_zero, Nat.add_sub_cancel, Nat.div_one, List.range'_succ, List.range'_zero, List.forIn_cons, List.forIn_nil]
  go_simp
set_option maxRecDepth 100000 in
theorem run_eqRl (r : Rl) (w : World) : (Op.equalIn 10000 30 (rollV r) (rollV r)).run Try.prog w = .ok true w := by
  have u3 := Try.underlying28
  have a3 := Try.isAgg28
  have z3 := Try.sizeOf28
  have u4 := Try.underlying27
  have a4 := Try.isAgg27
  have z4 := Try.sizeOf27
  have h0 := run_eqB4 9997 (r.I 0) (r.I 1) (r.I 2) (r.I 3) w
  have h1 := run_eqI4 9997 (r.M 0) (r.M 1) (r.M 2) (r.M 3) w
  have h2 := run_eqI4 9997 (r.J 0) (r.J 1) (r.J 2) (r.J 3) w
  unfold rollV
  rw [show (10000 : Nat) = 9997 + 1 + 1 + 1 from rfl, Op.equalIn]
  simp only [Sem.run_bind, run_underlying Try.underlying30, Result.andThen_ok]
  go_simp
theorem run_eqlRl {f : Operand → Value} {o : Oper} (x y : Operand) (ho : o.op = .binOp .eql 30 x y 30) {r : Rl} (hx : f x = rollV r) (hy : f y = rollV r) (w : World) :
    (execOp f o).run Try.prog w = .ok (.value (.bool true)) w := by
  have h0 : (Op.equalIn 9999 27 (.agg #[.bool (r.I 0), .bool (r.I 1), .bool (r.I 2), .bool (r.I 3)]) (.agg #[.bool (r.I 0), .bool (r.I 1), .bool (r.I 2), .bool (r.I 3)])).run Try.prog w = .ok true w := run_eqB4 9997 (r.I 0) (r.I 1) (r.I 2) (r.I 3) w
  have h1 : (Op.equalIn 9999 28 (.agg #[.int .i64 (r.M 0), .int .i64 (r.M 1), .int .i64 (r.M 2), .int .i64 (r.M 3)]) (.agg #[.int .i64 (r.M 0), .int .i64 (r.M 1), .int .i64 (r.M 2), .int .i64 (r.M 3)])).run Try.prog w = .ok true w := run_eqI4 9997 (r.M 0) (r.M 1) (r.M 2) (r.M 3) w
  have h2 : (Op.equalIn 9999 28 (.agg #[.int .i64 (r.J 0), .int .i64 (r.J 1), .int .i64 (r.J 2), .int .i64 (r.J 3)]) (.agg #[.int .i64 (r.J 0), .int .i64 (r.J 1), .int .i64 (r.J 2), .int .i64 (r.J 3)])).run Try.prog w = .ok true w := run_eqI4 9997 (r.J 0) (r.J 1) (r.J 2) (r.J 3) w
  unfold rollV at hx hy
  unfold execOp
  rw [ho]
  dsimp only
  rw [hx, hy]
  go_simp

end Go.Proofs.Ytngmeaaglogieaa
