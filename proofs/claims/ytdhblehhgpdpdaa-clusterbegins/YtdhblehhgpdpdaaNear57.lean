import Derived.Test.YtdhblehhgpdpdaaNear52
import Derived.Test.YtdhblehhgpdpdaaNodPr2
import Derived.Test.YtdhblehhgpdpdaaMemOK
import Derived.Test.YtdhblehhgpdpdaaNear45
import Derived.Test.YtdhblehhgpdpdaaNear53
namespace Go.Proofs.Ytdhblehhgpdpdaa
open Go.RowKit
def BgC (fn : Nat) : Prop := ∀ (t : Tn) (w : World), t.Ok → Calls Try.prog fn #[agV (ntnF t) 0 4] w fun e w' => ∃ D : Nat → Nd × Ad, e = .returned (agV (clG 0 D) 0 297) ∧ (∀ i, i < 4 → (D i).1 = begN (i : Nat) t) ∧ Cx w w' [agI w.heap.size D]
theorem clBegin_ok : BgC 5 := by
 intro t w ht
 refine enterF Try.func5 rfl 19 rfl (of_decide_eq_true rfl) (fun A hs hd hb => ?_)
 have b0 : A.eval (.tmp 0) = agV (ntnF t) 0 4 := hb 0 _ rfl
 clear hb
 have H := Cx.start w
 refine c_rs (m_start ?_)
 refine q_box H ?_
 intro w1 H z1
 refine q_al H ?_
 intro w2 H z2
 refine l_nx ?_
 refine c_rs ?_
 refine q_al H ?_
 intro w3 H z3
 refine l_nx ?_
 refine c_nx ?_
 refine c_rs ?_
 repeat first | refine qa ?_ | refine l_nx ?_
 refine c_block ?_
 refine c_loop (fun r A W => ∃ (i : Nat) (D : Nat → Nd × Ad), i ≤ 4 ∧ 4 - i ≤ r ∧ A.tmps.size = 19 ∧ A.defers = [] ∧ A.eval (.tmp 1) = .pointer (some ⟨w.heap.size, 0, none⟩) ∧ A.eval (.tmp 2) = .pointer (some ⟨w1.heap.size, 0, none⟩) ∧ A.eval (.tmp 3) = .pointer (some ⟨w2.heap.size, 0, none⟩) ∧ A.eval (.tmp 5) = .int .i64 (i : Int) ∧ (∀ j, j < i → (D j).1 = begN (j : Nat) t) ∧
   Cx w W [agI w.heap.size D, vhI 41 w2.heap.size 297 297 (clG 0 D), vhI 41 w1.heap.size 297 297 (clF 0 (fun _ => zeroN) (fun _ => slV (none, 0) 0)), vhI 23 w.heap.size 4 4 (ntnF t)]) 4
  ⟨0, fun _ => (zeroN, (none, 0)), Nat.zero_le _, by omega, (szL _ _).trans hs, (defL _ _).trans hd, Qv, Qv, Qv, Qv, fun j h => absurd h (Nat.not_lt_zero j), H.add (Below.refl _ _) (agI w.heap.size (fun _ => (zeroN, (none, 0)))) (fun _ _ => World.ownsRow_nil _ _ _ _) (fun j ⟨_, _, e⟩ => absurd e (fun e => nomatch e))⟩ (fun r B W hI => ?_)
 clear b0 hs hd H
 obtain ⟨i, D, hi, hr, hs, hd, b1, b2, b3, b5, hD, H⟩ := hI
 refine c_rs (m_start ?_)
 repeat first | refine qa ?_ | refine l_nx ?_ | refine c_rs ?_ | refine c_nx ?_
 refine q_if (fun h => ?_) (fun h => ?_)
 ·have hin : i < 4 := by have := of_decide_eq_true h; omega
  refine c_fin ?_
  refine c_nx (c_block ?_)
  refine c_rs ?_
  repeat first | refine qa ?_ | refine l_nx ?_ | refine c_region ?_
  have hsz := H.size
  refine q_c2 (nodeBegin_ok (i : Int) t W (by unfold R64; omega) ht) ?_
  rintro e w4 ⟨a', c', rfl, g1, k4⟩
  refine ⟨_, rfl, ?_⟩
  replace H := H.add k4 (agJ w.heap.size (begN (i : Nat) t, (a', c'))) (rw_base g1 hsz) (fun j e => (g1.lt j e).1)
  iterate 5 refine qa ?_
  refine q_sp2 H (fun j hj => Eq.trans (by rw [show 0 + 1 + i * 74 = 1 + i * 74 by omega]; rfl) (clG_set 0 D i (begN (i : Nat) t, (a', c')) j hj)) (ndF_one _ _ _ _) ?_
  intro w5 H z5
  refine l_finB ?_
  refine c_region ?_
  repeat refine qa ?_
  exact l_round ⟨4 - (i + 1), by omega, i + 1, _, by omega, by omega, (szL _ _).trans hs, (defL _ _).trans hd, Qv, Qv, Qv, Eq.trans Qv (by rw [Int.natCast_add]; rfl), fun j hj => (by
   by_cases e : j = i
   ·rw [e, upM_same]
   ·rw [upM_other _ _ e]; exact hD j (by omega)), four_set (g := agJ w.heap.size) i H⟩
 ·obtain rfl : i = 4 := by have := of_decide_eq_false h; omega
  refine c_exit (x_out ?_)
  refine c_rs ?_
  refine qa ?_
  refine q_sp2 H stP_whole (clG_one _ _) ?_
  intro w5 H z5
  refine l_nx ?_
  exact c_ret (ret_of ((defL _ _).trans hd) (res_c rfl Qv ManyK.out H.v2 (Nat.le_refl _)) ⟨D, rfl, hD, H.sub (List.Sublist.cons_cons _ (List.nil_sublist _))⟩)
end Go.Proofs.Ytdhblehhgpdpdaa
namespace Go.Proofs.Ytdhblehhgpdpdaa
open Go.RowKit
theorem run_eqI4 (d : Nat) (a b c e : Int) (w : World) : (Op.equalIn (d + 1 + 1) 29 (.agg #[.int .i64 a, .int .i64 b, .int .i64 c, .int .i64 e]) (.agg #[.int .i64 a, .int .i64 b, .int .i64 c, .int .i64 e])).run Try.prog w = .ok true w := by
 have u3 := Try.underlying3
 have a3 := Try.isAgg3
 have z3 := Try.sizeOf3
 have ta : (a == a) = true := by simp
 have tb : (b == b) = true := by simp
 have tc : (c == c) = true := by simp
 have td : (e == e) = true := by simp
 rw [Op.equalIn]
 simp only [Sem.run_bind, run_underlying Try.underlying29, Result.andThen_ok]
 simp only [Std.Legacy.Range.forIn_eq_forIn_range', Std.Legacy.Range.size, Nat.sub_zero, Nat.add_sub_cancel, Nat.div_one, List.range'_succ, List.range'_zero, List.forIn_cons, List.forIn_nil]
 go_simp
theorem run_eqB4 (d : Nat) (a b c e : Bool) (w : World) : (Op.equalIn (d + 1 + 1) 28 (.agg #[.bool a, .bool b, .bool c, .bool e]) (.agg #[.bool a, .bool b, .bool c, .bool e])).run Try.prog w = .ok true w := by
 have u3 := Try.underlying4
 have a3 := Try.isAgg4
 have z3 := Try.sizeOf4
 have ta : (a == a) = true := by simp
 have tb : (b == b) = true := by simp
 have tc : (c == c) = true := by simp
 have td : (e == e) = true := by simp
 rw [Op.equalIn]
 simp only [Sem.run_bind, run_underlying Try.underlying28, Result.andThen_ok]
 simp only [Std.Legacy.Range.forIn_eq_forIn_range', Std.Legacy.Range.size, Nat.sub_zero, Nat.add_sub_cancel, Nat.div_one, List.range'_succ, List.range'_zero, List.forIn_cons, List.forIn_nil]
 go_simp
theorem run_eqlRl {f : Operand → Value} {o : Oper} (x y : Operand) (ho : o.op = .binOp .eql 31 x y 31) {r : Rl} (hx : f x = rollV r) (hy : f y = rollV r) (w : World) :
  (execOp f o).run Try.prog w = .ok (.value (.bool true)) w := by
 have h0 : (Op.equalIn 9999 28 (.agg #[.bool (r.I 0), .bool (r.I 1), .bool (r.I 2), .bool (r.I 3)]) (.agg #[.bool (r.I 0), .bool (r.I 1), .bool (r.I 2), .bool (r.I 3)])).run Try.prog w = .ok true w := run_eqB4 9997 (r.I 0) (r.I 1) (r.I 2) (r.I 3) w
 have h1 : (Op.equalIn 9999 29 (.agg #[.int .i64 (r.M 0), .int .i64 (r.M 1), .int .i64 (r.M 2), .int .i64 (r.M 3)]) (.agg #[.int .i64 (r.M 0), .int .i64 (r.M 1), .int .i64 (r.M 2), .int .i64 (r.M 3)])).run Try.prog w = .ok true w := run_eqI4 9997 (r.M 0) (r.M 1) (r.M 2) (r.M 3) w
 have h2 : (Op.equalIn 9999 29 (.agg #[.int .i64 (r.J 0), .int .i64 (r.J 1), .int .i64 (r.J 2), .int .i64 (r.J 3)]) (.agg #[.int .i64 (r.J 0), .int .i64 (r.J 1), .int .i64 (r.J 2), .int .i64 (r.J 3)])).run Try.prog w = .ok true w := run_eqI4 9997 (r.J 0) (r.J 1) (r.J 2) (r.J 3) w
 unfold rollV at hx hy
 unfold execOp
 rw [ho]
 dsimp only
 rw [hx, hy]
 go_simp
end Go.Proofs.Ytdhblehhgpdpdaa
namespace Go.Proofs.Ytdhblehhgpdpdaa
open Go.RowKit
theorem run_eqI3 (d : Nat) (g : Nat → Int) (w : World) : (Op.equalIn (d + 1 + 1) 32 (.agg #[.int .i64 (g 0), .int .i64 (g 1), .int .i64 (g 2)]) (.agg #[.int .i64 (g 0), .int .i64 (g 1), .int .i64 (g 2)])).run Try.prog w = .ok true w := by
 have u3 := Try.underlying3
 have a3 := Try.isAgg3
 have z3 := Try.sizeOf3
 have t0 : (g 0 == g 0) = true := by simp
 have t1 : (g 1 == g 1) = true := by simp
 have t2 : (g 2 == g 2) = true := by simp
 rw [Op.equalIn]
 simp only [Sem.run_bind, run_underlying Try.underlying32, Result.andThen_ok]
 simp only [Std.Legacy.Range.forIn_eq_forIn_range', Std.Legacy.Range.size, Nat.sub_zero, Nat.add_sub_cancel, Nat.div_one, List.range'_succ, List.range'_zero, List.forIn_cons, List.forIn_nil]
 go_simp
theorem run_eqSt (d : Nat) (s : St) (w : World) : (Op.equalIn (d + 1 + 1) 26 (.agg #[.int .i64 (s).X, .int .i64 (s).V, .int .i64 (s).P00, .int .i64 (s).P01, .int .i64 (s).P11, .bool (s).B, .int .i64 (s).M]) (.agg #[.int .i64 (s).X, .int .i64 (s).V, .int .i64 (s).P00, .int .i64 (s).P01, .int .i64 (s).P11, .bool (s).B, .int .i64 (s).M])).run Try.prog w = .ok true w := by
 have u3 := Try.underlying3
 have a3 := Try.isAgg3
 have z3 := Try.sizeOf3
 have u4 := Try.underlying4
 have a4 := Try.isAgg4
 have z4 := Try.sizeOf4
 have tX : (s.X == s.X) = true := by simp
 have tV : (s.V == s.V) = true := by simp
 have tP00 : (s.P00 == s.P00) = true := by simp
 have tP01 : (s.P01 == s.P01) = true := by simp
 have tP11 : (s.P11 == s.P11) = true := by simp
 have tB : (s.B == s.B) = true := by simp
 have tM : (s.M == s.M) = true := by simp
 rw [Op.equalIn]
 simp only [Sem.run_bind, run_underlying Try.underlying26, Result.andThen_ok]
 go_simp
theorem run_eqlTn {f : Operand → Value} {o : Oper} (x y : Operand) (ho : o.op = .binOp .eql 23 x y 23) {t : Tn} (hx : f x = agV (ntnF t) 0 4) (hy : f y = agV (ntnF t) 0 4) (w : World) : (execOp f o).run Try.prog w = .ok (.value (.bool true)) w := by
 have hx' : f x = .agg #[.int .i64 t.Dt, .int .i64 t.Q, .int .i64 t.R, .int .i64 t.G] := hx
 have hy' : f y = .agg #[.int .i64 t.Dt, .int .i64 t.Q, .int .i64 t.R, .int .i64 t.G] := hy
 clear hx hy
 have u3 := Try.underlying3
 have a3 := Try.isAgg3
 have z3 := Try.sizeOf3
 unfold execOp
 rw [ho]
 dsimp only
 rw [hx', hy']
 go_simp
theorem run_eqlI4 {f : Operand → Value} {o : Oper} (x y : Operand) (ho : o.op = .binOp .eql 29 x y 29) {g : Nat → Int} (hx : f x = agV (fun j => iV (g j)) 0 4) (hy : f y = agV (fun j => iV (g j)) 0 4) (w : World) : (execOp f o).run Try.prog w = .ok (.value (.bool true)) w := by
 have hx' : f x = .agg #[.int .i64 (g 0), .int .i64 (g 1), .int .i64 (g 2), .int .i64 (g 3)] := hx
 have hy' : f y = .agg #[.int .i64 (g 0), .int .i64 (g 1), .int .i64 (g 2), .int .i64 (g 3)] := hy
 clear hx hy
 have h0 := run_eqI4 9998 (g 0) (g 1) (g 2) (g 3) w
 unfold execOp
 rw [ho]
 dsimp only
 rw [hx', hy']
 go_simp
theorem run_eqlI3 {f : Operand → Value} {o : Oper} (x y : Operand) (ho : o.op = .binOp .eql 32 x y 32) {g : Nat → Int} (hx : f x = agV (fun j => iV (g j)) 0 3) (hy : f y = agV (fun j => iV (g j)) 0 3) (w : World) : (execOp f o).run Try.prog w = .ok (.value (.bool true)) w := by
 have hx' : f x = .agg #[.int .i64 (g 0), .int .i64 (g 1), .int .i64 (g 2)] := hx
 have hy' : f y = .agg #[.int .i64 (g 0), .int .i64 (g 1), .int .i64 (g 2)] := hy
 clear hx hy
 have h0 := run_eqI3 9998 g w
 unfold execOp
 rw [ho]
 dsimp only
 rw [hx', hy']
 go_simp
set_option maxRecDepth 100000 in
theorem run_eqlSt3A (a : Nat → St) (w : World) : (Op.equalIn 10000 27 (.agg #[.int .i64 (a 0).X, .int .i64 (a 0).V, .int .i64 (a 0).P00, .int .i64 (a 0).P01, .int .i64 (a 0).P11, .bool (a 0).B, .int .i64 (a 0).M, .int .i64 (a 1).X, .int .i64 (a 1).V, .int .i64 (a 1).P00, .int .i64 (a 1).P01, .int .i64 (a 1).P11, .bool (a 1).B, .int .i64 (a 1).M, .int .i64 (a 2).X, .int .i64 (a 2).V, .int .i64 (a 2).P00, .int .i64 (a 2).P01, .int .i64 (a 2).P11, .bool (a 2).B, .int .i64 (a 2).M]) (.agg #[.int .i64 (a 0).X, .int .i64 (a 0).V, .int .i64 (a 0).P00, .int .i64 (a 0).P01, .int .i64 (a 0).P11, .bool (a 0).B, .int .i64 (a 0).M, .int .i64 (a 1).X, .int .i64 (a 1).V, .int .i64 (a 1).P00, .int .i64 (a 1).P01, .int .i64 (a 1).P11, .bool (a 1).B, .int .i64 (a 1).M, .int .i64 (a 2).X, .int .i64 (a 2).V, .int .i64 (a 2).P00, .int .i64 (a 2).P01, .int .i64 (a 2).P11, .bool (a 2).B, .int .i64 (a 2).M])).run Try.prog w = .ok true w := by
 have u3 := Try.underlying26
 have a3 := Try.isAgg26
 have z3 := Try.sizeOf26
 have h0 : (Op.equalIn (9997 + 1 + 1) 26 (.agg #[.int .i64 (a 0).X, .int .i64 (a 0).V, .int .i64 (a 0).P00, .int .i64 (a 0).P01, .int .i64 (a 0).P11, .bool (a 0).B, .int .i64 (a 0).M]) (.agg #[.int .i64 (a 0).X, .int .i64 (a 0).V, .int .i64 (a 0).P00, .int .i64 (a 0).P01, .int .i64 (a 0).P11, .bool (a 0).B, .int .i64 (a 0).M])).run Try.prog w = .ok true w := run_eqSt 9997 (a 0) w
 have h1 : (Op.equalIn (9997 + 1 + 1) 26 (.agg #[.int .i64 (a 1).X, .int .i64 (a 1).V, .int .i64 (a 1).P00, .int .i64 (a 1).P01, .int .i64 (a 1).P11, .bool (a 1).B, .int .i64 (a 1).M]) (.agg #[.int .i64 (a 1).X, .int .i64 (a 1).V, .int .i64 (a 1).P00, .int .i64 (a 1).P01, .int .i64 (a 1).P11, .bool (a 1).B, .int .i64 (a 1).M])).run Try.prog w = .ok true w := run_eqSt 9997 (a 1) w
 have h2 : (Op.equalIn (9997 + 1 + 1) 26 (.agg #[.int .i64 (a 2).X, .int .i64 (a 2).V, .int .i64 (a 2).P00, .int .i64 (a 2).P01, .int .i64 (a 2).P11, .bool (a 2).B, .int .i64 (a 2).M]) (.agg #[.int .i64 (a 2).X, .int .i64 (a 2).V, .int .i64 (a 2).P00, .int .i64 (a 2).P01, .int .i64 (a 2).P11, .bool (a 2).B, .int .i64 (a 2).M])).run Try.prog w = .ok true w := run_eqSt 9997 (a 2) w
 rw [show (10000 : Nat) = 9997 + 1 + 1 + 1 from rfl, Op.equalIn]
 simp only [Sem.run_bind, run_underlying Try.underlying27, Result.andThen_ok]
 simp only [Std.Legacy.Range.forIn_eq_forIn_range', Std.Legacy.Range.size, Nat.sub_zero, Nat.add_sub_cancel, Nat.div_one, List.range'_succ, List.range'_zero, List.forIn_cons, List.forIn_nil]
 go_simp
theorem run_eqlSt3 {f : Operand → Value} {o : Oper} (x y : Operand) (ho : o.op = .binOp .eql 27 x y 27) {a : Nat → St} (hx : f x = agV (fun j => nstF (a (j / 7)) (j % 7)) 0 21) (hy : f y = agV (fun j => nstF (a (j / 7)) (j % 7)) 0 21) (w : World) : (execOp f o).run Try.prog w = .ok (.value (.bool true)) w := by
 have hx' : f x = .agg #[.int .i64 (a 0).X, .int .i64 (a 0).V, .int .i64 (a 0).P00, .int .i64 (a 0).P01, .int .i64 (a 0).P11, .bool (a 0).B, .int .i64 (a 0).M, .int .i64 (a 1).X, .int .i64 (a 1).V, .int .i64 (a 1).P00, .int .i64 (a 1).P01, .int .i64 (a 1).P11, .bool (a 1).B, .int .i64 (a 1).M, .int .i64 (a 2).X, .int .i64 (a 2).V, .int .i64 (a 2).P00, .int .i64 (a 2).P01, .int .i64 (a 2).P11, .bool (a 2).B, .int .i64 (a 2).M] := hx
 have hy' : f y = .agg #[.int .i64 (a 0).X, .int .i64 (a 0).V, .int .i64 (a 0).P00, .int .i64 (a 0).P01, .int .i64 (a 0).P11, .bool (a 0).B, .int .i64 (a 0).M, .int .i64 (a 1).X, .int .i64 (a 1).V, .int .i64 (a 1).P00, .int .i64 (a 1).P01, .int .i64 (a 1).P11, .bool (a 1).B, .int .i64 (a 1).M, .int .i64 (a 2).X, .int .i64 (a 2).V, .int .i64 (a 2).P00, .int .i64 (a 2).P01, .int .i64 (a 2).P11, .bool (a 2).B, .int .i64 (a 2).M] := hy
 clear hx hy
 have h0 := run_eqlSt3A a w
 unfold execOp
 rw [ho]
 dsimp only
 rw [hx', hy']
 go_simp
set_option maxRecDepth 100000 in
theorem run_eql43A (g : Nat → Nat → Int) (w : World) : (Op.equalIn 10000 33 (.agg #[.int .i64 (g 0 0), .int .i64 (g 0 1), .int .i64 (g 0 2), .int .i64 (g 1 0), .int .i64 (g 1 1), .int .i64 (g 1 2), .int .i64 (g 2 0), .int .i64 (g 2 1), .int .i64 (g 2 2), .int .i64 (g 3 0), .int .i64 (g 3 1), .int .i64 (g 3 2)]) (.agg #[.int .i64 (g 0 0), .int .i64 (g 0 1), .int .i64 (g 0 2), .int .i64 (g 1 0), .int .i64 (g 1 1), .int .i64 (g 1 2), .int .i64 (g 2 0), .int .i64 (g 2 1), .int .i64 (g 2 2), .int .i64 (g 3 0), .int .i64 (g 3 1), .int .i64 (g 3 2)])).run Try.prog w = .ok true w := by
 have u3 := Try.underlying32
 have a3 := Try.isAgg32
 have z3 := Try.sizeOf32
 have h0 : (Op.equalIn (9997 + 1 + 1) 32 (.agg #[.int .i64 (g 0 0), .int .i64 (g 0 1), .int .i64 (g 0 2)]) (.agg #[.int .i64 (g 0 0), .int .i64 (g 0 1), .int .i64 (g 0 2)])).run Try.prog w = .ok true w := run_eqI3 9997 (g 0) w
 have h1 : (Op.equalIn (9997 + 1 + 1) 32 (.agg #[.int .i64 (g 1 0), .int .i64 (g 1 1), .int .i64 (g 1 2)]) (.agg #[.int .i64 (g 1 0), .int .i64 (g 1 1), .int .i64 (g 1 2)])).run Try.prog w = .ok true w := run_eqI3 9997 (g 1) w
 have h2 : (Op.equalIn (9997 + 1 + 1) 32 (.agg #[.int .i64 (g 2 0), .int .i64 (g 2 1), .int .i64 (g 2 2)]) (.agg #[.int .i64 (g 2 0), .int .i64 (g 2 1), .int .i64 (g 2 2)])).run Try.prog w = .ok true w := run_eqI3 9997 (g 2) w
 have h3 : (Op.equalIn (9997 + 1 + 1) 32 (.agg #[.int .i64 (g 3 0), .int .i64 (g 3 1), .int .i64 (g 3 2)]) (.agg #[.int .i64 (g 3 0), .int .i64 (g 3 1), .int .i64 (g 3 2)])).run Try.prog w = .ok true w := run_eqI3 9997 (g 3) w
 rw [show (10000 : Nat) = 9997 + 1 + 1 + 1 from rfl, Op.equalIn]
 simp only [Sem.run_bind, run_underlying Try.underlying33, Result.andThen_ok]
 simp only [Std.Legacy.Range.forIn_eq_forIn_range', Std.Legacy.Range.size, Nat.sub_zero, Nat.add_sub_cancel, Nat.div_one, List.range'_succ, List.range'_zero, List.forIn_cons, List.forIn_nil]
 go_simp
theorem run_eql43 {f : Operand → Value} {o : Oper} (x y : Operand) (ho : o.op = .binOp .eql 33 x y 33) {g : Nat → Nat → Int} (hx : f x = agV (fun j => iV (g (j / 3) (j % 3))) 0 12) (hy : f y = agV (fun j => iV (g (j / 3) (j % 3))) 0 12) (w : World) : (execOp f o).run Try.prog w = .ok (.value (.bool true)) w := by
 have hx' : f x = .agg #[.int .i64 (g 0 0), .int .i64 (g 0 1), .int .i64 (g 0 2), .int .i64 (g 1 0), .int .i64 (g 1 1), .int .i64 (g 1 2), .int .i64 (g 2 0), .int .i64 (g 2 1), .int .i64 (g 2 2), .int .i64 (g 3 0), .int .i64 (g 3 1), .int .i64 (g 3 2)] := hx
 have hy' : f y = .agg #[.int .i64 (g 0 0), .int .i64 (g 0 1), .int .i64 (g 0 2), .int .i64 (g 1 0), .int .i64 (g 1 1), .int .i64 (g 1 2), .int .i64 (g 2 0), .int .i64 (g 2 1), .int .i64 (g 2 2), .int .i64 (g 3 0), .int .i64 (g 3 1), .int .i64 (g 3 2)] := hy
 clear hx hy
 have h0 := run_eql43A g w
 unfold execOp
 rw [ho]
 dsimp only
 rw [hx', hy']
 go_simp
theorem manySt3 : Many Try.prog 27 21 := Many.of _ Try.underlying27 rfl (by kernel_rfl)
theorem ndF_axs (n : Nd) (v : Value) : ∀ j, j < 21 → ndF n v (0 + 6 + j) = (fun j => nstF (n.ax (j / 7)) (j % 7)) j := by
 intro j hj
 unfold ndF
 rw [if_neg (by omega), if_neg (by omega), if_pos (by omega), show 0 + 6 + j - 6 = j by omega]
theorem ndF_dis (n : Nd) (v : Value) : ∀ j, j < 12 → ndF n v (0 + 39 + j) = (fun j => iV (n.di (j / 3) (j % 3))) j := by
 intro j hj
 unfold ndF
 rw [if_neg (by omega), if_neg (by omega), if_neg (by omega), if_neg (by omega), if_pos (by omega), show 0 + 39 + j - 39 = j by omega]
theorem ndF_hes (n : Nd) (v : Value) : ∀ j, j < 4 → ndF n v (0 + 51 + j) = (fun j => iV (n.he j)) j := by
 intro j hj
 unfold ndF
 rw [if_neg (by omega), if_neg (by omega), if_neg (by omega), if_neg (by omega), if_neg (by omega), if_pos (by omega), show 0 + 51 + j - 51 = j by omega]
theorem ndF_ags (n : Nd) (v : Value) : ∀ j, j < 12 → ndF n v (0 + 55 + j) = (fun j => iV (n.ag (j / 3) (j % 3))) j := by
 intro j hj
 unfold ndF
 rw [if_neg (by omega), if_neg (by omega), if_neg (by omega), if_neg (by omega), if_neg (by omega), if_neg (by omega), if_pos (by omega), show 0 + 55 + j - 55 = j by omega]
theorem ndF_uss (n : Nd) (v : Value) : ∀ j, j < 3 → ndF n v (0 + 67 + j) = (fun j => iV (n.us j)) j := by
 intro j hj
 unfold ndF
 rw [if_neg (by omega), if_neg (by omega), if_neg (by omega), if_neg (by omega), if_neg (by omega), if_neg (by omega), if_neg (by omega), if_pos (by omega), show 0 + 67 + j - 67 = j by omega]
end Go.Proofs.Ytdhblehhgpdpdaa
namespace Go.Proofs.Ytdhblehhgpdpdaa
open Go.RowKit
theorem vd_pair (w : World) (X : Int) (S : Bool) (u v : Value) : ∃ w1, w1 = (w.alloc (.cells #[.int .i64 X, .bool S, u] 36)).alloc (.cells #[.int .i64 X, .bool S, v] 36) ∧
  VdAt w1 w.heap.size X S u ∧ VdAt w1 (w.heap.size + 1) X S v ∧ Below w.heap.size w w1 ∧ w1.heap.size = w.heap.size + 1 + 1 := by
 refine ⟨_, rfl, (VdAt.new w X S u).below (al_below _ _), ?_, ?_, ?_⟩
 ·have h := VdAt.new (w.alloc (.cells #[.int .i64 X, .bool S, u] 36)) X S v
  rw [al_size] at h
  exact h
 ·exact ((Below.refl _ _).alloc (Nat.le_refl _) _).alloc (by rw [al_size]; omega) _
 ·rw [al_size, al_size]
set_option maxHeartbeats 1000000 in
theorem sameVerdict_ok (X : Int) (S : Bool) (ao bo : Option Addr) (l ca cb : Nat) (f g : Nat → Bool) (w : World) (hl : l ≤ 4611686018427387904) (ha : Rd w ao l (tF f)) (hb : Rd w bo l (tF g)) (he : ∀ i, i < l → f i = g i) :
  Calls Try.prog 10 #[vdV X S (.slice ao l ca), vdV X S (.slice bo l cb)] w fun e w' => e = .returned (.bool true) ∧ Below w.heap.size w w' := by
 obtain ⟨w1, e1, mA, mB, k1, s1⟩ := vd_pair w X S (.slice ao l ca) (.slice bo l cb)
 have a0 := mA.cell0; have a1 := mA.cell1; have a2 := mA.cell2
 have b0 := mB.cell0; have b1 := mB.cell1; have b2 := mB.cell2
 have tX : (X != X) = false := by simp
 have tS : (S != S) = false := by simp
 have tl : ((l : Int) != (l : Int)) = false := by simp
 have E1 := hide e1; have K1 := hide k1; have HA := hide (ha.below k1); have HB := hide (hb.below k1); have HE := hide he; have MA := hide mA; have MB := hide mB
 clear e1 mA mB k1 s1 ha hb he
 unfold vdV
 go_enter Try.func10, Try.ntmps10
 go_wp2_with fail
 rw [← unhide E1]
 go_wp2_with fail
 go_loopw [5, 30] (fun _ is wr => ∃ i : Nat, is = .int .i64 i ∧ i ≤ l ∧ Below w1.heap.size w1 wr)
  (fun _ is _ => l - (intOf is).toNat)
 case atStart => exact ⟨0, rfl, Nat.zero_le _, Below.refl _ _⟩
 case round =>
  obtain ⟨i, rfl, hi, hK⟩ := hrel
  rename World => wr
  clear a0 a1 a2 b0 b1 b2
  have a2 := ((unhide MA).below hK).cell2; have b2 := ((unhide MB).below hK).cell2
  by_cases hin : i < l
  ·obtain ⟨b, o, rfl, hc⟩ := unhide HA (by omega)
   obtain ⟨p2, o2, rfl, hc2⟩ := unhide HB (by omega)
   have c1 : wr.cell? ⟨b, o + i, none⟩ = some (.bool (f i)) := at_below (hc i hin) hK
   have c2 : wr.cell? ⟨p2, o2 + i, none⟩ = some (.bool (g i)) := at_below (hc2 i hin) hK
   rw [unhide HE i hin] at c1
   have tg : ((g i) != (g i)) = false := by simp
   have HK := hide hK
   clear hK hc hc2
   go_wp2_with fail
   go_region
   go_wp2_with fail
   go_roundw
   case rel => exact ⟨i + 1, by go_num, by omega, below_drew (unhide HK)⟩
   case measure => simp [intOf] <;> omega
  ·have hin2 : i = l := by omega
   subst hin2
   have HK := hide hK
   clear hK
   go_wp2_with fail
   go_ret
   exact ⟨rfl, (unhide K1).trans ((unhide HK).mono (unhide K1).size)⟩
end Go.Proofs.Ytdhblehhgpdpdaa
