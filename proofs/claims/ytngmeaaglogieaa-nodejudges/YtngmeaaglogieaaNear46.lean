/- Joined: NodEq, VotSame, RefNod12, MsgPlain. -/
import Derived.Test.YtngmeaaglogieaaNear50
import Derived.Test.YtngmeaaglogieaaNear37
import Derived.Test.YtngmeaaglogieaaNear34
import Derived.Test.YtngmeaaglogieaaNear38
namespace Go.Proofs.Ytngmeaaglogieaa
open Go.RowKit

theorem run_eqI3 (d : Nat) (g : Nat → Int) (w : World) : (Op.equalIn (d + 1 + 1) 31 (.agg #[.int .i64 (g 0), .int .i64 (g 1), .int .i64 (g 2)]) (.agg #[.int .i64 (g 0), .int .i64 (g 1), .int .i64 (g 2)])).run Try.prog w = .ok true w := by
  have u3 := Try.underlying3
  have a3 := Try.isAgg3
  have z3 := Try.sizeOf3
  have t0 : (g 0 == g 0) = true := by simp
  have t1 : (g 1 == g 1) = true := by simp
  have t2 : (g 2 == g 2) = true := by simp
  rw [Op.equalIn]
  simp only [Sem.run_bind, run_underlying Try.underlying31, Result.andThen_ok]
  simp only [Std.Legacy.Range.forIn_eq_forIn_range', Std.Legacy.Range.size, Nat.sub_zero, Nat.add_sub_cancel, Nat.div_one, List.range'_succ, List.range'_zero, List.forIn_cons, List.forIn_nil]
  go_simp
theorem run_eqSt (d : Nat) (s : St) (w : World) : (Op.equalIn (d + 1 + 1) 25 (.agg #[.int .i64 (s).X, .int .i64 (s).V, .int .i64 (s).P00, .int .i64 (s).P01, .int .i64 (s).P11, .bool (s).B, .int .i64 (s).M]) (.agg #[.int .i64 (s).X, .int .i64 (s).V, .int .i64 (s).P00, .int .i64 (s).P01, .int .i64 (s).P11, .bool (s).B, .int .i64 (s).M])).run Try.prog w = .ok true w := by
  have u3 := Try.underlying3
  have a3 := Try.isAgg3
  have z3 := Try.sizeOf3
  have u4 := Try.underlying4
  have a4 := Try.isAgg4
  have z4 := Try.sizeOf4
  have tX : (s.X == s.X) = true := by simp
  have tV : (s.V == s.V) = true := by simp
  have tP00 : (s.P00 == s.P00) = true := by simp
  have tP01 : (s.P01 == s.P01) = true := by simp
  have tP11 : (s.P11 == s.P11) = true := by simp
  have tB : (s.B == s.B) = true := by simp
  have tM : (s.M == s.M) = true := by simp
  rw [Op.equalIn]
  simp only [Sem.run_bind, run_underlying Try.underlying25, Result.andThen_ok]
  go_simp
theorem run_eqlTn {f : Operand → Value} {o : Oper} (x y : Operand) (ho : o.op = .binOp .eql 23 x y 23) {t : Tn} (hx : f x = agV (ntnF t) 0 4) (hy : f y = agV (ntnF t) 0 4) (w : World) : (execOp f o).run Try.prog w = .ok (.value (.bool true)) w := by
  have hx' : f x = .agg #[.int .i64 t.Dt, .int .i64 t.Q, .int .i64 t.R, .int .i64 t.G] := hx
  have hy' : f y = .agg #[.int .i64 t.Dt, .int .i64 t.Q, .int .i64 t.R, .int .i64 t.G] := hy
  clear hx hy
  have u3 := Try.underlying3
  have a3 := Try.isAgg3
  have z3 := Try.sizeOf3
  unfold execOp
  rw [ho]
  dsimp only
  rw [hx', hy']
  go_simp
theorem run_eqlI4 {f : Operand → Value} {o : Oper} (x y : Operand) (ho : o.op = .binOp .eql 28 x y 28) {g : Nat → Int} (hx : f x = agV (fun j => iV (g j)) 0 4) (hy : f y = agV (fun j => iV (g j)) 0 4) (w : World) : (execOp f o).run Try.prog w = .ok (.value (.bool true)) w := by
  have hx' : f x = .agg #[.int .i64 (g 0), .int .i64 (g 1), .int .i64 (g 2), .int .i64 (g 3)] := hx
  have hy' : f y = .agg #[.int .i64 (g 0), .int .i64 (g 1), .int .i64 (g 2), .int .i64 (g 3)] := hy
  clear hx hy
  have h0 := run_eqI4 9998 (g 0) (g 1) (g 2) (g 3) w
  unfold execOp
  rw [ho]
  dsimp only
  rw [hx', hy']
  go_simp
theorem run_eqlI3 {f : Operand → Value} {o : Oper} (x y : Operand) (ho : o.op = .binOp .eql 31 x y 31) {g : Nat → Int} (hx : f x = agV (fun j => iV (g j)) 0 3) (hy : f y = agV (fun j => iV (g j)) 0 3) (w : World) : (execOp f o).run Try.prog w = .ok (.value (.bool true)) w := by
  have hx' : f x = .agg #[.int .i64 (g 0), .int .i64 (g 1), .int .i64 (g 2)] := hx
  have hy' : f y = .agg #[.int .i64 (g 0), .int .i64 (g 1), .int .i64 (g 2)] := hy
  clear hx hy
  have h0 := run_eqI3 9998 g w
  unfold execOp
  rw [ho]
  dsimp only
  rw [hx', hy']
  go_simp
set_option maxRecDepth 100000 in
theorem run_eqlSt3A (a : Nat → St) (w : World) : (Op.equalIn 10000 26 (.agg #[.int .i64 (a 0).X, .int .i64 (a 0).V, .int .i64 (a 0).P00, .int .i64 (a 0).P01, .int .i64 (a 0).P11, .bool (a 0).B, .int .i64 (a 0).M, .int .i64 (a 1).X, .int .i64 (a 1).V, .int .i64 (a 1).P00, .int .i64 (a 1).P01, .int .i64 (a 1).P11, .bool (a 1).B, .int .i64 (a 1).M, .int .i64 (a 2).X, .int .i64 (a 2).V, .int .i64 (a 2).P00, .int .i64 (a 2).P01, .int .i64 (a 2).P11, .bool (a 2).B, .int .i64 (a 2).M]) (.agg #[.int .i64 (a 0).X, .int .i64 (a 0).V, .int .i64 (a 0).P00, .int .i64 (a 0).P01, .int .i64 (a 0).P11, .bool (a 0).B, .int .i64 (a 0).M, .int .i64 (a 1).X, .int .i64 (a 1).V, .int .i64 (a 1).P00, .int .i64 (a 1).P01, .int .i64 (a 1).P11, .bool (a 1).B, .int .i64 (a 1).M, .int .i64 (a 2).X, .int .i64 (a 2).V, .int .i64 (a 2).P00, .int .i64 (a 2).P01, .int .i64 (a 2).P11, .bool (a 2).B, .int .i64 (a 2).M])).run Try.prog w = .ok true w := by
  have u3 := Try.underlying25
  have a3 := Try.isAgg25
  have z3 := Try.sizeOf25
  have h0 : (Op.equalIn (9997 + 1 + 1) 25 (.agg #[.int .i64 (a 0).X, .int .i64 (a 0).V, .int .i64 (a 0).P00, .int .i64 (a 0).P01, .int .i64 (a 0).P11, .bool (a 0).B, .int .i64 (a 0).M]) (.agg #[.int .i64 (a 0).X, .int .i64 (a 0).V, .int .i64 (a 0).P00, .int .i64 (a 0).P01, .int .i64 (a 0).P11, .bool (a 0).B, .int .i64 (a 0).M])).run Try.prog w = .ok true w := run_eqSt 9997 (a 0) w
  have h1 : (Op.equalIn (9997 + 1 + 1) 25 (.agg #[.int .i64 (a 1).X, .int .i64 (a 1).V, .int .i64 (a 1).P00, .int .i64 (a 1).P01, .int .i64 (a 1).P11, .bool (a 1).B, .int .i64 (a 1).M]) (.agg #[.int .i64 (a 1).X, .int .i64 (a 1).V, .int .i64 (a 1).P00, .int .i64 (a 1).P01, .int .i64 (a 1).P11, .bool (a 1).B, .int .i64 (a 1).M])).run Try.prog w = .ok true w := run_eqSt 9997 (a 1) w
  have h2 : (Op.equalIn (9997 + 1 + 1) 25 (.agg #[.int .i64 (a 2).X, .int .i64 (a 2).V, .int .i64 (a 2).P00, .int .i64 (a 2).P01, .int .i64 (a 2).P11, .bool (a 2).B, .int .i64 (a 2).M]) (.agg #[.int .i64 (a 2).X, .int .i64 (a 2).V, .int .i64 (a 2).P00, .int .i64 (a 2).P01, .int .i64 (a 2).P11, .bool (a 2).B, .int .i64 (a 2).M])).run Try.prog w = .ok true w := run_eqSt 9997 (a 2) w
  rw [show (10000 : Nat) = 9997 + 1 + 1 + 1 from rfl, Op.equalIn]
  simp only [Sem.run_bind, run_underlying Try.underlying26, Result.andThen_ok]
  simp only [Std.Legacy.Range.forIn_eq_forIn_range', Std.Legacy.Range.size, Nat.sub_zero, Nat.add_sub_cancel, Nat.div_one, List.range'_succ, List.range'_zero, List.forIn_cons, List.forIn_nil]
  go_simp
theorem run_eqlSt3 {f : Operand → Value} {o : Oper} (x y : Operand) (ho : o.op = .binOp .eql 26 x y 26) {a : Nat → St} (hx : f x = agV (fun j => nstF (a (j / 7)) (j % 7)) 0 21) (hy : f y = agV (fun j => nstF (a (j / 7)) (j % 7)) 0 21) (w : World) : (execOp f o).run Try.prog w = .ok (.value (.bool true)) w := by
  have hx' : f x = .agg #[.int .i64 (a 0).X, .int .i64 (a 0).V, .int .i64 (a 0).P00, .int .i64 (a 0).P01, .int .i64 (a 0).P11, .bool (a 0).B, .int .i64 (a 0).M, .int .i64 (a 1).X, .int .i64 (a 1).V, .int .i64 (a 1).P00, .int .i64 (a 1).P01, .int .i64 (a 1).P11, .bool (a 1).B, .int .i64 (a 1).M, .int .i64 (a 2).X, .int .i64 (a 2).V, .int .i64 (a 2).P00, .int .i64 (a 2).P01, .int .i64 (a 2).P11, .bool (a 2).B, .int .i64 (a 2).M] := hx
  have hy' : f y = .agg #[.int .i64 (a 0).X, .int .i64 (a 0).V, .int .i64 (a 0).P00, .int .i64 (a 0).P01, .int .i64 (a 0).P11, .bool (a 0).B, .int .i64 (a 0).M, .int .i64 (a 1).X, .int .i64 (a 1).V, .int .i64 (a 1).P00, .int .i64 (a 1).P01, .int .i64 (a 1).P11, .bool (a 1).B, .int .i64 (a 1).M, .int .i64 (a 2).X, .int .i64 (a 2).V, .int .i64 (a 2).P00, .int .i64 (a 2).P01, .int .i64 (a 2).P11, .bool (a 2).B, .int .i64 (a 2).M] := hy
  clear hx hy
  have h0 := run_eqlSt3A a w
  unfold execOp
  rw [ho]
  dsimp only
  rw [hx', hy']
  go_simp
set_option maxRecDepth 100000 in
theorem run_eql43A (g : Nat → Nat → Int) (w : World) : (Op.equalIn 10000 32 (.agg #[.int .i64 (g 0 0), .int .i64 (g 0 1), .int .i64 (g 0 2), .int .i64 (g 1 0), .int .i64 (g 1 1), .int .i64 (g 1 2), .int .i64 (g 2 0), .int .i64 (g 2 1), .int .i64 (g 2 2), .int .i64 (g 3 0), .int .i64 (g 3 1), .int .i64 (g 3 2)]) (.agg #[.int .i64 (g 0 0), .int .i64 (g 0 1), .int .i64 (g 0 2), .int .i64 (g 1 0), .int .i64 (g 1 1), .int .i64 (g 1 2), .int .i64 (g 2 0), .int .i64 (g 2 1), .int .i64 (g 2 2), .int .i64 (g 3 0), .int .i64 (g 3 1), .int .i64 (g 3 2)])).run Try.prog w = .ok true w := by
  have u3 := Try.underlying31
  have a3 := Try.isAgg31
  have z3 := Try.sizeOf31
  have h0 : (Op.equalIn (9997 + 1 + 1) 31 (.agg #[.int .i64 (g 0 0), .int .i64 (g 0 1), .int .i64 (g 0 2)]) (.agg #[.int .i64 (g 0 0), .int .i64 (g 0 1), .int .i64 (g 0 2)])).run Try.prog w = .ok true w := run_eqI3 9997 (g 0) w
  have h1 : (Op.equalIn (9997 + 1 + 1) 31 (.agg #[.int .i64 (g 1 0), .int .i64 (g 1 1), .int .i64 (g 1 2)]) (.agg #[.int .i64 (g 1 0), .int .i64 (g 1 1), .int .i64 (g 1 2)])).run Try.prog w = .ok true w := run_eqI3 9997 (g 1) w
  have h2 : (Op.equalIn (9997 + 1 + 1) 31 (.agg #[.int .i64 (g 2 0), .int .i64 (g 2 1), .int .i64 (g 2 2)]) (.agg #[.int .i64 (g 2 0), .int .i64 (g 2 1), .int .i64 (g 2 2)])).run Try.prog w = .ok true w := run_eqI3 9997 (g 2) w
  have h3 : (Op.equalIn (9997 + 1 + 1) 31 (.agg #[.int .i64 (g 3 0), .int .i64 (g 3 1), .int .i64 (g 3 2)]) (.agg #[.int .i64 (g 3 0), .int .i64 (g 3 1), .int .i64 (g 3 2)])).run Try.prog w = .ok true w := run_eqI3 9997 (g 3) w
  rw [show (10000 : Nat) = 9997 + 1 + 1 + 1 from rfl, Op.equalIn]
  simp only [Sem.run_bind, run_underlying Try.underlying32, Result.andThen_ok]
  simp only [Std.Legacy.Range.forIn_eq_forIn_range', Std.Legacy.Range.size, Nat.sub_zero, Nat.add_sub_cancel, Nat.div_one, List.range'_succ, List.range'_zero, List.forIn_cons, List.forIn_nil]
  go_simp
theorem run_eql43 {f : Operand → Value} {o : Oper} (x y : Operand) (ho : o.op = .binOp .eql 32 x y 32) {g : Nat → Nat → Int} (hx : f x = agV (fun j => iV (g (j / 3) (j % 3))) 0 12) (hy : f y = agV (fun j => iV (g (j / 3) (j % 3))) 0 12) (w : World) : (execOp f o).run Try.prog w = .ok (.value (.bool true)) w := by
  have hx' : f x = .agg #[.int .i64 (g 0 0), .int .i64 (g 0 1), .int .i64 (g 0 2), .int .i64 (g 1 0), .int .i64 (g 1 1), .int .i64 (g 1 2), .int .i64 (g 2 0), .int .i64 (g 2 1), .int .i64 (g 2 2), .int .i64 (g 3 0), .int .i64 (g 3 1), .int .i64 (g 3 2)] := hx
  have hy' : f y = .agg #[.int .i64 (g 0 0), .int .i64 (g 0 1), .int .i64 (g 0 2), .int .i64 (g 1 0), .int .i64 (g 1 1), .int .i64 (g 1 2), .int .i64 (g 2 0), .int .i64 (g 2 1), .int .i64 (g 2 2), .int .i64 (g 3 0), .int .i64 (g 3 1), .int .i64 (g 3 2)] := hy
  clear hx hy
  have h0 := run_eql43A g w
  unfold execOp
  rw [ho]
  dsimp only
  rw [hx', hy']
  go_simp
theorem manySt3 : Many Try.prog 26 21 := Many.of _ Try.underlying26 rfl (by kernel_rfl)
theorem ndF_axs (n : Nd) (v : Value) : ∀ j, j < 21 → ndF n v (0 + 6 + j) = (fun j => nstF (n.ax (j / 7)) (j % 7)) j := by
  intro j hj
  unfold ndF
  rw [if_neg (by omega), if_neg (by omega), if_pos (by omega), show 0 + 6 + j - 6 = j by omega]
theorem ndF_dis (n : Nd) (v : Value) : ∀ j, j < 12 → ndF n v (0 + 39 + j) = (fun j => iV (n.di (j / 3) (j % 3))) j := by
  intro j hj
  unfold ndF
  rw [if_neg (by omega), if_neg (by omega), if_neg (by omega), if_neg (by omega), if_pos (by omega), show 0 + 39 + j - 39 = j by omega]
theorem ndF_hes (n : Nd) (v : Value) : ∀ j, j < 4 → ndF n v (0 + 51 + j) = (fun j => iV (n.he j)) j := by
  intro j hj
  unfold ndF
  rw [if_neg (by omega), if_neg (by omega), if_neg (by omega), if_neg (by omega), if_neg (by omega), if_pos (by omega), show 0 + 51 + j - 51 = j by omega]
theorem ndF_ags (n : Nd) (v : Value) : ∀ j, j < 12 → ndF n v (0 + 55 + j) = (fun j => iV (n.ag (j / 3) (j % 3))) j := by
  intro j hj
  unfold ndF
  rw [if_neg (by omega), if_neg (by omega), if_neg (by omega), if_neg (by omega), if_neg (by omega), if_neg (by omega), if_pos (by omega), show 0 + 55 + j - 55 = j by omega]
theorem ndF_uss (n : Nd) (v : Value) : ∀ j, j < 3 → ndF n v (0 + 67 + j) = (fun j => iV (n.us j)) j := by
  intro j hj
  unfold ndF
  rw [if_neg (by omega), if_neg (by omega), if_neg (by omega), if_neg (by omega), if_neg (by omega), if_neg (by omega), if_neg (by omega), if_pos (by omega), show 0 + 67 + j - 67 = j by omega]

end Go.Proofs.Ytngmeaaglogieaa

namespace Go.Proofs.Ytngmeaaglogieaa
open Go.RowKit

/-- Two verdicts' variables. -/
theorem vd_pair (w : World) (X : Int) (S : Bool) (u v : Value) : ∃ w1, w1 = (w.alloc (.cells #[.int .i64 X, .bool S, u] 35)).alloc (.cells #[.int .i64 X, .bool S, v] 35) ∧
    VdAt w1 w.heap.size X S u ∧ VdAt w1 (w.heap.size + 1) X S v ∧ Below w.heap.size w w1 ∧ w1.heap.size = w.heap.size + 1 + 1 := by
  refine ⟨_, rfl, (VdAt.new w X S u).below (al_below _ _), ?_, ?_, ?_⟩
  · have h := VdAt.new (w.alloc (.cells #[.int .i64 X, .bool S, u] 35)) X S v
    rw [al_size] at h
    exact h
  · exact ((Below.refl _ _).alloc (Nat.le_refl _) _).alloc (by rw [al_size]; omega) _
  · rw [al_size, al_size]

set_option maxHeartbeats 1000000 in
theorem sameVerdict_ok (X : Int) (S : Bool) (ao bo : Option Addr) (l ca cb : Nat) (f g : Nat → Bool) (w : World) (hl : l ≤ 4611686018427387904) (ha : Rd w ao l (tF f)) (hb : Rd w bo l (tF g)) (he : ∀ i, i < l → f i = g i) :
    Calls Try.prog 28 #[vdV X S (.slice ao l ca), vdV X S (.slice bo l cb)] w fun e w' => e = .returned (.bool true) ∧ Below w.heap.size w w' := by
  obtain ⟨w1, e1, mA, mB, k1, s1⟩ := vd_pair w X S (.slice ao l ca) (.slice bo l cb)
  have a0 := mA.cell0; have a1 := mA.cell1; have a2 := mA.cell2
  have b0 := mB.cell0; have b1 := mB.cell1; have b2 := mB.cell2
  have tX : (X != X) = false := by simp
  have tS : (S != S) = false := by simp
  have tl : ((l : Int) != (l : Int)) = false := by simp
  have E1 := hide e1; have K1 := hide k1; have HA := hide (ha.below k1); have HB := hide (hb.below k1); have HE := hide he; have MA := hide mA; have MB := hide mB
  clear e1 mA mB k1 s1 ha hb he
  unfold vdV
  go_enter Try.func28, Try.ntmps28
  go_wp2_with fail
  rw [← unhide E1]
  go_wp2_with fail
  go_loopw [5, 30] (fun _ is wr => ∃ i : Nat, is = .int .i64 i ∧ i ≤ l ∧ Below w1.heap.size w1 wr)
    (fun _ is _ => l - (intOf is).toNat)
  case atStart => exact ⟨0, rfl, Nat.zero_le _, Below.refl _ _⟩
  case round =>
    obtain ⟨i, rfl, hi, hK⟩ := hrel
    rename World => wr
    clear a0 a1 a2 b0 b1 b2
    have a2 := ((unhide MA).below hK).cell2; have b2 := ((unhide MB).below hK).cell2
    by_cases hin : i < l
    · obtain ⟨b, o, rfl, hc⟩ := unhide HA (by omega)
      obtain ⟨p2, o2, rfl, hc2⟩ := unhide HB (by omega)
      have c1 : wr.cell? ⟨b, o + i, none⟩ = some (.bool (f i)) := at_below (hc i hin) hK
      have c2 : wr.cell? ⟨p2, o2 + i, none⟩ = some (.bool (g i)) := at_below (hc2 i hin) hK
      rw [unhide HE i hin] at c1
      have tg : ((g i) != (g i)) = false := by simp
      have HK := hide hK
      clear hK hc hc2
      go_wp2_with fail
      go_region
      go_wp2_with fail
      go_roundw
      case rel => exact ⟨i + 1, by go_num, by omega, below_drew (unhide HK)⟩
      case measure => simp [intOf] <;> omega
    · have hin2 : i = l := by omega
      subst hin2
      have HK := hide hK
      clear hK
      go_wp2_with fail
      go_ret
      exact ⟨rfl, (unhide K1).trans ((unhide HK).mono (unhide K1).size)⟩

end Go.Proofs.Ytngmeaaglogieaa

namespace Go.Proofs.Ytngmeaaglogieaa
open Go.RowKit

theorem enter_samev (x y : Value) (w : World) : (callFunc 28 #[x, y]).run Try.prog w = .ok (.enter 28 #[x, y]) w := by go_simp
set_option maxHeartbeats 2000000 in
theorem refSameNode_any (n : Nd) (ao bo : Option Addr) (c c2 : Nat) (w : World) (ha : Sr w ao n.vA.length c (tF (bA n))) (hb : Sr w bo n.vA.length c2 (tF (bA n))) (hl : n.vA.length ≤ 140737488351232) :
    Calls Try.prog 10 #[ndV n (.slice ao n.vA.length c), ndV n (.slice bo n.vA.length c2)] w fun e w' => e = .returned (.bool true) ∧ Below w.heap.size w w' := by
  refine enterF Try.func10 rfl 80 rfl (of_decide_eq_true rfl) (fun A hs hd hb => ?_)
  have b0 : A.eval (.tmp 0) = ndV n (.slice ao n.vA.length c) := hb 0 _ rfl
  have b1 : A.eval (.tmp 1) = ndV n (.slice bo n.vA.length c2) := hb 1 _ rfl
  clear hb
  refine c_rs (m_start ?_)
  refine m_do rfl (wanted_rd rfl) (fun K hK => ?_)
  refine wp_boxG _ _ _ rfl (ev_out rfl b0) (of_decide_eq_true rfl) ?_
  intro w1 m1 k1 z1
  have sa1 := ha.below k1
  have sb1 := hb.below k1
  refine hK _ _ ?_
  clear hK K
  refine m_do rfl (wanted_rd rfl) (fun K hK => ?_)
  refine wp_boxG _ _ _ rfl (ev_out rfl b1) (of_decide_eq_true rfl) ?_
  intro w2 m2 k2 z2
  have ma2 := m1.below k2
  have sa2 := sa1.below k2
  have sb2 := sb1.below k2
  refine hK _ _ ?_
  clear hK K
  refine m_mv rfl (wanted_rd rfl) (run_assign _ rfl (ev_const _ _) _) ?_
  refine l_nx ?_
  refine c_rs ?_
  refine m_mv rfl (wanted_rd rfl) (fldNd0 rfl (ev_in rfl (by omega)) _) ?_
  refine m_mv rfl (wanted_rd rfl) (run_lod1 (v := .int .i64 n.id) _ _ rfl oneI (ev_in rfl (by omega)) ma2 (by decide) rfl) ?_
  refine m_mv rfl (wanted_rd rfl) (fldNd0 rfl (ev_in rfl (by omega)) _) ?_
  refine m_mv rfl (wanted_rd rfl) (run_lod1 (v := .int .i64 n.id) _ _ rfl oneI (ev_in rfl (by omega)) m2 (by decide) rfl) ?_
  refine m_mv rfl (wanted_rd rfl) (run_eqlI (b := true) _ _ rfl (ev_in rfl (by omega)) (ev_in rfl (by omega)) (decide_eq_true rfl) _) ?_
  refine m_mv rfl (wanted_rd rfl) (run_move _ rfl (ev_in rfl (by omega)) _) ?_
  refine m_mv rfl (wanted_g (j := 5) rfl rfl rfl (ev_in rfl (by omega))) (fldNd1 rfl (ev_in rfl (by omega)) _) ?_
  refine m_mv rfl (wanted_g (j := 5) rfl rfl rfl (ev_in rfl (by omega))) (run_lod1 (v := .int .i64 n.fr) _ _ rfl oneI (ev_in rfl (by omega)) ma2 (by decide) rfl) ?_
  refine m_mv rfl (wanted_g (j := 5) rfl rfl rfl (ev_in rfl (by omega))) (fldNd1 rfl (ev_in rfl (by omega)) _) ?_
  refine m_mv rfl (wanted_g (j := 5) rfl rfl rfl (ev_in rfl (by omega))) (run_lod1 (v := .int .i64 n.fr) _ _ rfl oneI (ev_in rfl (by omega)) m2 (by decide) rfl) ?_
  refine m_mv rfl (wanted_g (j := 5) rfl rfl rfl (ev_in rfl (by omega))) (run_eqlI (b := true) _ _ rfl (ev_in rfl (by omega)) (ev_in rfl (by omega)) (decide_eq_true rfl) _) ?_
  refine m_mv rfl (wanted_rd rfl) (run_pickT' _ _ _ rfl (ev_in rfl (by omega)) (ev_in rfl (by omega)) _) ?_
  refine m_mv rfl (wanted_rd rfl) (run_move _ rfl (ev_in rfl (by omega)) _) ?_
  refine m_mv rfl (wanted_g (j := 12) rfl rfl rfl (ev_in rfl (by omega))) (fldNd2 rfl (ev_in rfl (by omega)) _) ?_
  refine m_mv rfl (wanted_g (j := 12) rfl rfl rfl (ev_in rfl (by omega))) (run_loadPe _ _ rfl manyTn (ev_in rfl (by omega)) ma2 (by decide) (ndF_tn _ _)) ?_
  refine m_mv rfl (wanted_g (j := 12) rfl rfl rfl (ev_in rfl (by omega))) (fldNd2 rfl (ev_in rfl (by omega)) _) ?_
  refine m_mv rfl (wanted_g (j := 12) rfl rfl rfl (ev_in rfl (by omega))) (run_loadPe _ _ rfl manyTn (ev_in rfl (by omega)) m2 (by decide) (ndF_tn _ _)) ?_
  refine m_mv rfl (wanted_g (j := 12) rfl rfl rfl (ev_in rfl (by omega))) (run_eqlTn _ _ rfl (ev_in rfl (by omega)) (ev_in rfl (by omega)) _) ?_
  refine m_mv rfl (wanted_rd rfl) (run_pickT' _ _ _ rfl (ev_in rfl (by omega)) (ev_in rfl (by omega)) _) ?_
  refine m_mv rfl (wanted_rd rfl) (run_move _ rfl (ev_in rfl (by omega)) _) ?_
  refine m_mv rfl (wanted_g (j := 19) rfl rfl rfl (ev_in rfl (by omega))) (fldNd3 rfl (ev_in rfl (by omega)) _) ?_
  refine m_mv rfl (wanted_g (j := 19) rfl rfl rfl (ev_in rfl (by omega))) (run_loadPe _ _ rfl manySt3 (ev_in rfl (by omega)) ma2 (by decide) (ndF_axs _ _)) ?_
  refine m_mv rfl (wanted_g (j := 19) rfl rfl rfl (ev_in rfl (by omega))) (fldNd3 rfl (ev_in rfl (by omega)) _) ?_
  refine m_mv rfl (wanted_g (j := 19) rfl rfl rfl (ev_in rfl (by omega))) (run_loadPe _ _ rfl manySt3 (ev_in rfl (by omega)) m2 (by decide) (ndF_axs _ _)) ?_
  refine m_mv rfl (wanted_g (j := 19) rfl rfl rfl (ev_in rfl (by omega))) (run_eqlSt3 _ _ rfl (ev_in rfl (by omega)) (ev_in rfl (by omega)) _) ?_
  refine m_mv rfl (wanted_rd rfl) (run_pickT' _ _ _ rfl (ev_in rfl (by omega)) (ev_in rfl (by omega)) _) ?_
  refine m_mv rfl (wanted_rd rfl) (run_move _ rfl (ev_in rfl (by omega)) _) ?_
  refine m_mv rfl (wanted_g (j := 26) rfl rfl rfl (ev_in rfl (by omega))) (fldNd4 rfl (ev_in rfl (by omega)) _) ?_
  refine m_mv rfl (wanted_g (j := 26) rfl rfl rfl (ev_in rfl (by omega))) (run_loadPe _ _ rfl manyRl (ev_in rfl (by omega)) ma2 (by decide) (ndF_rl _ _)) ?_
  refine m_mv rfl (wanted_g (j := 26) rfl rfl rfl (ev_in rfl (by omega))) (fldNd4 rfl (ev_in rfl (by omega)) _) ?_
  refine m_mv rfl (wanted_g (j := 26) rfl rfl rfl (ev_in rfl (by omega))) (run_loadPe _ _ rfl manyRl (ev_in rfl (by omega)) m2 (by decide) (ndF_rl _ _)) ?_
  refine m_mv rfl (wanted_g (j := 26) rfl rfl rfl (ev_in rfl (by omega))) (run_eqlRl _ _ rfl (ev_in rfl (by omega)) (ev_in rfl (by omega)) _) ?_
  refine m_mv rfl (wanted_rd rfl) (run_pickT' _ _ _ rfl (ev_in rfl (by omega)) (ev_in rfl (by omega)) _) ?_
  refine m_mv rfl (wanted_rd rfl) (run_move _ rfl (ev_in rfl (by omega)) _) ?_
  refine m_mv rfl (wanted_g (j := 33) rfl rfl rfl (ev_in rfl (by omega))) (fldNd5 rfl (ev_in rfl (by omega)) _) ?_
  refine m_mv rfl (wanted_g (j := 33) rfl rfl rfl (ev_in rfl (by omega))) (run_loadPe _ _ rfl many43 (ev_in rfl (by omega)) ma2 (by decide) (ndF_dis _ _)) ?_
  refine m_mv rfl (wanted_g (j := 33) rfl rfl rfl (ev_in rfl (by omega))) (fldNd5 rfl (ev_in rfl (by omega)) _) ?_
  refine m_mv rfl (wanted_g (j := 33) rfl rfl rfl (ev_in rfl (by omega))) (run_loadPe _ _ rfl many43 (ev_in rfl (by omega)) m2 (by decide) (ndF_dis _ _)) ?_
  refine m_mv rfl (wanted_g (j := 33) rfl rfl rfl (ev_in rfl (by omega))) (run_eql43 _ _ rfl (ev_in rfl (by omega)) (ev_in rfl (by omega)) _) ?_
  refine m_mv rfl (wanted_rd rfl) (run_pickT' _ _ _ rfl (ev_in rfl (by omega)) (ev_in rfl (by omega)) _) ?_
  refine m_mv rfl (wanted_rd rfl) (run_move _ rfl (ev_in rfl (by omega)) _) ?_
  refine m_mv rfl (wanted_g (j := 40) rfl rfl rfl (ev_in rfl (by omega))) (fldNd6 rfl (ev_in rfl (by omega)) _) ?_
  refine m_mv rfl (wanted_g (j := 40) rfl rfl rfl (ev_in rfl (by omega))) (run_loadPe _ _ rfl many4 (ev_in rfl (by omega)) ma2 (by decide) (ndF_hes _ _)) ?_
  refine m_mv rfl (wanted_g (j := 40) rfl rfl rfl (ev_in rfl (by omega))) (fldNd6 rfl (ev_in rfl (by omega)) _) ?_
  refine m_mv rfl (wanted_g (j := 40) rfl rfl rfl (ev_in rfl (by omega))) (run_loadPe _ _ rfl many4 (ev_in rfl (by omega)) m2 (by decide) (ndF_hes _ _)) ?_
  refine m_mv rfl (wanted_g (j := 40) rfl rfl rfl (ev_in rfl (by omega))) (run_eqlI4 _ _ rfl (ev_in rfl (by omega)) (ev_in rfl (by omega)) _) ?_
  refine m_mv rfl (wanted_rd rfl) (run_pickT' _ _ _ rfl (ev_in rfl (by omega)) (ev_in rfl (by omega)) _) ?_
  refine m_mv rfl (wanted_rd rfl) (run_move _ rfl (ev_in rfl (by omega)) _) ?_
  refine m_mv rfl (wanted_g (j := 47) rfl rfl rfl (ev_in rfl (by omega))) (fldNd7 rfl (ev_in rfl (by omega)) _) ?_
  refine m_mv rfl (wanted_g (j := 47) rfl rfl rfl (ev_in rfl (by omega))) (run_loadPe _ _ rfl many43 (ev_in rfl (by omega)) ma2 (by decide) (ndF_ags _ _)) ?_
  refine m_mv rfl (wanted_g (j := 47) rfl rfl rfl (ev_in rfl (by omega))) (fldNd7 rfl (ev_in rfl (by omega)) _) ?_
  refine m_mv rfl (wanted_g (j := 47) rfl rfl rfl (ev_in rfl (by omega))) (run_loadPe _ _ rfl many43 (ev_in rfl (by omega)) m2 (by decide) (ndF_ags _ _)) ?_
  refine m_mv rfl (wanted_g (j := 47) rfl rfl rfl (ev_in rfl (by omega))) (run_eql43 _ _ rfl (ev_in rfl (by omega)) (ev_in rfl (by omega)) _) ?_
  refine m_mv rfl (wanted_rd rfl) (run_pickT' _ _ _ rfl (ev_in rfl (by omega)) (ev_in rfl (by omega)) _) ?_
  refine m_mv rfl (wanted_rd rfl) (run_move _ rfl (ev_in rfl (by omega)) _) ?_
  refine m_mv rfl (wanted_g (j := 54) rfl rfl rfl (ev_in rfl (by omega))) (fldNd8 rfl (ev_in rfl (by omega)) _) ?_
  refine m_mv rfl (wanted_g (j := 54) rfl rfl rfl (ev_in rfl (by omega))) (run_loadPe _ _ rfl many3 (ev_in rfl (by omega)) ma2 (by decide) (ndF_uss _ _)) ?_
  refine m_mv rfl (wanted_g (j := 54) rfl rfl rfl (ev_in rfl (by omega))) (fldNd8 rfl (ev_in rfl (by omega)) _) ?_
  refine m_mv rfl (wanted_g (j := 54) rfl rfl rfl (ev_in rfl (by omega))) (run_loadPe _ _ rfl many3 (ev_in rfl (by omega)) m2 (by decide) (ndF_uss _ _)) ?_
  refine m_mv rfl (wanted_g (j := 54) rfl rfl rfl (ev_in rfl (by omega))) (run_eqlI3 _ _ rfl (ev_in rfl (by omega)) (ev_in rfl (by omega)) _) ?_
  refine m_mv rfl (wanted_rd rfl) (run_pickT' _ _ _ rfl (ev_in rfl (by omega)) (ev_in rfl (by omega)) _) ?_
  refine m_mv rfl (wanted_rd rfl) (run_move _ rfl (ev_in rfl (by omega)) _) ?_
  refine m_mv rfl (wanted_g (j := 61) rfl rfl rfl (ev_in rfl (by omega))) (fldNd9 rfl (ev_in rfl (by omega)) _) ?_
  refine m_mv rfl (wanted_g (j := 61) rfl rfl rfl (ev_in rfl (by omega))) (run_lod1 (v := .int .i64 n.dg) _ _ rfl oneI (ev_in rfl (by omega)) ma2 (by decide) rfl) ?_
  refine m_mv rfl (wanted_g (j := 61) rfl rfl rfl (ev_in rfl (by omega))) (fldNd9 rfl (ev_in rfl (by omega)) _) ?_
  refine m_mv rfl (wanted_g (j := 61) rfl rfl rfl (ev_in rfl (by omega))) (run_lod1 (v := .int .i64 n.dg) _ _ rfl oneI (ev_in rfl (by omega)) m2 (by decide) rfl) ?_
  refine m_mv rfl (wanted_g (j := 61) rfl rfl rfl (ev_in rfl (by omega))) (run_eqlI (b := true) _ _ rfl (ev_in rfl (by omega)) (ev_in rfl (by omega)) (decide_eq_true rfl) _) ?_
  refine m_mv rfl (wanted_rd rfl) (run_pickT' _ _ _ rfl (ev_in rfl (by omega)) (ev_in rfl (by omega)) _) ?_
  refine m_mv rfl (wanted_rd rfl) (run_move _ rfl (ev_in rfl (by omega)) _) ?_
  refine m_mv rfl (wanted_g (j := 68) rfl rfl rfl (ev_in rfl (by omega))) (fldNd10 rfl (ev_in rfl (by omega)) _) ?_
  refine m_mv rfl (wanted_g (j := 68) rfl rfl rfl (ev_in rfl (by omega))) (run_loadPe _ _ rfl manyVd (ev_in rfl (by omega)) ma2 (by decide) (ndF_vd _ _)) ?_
  refine m_mv rfl (wanted_g (j := 68) rfl rfl rfl (ev_in rfl (by omega))) (fldNd10 rfl (ev_in rfl (by omega)) _) ?_
  refine m_mv rfl (wanted_g (j := 68) rfl rfl rfl (ev_in rfl (by omega))) (run_loadPe _ _ rfl manyVd (ev_in rfl (by omega)) m2 (by decide) (ndF_vd _ _)) ?_
  refine m_do rfl (wanted_g (j := 68) rfl rfl rfl (ev_in rfl (by omega))) (fun K hK => ?_)
  refine wp_call2 _ 28 _ _ _ rfl (ev_in rfl (by omega)) (ev_in rfl (by omega)) (enter_samev _ _ _) (sameVerdict_ok n.vX n.vS ao bo n.vA.length c c2 (bA n) (bA n) _ (by have := hl; omega) sa2.rd sb2.rd (fun _ _ => rfl)) ?_
  rintro e w3 ⟨rfl, k3⟩
  refine ⟨_, rfl, ?_⟩
  refine hK _ _ ?_
  clear hK K
  refine m_mv rfl (wanted_rd rfl) (run_pickT' _ _ _ rfl (ev_in rfl (by omega)) (ev_in rfl (by omega)) _) ?_
  refine m_mv rfl (wanted_rd rfl) (run_assign _ rfl (ev_in rfl (by omega)) _) ?_
  refine l_nx ?_
  refine c_ret (ret_of ((defL _ _).trans hd) (res_t rfl (ev_in rfl (by omega))) ⟨rfl, (k1.trans (k2.mono (by omega))).trans (k3.mono (by omega))⟩)

end Go.Proofs.Ytngmeaaglogieaa

namespace Go.Proofs.Ytngmeaaglogieaa
open Go.RowKit

/-- A message as a value. -/
def msV (K F R : Int) (v : Value) : Value := .agg #[.int .i64 K, .int .i64 F, .int .i64 R, v]
/-- The block of a message's variable. -/
def MgAt (w : World) (b : Nat) (K F R : Int) (v : Value) : Prop := w.heap[b]? = some (.cells #[.int .i64 K, .int .i64 F, .int .i64 R, v] 45 (0, 0))
section
variable {w w' : World} {b : Nat} {K F R : Int} {v : Value}
theorem MgAt.cell0 (h : MgAt w b K F R v) : w.cell? ⟨b, 0, none⟩ = some (.int .i64 K) := by unfold MgAt at h; unfold World.cell?; rw [h]; rfl
theorem MgAt.cell1 (h : MgAt w b K F R v) : w.cell? ⟨b, 1, none⟩ = some (.int .i64 F) := by unfold MgAt at h; unfold World.cell?; rw [h]; rfl
theorem MgAt.cell2 (h : MgAt w b K F R v) : w.cell? ⟨b, 2, none⟩ = some (.int .i64 R) := by unfold MgAt at h; unfold World.cell?; rw [h]; rfl
theorem MgAt.cell3 (h : MgAt w b K F R v) : w.cell? ⟨b, 3, none⟩ = some v := by unfold MgAt at h; unfold World.cell?; rw [h]; rfl
theorem MgAt.free (h : MgAt w b K F R v) (i : Nat) : w.frozen? ⟨b, i, none⟩ = false := by unfold MgAt at h; simp [World.frozen?, h]
theorem MgAt.lt (h : MgAt w b K F R v) : b < w.heap.size := lt_of_block h
theorem MgAt.same (h : MgAt w b K F R v) (e : w'.heap[b]? = w.heap[b]?) : MgAt w' b K F R v := e.trans h
theorem MgAt.below (h : MgAt w b K F R v) (k : Below w.heap.size w w') : MgAt w' b K F R v := h.same (k.block b h.lt)
theorem MgAt.under {B : Nat} (h : MgAt w b K F R v) (k : Below B w w') (hb : b < B) : MgAt w' b K F R v := h.same (k.block b hb)
theorem MgAt.kept {z : Nat} (h : MgAt w b K F R v) (k : Kept z w w') (hz : b ≠ z) : MgAt w' b K F R v := h.same (k.block b h.lt hz)
theorem MgAt.new (w : World) (K F R : Int) (v : Value) : MgAt (w.alloc (.cells #[.int .i64 K, .int .i64 F, .int .i64 R, v] 45)) w.heap.size K F R v := by
  unfold MgAt
  show (w.heap.push _)[w.heap.size]? = _
  rw [Array.getElem?_push_size]
theorem MgAt.put (h : MgAt w b K F R v) (K' F' R' : Int) (u : Value) :
    ∃ w', w' = (((w.setCell ⟨b, 0, none⟩ (.int .i64 K')).setCell ⟨b, 1, none⟩ (.int .i64 F')).setCell ⟨b, 2, none⟩ (.int .i64 R')).setCell ⟨b, 3, none⟩ u ∧ MgAt w' b K' F' R' u ∧ Kept b w w' := by
  refine ⟨_, rfl, ?_, (((kept_set w b 0 _).trans (kept_set _ b 1 _) (Or.inl rfl)).trans (kept_set _ b 2 _) (Or.inl rfl)).trans (kept_set _ b 3 _) (Or.inl rfl)⟩
  unfold MgAt at h ⊢
  have h1 := heap_setCell_same w b 0 _ _ (.int .i64 K') h
  have h2 := heap_setCell_same _ b 1 _ _ (.int .i64 F') h1
  have h3 := heap_setCell_same _ b 2 _ _ (.int .i64 R') h2
  exact heap_setCell_same _ b 3 _ _ u h3
theorem MgAt.put2 (h : MgAt w b K F R v) (R' : Int) : ∃ w', w' = w.setCell ⟨b, 2, none⟩ (.int .i64 R') ∧ MgAt w' b K F R' v ∧ Kept b w w' := by
  refine ⟨_, rfl, ?_, kept_set w b 2 _⟩
  unfold MgAt at h ⊢
  exact heap_setCell_same w b 2 _ _ (.int .i64 R') h
theorem MgAt.put3 (h : MgAt w b K F R v) (u : Value) : ∃ w', w' = w.setCell ⟨b, 3, none⟩ u ∧ MgAt w' b K F R u ∧ Kept b w w' := by
  refine ⟨_, rfl, ?_, kept_set w b 3 _⟩
  unfold MgAt at h ⊢
  exact heap_setCell_same w b 3 _ _ u h
end
theorem mg_alloc (w : World) (K F R : Int) (v : Value) : ∃ w1, w1 = w.alloc (.cells #[.int .i64 K, .int .i64 F, .int .i64 R, v] 45) ∧ MgAt w1 w.heap.size K F R v ∧ Below w.heap.size w w1 ∧ w1.heap.size = w.heap.size + 1 :=
  ⟨_, rfl, MgAt.new w K F R v, al_below w _, al_size w _⟩
theorem below_le {w w' : World} {B C : Nat} (h : Below B w w') (e : C ≤ B) : Below C w w' := h.mono e

end Go.Proofs.Ytngmeaaglogieaa
