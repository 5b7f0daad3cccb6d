import Derived.Test.YtdhblehhgpdpdaaNear24
import Derived.Test.YtdhblehhgpdpdaaMemOK
import Derived.Test.YtdhblehhgpdpdaaNodOK
namespace Go.Proofs.Ytdhblehhgpdpdaa
open Go.RowKit
theorem manyVd : Many Try.prog 36 3 := Many.of _ Try.underlying36 rfl (by kernel_rfl)
section
variable {f : Operand → Value} {o : Oper}
theorem run_ext3A (x : Operand) (ho : o.op = .extract x 0) {u v s : Value} (hx : f x = .tuple #[u, v, s]) (w : World) : (execOp f o).run Try.prog w = .ok (.value u) w := by
 unfold execOp
 rw [ho]
 dsimp only
 rw [hx]
 rfl
theorem run_ext3B (x : Operand) (ho : o.op = .extract x 1) {u v s : Value} (hx : f x = .tuple #[u, v, s]) (w : World) : (execOp f o).run Try.prog w = .ok (.value v) w := by
 unfold execOp
 rw [ho]
 dsimp only
 rw [hx]
 rfl
theorem run_ext3C (x : Operand) (ho : o.op = .extract x 2) {u v s : Value} (hx : f x = .tuple #[u, v, s]) (w : World) : (execOp f o).run Try.prog w = .ok (.value s) w := by
 unfold execOp
 rw [ho]
 dsimp only
 rw [hx]
 rfl
theorem run_eqlE {b : Bool} (x y : Operand) (ho : o.op = .binOp .eql 45 x y 45) {u v : Int} (hx : f x = .int .i64 u) (hy : f y = .int .i64 v) (hb : decide (u = v) = b) (w : World) : (execOp f o).run Try.prog w = .ok (.value (.bool b)) w := by
 have e : (u == v) = b := by rw [← hb, Bool.eq_iff_iff]; simp
 unfold execOp
 rw [ho]
 dsimp only
 rw [hx, hy]
 go_simp
end
theorem ndF_rl (n : Nd) (v : Value) : ∀ j, j < 12 → ndF n v (0 + 27 + j) = nrlF n.rl j := by
 intro j hj
 unfold ndF
 rw [if_neg (by omega), if_neg (by omega), if_neg (by omega), if_pos (by omega), show 0 + 27 + j - 27 = j by omega]
def nvdF (x : Int) (b : Bool) (u : Value) (i : Nat) : Value := if i = 0 then iV x else if i = 1 then .bool b else u
theorem ndF_vd (n : Nd) (v : Value) : ∀ j, j < 3 → ndF n v (0 + 71 + j) = nvdF n.vX n.vS v j := by
 intro j hj
 match j, hj with
 | 0, _ => rfl
 | 1, _ => rfl
 | 2, _ => rfl
end Go.Proofs.Ytdhblehhgpdpdaa
namespace Go.Proofs.Ytdhblehhgpdpdaa
open Go.RowKit
section
variable {P : Program} {f : Operand → Value} {o : Oper}
theorem run_ixV1 (ty e : TypeId) (x y : Operand) (ho : o.op = .index ty x y) {len i : Nat} (hu : P.underlying ty = some (.array len e)) (T : OneC P e) {g : Nat → Value} {z : Int} (hx : f x = agV g 0 len) (hy : f y = .int .i64 z) (hz : z = (i : Int)) (hi : i < len) (w : World) :
  (execOp f o).run P w = .ok (.value (g i)) w := by
 subst hz
 have h2 : (i : Int) < (len : Int) := by omega
 have hc : (((List.range len).map fun j => g (0 + j)).toArray)[i]? = some (g i) := by
  rw [List.getElem?_toArray, List.getElem?_map, List.getElem?_range hi]
  show some (g (0 + i)) = _
  rw [Nat.zero_add]
 unfold execOp
 simp only [ho, hx, hy, agV, Instr.index, asIntOf, part, Sem.run_bind, Sem.run_pure, Result.andThen_ok, run_underlying hu]
 simp [h2, T.agg, T.size, hi]
theorem run_ixVM (ty e : TypeId) (x y : Operand) (ho : o.op = .index ty x y) {len i m N : Nat} (hu : P.underlying ty = some (.array len e)) (T : Many P e m) {g : Nat → Value} {z : Int} (hx : f x = agV g 0 N) (hN : len * m = N) (hy : f y = .int .i64 z) (hz : z = (i : Int)) (hi : i < len) (w : World) :
  (execOp f o).run P w = .ok (.value (agV g (i * m) m)) w := by
 subst hz hN
 have h2 : (i : Int) < (len : Int) := by omega
 have h3 : i * m + m ≤ len * m := by
  have : (i + 1) * m ≤ len * m := Nat.mul_le_mul_right m (by omega)
  rwa [Nat.succ_mul] at this
 have hc : (((List.range (len * m)).map fun j => g (0 + j)).toArray).extract (i * m) (i * m + m) = ((List.range m).map fun j => g (i * m + j)).toArray := by
  refine Array.ext_getElem? (fun j => ?_)
  rw [Array.getElem?_extract, List.size_toArray, List.length_map, List.length_range]
  by_cases hj : j < m
  ·rw [if_pos (by omega), List.getElem?_toArray, List.getElem?_map, List.getElem?_range (by omega), List.getElem?_toArray, List.getElem?_map, List.getElem?_range hj]
   show some (g (0 + (i * m + j))) = some (g (i * m + j))
   rw [Nat.zero_add]
  ·rw [if_neg (by omega), List.getElem?_toArray, List.getElem?_eq_none (by simp; omega)]
 unfold execOp
 simp only [ho, hx, hy, agV, Instr.index, asIntOf, Sem.run_bind, Sem.run_pure, Result.andThen_ok, run_underlying hu]
 rw [if_pos (show (0 : Int) ≤ (i : Int) ∧ (i : Int) < (len : Int) from ⟨by omega, h2⟩)]
 simp only [part, Sem.run_bind, Sem.run_pure, Result.andThen_ok, T.agg, T.size, if_true, Int.toNat_natCast, hc]
end
section
variable {f : Operand → Value} {o : Oper}
end
end Go.Proofs.Ytdhblehhgpdpdaa
namespace Go.Proofs.Ytdhblehhgpdpdaa
open Go.RowKit
section
variable {f : Operand → Value} {o : Oper}
theorem run_leqI {b : Bool} (x y : Operand) (ho : o.op = .binOp .leq 3 x y 3) {u v : Int} (hx : f x = .int .i64 u) (hy : f y = .int .i64 v) (hb : decide (u ≤ v) = b) (w : World) : (execOp f o).run Try.prog w = .ok (.value (.bool b)) w := by
 subst hb
 unfold execOp
 rw [ho]
 dsimp only
 rw [hx, hy]
 go_simp
end
end Go.Proofs.Ytdhblehhgpdpdaa
