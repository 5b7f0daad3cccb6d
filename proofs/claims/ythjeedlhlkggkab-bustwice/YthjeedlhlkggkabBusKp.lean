/- Comparisons, their frame a variable. -/
import Derived.Test.YthjeedlhlkggkabBusOps
namespace Go.Proofs.Ythjeedlhlkggkab
open Go.RowKit

theorem run_neT2 {f : Operand → Value} {o : Oper} (x y : Operand) (ho : o.op = .binOp .neq 3 x y 3) {u v : Int} (hx : f x = .int .i64 u) (hy : f y = .int .i64 v) (h : u ≠ v) (w : World) : (execOp f o).run Try.prog w = .ok (.value (.bool true)) w := by
  unfold execOp
  rw [ho]
  dsimp only
  rw [hx, hy]
  go_simp
theorem run_neI2 {f : Operand → Value} {o : Oper} (x y : Operand) (ho : o.op = .binOp .neq 3 x y 3) {u : Int} (hx : f x = .int .i64 u) (hy : f y = .int .i64 u) (w : World) : (execOp f o).run Try.prog w = .ok (.value (.bool false)) w := by
  unfold execOp
  rw [ho]
  dsimp only
  rw [hx, hy]
  go_simp

end Go.Proofs.Ythjeedlhlkggkab
