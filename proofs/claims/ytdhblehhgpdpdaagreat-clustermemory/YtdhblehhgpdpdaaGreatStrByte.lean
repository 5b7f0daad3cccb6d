import Derived.Test.YtdhblehhgpdpdaaGreatByteMem
import Derived.Laws.BytesArg
import Derived.Test.YtdhblehhgpdpdaaGreatNear80
namespace Go.Proofs.YtdhblehhgpdpdaaGreat
open Go.RowKit
def sB (g : Nat → Nat) (n : Nat) : ByteArray := strOfNums ((List.range n).map fun i => (g i : Int))
theorem run_convB (w : World) (ao : Option Addr) (n c : Nat) (g : Nat → Nat) (hr : Rd w ao n (bF g)) : (convert 57 9 (.slice ao n c)).run Tryz.prog w = .ok (.string (sB g n)) w := by
 rcases Nat.eq_zero_or_pos n with h0 | h0
 ·subst h0
  rw [run_convert_bytes_string w 57 9 5 _ 0 c Tryz.underlying57 Tryz.underlying5 Tryz.underlying9]
  cases ao with
  | none => simp [Conv.bytesToString]; rfl
  | some a => simp [Conv.bytesToString, loadCells, loadCellsFrom]; rfl
 ·obtain ⟨b, o, rfl, hc⟩ := hr h0
  exact run_convert_bytes_arg w 57 5 Tryz.underlying57 Tryz.underlying5 b o n c ((List.range n).map fun i => (g i : Int)) (by simp) (fun i hi => by
   rw [hc i hi]
   show some (Value.int .u8 (g i : Int)) = _
   simp [List.getD, hi]) 9 Tryz.underlying9
end Go.Proofs.YtdhblehhgpdpdaaGreat
