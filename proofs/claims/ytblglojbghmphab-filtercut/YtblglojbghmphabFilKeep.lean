/- Contract of the statements' own function follows: filter answers at three places. -/
import Derived.Test.YtblglojbghmphabFilFace
namespace Go.Proofs.Ytblglojbghmphab
open Go.RowKit

theorem follows_S : updS (begS 0) 4294967296 4294967296 429496729600 = ⟨2147483648, 0, 2147483648, 0, 4294967296, false, 0⟩ := by kernel_rfl
theorem follows_T : updT (begS 0) 4294967296 4294967296 429496729600 = true := by decide +kernel

theorem field7 (w : World) : (Instr.field 23 (.agg #[.int .i64 7, .int .i64 0, .int .i64 4294967296, .int .i64 0, .int .i64 4294967296, .bool false, .int .i64 0]) 0).run Try.prog w = .ok (.int .i64 7) w := by kernel_rfl

set_option maxHeartbeats 400000 in
set_option maxRecDepth 20000 in
theorem follows_any (w : World) :
    Calls Try.prog 8 #[] w fun e w' => e = .returned (.bool true) ∧ Below w.heap.size w w' := by
  have ES := hide follows_S; have ET := hide follows_T
  go_enter Try.func8, Try.ntmps8
  go_wp2_with fail
  refine (begin_any 0 _).mono ?_
  rintro e w1 ⟨rfl, k1⟩
  have K1 := hide k1
  clear k1
  go_wp2_with fail
  refine (update_any (begS 0) 4294967296 4294967296 429496729600 _ (begS_ok R64_nought) R64_one R64_one (by unfold R64; omega)).mono ?_
  rintro e w2 ⟨rfl, k2⟩
  rw [unhide ES, unhide ET, show stV ⟨2147483648, 0, 2147483648, 0, 4294967296, false, 0⟩ = .agg #[.int .i64 2147483648, .int .i64 0, .int .i64 2147483648, .int .i64 0, .int .i64 4294967296, .bool false, .int .i64 0] from rfl]
  have K2 := hide ((unhide K1).trans (k2.mono (unhide K1).size))
  clear k2 K1
  go_wp2_with fail
  refine (begin_any 7 _).mono ?_
  rintro e w3 ⟨rfl, k3⟩
  have K3 := hide (show Below w.heap.size w w3 from ((unhide K2).alloc (unhide K2).size _).trans (k3.mono ((unhide K2).alloc (unhide K2).size _).size))
  clear k3 K2
  rw [show stV (begS 7) = .agg #[.int .i64 7, .int .i64 0, .int .i64 4294967296, .int .i64 0, .int .i64 4294967296, .bool false, .int .i64 0] from rfl]
  have hfd := field7
  go_wp2_with fail
  go_ret
  exact ⟨rfl, unhide K3⟩

end Go.Proofs.Ytblglojbghmphab
