/- A filter's state is equal to itself. -/
import Derived.Test.YtblglojbghmphaaFilFace
namespace Go.Proofs.Ytblglojbghmphaa
open Go.RowKit

theorem eqlBool (b : Bool) : (b == b) = true := by simp
/-- A state's and a tuning's variable, once made. -/
theorem st_start (w : World) (s : St) (t : Tn) : ∃ v, v = (w.alloc (.cells #[.int .i64 s.X, .int .i64 s.V, .int .i64 s.P00, .int .i64 s.P01, .int .i64 s.P11, .bool s.B, .int .i64 s.M] 23)).alloc (.cells #[.int .i64 t.Dt, .int .i64 t.Q, .int .i64 t.R, .int .i64 t.G] 32) ∧
    ST w.heap.size (w.heap.size + 1) s t v ∧ Below w.heap.size w v := by
  obtain ⟨w1, e1, h1, k1, z1⟩ := one_state w s
  have h2 := TAt.new w1 t
  have k2 := al_below w1 (.cells #[.int .i64 t.Dt, .int .i64 t.Q, .int .i64 t.R, .int .i64 t.G] 32)
  rw [z1] at h2
  rw [← e1]
  exact ⟨_, rfl, ⟨h1.below k2, h2⟩, k1.trans (k2.mono k1.size)⟩

end Go.Proofs.Ytblglojbghmphaa
