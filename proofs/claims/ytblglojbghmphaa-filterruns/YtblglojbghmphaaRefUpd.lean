/- Contract of the reference: Update. -/
import Derived.Test.YtblglojbghmphaaRefUpdA
import Derived.Test.YtblglojbghmphaaRefUpdB
import Derived.Test.YtblglojbghmphaaRefUpdC
namespace Go.Proofs.Ytblglojbghmphaa
open Go.RowKit

theorem refUpdate_any (s : St) (z r gate : Int) (w : World) (hs : s.Ok) (hz : R64 z) (hr : R64 r) (hg : R64 gate) :
    Calls Try.prog 14 #[stV s, .int .i64 z, .int .i64 r, .int .i64 gate] w fun e w' => e = .returned (.tuple #[stV (updS s z r gate), .bool (updT s z r gate)]) ∧ Below w.heap.size w w' := by
  by_cases hd : offW s r ≤ 0
  · exact refUpdate_low s z r gate w hs hz hr hg hd
  · by_cases hp : muV gate (offW s r) < muV (offY s z) (offY s z)
    · exact refUpdate_high s z r gate w hs hz hr hg hd hp
    · exact refUpdate_take s z r gate w hs hz hr hg hd hp

end Go.Proofs.Ytblglojbghmphaa
