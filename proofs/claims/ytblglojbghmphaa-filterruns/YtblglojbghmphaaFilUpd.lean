/- Contract of package filter's hand: update. -/
import Derived.Test.YtblglojbghmphaaFilUpdA
import Derived.Test.YtblglojbghmphaaFilUpdB
import Derived.Test.YtblglojbghmphaaFilUpdC
namespace Go.Proofs.Ytblglojbghmphaa
open Go.RowKit

theorem hUpdate_any (b : Nat) (s : St) (z r gate : Int) (w : World) (hs : s.Ok) (hz : R64 z) (hr : R64 r) (hg : R64 gate) (h : SAt w b s) :
    Calls Try.prog 23 #[hdV b, .int .i64 z, .int .i64 r, .int .i64 gate] w fun e w' => e = .returned (.bool (updT s z r gate)) ∧ SAt w' b (updS s z r gate) ∧ Kept b w w' := by
  by_cases hd : offW s r ≤ 0
  · exact hUpdate_low b s z r gate w hs hz hr hg h hd
  · by_cases hp : muV gate (offW s r) < muV (offY s z) (offY s z)
    · exact hUpdate_high b s z r gate w hs hz hr hg h hd hp
    · exact hUpdate_take b s z r gate w hs hz hr hg h hd hp

end Go.Proofs.Ytblglojbghmphaa
