/- Walk of the statement FilterCut. -/
import Derived.Test.YtblglojbghmphabLawsP9a
import Derived.Test.YtblglojbghmphabLawsP9b
namespace Go.Proofs.Ytblglojbghmphab
open Go.RowKit

theorem filterCut_walk {w : World} (s : St) (t : Tn) (ao : Option Addr) (len cap : Nat) (f : Nat → Int) (k0 : Int) (hs : s.Ok) (ht : t.Ok) (ar : ArgS w ao len cap f) (rc : len ≤ cap) (hk : R64 k0) : Calls Try.prog 3 #[stV s, tnV t, .slice ao len cap, .int .i64 k0] w fun e w' => e = .returned (.bool true) ∧ Below w.heap.size w w' := by
  by_cases hb : 300 < len
  · exact filterCut_big s t ao len cap f k0 hs ht ar rc hk hb
  · exact filterCut_small s t ao len cap f k0 hs ht ar rc hk hb

end Go.Proofs.Ytblglojbghmphab
