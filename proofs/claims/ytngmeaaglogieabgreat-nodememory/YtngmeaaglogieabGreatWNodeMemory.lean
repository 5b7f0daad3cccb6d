/- The walk of NodeMemory: what the package is held to, put in. -/
import Derived.Test.YtngmeaaglogieabGreatNear81
import Derived.Test.YtngmeaaglogieabGreatNear57
import Derived.Test.YtngmeaaglogieabGreatNear77
import Derived.Test.YtngmeaaglogieabGreatNear76
import Derived.Test.YtngmeaaglogieabGreatNodPr2
namespace Go.Proofs.YtngmeaaglogieabGreat
open Go.RowKit

theorem nodeMemory_walk {w : World} (n : Nd) (ao : Option Addr) (c : Nat) (mo : Option Addr) (mc : Nat) (L : List Lm) (hok : NdOK n) (hag : AgRd w n ao c) (hmr : MRd w mo L) (hN : L.length ≤ 2932031007317) (hmc : L.length ≤ mc) (hRL : ∀ m, m ∈ L → ∀ i, R64 (gL m.m.L i)) :
    Calls Tryz.prog 3 #[ndV n (.slice ao n.vA.length c), .slice mo L.length mc] w fun e w' => e = .returned (.bool true) ∧ Below w.heap.size w w' := nodeMemory_by nodeRelay_ok nodeDecide_ok nodePass_ok nodeJudge_ok nodeClose_ok nodeBegin_ok n ao c mo mc L w hok hag hmr hN hmc hRL

end Go.Proofs.YtngmeaaglogieabGreat
