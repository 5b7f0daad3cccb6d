/- The walk of NodeCloses: what the package is held to, put in. -/
import Derived.Test.YtngmeaaglogieabNear26
import Derived.Test.YtngmeaaglogieabNodC7
namespace Go.Proofs.Ytngmeaaglogieab
open Go.RowKit

theorem nodeCloses_walk {w : World} (n : Nd) (ao : Option Addr) (c : Nat) (mo : Option Addr) (mc : Nat) (L : List Lm) (hok : NdOK n) (hag : AgRd w n ao c) (hmr : MRd w mo L) (hN : L.length ≤ 2932031007317) (hmc : L.length ≤ mc) (hRL : ∀ m, m ∈ L → ∀ i, R64 (gL m.m.L i)) :
    Calls Try.prog 3 #[ndV n (.slice ao n.vA.length c), .slice mo L.length mc] w fun e w' => e = .returned (.bool true) ∧ Below w.heap.size w w' := nodeCloses_by nodeClose_ok n ao c mo mc L w hok hag hmr hN hmc hRL

end Go.Proofs.Ytngmeaaglogieab
