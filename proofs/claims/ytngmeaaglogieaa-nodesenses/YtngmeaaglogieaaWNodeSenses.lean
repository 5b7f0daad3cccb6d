/- The walk of NodeSenses: what the package is held to, put in. -/
import Derived.Test.YtngmeaaglogieaaLawsZSenses
import Derived.Test.YtngmeaaglogieaaNodPr3
namespace Go.Proofs.Ytngmeaaglogieaa
open Go.RowKit

theorem nodeSenses_walk {w : World} (n : Nd) (ao : Option Addr) (c : Nat) (frame : Int) (rd : Nat → Int) (hok : NdOK n) (hag : AgRd w n ao c) (hfr : R64 frame) (hrd : ∀ a, R64 (rd a)) :
    Calls Try.prog 4 #[ndV n (.slice ao n.vA.length c), .int .i64 frame, agV (fun a => iV (rd a)) 0 3] w fun e w' => e = .returned (.bool true) ∧ Below w.heap.size w w' := nodeSenses_by nodeSense_ok n ao c frame rd w hok hag hfr hrd

end Go.Proofs.Ytngmeaaglogieaa
