/- The walks of stage 6's statements: what Encode and Decode are held to, put in. -/
import Derived.Test.YtnbpkidjojgghaaLawsW1
import Derived.Test.YtnbpkidjojgghaaLawsW2
import Derived.Test.YtnbpkidjojgghaaLawsW3
import Derived.Test.YtnbpkidjojgghaaWireEnc
import Derived.Test.YtnbpkidjojgghaaWireDec
namespace Go.Proofs.Ytnbpkidjojgghaa
open Go.RowKit

theorem wireEncodes_walk {w : World} (K F R : Int) (ao : Option Addr) (len cap : Nat) (f : Nat → Int) (rK : R64 K) (rF : R64 F) (rR : R64 R) (ar : ArgS w ao len cap f) (rc : len ≤ cap) :
    Calls Try.prog 3 #[msV K F R (.slice ao len cap)] w fun e w' => e = .returned (.bool true) ∧ Below w.heap.size w w' := wireEncodes_by wireEncode_ok K F R ao len cap f rK rF rR ar rc
theorem wireDecodes_walk {w : World} (ao : Option Addr) (len cap : Nat) (g : Nat → Nat) (ha : ArgB w ao len cap g) :
    Calls Try.prog 4 #[.slice ao len cap] w fun e w' => e = .returned (.bool true) ∧ Below w.heap.size w w' := wireDecodes_by wireDecode_ok ao len cap g ha
theorem wireBack_walk {w : World} (K F R : Int) (ao : Option Addr) (len cap : Nat) (f : Nat → Int) (rK : R64 K) (rF : R64 F) (rR : R64 R) (ar : ArgS w ao len cap f) (rc : len ≤ cap) :
    Calls Try.prog 5 #[msV K F R (.slice ao len cap)] w fun e w' => e = .returned (.bool true) ∧ Below w.heap.size w w' := wireBack_by wireEncode_ok wireDecode_ok K F R ao len cap f rK rF rR ar rc
theorem wireOnly_walk {w : World} (ao : Option Addr) (len cap : Nat) (g : Nat → Nat) (ha : ArgB w ao len cap g) :
    Calls Try.prog 6 #[.slice ao len cap] w fun e w' => e = .returned (.bool true) ∧ Below w.heap.size w w' := wireOnly_by wireEncode_ok wireDecode_ok ao len cap g ha
theorem wireTurned_walk {w : World} (K F R : Int) (ao : Option Addr) (len cap : Nat) (f : Nat → Int) (at_ mask : Int) (rK : R64 K) (rF : R64 F) (rR : R64 R) (ar : ArgS w ao len cap f) (rc : len ≤ cap) (rA : R64 at_) (rM : R64 mask) :
    Calls Try.prog 7 #[msV K F R (.slice ao len cap), .int .i64 at_, .int .i64 mask] w fun e w' => e = .returned (.bool true) ∧ Below w.heap.size w w' := wireTurned_by wireEncode_ok wireDecode_ok K F R ao len cap f at_ mask rK rF rR ar rc rA rM
theorem wireMemory_walk {w : World} (ao : Option Addr) (len cap : Nat) (g : Nat → Nat) (K F R : Int) (mo : Option Addr) (n mc : Nat) (f : Nat → Int) (ha : ArgB w ao len cap g) (rK : R64 K) (rF : R64 F) (rR : R64 R) (ar : ArgS w mo n mc f) (rc : n ≤ mc) :
    Calls Try.prog 8 #[.slice ao len cap, msV K F R (.slice mo n mc)] w fun e w' => e = .returned (.bool true) ∧ Below w.heap.size w w' := wireMemory_by wireEncode_ok wireDecode_ok ao len cap g K F R mo n mc f ha rK rF rR ar rc

end Go.Proofs.Ytnbpkidjojgghaa
