/-
  No cell of these rows narrows 'for every input' (looked for: loops, veiled, ifaces, maps, wideKeys, modest, calm, conditions, laid).
  DERIVED. THE GIVEN ROWS OF THIS SEAT. 6 by the template 'for every input the law returns true; each argument reads behind the call as it read before'; 0 by the template 'total and deterministic' (their statements: YtnfejfdekedmhabTotals.lean).
  GIVEN WITH THE SEED: the statements are not yours to turn. If you find one false, say at which input.
  Laid BY PROGRAM, IN A SANDBOX (cutbox-rows.mjs): the forced cells as the released guide's own fill.sh prints them over the translation 4f66daefc974109d… (all of the seat's roots in one cut). By AI agents, Wed Nov 11 2026. No macro, syntax, notation, axiom, sorry.
-/
import Derived.Test.YtnfejfdekedmhabChecked
import GoSem.Claim
import GoSem.ClaimJoined
import GoSem.ClaimMapViews
import Derived.JoinedTies
import Derived.KernelRfl
namespace Go.Proofs.Ytnfejfdekedmhab
/- THE CELL 'sum', in the pinned program and in every row, IS THE sha256 OF THE DUMP (.gsa) THAT YtnfejfdekedmhabProg.lean LOADS. Nothing in Lean hashes anything: it is a label: what it is worth is what the hold of that sum in a sandbox is worth. -/
noncomputable def Try.pinned : Pinned := { name := "ytnfejfdekedmhab", sum := "4f66daefc974109d812d4c91ed9b689608f302f27e6167bf119c577f386ccc7e", checked := Try.checked }
namespace Rows
def none {H : Type} : Left H := { results := [], args := [] }

/-- 'fourwatchkeep.MatMemory': WHATEVER THE INPUT: true; the input reads as it did. -/
def matMemorySpec : ChangeSpec := { name := "matMemory", fn := fun _ => fun
  | [d1, d2] => { results := [.lit (.bool true)], args := [d1, d2] }
  | _ => none }
def matMemoryRow : OpenClaim := { program := "ytnfejfdekedmhab", sum := "4f66daefc974109d812d4c91ed9b689608f302f27e6167bf119c577f386ccc7e", func := "fourwatch/fourwatchkeep.MatMemory", spec := "matMemory", inPlace := ["math/bits.Add64"], named := ["math/bits.divideError", "math/bits.overflowError"], apart := false }
def MatMemorySaid : Prop := matMemoryRow.holds Try.pinned (OpenSpec.ofChange matMemorySpec)

/-- ITS FALSE NEIGHBOUR: 'it returns false'. Refute it at one input. -/
def matMemoryWrong : ChangeSpec := { name := "matMemory", fn := fun _ => fun
  | [d1, d2] => { results := [.lit (.bool false)], args := [d1, d2] }
  | _ => none }
def MatMemoryWrongFalsely : Prop := matMemoryRow.holds Try.pinned (OpenSpec.ofChange matMemoryWrong)

/-- 'fourwatchkeep.MatTurnTwice': WHATEVER THE INPUT: true; the input reads as it did. -/
def matTurnTwiceSpec : ChangeSpec := { name := "matTurnTwice", fn := fun _ => fun
  | [d] => { results := [.lit (.bool true)], args := [d] }
  | _ => none }
def matTurnTwiceRow : OpenClaim := { program := "ytnfejfdekedmhab", sum := "4f66daefc974109d812d4c91ed9b689608f302f27e6167bf119c577f386ccc7e", func := "fourwatch/fourwatchkeep.MatTurnTwice", spec := "matTurnTwice", inPlace := ["math/bits.Add64"], apart := false }
def MatTurnTwiceSaid : Prop := matTurnTwiceRow.holds Try.pinned (OpenSpec.ofChange matTurnTwiceSpec)

/-- ITS FALSE NEIGHBOUR: 'it returns false'. Refute it at one input. -/
def matTurnTwiceWrong : ChangeSpec := { name := "matTurnTwice", fn := fun _ => fun
  | [d] => { results := [.lit (.bool false)], args := [d] }
  | _ => none }
def MatTurnTwiceWrongFalsely : Prop := matTurnTwiceRow.holds Try.pinned (OpenSpec.ofChange matTurnTwiceWrong)

/-- 'fourwatchkeep.MatUnit': WHATEVER THE INPUT: true; the input reads as it did. -/
def matUnitSpec : ChangeSpec := { name := "matUnit", fn := fun _ => fun
  | [d] => { results := [.lit (.bool true)], args := [d] }
  | _ => none }
def matUnitRow : OpenClaim := { program := "ytnfejfdekedmhab", sum := "4f66daefc974109d812d4c91ed9b689608f302f27e6167bf119c577f386ccc7e", func := "fourwatch/fourwatchkeep.MatUnit", spec := "matUnit", inPlace := ["math/bits.Add64"], apart := false }
def MatUnitSaid : Prop := matUnitRow.holds Try.pinned (OpenSpec.ofChange matUnitSpec)

/-- ITS FALSE NEIGHBOUR: 'it returns false'. Refute it at one input. -/
def matUnitWrong : ChangeSpec := { name := "matUnit", fn := fun _ => fun
  | [d] => { results := [.lit (.bool false)], args := [d] }
  | _ => none }
def MatUnitWrongFalsely : Prop := matUnitRow.holds Try.pinned (OpenSpec.ofChange matUnitWrong)

/-- 'fourwatchkeep.MatTurnMul': WHATEVER THE INPUT: true; the input reads as it did. -/
def matTurnMulSpec : ChangeSpec := { name := "matTurnMul", fn := fun _ => fun
  | [d1, d2] => { results := [.lit (.bool true)], args := [d1, d2] }
  | _ => none }
def matTurnMulRow : OpenClaim := { program := "ytnfejfdekedmhab", sum := "4f66daefc974109d812d4c91ed9b689608f302f27e6167bf119c577f386ccc7e", func := "fourwatch/fourwatchkeep.MatTurnMul", spec := "matTurnMul", inPlace := ["math/bits.Add64"], apart := false }
def MatTurnMulSaid : Prop := matTurnMulRow.holds Try.pinned (OpenSpec.ofChange matTurnMulSpec)

/-- ITS FALSE NEIGHBOUR: 'it returns false'. Refute it at one input. -/
def matTurnMulWrong : ChangeSpec := { name := "matTurnMul", fn := fun _ => fun
  | [d1, d2] => { results := [.lit (.bool false)], args := [d1, d2] }
  | _ => none }
def MatTurnMulWrongFalsely : Prop := matTurnMulRow.holds Try.pinned (OpenSpec.ofChange matTurnMulWrong)

/-- 'fourwatchkeep.MatColumns': WHATEVER THE INPUT: true; the input reads as it did. -/
def matColumnsSpec : ChangeSpec := { name := "matColumns", fn := fun _ => fun
  | [d1, d2] => { results := [.lit (.bool true)], args := [d1, d2] }
  | _ => none }
def matColumnsRow : OpenClaim := { program := "ytnfejfdekedmhab", sum := "4f66daefc974109d812d4c91ed9b689608f302f27e6167bf119c577f386ccc7e", func := "fourwatch/fourwatchkeep.MatColumns", spec := "matColumns", inPlace := ["math/bits.Add64"], apart := false }
def MatColumnsSaid : Prop := matColumnsRow.holds Try.pinned (OpenSpec.ofChange matColumnsSpec)

/-- ITS FALSE NEIGHBOUR: 'it returns false'. Refute it at one input. -/
def matColumnsWrong : ChangeSpec := { name := "matColumns", fn := fun _ => fun
  | [d1, d2] => { results := [.lit (.bool false)], args := [d1, d2] }
  | _ => none }
def MatColumnsWrongFalsely : Prop := matColumnsRow.holds Try.pinned (OpenSpec.ofChange matColumnsWrong)

/-- 'fourwatchkeep.MatFactored': WHATEVER THE INPUT: true; the input reads as it did. -/
def matFactoredSpec : ChangeSpec := { name := "matFactored", fn := fun _ => fun
  | [d] => { results := [.lit (.bool true)], args := [d] }
  | _ => none }
def matFactoredRow : OpenClaim := { program := "ytnfejfdekedmhab", sum := "4f66daefc974109d812d4c91ed9b689608f302f27e6167bf119c577f386ccc7e", func := "fourwatch/fourwatchkeep.MatFactored", spec := "matFactored", inPlace := ["math/bits.Add64"], named := ["math/bits.divideError", "math/bits.overflowError"], apart := false }
def MatFactoredSaid : Prop := matFactoredRow.holds Try.pinned (OpenSpec.ofChange matFactoredSpec)

/-- ITS FALSE NEIGHBOUR: 'it returns false'. Refute it at one input. -/
def matFactoredWrong : ChangeSpec := { name := "matFactored", fn := fun _ => fun
  | [d] => { results := [.lit (.bool false)], args := [d] }
  | _ => none }
def MatFactoredWrongFalsely : Prop := matFactoredRow.holds Try.pinned (OpenSpec.ofChange matFactoredWrong)

/- THE SECOND FORM. 'bulk': how many values and letters a reading holds, each counted each time it is reached (what is shared counts as often as it is met; a slice's spare places count too). A statement '..UptoSaid' is the law's where the arguments, and the package variables that the reading takes, are together of bulk at most 1048576: NARROWER than '..Said'. Prove '..Said' where nothing that the law and all that it calls make is longer than what came in: it says more and counts as full. Else prove '..UptoSaid'. A law counts once. -/
mutual
def uptoBulk {H : Type} : DataW H → Nat
  | .lit (.string bytes) => bytes.length + 1
  | .lit _ => 1
  | .nil => 1
  | .ptr d => uptoBulk d + 1
  | .slice elems spare => uptoBulkAll elems + uptoBulkAll spare + 1
  | .agg parts => uptoBulkAll parts + 1
  | .iface _ d => uptoBulk d + 1
  | .map entries => uptoBulkEntries entries + 1
  | .held _ => 1
def uptoBulkAll {H : Type} : List (DataW H) → Nat
  | [] => 0
  | d :: r => uptoBulk d + uptoBulkAll r
def uptoBulkEntries {H : Type} : List (Lit × DataW H) → Nat
  | [] => 0
  | x :: r => uptoBulkEntry x + uptoBulkEntries r
def uptoBulkEntry {H : Type} : Lit × DataW H → Nat
  | (.string bytes, d) => bytes.length + uptoBulk d + 1
  | (_, d) => uptoBulk d + 1
 end
def uptoSmall : (H : Type) → List (DataW H) → Bool := fun _ ds => decide (uptoBulkAll ds ≤ 1048576)
def OpenSpec.upto (s : _root_.Go.ChangeSpec) : _root_.Go.OpenSpec := { _root_.Go.OpenSpec.ofChange s with cond := some uptoSmall }

/-- 'fourwatchkeep.MatMemory', WHERE WHAT IT READS IS OF BULK AT MOST 1048576: true; the input reads as it did. -/
def matMemoryUptoRow : OpenClaim := { program := "ytnfejfdekedmhab", sum := "4f66daefc974109d812d4c91ed9b689608f302f27e6167bf119c577f386ccc7e", func := "fourwatch/fourwatchkeep.MatMemory", spec := "matMemory", inPlace := ["math/bits.Add64"], named := ["math/bits.divideError", "math/bits.overflowError"], apart := false, narrowed := true }
def MatMemoryUptoSaid : Prop := matMemoryUptoRow.holds Try.pinned (OpenSpec.upto matMemorySpec)

/-- 'fourwatchkeep.MatTurnTwice', WHERE WHAT IT READS IS OF BULK AT MOST 1048576: true; the input reads as it did. -/
def matTurnTwiceUptoRow : OpenClaim := { program := "ytnfejfdekedmhab", sum := "4f66daefc974109d812d4c91ed9b689608f302f27e6167bf119c577f386ccc7e", func := "fourwatch/fourwatchkeep.MatTurnTwice", spec := "matTurnTwice", inPlace := ["math/bits.Add64"], apart := false, narrowed := true }
def MatTurnTwiceUptoSaid : Prop := matTurnTwiceUptoRow.holds Try.pinned (OpenSpec.upto matTurnTwiceSpec)

/-- 'fourwatchkeep.MatUnit', WHERE WHAT IT READS IS OF BULK AT MOST 1048576: true; the input reads as it did. -/
def matUnitUptoRow : OpenClaim := { program := "ytnfejfdekedmhab", sum := "4f66daefc974109d812d4c91ed9b689608f302f27e6167bf119c577f386ccc7e", func := "fourwatch/fourwatchkeep.MatUnit", spec := "matUnit", inPlace := ["math/bits.Add64"], apart := false, narrowed := true }
def MatUnitUptoSaid : Prop := matUnitUptoRow.holds Try.pinned (OpenSpec.upto matUnitSpec)

/-- 'fourwatchkeep.MatTurnMul', WHERE WHAT IT READS IS OF BULK AT MOST 1048576: true; the input reads as it did. -/
def matTurnMulUptoRow : OpenClaim := { program := "ytnfejfdekedmhab", sum := "4f66daefc974109d812d4c91ed9b689608f302f27e6167bf119c577f386ccc7e", func := "fourwatch/fourwatchkeep.MatTurnMul", spec := "matTurnMul", inPlace := ["math/bits.Add64"], apart := false, narrowed := true }
def MatTurnMulUptoSaid : Prop := matTurnMulUptoRow.holds Try.pinned (OpenSpec.upto matTurnMulSpec)

/-- 'fourwatchkeep.MatColumns', WHERE WHAT IT READS IS OF BULK AT MOST 1048576: true; the input reads as it did. -/
def matColumnsUptoRow : OpenClaim := { program := "ytnfejfdekedmhab", sum := "4f66daefc974109d812d4c91ed9b689608f302f27e6167bf119c577f386ccc7e", func := "fourwatch/fourwatchkeep.MatColumns", spec := "matColumns", inPlace := ["math/bits.Add64"], apart := false, narrowed := true }
def MatColumnsUptoSaid : Prop := matColumnsUptoRow.holds Try.pinned (OpenSpec.upto matColumnsSpec)

/-- 'fourwatchkeep.MatFactored', WHERE WHAT IT READS IS OF BULK AT MOST 1048576: true; the input reads as it did. -/
def matFactoredUptoRow : OpenClaim := { program := "ytnfejfdekedmhab", sum := "4f66daefc974109d812d4c91ed9b689608f302f27e6167bf119c577f386ccc7e", func := "fourwatch/fourwatchkeep.MatFactored", spec := "matFactored", inPlace := ["math/bits.Add64"], named := ["math/bits.divideError", "math/bits.overflowError"], apart := false, narrowed := true }
def MatFactoredUptoSaid : Prop := matFactoredUptoRow.holds Try.pinned (OpenSpec.upto matFactoredSpec)

end Rows
end Go.Proofs.Ytnfejfdekedmhab
