/-
  No cell of these rows narrows 'for every input' (looked for: loops, veiled, ifaces, maps, wideKeys, modest, calm, conditions, laid).
  DERIVED. THE GIVEN ROWS OF THIS SEAT. 6 by the template 'for every input the law returns true; each argument reads behind the call as it read before'; 0 by the template 'total and deterministic' (their statements: YthkfdlfgehdppaaTotals.lean).
  GIVEN WITH THE SEED: the statements are not yours to turn. If you find one false, say at which input.
  Laid BY PROGRAM, IN A SANDBOX (cutbox-rows.mjs): the forced cells as the released guide's own fill.sh prints them over the translation c03cd4590f4ff897… (all of the seat's roots in one cut). By AI agents, Wed Nov 11 2026. No macro, syntax, notation, axiom, sorry.
-/
import Derived.Test.YthkfdlfgehdppaaChecked
import GoSem.Claim
import GoSem.ClaimJoined
import GoSem.ClaimMapViews
import Derived.JoinedTies
import Derived.KernelRfl
namespace Go.Proofs.Ythkfdlfgehdppaa
/- THE CELL 'sum', in the pinned program and in every row, IS THE sha256 OF THE DUMP (.gsa) THAT YthkfdlfgehdppaaProg.lean LOADS. Nothing in Lean hashes anything: it is a label: what it is worth is what the hold of that sum in a sandbox is worth. -/
noncomputable def Try.pinned : Pinned := { name := "ythkfdlfgehdppaa", sum := "c03cd4590f4ff897930be48c07d05a4e3b7a9bf0b513d29d3aeec17b47aba874", checked := Try.checked }
namespace Rows
def none {H : Type} : Left H := { results := [], args := [] }

/-- 'fourwatchlaw.VecAdds': WHATEVER THE INPUT: true; the input reads as it did. -/
def vecAddsSpec : ChangeSpec := { name := "vecAdds", fn := fun _ => fun
  | [d1, d2] => { results := [.lit (.bool true)], args := [d1, d2] }
  | _ => none }
def vecAddsRow : OpenClaim := { program := "ythkfdlfgehdppaa", sum := "c03cd4590f4ff897930be48c07d05a4e3b7a9bf0b513d29d3aeec17b47aba874", func := "fourwatch/fourwatchlaw.VecAdds", spec := "vecAdds", unfollowed := true, recurses := true, apart := false }
def VecAddsSaid : Prop := vecAddsRow.holds Try.pinned (OpenSpec.ofChange vecAddsSpec)

/-- ITS FALSE NEIGHBOUR: 'it returns false'. Refute it at one input. -/
def vecAddsWrong : ChangeSpec := { name := "vecAdds", fn := fun _ => fun
  | [d1, d2] => { results := [.lit (.bool false)], args := [d1, d2] }
  | _ => none }
def VecAddsWrongFalsely : Prop := vecAddsRow.holds Try.pinned (OpenSpec.ofChange vecAddsWrong)

/-- 'fourwatchlaw.VecScales': WHATEVER THE INPUT: true; the input reads as it did. -/
def vecScalesSpec : ChangeSpec := { name := "vecScales", fn := fun _ => fun
  | [d1, d2] => { results := [.lit (.bool true)], args := [d1, d2] }
  | _ => none }
def vecScalesRow : OpenClaim := { program := "ythkfdlfgehdppaa", sum := "c03cd4590f4ff897930be48c07d05a4e3b7a9bf0b513d29d3aeec17b47aba874", func := "fourwatch/fourwatchlaw.VecScales", spec := "vecScales", inPlace := ["math/bits.Add64"], unfollowed := true, recurses := true, apart := false }
def VecScalesSaid : Prop := vecScalesRow.holds Try.pinned (OpenSpec.ofChange vecScalesSpec)

/-- ITS FALSE NEIGHBOUR: 'it returns false'. Refute it at one input. -/
def vecScalesWrong : ChangeSpec := { name := "vecScales", fn := fun _ => fun
  | [d1, d2] => { results := [.lit (.bool false)], args := [d1, d2] }
  | _ => none }
def VecScalesWrongFalsely : Prop := vecScalesRow.holds Try.pinned (OpenSpec.ofChange vecScalesWrong)

/-- 'fourwatchlaw.VecDots': WHATEVER THE INPUT: true; the input reads as it did. -/
def vecDotsSpec : ChangeSpec := { name := "vecDots", fn := fun _ => fun
  | [d1, d2] => { results := [.lit (.bool true)], args := [d1, d2] }
  | _ => none }
def vecDotsRow : OpenClaim := { program := "ythkfdlfgehdppaa", sum := "c03cd4590f4ff897930be48c07d05a4e3b7a9bf0b513d29d3aeec17b47aba874", func := "fourwatch/fourwatchlaw.VecDots", spec := "vecDots", inPlace := ["math/bits.Add64"], unfollowed := true, recurses := true, apart := false }
def VecDotsSaid : Prop := vecDotsRow.holds Try.pinned (OpenSpec.ofChange vecDotsSpec)

/-- ITS FALSE NEIGHBOUR: 'it returns false'. Refute it at one input. -/
def vecDotsWrong : ChangeSpec := { name := "vecDots", fn := fun _ => fun
  | [d1, d2] => { results := [.lit (.bool false)], args := [d1, d2] }
  | _ => none }
def VecDotsWrongFalsely : Prop := vecDotsRow.holds Try.pinned (OpenSpec.ofChange vecDotsWrong)

/-- 'fourwatchlaw.VecCrosses': WHATEVER THE INPUT: true; the input reads as it did. -/
def vecCrossesSpec : ChangeSpec := { name := "vecCrosses", fn := fun _ => fun
  | [d1, d2] => { results := [.lit (.bool true)], args := [d1, d2] }
  | _ => none }
def vecCrossesRow : OpenClaim := { program := "ythkfdlfgehdppaa", sum := "c03cd4590f4ff897930be48c07d05a4e3b7a9bf0b513d29d3aeec17b47aba874", func := "fourwatch/fourwatchlaw.VecCrosses", spec := "vecCrosses", inPlace := ["math/bits.Add64"], unfollowed := true, recurses := true, apart := false }
def VecCrossesSaid : Prop := vecCrossesRow.holds Try.pinned (OpenSpec.ofChange vecCrossesSpec)

/-- ITS FALSE NEIGHBOUR: 'it returns false'. Refute it at one input. -/
def vecCrossesWrong : ChangeSpec := { name := "vecCrosses", fn := fun _ => fun
  | [d1, d2] => { results := [.lit (.bool false)], args := [d1, d2] }
  | _ => none }
def VecCrossesWrongFalsely : Prop := vecCrossesRow.holds Try.pinned (OpenSpec.ofChange vecCrossesWrong)

/-- 'fourwatchlaw.VecLengths': WHATEVER THE INPUT: true; the input reads as it did. -/
def vecLengthsSpec : ChangeSpec := { name := "vecLengths", fn := fun _ => fun
  | [d] => { results := [.lit (.bool true)], args := [d] }
  | _ => none }
def vecLengthsRow : OpenClaim := { program := "ythkfdlfgehdppaa", sum := "c03cd4590f4ff897930be48c07d05a4e3b7a9bf0b513d29d3aeec17b47aba874", func := "fourwatch/fourwatchlaw.VecLengths", spec := "vecLengths", inPlace := ["math/bits.Add64"], unfollowed := true, recurses := true, apart := false }
def VecLengthsSaid : Prop := vecLengthsRow.holds Try.pinned (OpenSpec.ofChange vecLengthsSpec)

/-- ITS FALSE NEIGHBOUR: 'it returns false'. Refute it at one input. -/
def vecLengthsWrong : ChangeSpec := { name := "vecLengths", fn := fun _ => fun
  | [d] => { results := [.lit (.bool false)], args := [d] }
  | _ => none }
def VecLengthsWrongFalsely : Prop := vecLengthsRow.holds Try.pinned (OpenSpec.ofChange vecLengthsWrong)

/-- 'fourwatchkeep.VecSwaps': WHATEVER THE INPUT: true; the input reads as it did. -/
def vecSwapsSpec : ChangeSpec := { name := "vecSwaps", fn := fun _ => fun
  | [d1, d2] => { results := [.lit (.bool true)], args := [d1, d2] }
  | _ => none }
def vecSwapsRow : OpenClaim := { program := "ythkfdlfgehdppaa", sum := "c03cd4590f4ff897930be48c07d05a4e3b7a9bf0b513d29d3aeec17b47aba874", func := "fourwatch/fourwatchkeep.VecSwaps", spec := "vecSwaps", inPlace := ["math/bits.Add64"], unfollowed := true, recurses := true, apart := false }
def VecSwapsSaid : Prop := vecSwapsRow.holds Try.pinned (OpenSpec.ofChange vecSwapsSpec)

/-- ITS FALSE NEIGHBOUR: 'it returns false'. Refute it at one input. -/
def vecSwapsWrong : ChangeSpec := { name := "vecSwaps", fn := fun _ => fun
  | [d1, d2] => { results := [.lit (.bool false)], args := [d1, d2] }
  | _ => none }
def VecSwapsWrongFalsely : Prop := vecSwapsRow.holds Try.pinned (OpenSpec.ofChange vecSwapsWrong)

/- THE SECOND FORM. 'bulk': how many values and letters a reading holds, each counted each time it is reached (what is shared counts as often as it is met; a slice's spare places count too). A statement '..UptoSaid' is the law's where the arguments, and the package variables that the reading takes, are together of bulk at most 1048576: NARROWER than '..Said'. Prove '..Said' where nothing that the law and all that it calls make is longer than what came in: it says more and counts as full. Else prove '..UptoSaid'. A law counts once. -/
mutual
def uptoBulk {H : Type} : DataW H → Nat
  | .lit (.string bytes) => bytes.length + 1
  | .lit _ => 1
  | .nil => 1
  | .ptr d => uptoBulk d + 1
  | .slice elems spare => uptoBulkAll elems + uptoBulkAll spare + 1
  | .agg parts => uptoBulkAll parts + 1
  | .iface _ d => uptoBulk d + 1
  | .map entries => uptoBulkEntries entries + 1
  | .held _ => 1
def uptoBulkAll {H : Type} : List (DataW H) → Nat
  | [] => 0
  | d :: r => uptoBulk d + uptoBulkAll r
def uptoBulkEntries {H : Type} : List (Lit × DataW H) → Nat
  | [] => 0
  | x :: r => uptoBulkEntry x + uptoBulkEntries r
def uptoBulkEntry {H : Type} : Lit × DataW H → Nat
  | (.string bytes, d) => bytes.length + uptoBulk d + 1
  | (_, d) => uptoBulk d + 1
 end
def uptoSmall : (H : Type) → List (DataW H) → Bool := fun _ ds => decide (uptoBulkAll ds ≤ 1048576)
def OpenSpec.upto (s : _root_.Go.ChangeSpec) : _root_.Go.OpenSpec := { _root_.Go.OpenSpec.ofChange s with cond := some uptoSmall }

/-- 'fourwatchlaw.VecAdds', WHERE WHAT IT READS IS OF BULK AT MOST 1048576: true; the input reads as it did. -/
def vecAddsUptoRow : OpenClaim := { program := "ythkfdlfgehdppaa", sum := "c03cd4590f4ff897930be48c07d05a4e3b7a9bf0b513d29d3aeec17b47aba874", func := "fourwatch/fourwatchlaw.VecAdds", spec := "vecAdds", unfollowed := true, recurses := true, apart := false, narrowed := true }
def VecAddsUptoSaid : Prop := vecAddsUptoRow.holds Try.pinned (OpenSpec.upto vecAddsSpec)

/-- 'fourwatchlaw.VecScales', WHERE WHAT IT READS IS OF BULK AT MOST 1048576: true; the input reads as it did. -/
def vecScalesUptoRow : OpenClaim := { program := "ythkfdlfgehdppaa", sum := "c03cd4590f4ff897930be48c07d05a4e3b7a9bf0b513d29d3aeec17b47aba874", func := "fourwatch/fourwatchlaw.VecScales", spec := "vecScales", inPlace := ["math/bits.Add64"], unfollowed := true, recurses := true, apart := false, narrowed := true }
def VecScalesUptoSaid : Prop := vecScalesUptoRow.holds Try.pinned (OpenSpec.upto vecScalesSpec)

/-- 'fourwatchlaw.VecDots', WHERE WHAT IT READS IS OF BULK AT MOST 1048576: true; the input reads as it did. -/
def vecDotsUptoRow : OpenClaim := { program := "ythkfdlfgehdppaa", sum := "c03cd4590f4ff897930be48c07d05a4e3b7a9bf0b513d29d3aeec17b47aba874", func := "fourwatch/fourwatchlaw.VecDots", spec := "vecDots", inPlace := ["math/bits.Add64"], unfollowed := true, recurses := true, apart := false, narrowed := true }
def VecDotsUptoSaid : Prop := vecDotsUptoRow.holds Try.pinned (OpenSpec.upto vecDotsSpec)

/-- 'fourwatchlaw.VecCrosses', WHERE WHAT IT READS IS OF BULK AT MOST 1048576: true; the input reads as it did. -/
def vecCrossesUptoRow : OpenClaim := { program := "ythkfdlfgehdppaa", sum := "c03cd4590f4ff897930be48c07d05a4e3b7a9bf0b513d29d3aeec17b47aba874", func := "fourwatch/fourwatchlaw.VecCrosses", spec := "vecCrosses", inPlace := ["math/bits.Add64"], unfollowed := true, recurses := true, apart := false, narrowed := true }
def VecCrossesUptoSaid : Prop := vecCrossesUptoRow.holds Try.pinned (OpenSpec.upto vecCrossesSpec)

/-- 'fourwatchlaw.VecLengths', WHERE WHAT IT READS IS OF BULK AT MOST 1048576: true; the input reads as it did. -/
def vecLengthsUptoRow : OpenClaim := { program := "ythkfdlfgehdppaa", sum := "c03cd4590f4ff897930be48c07d05a4e3b7a9bf0b513d29d3aeec17b47aba874", func := "fourwatch/fourwatchlaw.VecLengths", spec := "vecLengths", inPlace := ["math/bits.Add64"], unfollowed := true, recurses := true, apart := false, narrowed := true }
def VecLengthsUptoSaid : Prop := vecLengthsUptoRow.holds Try.pinned (OpenSpec.upto vecLengthsSpec)

/-- 'fourwatchkeep.VecSwaps', WHERE WHAT IT READS IS OF BULK AT MOST 1048576: true; the input reads as it did. -/
def vecSwapsUptoRow : OpenClaim := { program := "ythkfdlfgehdppaa", sum := "c03cd4590f4ff897930be48c07d05a4e3b7a9bf0b513d29d3aeec17b47aba874", func := "fourwatch/fourwatchkeep.VecSwaps", spec := "vecSwaps", inPlace := ["math/bits.Add64"], unfollowed := true, recurses := true, apart := false, narrowed := true }
def VecSwapsUptoSaid : Prop := vecSwapsUptoRow.holds Try.pinned (OpenSpec.upto vecSwapsSpec)

end Rows
end Go.Proofs.Ythkfdlfgehdppaa
