/-
  No cell of these rows narrows 'for every input' (looked for: loops, veiled, ifaces, maps, wideKeys, modest, calm, conditions, laid).
  DERIVED. THE GIVEN ROWS OF THIS SEAT. 3 by the template 'for every input the law returns true; each argument reads behind the call as it read before'; 0 by the template 'total and deterministic' (their statements: YtblglojbghmphabTotals.lean).
  GIVEN WITH THE SEED: the statements are not yours to turn. If you find one false, say at which input.
  Laid BY PROGRAM, IN A SANDBOX (cutbox-rows.mjs): the forced cells as the released guide's own fill.sh prints them over the translation 6ea7d7c85777d96d… (all of the seat's roots in one cut). By AI agents, Wed Nov 11 2026. No macro, syntax, notation, axiom, sorry.
-/
import Derived.Test.YtblglojbghmphabChecked
import GoSem.Claim
import GoSem.ClaimJoined
import GoSem.ClaimMapViews
import Derived.JoinedTies
import Derived.KernelRfl
namespace Go.Proofs.Ytblglojbghmphab
/- THE CELL 'sum', in the pinned program and in every row, IS THE sha256 OF THE DUMP (.gsa) THAT YtblglojbghmphabProg.lean LOADS. Nothing in Lean hashes anything: it is a label: what it is worth is what the hold of that sum in a sandbox is worth. -/
noncomputable def Try.pinned : Pinned := { name := "ytblglojbghmphab", sum := "6ea7d7c85777d96d801168acb4d2531500fcd2b5c96865e71d3dd0e8cbf5c844", checked := Try.checked }
namespace Rows
def none {H : Type} : Left H := { results := [], args := [] }

/-- 'fourwatchkeep.FilterCut': WHATEVER THE INPUT: true; the input reads as it did. -/
def filterCutSpec : ChangeSpec := { name := "filterCut", fn := fun _ => fun
  | [d1, d2, d3, d4] => { results := [.lit (.bool true)], args := [d1, d2, d3, d4] }
  | _ => none }
def filterCutRow : OpenClaim := { program := "ytblglojbghmphab", sum := "6ea7d7c85777d96d801168acb4d2531500fcd2b5c96865e71d3dd0e8cbf5c844", func := "fourwatch/fourwatchkeep.FilterCut", spec := "filterCut", inPlace := ["math/bits.Add64"], named := ["math/bits.divideError", "math/bits.overflowError"], apart := false }
def FilterCutSaid : Prop := filterCutRow.holds Try.pinned (OpenSpec.ofChange filterCutSpec)

/-- ITS FALSE NEIGHBOUR: 'it returns false'. Refute it at one input. -/
def filterCutWrong : ChangeSpec := { name := "filterCut", fn := fun _ => fun
  | [d1, d2, d3, d4] => { results := [.lit (.bool false)], args := [d1, d2, d3, d4] }
  | _ => none }
def FilterCutWrongFalsely : Prop := filterCutRow.holds Try.pinned (OpenSpec.ofChange filterCutWrong)

/-- 'fourwatchkeep.FilterStill': WHATEVER THE INPUT: true; the input reads as it did. -/
def filterStillSpec : ChangeSpec := { name := "filterStill", fn := fun _ => fun
  | [d1, d2] => { results := [.lit (.bool true)], args := [d1, d2] }
  | _ => none }
def filterStillRow : OpenClaim := { program := "ytblglojbghmphab", sum := "6ea7d7c85777d96d801168acb4d2531500fcd2b5c96865e71d3dd0e8cbf5c844", func := "fourwatch/fourwatchkeep.FilterStill", spec := "filterStill", inPlace := ["math/bits.Add64"], named := ["math/bits.divideError", "math/bits.overflowError"], apart := false }
def FilterStillSaid : Prop := filterStillRow.holds Try.pinned (OpenSpec.ofChange filterStillSpec)

/-- ITS FALSE NEIGHBOUR: 'it returns false'. Refute it at one input. -/
def filterStillWrong : ChangeSpec := { name := "filterStill", fn := fun _ => fun
  | [d1, d2] => { results := [.lit (.bool false)], args := [d1, d2] }
  | _ => none }
def FilterStillWrongFalsely : Prop := filterStillRow.holds Try.pinned (OpenSpec.ofChange filterStillWrong)

/-- 'fourwatchkeep.FilterBent': WHATEVER THE INPUT: true; the input reads as it did. -/
def filterBentSpec : ChangeSpec := { name := "filterBent", fn := fun _ => fun
  | [d1, d2, d3] => { results := [.lit (.bool true)], args := [d1, d2, d3] }
  | _ => none }
def filterBentRow : OpenClaim := { program := "ytblglojbghmphab", sum := "6ea7d7c85777d96d801168acb4d2531500fcd2b5c96865e71d3dd0e8cbf5c844", func := "fourwatch/fourwatchkeep.FilterBent", spec := "filterBent", inPlace := ["math/bits.Add64"], named := ["math/bits.divideError", "math/bits.overflowError"], apart := false }
def FilterBentSaid : Prop := filterBentRow.holds Try.pinned (OpenSpec.ofChange filterBentSpec)

/-- ITS FALSE NEIGHBOUR: 'it returns false'. Refute it at one input. -/
def filterBentWrong : ChangeSpec := { name := "filterBent", fn := fun _ => fun
  | [d1, d2, d3] => { results := [.lit (.bool false)], args := [d1, d2, d3] }
  | _ => none }
def FilterBentWrongFalsely : Prop := filterBentRow.holds Try.pinned (OpenSpec.ofChange filterBentWrong)

/- THE SECOND FORM. 'bulk': how many values and letters a reading holds, each counted each time it is reached (what is shared counts as often as it is met; a slice's spare places count too). A statement '..UptoSaid' is the law's where the arguments, and the package variables that the reading takes, are together of bulk at most 1048576: NARROWER than '..Said'. Prove '..Said' where nothing that the law and all that it calls make is longer than what came in: it says more and counts as full. Else prove '..UptoSaid'. A law counts once. -/
mutual
def uptoBulk {H : Type} : DataW H → Nat
  | .lit (.string bytes) => bytes.length + 1
  | .lit _ => 1
  | .nil => 1
  | .ptr d => uptoBulk d + 1
  | .slice elems spare => uptoBulkAll elems + uptoBulkAll spare + 1
  | .agg parts => uptoBulkAll parts + 1
  | .iface _ d => uptoBulk d + 1
  | .map entries => uptoBulkEntries entries + 1
  | .held _ => 1
def uptoBulkAll {H : Type} : List (DataW H) → Nat
  | [] => 0
  | d :: r => uptoBulk d + uptoBulkAll r
def uptoBulkEntries {H : Type} : List (Lit × DataW H) → Nat
  | [] => 0
  | x :: r => uptoBulkEntry x + uptoBulkEntries r
def uptoBulkEntry {H : Type} : Lit × DataW H → Nat
  | (.string bytes, d) => bytes.length + uptoBulk d + 1
  | (_, d) => uptoBulk d + 1
 end
def uptoSmall : (H : Type) → List (DataW H) → Bool := fun _ ds => decide (uptoBulkAll ds ≤ 1048576)
def OpenSpec.upto (s : _root_.Go.ChangeSpec) : _root_.Go.OpenSpec := { _root_.Go.OpenSpec.ofChange s with cond := some uptoSmall }

/-- 'fourwatchkeep.FilterCut', WHERE WHAT IT READS IS OF BULK AT MOST 1048576: true; the input reads as it did. -/
def filterCutUptoRow : OpenClaim := { program := "ytblglojbghmphab", sum := "6ea7d7c85777d96d801168acb4d2531500fcd2b5c96865e71d3dd0e8cbf5c844", func := "fourwatch/fourwatchkeep.FilterCut", spec := "filterCut", inPlace := ["math/bits.Add64"], named := ["math/bits.divideError", "math/bits.overflowError"], apart := false, narrowed := true }
def FilterCutUptoSaid : Prop := filterCutUptoRow.holds Try.pinned (OpenSpec.upto filterCutSpec)

/-- 'fourwatchkeep.FilterStill', WHERE WHAT IT READS IS OF BULK AT MOST 1048576: true; the input reads as it did. -/
def filterStillUptoRow : OpenClaim := { program := "ytblglojbghmphab", sum := "6ea7d7c85777d96d801168acb4d2531500fcd2b5c96865e71d3dd0e8cbf5c844", func := "fourwatch/fourwatchkeep.FilterStill", spec := "filterStill", inPlace := ["math/bits.Add64"], named := ["math/bits.divideError", "math/bits.overflowError"], apart := false, narrowed := true }
def FilterStillUptoSaid : Prop := filterStillUptoRow.holds Try.pinned (OpenSpec.upto filterStillSpec)

/-- 'fourwatchkeep.FilterBent', WHERE WHAT IT READS IS OF BULK AT MOST 1048576: true; the input reads as it did. -/
def filterBentUptoRow : OpenClaim := { program := "ytblglojbghmphab", sum := "6ea7d7c85777d96d801168acb4d2531500fcd2b5c96865e71d3dd0e8cbf5c844", func := "fourwatch/fourwatchkeep.FilterBent", spec := "filterBent", inPlace := ["math/bits.Add64"], named := ["math/bits.divideError", "math/bits.overflowError"], apart := false, narrowed := true }
def FilterBentUptoSaid : Prop := filterBentUptoRow.holds Try.pinned (OpenSpec.upto filterBentSpec)

end Rows
end Go.Proofs.Ytblglojbghmphab
