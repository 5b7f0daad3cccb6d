/-
  No cell of these rows narrows 'for every input' (looked for: loops, veiled, ifaces, maps, wideKeys, modest, calm, conditions, laid).
  DERIVED. THE GIVEN ROWS OF THIS SEAT. 6 by the template 'for every input the law returns true; each argument reads behind the call as it read before'; 0 by the template 'total and deterministic' (their statements: YtblglojbghmphaaTotals.lean).
  GIVEN WITH THE SEED: the statements are not yours to turn. If you find one false, say at which input.
  Laid BY PROGRAM, IN A SANDBOX (cutbox-rows.mjs): the forced cells as the released guide's own fill.sh prints them over the translation 4c4ebe02430ed056… (all of the seat's roots in one cut). By AI agents, Wed Nov 11 2026. No macro, syntax, notation, axiom, sorry.
-/
import Derived.Test.YtblglojbghmphaaChecked
import GoSem.Claim
import GoSem.ClaimJoined
import GoSem.ClaimMapViews
import Derived.JoinedTies
import Derived.KernelRfl
namespace Go.Proofs.Ytblglojbghmphaa
/- THE CELL 'sum', in the pinned program and in every row, IS THE sha256 OF THE DUMP (.gsa) THAT YtblglojbghmphaaProg.lean LOADS. Nothing in Lean hashes anything: it is a label: what it is worth is what the hold of that sum in a sandbox is worth. -/
noncomputable def Try.pinned : Pinned := { name := "ytblglojbghmphaa", sum := "4c4ebe02430ed056b65128a2f4fccf3a24151ad52b3c29ea1396a0f45496d6e9", checked := Try.checked }
namespace Rows
def none {H : Type} : Left H := { results := [], args := [] }

/-- 'fourwatchlaw.FilterBegins': WHATEVER THE INPUT: true; the input reads as it did. -/
def filterBeginsSpec : ChangeSpec := { name := "filterBegins", fn := fun _ => fun
  | [d] => { results := [.lit (.bool true)], args := [d] }
  | _ => none }
def filterBeginsRow : OpenClaim := { program := "ytblglojbghmphaa", sum := "4c4ebe02430ed056b65128a2f4fccf3a24151ad52b3c29ea1396a0f45496d6e9", func := "fourwatch/fourwatchlaw.FilterBegins", spec := "filterBegins", apart := false }
def FilterBeginsSaid : Prop := filterBeginsRow.holds Try.pinned (OpenSpec.ofChange filterBeginsSpec)

/-- ITS FALSE NEIGHBOUR: 'it returns false'. Refute it at one input. -/
def filterBeginsWrong : ChangeSpec := { name := "filterBegins", fn := fun _ => fun
  | [d] => { results := [.lit (.bool false)], args := [d] }
  | _ => none }
def FilterBeginsWrongFalsely : Prop := filterBeginsRow.holds Try.pinned (OpenSpec.ofChange filterBeginsWrong)

/-- 'fourwatchlaw.FilterPredicts': WHATEVER THE INPUT: true; the input reads as it did. -/
def filterPredictsSpec : ChangeSpec := { name := "filterPredicts", fn := fun _ => fun
  | [d1, d2, d3] => { results := [.lit (.bool true)], args := [d1, d2, d3] }
  | _ => none }
def filterPredictsRow : OpenClaim := { program := "ytblglojbghmphaa", sum := "4c4ebe02430ed056b65128a2f4fccf3a24151ad52b3c29ea1396a0f45496d6e9", func := "fourwatch/fourwatchlaw.FilterPredicts", spec := "filterPredicts", inPlace := ["math/bits.Add64"], apart := false }
def FilterPredictsSaid : Prop := filterPredictsRow.holds Try.pinned (OpenSpec.ofChange filterPredictsSpec)

/-- ITS FALSE NEIGHBOUR: 'it returns false'. Refute it at one input. -/
def filterPredictsWrong : ChangeSpec := { name := "filterPredicts", fn := fun _ => fun
  | [d1, d2, d3] => { results := [.lit (.bool false)], args := [d1, d2, d3] }
  | _ => none }
def FilterPredictsWrongFalsely : Prop := filterPredictsRow.holds Try.pinned (OpenSpec.ofChange filterPredictsWrong)

/-- 'fourwatchlaw.FilterUpdates': WHATEVER THE INPUT: true; the input reads as it did. -/
def filterUpdatesSpec : ChangeSpec := { name := "filterUpdates", fn := fun _ => fun
  | [d1, d2, d3, d4] => { results := [.lit (.bool true)], args := [d1, d2, d3, d4] }
  | _ => none }
def filterUpdatesRow : OpenClaim := { program := "ytblglojbghmphaa", sum := "4c4ebe02430ed056b65128a2f4fccf3a24151ad52b3c29ea1396a0f45496d6e9", func := "fourwatch/fourwatchlaw.FilterUpdates", spec := "filterUpdates", inPlace := ["math/bits.Add64"], named := ["math/bits.divideError", "math/bits.overflowError"], apart := false }
def FilterUpdatesSaid : Prop := filterUpdatesRow.holds Try.pinned (OpenSpec.ofChange filterUpdatesSpec)

/-- ITS FALSE NEIGHBOUR: 'it returns false'. Refute it at one input. -/
def filterUpdatesWrong : ChangeSpec := { name := "filterUpdates", fn := fun _ => fun
  | [d1, d2, d3, d4] => { results := [.lit (.bool false)], args := [d1, d2, d3, d4] }
  | _ => none }
def FilterUpdatesWrongFalsely : Prop := filterUpdatesRow.holds Try.pinned (OpenSpec.ofChange filterUpdatesWrong)

/-- 'fourwatchlaw.FilterSteps': WHATEVER THE INPUT: true; the input reads as it did. -/
def filterStepsSpec : ChangeSpec := { name := "filterSteps", fn := fun _ => fun
  | [d1, d2, d3] => { results := [.lit (.bool true)], args := [d1, d2, d3] }
  | _ => none }
def filterStepsRow : OpenClaim := { program := "ytblglojbghmphaa", sum := "4c4ebe02430ed056b65128a2f4fccf3a24151ad52b3c29ea1396a0f45496d6e9", func := "fourwatch/fourwatchlaw.FilterSteps", spec := "filterSteps", inPlace := ["math/bits.Add64"], named := ["math/bits.divideError", "math/bits.overflowError"], apart := false }
def FilterStepsSaid : Prop := filterStepsRow.holds Try.pinned (OpenSpec.ofChange filterStepsSpec)

/-- ITS FALSE NEIGHBOUR: 'it returns false'. Refute it at one input. -/
def filterStepsWrong : ChangeSpec := { name := "filterSteps", fn := fun _ => fun
  | [d1, d2, d3] => { results := [.lit (.bool false)], args := [d1, d2, d3] }
  | _ => none }
def FilterStepsWrongFalsely : Prop := filterStepsRow.holds Try.pinned (OpenSpec.ofChange filterStepsWrong)

/-- 'fourwatchlaw.FilterRuns': WHATEVER THE INPUT: true; the input reads as it did. -/
def filterRunsSpec : ChangeSpec := { name := "filterRuns", fn := fun _ => fun
  | [d1, d2, d3] => { results := [.lit (.bool true)], args := [d1, d2, d3] }
  | _ => none }
def filterRunsRow : OpenClaim := { program := "ytblglojbghmphaa", sum := "4c4ebe02430ed056b65128a2f4fccf3a24151ad52b3c29ea1396a0f45496d6e9", func := "fourwatch/fourwatchlaw.FilterRuns", spec := "filterRuns", inPlace := ["math/bits.Add64"], recurses := true, named := ["math/bits.divideError", "math/bits.overflowError"], apart := false }
def FilterRunsSaid : Prop := filterRunsRow.holds Try.pinned (OpenSpec.ofChange filterRunsSpec)

/-- ITS FALSE NEIGHBOUR: 'it returns false'. Refute it at one input. -/
def filterRunsWrong : ChangeSpec := { name := "filterRuns", fn := fun _ => fun
  | [d1, d2, d3] => { results := [.lit (.bool false)], args := [d1, d2, d3] }
  | _ => none }
def FilterRunsWrongFalsely : Prop := filterRunsRow.holds Try.pinned (OpenSpec.ofChange filterRunsWrong)

/-- 'fourwatchkeep.FilterPasses': WHATEVER THE INPUT: true; the input reads as it did. -/
def filterPassesSpec : ChangeSpec := { name := "filterPasses", fn := fun _ => fun
  | [d1, d2, d3, d4] => { results := [.lit (.bool true)], args := [d1, d2, d3, d4] }
  | _ => none }
def filterPassesRow : OpenClaim := { program := "ytblglojbghmphaa", sum := "4c4ebe02430ed056b65128a2f4fccf3a24151ad52b3c29ea1396a0f45496d6e9", func := "fourwatch/fourwatchkeep.FilterPasses", spec := "filterPasses", inPlace := ["math/bits.Add64"], named := ["math/bits.divideError", "math/bits.overflowError"], apart := false }
def FilterPassesSaid : Prop := filterPassesRow.holds Try.pinned (OpenSpec.ofChange filterPassesSpec)

/-- ITS FALSE NEIGHBOUR: 'it returns false'. Refute it at one input. -/
def filterPassesWrong : ChangeSpec := { name := "filterPasses", fn := fun _ => fun
  | [d1, d2, d3, d4] => { results := [.lit (.bool false)], args := [d1, d2, d3, d4] }
  | _ => none }
def FilterPassesWrongFalsely : Prop := filterPassesRow.holds Try.pinned (OpenSpec.ofChange filterPassesWrong)

/- THE SECOND FORM. 'bulk': how many values and letters a reading holds, each counted each time it is reached (what is shared counts as often as it is met; a slice's spare places count too). A statement '..UptoSaid' is the law's where the arguments, and the package variables that the reading takes, are together of bulk at most 1048576: NARROWER than '..Said'. Prove '..Said' where nothing that the law and all that it calls make is longer than what came in: it says more and counts as full. Else prove '..UptoSaid'. A law counts once. -/
mutual
def uptoBulk {H : Type} : DataW H → Nat
  | .lit (.string bytes) => bytes.length + 1
  | .lit _ => 1
  | .nil => 1
  | .ptr d => uptoBulk d + 1
  | .slice elems spare => uptoBulkAll elems + uptoBulkAll spare + 1
  | .agg parts => uptoBulkAll parts + 1
  | .iface _ d => uptoBulk d + 1
  | .map entries => uptoBulkEntries entries + 1
  | .held _ => 1
def uptoBulkAll {H : Type} : List (DataW H) → Nat
  | [] => 0
  | d :: r => uptoBulk d + uptoBulkAll r
def uptoBulkEntries {H : Type} : List (Lit × DataW H) → Nat
  | [] => 0
  | x :: r => uptoBulkEntry x + uptoBulkEntries r
def uptoBulkEntry {H : Type} : Lit × DataW H → Nat
  | (.string bytes, d) => bytes.length + uptoBulk d + 1
  | (_, d) => uptoBulk d + 1
 end
def uptoSmall : (H : Type) → List (DataW H) → Bool := fun _ ds => decide (uptoBulkAll ds ≤ 1048576)
def OpenSpec.upto (s : _root_.Go.ChangeSpec) : _root_.Go.OpenSpec := { _root_.Go.OpenSpec.ofChange s with cond := some uptoSmall }

/-- 'fourwatchlaw.FilterBegins', WHERE WHAT IT READS IS OF BULK AT MOST 1048576: true; the input reads as it did. -/
def filterBeginsUptoRow : OpenClaim := { program := "ytblglojbghmphaa", sum := "4c4ebe02430ed056b65128a2f4fccf3a24151ad52b3c29ea1396a0f45496d6e9", func := "fourwatch/fourwatchlaw.FilterBegins", spec := "filterBegins", apart := false, narrowed := true }
def FilterBeginsUptoSaid : Prop := filterBeginsUptoRow.holds Try.pinned (OpenSpec.upto filterBeginsSpec)

/-- 'fourwatchlaw.FilterPredicts', WHERE WHAT IT READS IS OF BULK AT MOST 1048576: true; the input reads as it did. -/
def filterPredictsUptoRow : OpenClaim := { program := "ytblglojbghmphaa", sum := "4c4ebe02430ed056b65128a2f4fccf3a24151ad52b3c29ea1396a0f45496d6e9", func := "fourwatch/fourwatchlaw.FilterPredicts", spec := "filterPredicts", inPlace := ["math/bits.Add64"], apart := false, narrowed := true }
def FilterPredictsUptoSaid : Prop := filterPredictsUptoRow.holds Try.pinned (OpenSpec.upto filterPredictsSpec)

/-- 'fourwatchlaw.FilterUpdates', WHERE WHAT IT READS IS OF BULK AT MOST 1048576: true; the input reads as it did. -/
def filterUpdatesUptoRow : OpenClaim := { program := "ytblglojbghmphaa", sum := "4c4ebe02430ed056b65128a2f4fccf3a24151ad52b3c29ea1396a0f45496d6e9", func := "fourwatch/fourwatchlaw.FilterUpdates", spec := "filterUpdates", inPlace := ["math/bits.Add64"], named := ["math/bits.divideError", "math/bits.overflowError"], apart := false, narrowed := true }
def FilterUpdatesUptoSaid : Prop := filterUpdatesUptoRow.holds Try.pinned (OpenSpec.upto filterUpdatesSpec)

/-- 'fourwatchlaw.FilterSteps', WHERE WHAT IT READS IS OF BULK AT MOST 1048576: true; the input reads as it did. -/
def filterStepsUptoRow : OpenClaim := { program := "ytblglojbghmphaa", sum := "4c4ebe02430ed056b65128a2f4fccf3a24151ad52b3c29ea1396a0f45496d6e9", func := "fourwatch/fourwatchlaw.FilterSteps", spec := "filterSteps", inPlace := ["math/bits.Add64"], named := ["math/bits.divideError", "math/bits.overflowError"], apart := false, narrowed := true }
def FilterStepsUptoSaid : Prop := filterStepsUptoRow.holds Try.pinned (OpenSpec.upto filterStepsSpec)

/-- 'fourwatchlaw.FilterRuns', WHERE WHAT IT READS IS OF BULK AT MOST 1048576: true; the input reads as it did. -/
def filterRunsUptoRow : OpenClaim := { program := "ytblglojbghmphaa", sum := "4c4ebe02430ed056b65128a2f4fccf3a24151ad52b3c29ea1396a0f45496d6e9", func := "fourwatch/fourwatchlaw.FilterRuns", spec := "filterRuns", inPlace := ["math/bits.Add64"], recurses := true, named := ["math/bits.divideError", "math/bits.overflowError"], apart := false, narrowed := true }
def FilterRunsUptoSaid : Prop := filterRunsUptoRow.holds Try.pinned (OpenSpec.upto filterRunsSpec)

/-- 'fourwatchkeep.FilterPasses', WHERE WHAT IT READS IS OF BULK AT MOST 1048576: true; the input reads as it did. -/
def filterPassesUptoRow : OpenClaim := { program := "ytblglojbghmphaa", sum := "4c4ebe02430ed056b65128a2f4fccf3a24151ad52b3c29ea1396a0f45496d6e9", func := "fourwatch/fourwatchkeep.FilterPasses", spec := "filterPasses", inPlace := ["math/bits.Add64"], named := ["math/bits.divideError", "math/bits.overflowError"], apart := false, narrowed := true }
def FilterPassesUptoSaid : Prop := filterPassesUptoRow.holds Try.pinned (OpenSpec.upto filterPassesSpec)

end Rows
end Go.Proofs.Ytblglojbghmphaa
