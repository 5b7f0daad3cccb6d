/-
  No cell of these rows narrows 'for every input' (looked for: loops, veiled, ifaces, maps, wideKeys, modest, calm, conditions, laid).
  DERIVED. THE GIVEN ROWS OF THIS SEAT. 6 by the template 'for every input the law returns true; each argument reads behind the call as it read before'; 0 by the template 'total and deterministic' (their statements: YtgikknoklnbihaaTotals.lean).
  GIVEN WITH THE SEED: the statements are not yours to turn. If you find one false, say at which input.
  Laid BY PROGRAM, IN A SANDBOX (cutbox-rows.mjs): the forced cells as the released guide's own fill.sh prints them over the translation 5e1cd81c8f0f7311… (all of the seat's roots in one cut). By AI agents, Wed Nov 11 2026. No macro, syntax, notation, axiom, sorry.
-/
import Derived.Test.YtgikknoklnbihaaChecked
import GoSem.Claim
import GoSem.ClaimJoined
import GoSem.ClaimMapViews
import Derived.JoinedTies
import Derived.KernelRfl
namespace Go.Proofs.Ytgikknoklnbihaa
/- THE CELL 'sum', in the pinned program and in every row, IS THE sha256 OF THE DUMP (.gsa) THAT YtgikknoklnbihaaProg.lean LOADS. Nothing in Lean hashes anything: it is a label: what it is worth is what the hold of that sum in a sandbox is worth. -/
noncomputable def Try.pinned : Pinned := { name := "ytgikknoklnbihaa", sum := "5e1cd81c8f0f7311c7b9fe5d6c2e48d5d573fba6c5d87d56113e08032a0038ca", checked := Try.checked }
namespace Rows
def none {H : Type} : Left H := { results := [], args := [] }

/-- 'fourwatchlaw.ClockLocals': WHATEVER THE INPUT: true; the input reads as it did. -/
def clockLocalsSpec : ChangeSpec := { name := "clockLocals", fn := fun _ => fun
  | [d1, d2] => { results := [.lit (.bool true)], args := [d1, d2] }
  | _ => none }
def clockLocalsRow : OpenClaim := { program := "ytgikknoklnbihaa", sum := "5e1cd81c8f0f7311c7b9fe5d6c2e48d5d573fba6c5d87d56113e08032a0038ca", func := "fourwatch/fourwatchlaw.ClockLocals", spec := "clockLocals", apart := false }
def ClockLocalsSaid : Prop := clockLocalsRow.holds Try.pinned (OpenSpec.ofChange clockLocalsSpec)

/-- ITS FALSE NEIGHBOUR: 'it returns false'. Refute it at one input. -/
def clockLocalsWrong : ChangeSpec := { name := "clockLocals", fn := fun _ => fun
  | [d1, d2] => { results := [.lit (.bool false)], args := [d1, d2] }
  | _ => none }
def ClockLocalsWrongFalsely : Prop := clockLocalsRow.holds Try.pinned (OpenSpec.ofChange clockLocalsWrong)

/-- 'fourwatchlaw.ClockMiddles': WHATEVER THE INPUT: true; the input reads as it did. -/
def clockMiddlesSpec : ChangeSpec := { name := "clockMiddles", fn := fun _ => fun
  | [d] => { results := [.lit (.bool true)], args := [d] }
  | _ => none }
def clockMiddlesRow : OpenClaim := { program := "ytgikknoklnbihaa", sum := "5e1cd81c8f0f7311c7b9fe5d6c2e48d5d573fba6c5d87d56113e08032a0038ca", func := "fourwatch/fourwatchlaw.ClockMiddles", spec := "clockMiddles", unfollowed := true, recurses := true, apart := false }
def ClockMiddlesSaid : Prop := clockMiddlesRow.holds Try.pinned (OpenSpec.ofChange clockMiddlesSpec)

/-- ITS FALSE NEIGHBOUR: 'it returns false'. Refute it at one input. -/
def clockMiddlesWrong : ChangeSpec := { name := "clockMiddles", fn := fun _ => fun
  | [d] => { results := [.lit (.bool false)], args := [d] }
  | _ => none }
def ClockMiddlesWrongFalsely : Prop := clockMiddlesRow.holds Try.pinned (OpenSpec.ofChange clockMiddlesWrong)

/-- 'fourwatchlaw.ClockRounds': WHATEVER THE INPUT: true; the input reads as it did. -/
def clockRoundsSpec : ChangeSpec := { name := "clockRounds", fn := fun _ => fun
  | [d1, d2, d3] => { results := [.lit (.bool true)], args := [d1, d2, d3] }
  | _ => none }
def clockRoundsRow : OpenClaim := { program := "ytgikknoklnbihaa", sum := "5e1cd81c8f0f7311c7b9fe5d6c2e48d5d573fba6c5d87d56113e08032a0038ca", func := "fourwatch/fourwatchlaw.ClockRounds", spec := "clockRounds", unfollowed := true, recurses := true, apart := false }
def ClockRoundsSaid : Prop := clockRoundsRow.holds Try.pinned (OpenSpec.ofChange clockRoundsSpec)

/-- ITS FALSE NEIGHBOUR: 'it returns false'. Refute it at one input. -/
def clockRoundsWrong : ChangeSpec := { name := "clockRounds", fn := fun _ => fun
  | [d1, d2, d3] => { results := [.lit (.bool false)], args := [d1, d2, d3] }
  | _ => none }
def ClockRoundsWrongFalsely : Prop := clockRoundsRow.holds Try.pinned (OpenSpec.ofChange clockRoundsWrong)

/-- 'fourwatchlaw.ClockSpreads': WHATEVER THE INPUT: true; the input reads as it did. -/
def clockSpreadsSpec : ChangeSpec := { name := "clockSpreads", fn := fun _ => fun
  | [d1, d2] => { results := [.lit (.bool true)], args := [d1, d2] }
  | _ => none }
def clockSpreadsRow : OpenClaim := { program := "ytgikknoklnbihaa", sum := "5e1cd81c8f0f7311c7b9fe5d6c2e48d5d573fba6c5d87d56113e08032a0038ca", func := "fourwatch/fourwatchlaw.ClockSpreads", spec := "clockSpreads", unfollowed := true, recurses := true, apart := false }
def ClockSpreadsSaid : Prop := clockSpreadsRow.holds Try.pinned (OpenSpec.ofChange clockSpreadsSpec)

/-- ITS FALSE NEIGHBOUR: 'it returns false'. Refute it at one input. -/
def clockSpreadsWrong : ChangeSpec := { name := "clockSpreads", fn := fun _ => fun
  | [d1, d2] => { results := [.lit (.bool false)], args := [d1, d2] }
  | _ => none }
def ClockSpreadsWrongFalsely : Prop := clockSpreadsRow.holds Try.pinned (OpenSpec.ofChange clockSpreadsWrong)

/-- 'fourwatchkeep.ClockDrifts': WHATEVER THE INPUT: true; the input reads as it did. -/
def clockDriftsSpec : ChangeSpec := { name := "clockDrifts", fn := fun _ => fun
  | [d1, d2, d3] => { results := [.lit (.bool true)], args := [d1, d2, d3] }
  | _ => none }
def clockDriftsRow : OpenClaim := { program := "ytgikknoklnbihaa", sum := "5e1cd81c8f0f7311c7b9fe5d6c2e48d5d573fba6c5d87d56113e08032a0038ca", func := "fourwatch/fourwatchkeep.ClockDrifts", spec := "clockDrifts", apart := false }
def ClockDriftsSaid : Prop := clockDriftsRow.holds Try.pinned (OpenSpec.ofChange clockDriftsSpec)

/-- ITS FALSE NEIGHBOUR: 'it returns false'. Refute it at one input. -/
def clockDriftsWrong : ChangeSpec := { name := "clockDrifts", fn := fun _ => fun
  | [d1, d2, d3] => { results := [.lit (.bool false)], args := [d1, d2, d3] }
  | _ => none }
def ClockDriftsWrongFalsely : Prop := clockDriftsRow.holds Try.pinned (OpenSpec.ofChange clockDriftsWrong)

/-- 'fourwatchkeep.MiddleWithin': WHATEVER THE INPUT: true; the input reads as it did. -/
def middleWithinSpec : ChangeSpec := { name := "middleWithin", fn := fun _ => fun
  | [d] => { results := [.lit (.bool true)], args := [d] }
  | _ => none }
def middleWithinRow : OpenClaim := { program := "ytgikknoklnbihaa", sum := "5e1cd81c8f0f7311c7b9fe5d6c2e48d5d573fba6c5d87d56113e08032a0038ca", func := "fourwatch/fourwatchkeep.MiddleWithin", spec := "middleWithin", unfollowed := true, recurses := true, apart := false }
def MiddleWithinSaid : Prop := middleWithinRow.holds Try.pinned (OpenSpec.ofChange middleWithinSpec)

/-- ITS FALSE NEIGHBOUR: 'it returns false'. Refute it at one input. -/
def middleWithinWrong : ChangeSpec := { name := "middleWithin", fn := fun _ => fun
  | [d] => { results := [.lit (.bool false)], args := [d] }
  | _ => none }
def MiddleWithinWrongFalsely : Prop := middleWithinRow.holds Try.pinned (OpenSpec.ofChange middleWithinWrong)

/- THE SECOND FORM. 'bulk': how many values and letters a reading holds, each counted each time it is reached (what is shared counts as often as it is met; a slice's spare places count too). A statement '..UptoSaid' is the law's where the arguments, and the package variables that the reading takes, are together of bulk at most 1048576: NARROWER than '..Said'. Prove '..Said' where nothing that the law and all that it calls make is longer than what came in: it says more and counts as full. Else prove '..UptoSaid'. A law counts once. -/
mutual
def uptoBulk {H : Type} : DataW H → Nat
  | .lit (.string bytes) => bytes.length + 1
  | .lit _ => 1
  | .nil => 1
  | .ptr d => uptoBulk d + 1
  | .slice elems spare => uptoBulkAll elems + uptoBulkAll spare + 1
  | .agg parts => uptoBulkAll parts + 1
  | .iface _ d => uptoBulk d + 1
  | .map entries => uptoBulkEntries entries + 1
  | .held _ => 1
def uptoBulkAll {H : Type} : List (DataW H) → Nat
  | [] => 0
  | d :: r => uptoBulk d + uptoBulkAll r
def uptoBulkEntries {H : Type} : List (Lit × DataW H) → Nat
  | [] => 0
  | x :: r => uptoBulkEntry x + uptoBulkEntries r
def uptoBulkEntry {H : Type} : Lit × DataW H → Nat
  | (.string bytes, d) => bytes.length + uptoBulk d + 1
  | (_, d) => uptoBulk d + 1
 end
def uptoSmall : (H : Type) → List (DataW H) → Bool := fun _ ds => decide (uptoBulkAll ds ≤ 1048576)
def OpenSpec.upto (s : _root_.Go.ChangeSpec) : _root_.Go.OpenSpec := { _root_.Go.OpenSpec.ofChange s with cond := some uptoSmall }

/-- 'fourwatchlaw.ClockLocals', WHERE WHAT IT READS IS OF BULK AT MOST 1048576: true; the input reads as it did. -/
def clockLocalsUptoRow : OpenClaim := { program := "ytgikknoklnbihaa", sum := "5e1cd81c8f0f7311c7b9fe5d6c2e48d5d573fba6c5d87d56113e08032a0038ca", func := "fourwatch/fourwatchlaw.ClockLocals", spec := "clockLocals", apart := false, narrowed := true }
def ClockLocalsUptoSaid : Prop := clockLocalsUptoRow.holds Try.pinned (OpenSpec.upto clockLocalsSpec)

/-- 'fourwatchlaw.ClockMiddles', WHERE WHAT IT READS IS OF BULK AT MOST 1048576: true; the input reads as it did. -/
def clockMiddlesUptoRow : OpenClaim := { program := "ytgikknoklnbihaa", sum := "5e1cd81c8f0f7311c7b9fe5d6c2e48d5d573fba6c5d87d56113e08032a0038ca", func := "fourwatch/fourwatchlaw.ClockMiddles", spec := "clockMiddles", unfollowed := true, recurses := true, apart := false, narrowed := true }
def ClockMiddlesUptoSaid : Prop := clockMiddlesUptoRow.holds Try.pinned (OpenSpec.upto clockMiddlesSpec)

/-- 'fourwatchlaw.ClockRounds', WHERE WHAT IT READS IS OF BULK AT MOST 1048576: true; the input reads as it did. -/
def clockRoundsUptoRow : OpenClaim := { program := "ytgikknoklnbihaa", sum := "5e1cd81c8f0f7311c7b9fe5d6c2e48d5d573fba6c5d87d56113e08032a0038ca", func := "fourwatch/fourwatchlaw.ClockRounds", spec := "clockRounds", unfollowed := true, recurses := true, apart := false, narrowed := true }
def ClockRoundsUptoSaid : Prop := clockRoundsUptoRow.holds Try.pinned (OpenSpec.upto clockRoundsSpec)

/-- 'fourwatchlaw.ClockSpreads', WHERE WHAT IT READS IS OF BULK AT MOST 1048576: true; the input reads as it did. -/
def clockSpreadsUptoRow : OpenClaim := { program := "ytgikknoklnbihaa", sum := "5e1cd81c8f0f7311c7b9fe5d6c2e48d5d573fba6c5d87d56113e08032a0038ca", func := "fourwatch/fourwatchlaw.ClockSpreads", spec := "clockSpreads", unfollowed := true, recurses := true, apart := false, narrowed := true }
def ClockSpreadsUptoSaid : Prop := clockSpreadsUptoRow.holds Try.pinned (OpenSpec.upto clockSpreadsSpec)

/-- 'fourwatchkeep.ClockDrifts', WHERE WHAT IT READS IS OF BULK AT MOST 1048576: true; the input reads as it did. -/
def clockDriftsUptoRow : OpenClaim := { program := "ytgikknoklnbihaa", sum := "5e1cd81c8f0f7311c7b9fe5d6c2e48d5d573fba6c5d87d56113e08032a0038ca", func := "fourwatch/fourwatchkeep.ClockDrifts", spec := "clockDrifts", apart := false, narrowed := true }
def ClockDriftsUptoSaid : Prop := clockDriftsUptoRow.holds Try.pinned (OpenSpec.upto clockDriftsSpec)

/-- 'fourwatchkeep.MiddleWithin', WHERE WHAT IT READS IS OF BULK AT MOST 1048576: true; the input reads as it did. -/
def middleWithinUptoRow : OpenClaim := { program := "ytgikknoklnbihaa", sum := "5e1cd81c8f0f7311c7b9fe5d6c2e48d5d573fba6c5d87d56113e08032a0038ca", func := "fourwatch/fourwatchkeep.MiddleWithin", spec := "middleWithin", unfollowed := true, recurses := true, apart := false, narrowed := true }
def MiddleWithinUptoSaid : Prop := middleWithinUptoRow.holds Try.pinned (OpenSpec.upto middleWithinSpec)

end Rows
end Go.Proofs.Ytgikknoklnbihaa
