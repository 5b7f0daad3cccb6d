/-
  No cell of these rows narrows 'for every input' (looked for: loops, veiled, ifaces, maps, wideKeys, modest, calm, conditions, laid).
  DERIVED. THE GIVEN ROWS OF THIS SEAT. 6 by the template 'for every input the law returns true; each argument reads behind the call as it read before'; 0 by the template 'total and deterministic' (their statements: YtgikknoklnbihabTotals.lean).
  GIVEN WITH THE SEED: the statements are not yours to turn. If you find one false, say at which input.
  Laid BY PROGRAM, IN A SANDBOX (cutbox-rows.mjs): the forced cells as the released guide's own fill.sh prints them over the translation 4e2e5485a3cceb65… (all of the seat's roots in one cut). By AI agents, Wed Nov 11 2026. No macro, syntax, notation, axiom, sorry.
-/
import Derived.Test.YtgikknoklnbihabChecked
import GoSem.Claim
import GoSem.ClaimJoined
import GoSem.ClaimMapViews
import Derived.JoinedTies
import Derived.KernelRfl
namespace Go.Proofs.Ytgikknoklnbihab
/- THE CELL 'sum', in the pinned program and in every row, IS THE sha256 OF THE DUMP (.gsa) THAT YtgikknoklnbihabProg.lean LOADS. Nothing in Lean hashes anything: it is a label: what it is worth is what the hold of that sum in a sandbox is worth. -/
noncomputable def Try.pinned : Pinned := { name := "ytgikknoklnbihab", sum := "4e2e5485a3cceb65a170ddf5e2143b9fb4b909299670b6e98af1c2b1496d6084", checked := Try.checked }
namespace Rows
def none {H : Type} : Left H := { results := [], args := [] }

/-- 'fourwatchkeep.MiddleGuards': WHATEVER THE INPUT: true; the input reads as it did. -/
def middleGuardsSpec : ChangeSpec := { name := "middleGuards", fn := fun _ => fun
  | [d1, d2] => { results := [.lit (.bool true)], args := [d1, d2] }
  | _ => none }
def middleGuardsRow : OpenClaim := { program := "ytgikknoklnbihab", sum := "4e2e5485a3cceb65a170ddf5e2143b9fb4b909299670b6e98af1c2b1496d6084", func := "fourwatch/fourwatchkeep.MiddleGuards", spec := "middleGuards", unfollowed := true, recurses := true, apart := false }
def MiddleGuardsSaid : Prop := middleGuardsRow.holds Try.pinned (OpenSpec.ofChange middleGuardsSpec)

/-- ITS FALSE NEIGHBOUR: 'it returns false'. Refute it at one input. -/
def middleGuardsWrong : ChangeSpec := { name := "middleGuards", fn := fun _ => fun
  | [d1, d2] => { results := [.lit (.bool false)], args := [d1, d2] }
  | _ => none }
def MiddleGuardsWrongFalsely : Prop := middleGuardsRow.holds Try.pinned (OpenSpec.ofChange middleGuardsWrong)

/-- 'fourwatchkeep.MiddleOrder': WHATEVER THE INPUT: true; the input reads as it did. -/
def middleOrderSpec : ChangeSpec := { name := "middleOrder", fn := fun _ => fun
  | [d1, d2] => { results := [.lit (.bool true)], args := [d1, d2] }
  | _ => none }
def middleOrderRow : OpenClaim := { program := "ytgikknoklnbihab", sum := "4e2e5485a3cceb65a170ddf5e2143b9fb4b909299670b6e98af1c2b1496d6084", func := "fourwatch/fourwatchkeep.MiddleOrder", spec := "middleOrder", unfollowed := true, recurses := true, apart := false }
def MiddleOrderSaid : Prop := middleOrderRow.holds Try.pinned (OpenSpec.ofChange middleOrderSpec)

/-- ITS FALSE NEIGHBOUR: 'it returns false'. Refute it at one input. -/
def middleOrderWrong : ChangeSpec := { name := "middleOrder", fn := fun _ => fun
  | [d1, d2] => { results := [.lit (.bool false)], args := [d1, d2] }
  | _ => none }
def MiddleOrderWrongFalsely : Prop := middleOrderRow.holds Try.pinned (OpenSpec.ofChange middleOrderWrong)

/-- 'fourwatchkeep.MiddleMoves': WHATEVER THE INPUT: true; the input reads as it did. -/
def middleMovesSpec : ChangeSpec := { name := "middleMoves", fn := fun _ => fun
  | [d1, d2] => { results := [.lit (.bool true)], args := [d1, d2] }
  | _ => none }
def middleMovesRow : OpenClaim := { program := "ytgikknoklnbihab", sum := "4e2e5485a3cceb65a170ddf5e2143b9fb4b909299670b6e98af1c2b1496d6084", func := "fourwatch/fourwatchkeep.MiddleMoves", spec := "middleMoves", unfollowed := true, recurses := true, apart := false }
def MiddleMovesSaid : Prop := middleMovesRow.holds Try.pinned (OpenSpec.ofChange middleMovesSpec)

/-- ITS FALSE NEIGHBOUR: 'it returns false'. Refute it at one input. -/
def middleMovesWrong : ChangeSpec := { name := "middleMoves", fn := fun _ => fun
  | [d1, d2] => { results := [.lit (.bool false)], args := [d1, d2] }
  | _ => none }
def MiddleMovesWrongFalsely : Prop := middleMovesRow.holds Try.pinned (OpenSpec.ofChange middleMovesWrong)

/-- 'fourwatchkeep.MiddleHalves': WHATEVER THE INPUT: true; the input reads as it did. -/
def middleHalvesSpec : ChangeSpec := { name := "middleHalves", fn := fun _ => fun
  | [d1, d2, d3] => { results := [.lit (.bool true)], args := [d1, d2, d3] }
  | _ => none }
def middleHalvesRow : OpenClaim := { program := "ytgikknoklnbihab", sum := "4e2e5485a3cceb65a170ddf5e2143b9fb4b909299670b6e98af1c2b1496d6084", func := "fourwatch/fourwatchkeep.MiddleHalves", spec := "middleHalves", unfollowed := true, recurses := true, apart := false }
def MiddleHalvesSaid : Prop := middleHalvesRow.holds Try.pinned (OpenSpec.ofChange middleHalvesSpec)

/-- ITS FALSE NEIGHBOUR: 'it returns false'. Refute it at one input. -/
def middleHalvesWrong : ChangeSpec := { name := "middleHalves", fn := fun _ => fun
  | [d1, d2, d3] => { results := [.lit (.bool false)], args := [d1, d2, d3] }
  | _ => none }
def MiddleHalvesWrongFalsely : Prop := middleHalvesRow.holds Try.pinned (OpenSpec.ofChange middleHalvesWrong)

/-- 'fourwatchkeep.RoundHalves': WHATEVER THE INPUT: true; the input reads as it did. -/
def roundHalvesSpec : ChangeSpec := { name := "roundHalves", fn := fun _ => fun
  | [d1, d2, d3] => { results := [.lit (.bool true)], args := [d1, d2, d3] }
  | _ => none }
def roundHalvesRow : OpenClaim := { program := "ytgikknoklnbihab", sum := "4e2e5485a3cceb65a170ddf5e2143b9fb4b909299670b6e98af1c2b1496d6084", func := "fourwatch/fourwatchkeep.RoundHalves", spec := "roundHalves", unfollowed := true, recurses := true, apart := false }
def RoundHalvesSaid : Prop := roundHalvesRow.holds Try.pinned (OpenSpec.ofChange roundHalvesSpec)

/-- ITS FALSE NEIGHBOUR: 'it returns false'. Refute it at one input. -/
def roundHalvesWrong : ChangeSpec := { name := "roundHalves", fn := fun _ => fun
  | [d1, d2, d3] => { results := [.lit (.bool false)], args := [d1, d2, d3] }
  | _ => none }
def RoundHalvesWrongFalsely : Prop := roundHalvesRow.holds Try.pinned (OpenSpec.ofChange roundHalvesWrong)

/-- 'fourwatchkeep.ClockMemory': WHATEVER THE INPUT: true; the input reads as it did. -/
def clockMemorySpec : ChangeSpec := { name := "clockMemory", fn := fun _ => fun
  | [d] => { results := [.lit (.bool true)], args := [d] }
  | _ => none }
def clockMemoryRow : OpenClaim := { program := "ytgikknoklnbihab", sum := "4e2e5485a3cceb65a170ddf5e2143b9fb4b909299670b6e98af1c2b1496d6084", func := "fourwatch/fourwatchkeep.ClockMemory", spec := "clockMemory", unfollowed := true, recurses := true, apart := false }
def ClockMemorySaid : Prop := clockMemoryRow.holds Try.pinned (OpenSpec.ofChange clockMemorySpec)

/-- ITS FALSE NEIGHBOUR: 'it returns false'. Refute it at one input. -/
def clockMemoryWrong : ChangeSpec := { name := "clockMemory", fn := fun _ => fun
  | [d] => { results := [.lit (.bool false)], args := [d] }
  | _ => none }
def ClockMemoryWrongFalsely : Prop := clockMemoryRow.holds Try.pinned (OpenSpec.ofChange clockMemoryWrong)

/- THE SECOND FORM. 'bulk': how many values and letters a reading holds, each counted each time it is reached (what is shared counts as often as it is met; a slice's spare places count too). A statement '..UptoSaid' is the law's where the arguments, and the package variables that the reading takes, are together of bulk at most 1048576: NARROWER than '..Said'. Prove '..Said' where nothing that the law and all that it calls make is longer than what came in: it says more and counts as full. Else prove '..UptoSaid'. A law counts once. -/
mutual
def uptoBulk {H : Type} : DataW H → Nat
  | .lit (.string bytes) => bytes.length + 1
  | .lit _ => 1
  | .nil => 1
  | .ptr d => uptoBulk d + 1
  | .slice elems spare => uptoBulkAll elems + uptoBulkAll spare + 1
  | .agg parts => uptoBulkAll parts + 1
  | .iface _ d => uptoBulk d + 1
  | .map entries => uptoBulkEntries entries + 1
  | .held _ => 1
def uptoBulkAll {H : Type} : List (DataW H) → Nat
  | [] => 0
  | d :: r => uptoBulk d + uptoBulkAll r
def uptoBulkEntries {H : Type} : List (Lit × DataW H) → Nat
  | [] => 0
  | x :: r => uptoBulkEntry x + uptoBulkEntries r
def uptoBulkEntry {H : Type} : Lit × DataW H → Nat
  | (.string bytes, d) => bytes.length + uptoBulk d + 1
  | (_, d) => uptoBulk d + 1
 end
def uptoSmall : (H : Type) → List (DataW H) → Bool := fun _ ds => decide (uptoBulkAll ds ≤ 1048576)
def OpenSpec.upto (s : _root_.Go.ChangeSpec) : _root_.Go.OpenSpec := { _root_.Go.OpenSpec.ofChange s with cond := some uptoSmall }

/-- 'fourwatchkeep.MiddleGuards', WHERE WHAT IT READS IS OF BULK AT MOST 1048576: true; the input reads as it did. -/
def middleGuardsUptoRow : OpenClaim := { program := "ytgikknoklnbihab", sum := "4e2e5485a3cceb65a170ddf5e2143b9fb4b909299670b6e98af1c2b1496d6084", func := "fourwatch/fourwatchkeep.MiddleGuards", spec := "middleGuards", unfollowed := true, recurses := true, apart := false, narrowed := true }
def MiddleGuardsUptoSaid : Prop := middleGuardsUptoRow.holds Try.pinned (OpenSpec.upto middleGuardsSpec)

/-- 'fourwatchkeep.MiddleOrder', WHERE WHAT IT READS IS OF BULK AT MOST 1048576: true; the input reads as it did. -/
def middleOrderUptoRow : OpenClaim := { program := "ytgikknoklnbihab", sum := "4e2e5485a3cceb65a170ddf5e2143b9fb4b909299670b6e98af1c2b1496d6084", func := "fourwatch/fourwatchkeep.MiddleOrder", spec := "middleOrder", unfollowed := true, recurses := true, apart := false, narrowed := true }
def MiddleOrderUptoSaid : Prop := middleOrderUptoRow.holds Try.pinned (OpenSpec.upto middleOrderSpec)

/-- 'fourwatchkeep.MiddleMoves', WHERE WHAT IT READS IS OF BULK AT MOST 1048576: true; the input reads as it did. -/
def middleMovesUptoRow : OpenClaim := { program := "ytgikknoklnbihab", sum := "4e2e5485a3cceb65a170ddf5e2143b9fb4b909299670b6e98af1c2b1496d6084", func := "fourwatch/fourwatchkeep.MiddleMoves", spec := "middleMoves", unfollowed := true, recurses := true, apart := false, narrowed := true }
def MiddleMovesUptoSaid : Prop := middleMovesUptoRow.holds Try.pinned (OpenSpec.upto middleMovesSpec)

/-- 'fourwatchkeep.MiddleHalves', WHERE WHAT IT READS IS OF BULK AT MOST 1048576: true; the input reads as it did. -/
def middleHalvesUptoRow : OpenClaim := { program := "ytgikknoklnbihab", sum := "4e2e5485a3cceb65a170ddf5e2143b9fb4b909299670b6e98af1c2b1496d6084", func := "fourwatch/fourwatchkeep.MiddleHalves", spec := "middleHalves", unfollowed := true, recurses := true, apart := false, narrowed := true }
def MiddleHalvesUptoSaid : Prop := middleHalvesUptoRow.holds Try.pinned (OpenSpec.upto middleHalvesSpec)

/-- 'fourwatchkeep.RoundHalves', WHERE WHAT IT READS IS OF BULK AT MOST 1048576: true; the input reads as it did. -/
def roundHalvesUptoRow : OpenClaim := { program := "ytgikknoklnbihab", sum := "4e2e5485a3cceb65a170ddf5e2143b9fb4b909299670b6e98af1c2b1496d6084", func := "fourwatch/fourwatchkeep.RoundHalves", spec := "roundHalves", unfollowed := true, recurses := true, apart := false, narrowed := true }
def RoundHalvesUptoSaid : Prop := roundHalvesUptoRow.holds Try.pinned (OpenSpec.upto roundHalvesSpec)

/-- 'fourwatchkeep.ClockMemory', WHERE WHAT IT READS IS OF BULK AT MOST 1048576: true; the input reads as it did. -/
def clockMemoryUptoRow : OpenClaim := { program := "ytgikknoklnbihab", sum := "4e2e5485a3cceb65a170ddf5e2143b9fb4b909299670b6e98af1c2b1496d6084", func := "fourwatch/fourwatchkeep.ClockMemory", spec := "clockMemory", unfollowed := true, recurses := true, apart := false, narrowed := true }
def ClockMemoryUptoSaid : Prop := clockMemoryUptoRow.holds Try.pinned (OpenSpec.upto clockMemorySpec)

end Rows
end Go.Proofs.Ytgikknoklnbihab
