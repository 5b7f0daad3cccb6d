/-
  No cell of these rows narrows 'for every input' (looked for: loops, veiled, ifaces, maps, wideKeys, modest, calm, conditions, laid).
  DERIVED. THE GIVEN ROWS OF THIS SEAT. 5 by the template 'for every input the law returns true; each argument reads behind the call as it read before'; 0 by the template 'total and deterministic' (their statements: YtngmeaaglogieaaTotals.lean).
  GIVEN WITH THE SEED: the statements are not yours to turn. If you find one false, say at which input.
  Laid BY PROGRAM, IN A SANDBOX (cutbox-rows.mjs): the forced cells as the released guide's own fill.sh prints them over the translation 5ae069405b51fe65… (all of the seat's roots in one cut). By AI agents, Wed Nov 11 2026. No macro, syntax, notation, axiom, sorry.
-/
import Derived.Test.YtngmeaaglogieaaChecked
import GoSem.Claim
import GoSem.ClaimJoined
import GoSem.ClaimMapViews
import Derived.JoinedTies
import Derived.KernelRfl
namespace Go.Proofs.Ytngmeaaglogieaa
/- THE CELL 'sum', in the pinned program and in every row, IS THE sha256 OF THE DUMP (.gsa) THAT YtngmeaaglogieaaProg.lean LOADS. Nothing in Lean hashes anything: it is a label: what it is worth is what the hold of that sum in a sandbox is worth. -/
noncomputable def Try.pinned : Pinned := { name := "ytngmeaaglogieaa", sum := "5ae069405b51fe65e59ef0bf506dcc1715510e1683345be0871fe1691f428be7", checked := Try.checked }
namespace Rows
def none {H : Type} : Left H := { results := [], args := [] }

/-- 'fourwatchlaw.NodeBegins': WHATEVER THE INPUT: true; the input reads as it did. -/
def nodeBeginsSpec : ChangeSpec := { name := "nodeBegins", fn := fun _ => fun
  | [d1, d2] => { results := [.lit (.bool true)], args := [d1, d2] }
  | _ => none }
def nodeBeginsRow : OpenClaim := { program := "ytngmeaaglogieaa", sum := "5ae069405b51fe65e59ef0bf506dcc1715510e1683345be0871fe1691f428be7", func := "fourwatch/fourwatchlaw.NodeBegins", spec := "nodeBegins", apart := false }
def NodeBeginsSaid : Prop := nodeBeginsRow.holds Try.pinned (OpenSpec.ofChange nodeBeginsSpec)

/-- ITS FALSE NEIGHBOUR: 'it returns false'. Refute it at one input. -/
def nodeBeginsWrong : ChangeSpec := { name := "nodeBegins", fn := fun _ => fun
  | [d1, d2] => { results := [.lit (.bool false)], args := [d1, d2] }
  | _ => none }
def NodeBeginsWrongFalsely : Prop := nodeBeginsRow.holds Try.pinned (OpenSpec.ofChange nodeBeginsWrong)

/-- 'fourwatchlaw.NodeSenses': WHATEVER THE INPUT: true; the input reads as it did. -/
def nodeSensesSpec : ChangeSpec := { name := "nodeSenses", fn := fun _ => fun
  | [d1, d2, d3] => { results := [.lit (.bool true)], args := [d1, d2, d3] }
  | _ => none }
def nodeSensesRow : OpenClaim := { program := "ytngmeaaglogieaa", sum := "5ae069405b51fe65e59ef0bf506dcc1715510e1683345be0871fe1691f428be7", func := "fourwatch/fourwatchlaw.NodeSenses", spec := "nodeSenses", apart := false }
def NodeSensesSaid : Prop := nodeSensesRow.holds Try.pinned (OpenSpec.ofChange nodeSensesSpec)

/-- ITS FALSE NEIGHBOUR: 'it returns false'. Refute it at one input. -/
def nodeSensesWrong : ChangeSpec := { name := "nodeSenses", fn := fun _ => fun
  | [d1, d2, d3] => { results := [.lit (.bool false)], args := [d1, d2, d3] }
  | _ => none }
def NodeSensesWrongFalsely : Prop := nodeSensesRow.holds Try.pinned (OpenSpec.ofChange nodeSensesWrong)

/-- 'fourwatchlaw.NodeRelays': WHATEVER THE INPUT: true; the input reads as it did. -/
def nodeRelaysSpec : ChangeSpec := { name := "nodeRelays", fn := fun _ => fun
  | [d1, d2] => { results := [.lit (.bool true)], args := [d1, d2] }
  | _ => none }
def nodeRelaysRow : OpenClaim := { program := "ytngmeaaglogieaa", sum := "5ae069405b51fe65e59ef0bf506dcc1715510e1683345be0871fe1691f428be7", func := "fourwatch/fourwatchlaw.NodeRelays", spec := "nodeRelays", apart := false }
def NodeRelaysSaid : Prop := nodeRelaysRow.holds Try.pinned (OpenSpec.ofChange nodeRelaysSpec)

/-- ITS FALSE NEIGHBOUR: 'it returns false'. Refute it at one input. -/
def nodeRelaysWrong : ChangeSpec := { name := "nodeRelays", fn := fun _ => fun
  | [d1, d2] => { results := [.lit (.bool false)], args := [d1, d2] }
  | _ => none }
def NodeRelaysWrongFalsely : Prop := nodeRelaysRow.holds Try.pinned (OpenSpec.ofChange nodeRelaysWrong)

/-- 'fourwatchlaw.NodePasses': WHATEVER THE INPUT: true; the input reads as it did. -/
def nodePassesSpec : ChangeSpec := { name := "nodePasses", fn := fun _ => fun
  | [d1, d2] => { results := [.lit (.bool true)], args := [d1, d2] }
  | _ => none }
def nodePassesRow : OpenClaim := { program := "ytngmeaaglogieaa", sum := "5ae069405b51fe65e59ef0bf506dcc1715510e1683345be0871fe1691f428be7", func := "fourwatch/fourwatchlaw.NodePasses", spec := "nodePasses", apart := false }
def NodePassesSaid : Prop := nodePassesRow.holds Try.pinned (OpenSpec.ofChange nodePassesSpec)

/-- ITS FALSE NEIGHBOUR: 'it returns false'. Refute it at one input. -/
def nodePassesWrong : ChangeSpec := { name := "nodePasses", fn := fun _ => fun
  | [d1, d2] => { results := [.lit (.bool false)], args := [d1, d2] }
  | _ => none }
def NodePassesWrongFalsely : Prop := nodePassesRow.holds Try.pinned (OpenSpec.ofChange nodePassesWrong)

/-- 'fourwatchlaw.NodeJudges': WHATEVER THE INPUT: true; the input reads as it did. -/
def nodeJudgesSpec : ChangeSpec := { name := "nodeJudges", fn := fun _ => fun
  | [d1, d2] => { results := [.lit (.bool true)], args := [d1, d2] }
  | _ => none }
def nodeJudgesRow : OpenClaim := { program := "ytngmeaaglogieaa", sum := "5ae069405b51fe65e59ef0bf506dcc1715510e1683345be0871fe1691f428be7", func := "fourwatch/fourwatchlaw.NodeJudges", spec := "nodeJudges", unfollowed := true, recurses := true, apart := false }
def NodeJudgesSaid : Prop := nodeJudgesRow.holds Try.pinned (OpenSpec.ofChange nodeJudgesSpec)

/-- ITS FALSE NEIGHBOUR: 'it returns false'. Refute it at one input. -/
def nodeJudgesWrong : ChangeSpec := { name := "nodeJudges", fn := fun _ => fun
  | [d1, d2] => { results := [.lit (.bool false)], args := [d1, d2] }
  | _ => none }
def NodeJudgesWrongFalsely : Prop := nodeJudgesRow.holds Try.pinned (OpenSpec.ofChange nodeJudgesWrong)

/- THE SECOND FORM. 'bulk': how many values and letters a reading holds, each counted each time it is reached (what is shared counts as often as it is met; a slice's spare places count too). A statement '..UptoSaid' is the law's where the arguments, and the package variables that the reading takes, are together of bulk at most 1048576: NARROWER than '..Said'. Prove '..Said' where nothing that the law and all that it calls make is longer than what came in: it says more and counts as full. Else prove '..UptoSaid'. A law counts once. -/
mutual
def uptoBulk {H : Type} : DataW H → Nat
  | .lit (.string bytes) => bytes.length + 1
  | .lit _ => 1
  | .nil => 1
  | .ptr d => uptoBulk d + 1
  | .slice elems spare => uptoBulkAll elems + uptoBulkAll spare + 1
  | .agg parts => uptoBulkAll parts + 1
  | .iface _ d => uptoBulk d + 1
  | .map entries => uptoBulkEntries entries + 1
  | .held _ => 1
def uptoBulkAll {H : Type} : List (DataW H) → Nat
  | [] => 0
  | d :: r => uptoBulk d + uptoBulkAll r
def uptoBulkEntries {H : Type} : List (Lit × DataW H) → Nat
  | [] => 0
  | x :: r => uptoBulkEntry x + uptoBulkEntries r
def uptoBulkEntry {H : Type} : Lit × DataW H → Nat
  | (.string bytes, d) => bytes.length + uptoBulk d + 1
  | (_, d) => uptoBulk d + 1
 end
def uptoSmall : (H : Type) → List (DataW H) → Bool := fun _ ds => decide (uptoBulkAll ds ≤ 1048576)
def OpenSpec.upto (s : _root_.Go.ChangeSpec) : _root_.Go.OpenSpec := { _root_.Go.OpenSpec.ofChange s with cond := some uptoSmall }

/-- 'fourwatchlaw.NodeBegins', WHERE WHAT IT READS IS OF BULK AT MOST 1048576: true; the input reads as it did. -/
def nodeBeginsUptoRow : OpenClaim := { program := "ytngmeaaglogieaa", sum := "5ae069405b51fe65e59ef0bf506dcc1715510e1683345be0871fe1691f428be7", func := "fourwatch/fourwatchlaw.NodeBegins", spec := "nodeBegins", apart := false, narrowed := true }
def NodeBeginsUptoSaid : Prop := nodeBeginsUptoRow.holds Try.pinned (OpenSpec.upto nodeBeginsSpec)

/-- 'fourwatchlaw.NodeSenses', WHERE WHAT IT READS IS OF BULK AT MOST 1048576: true; the input reads as it did. -/
def nodeSensesUptoRow : OpenClaim := { program := "ytngmeaaglogieaa", sum := "5ae069405b51fe65e59ef0bf506dcc1715510e1683345be0871fe1691f428be7", func := "fourwatch/fourwatchlaw.NodeSenses", spec := "nodeSenses", apart := false, narrowed := true }
def NodeSensesUptoSaid : Prop := nodeSensesUptoRow.holds Try.pinned (OpenSpec.upto nodeSensesSpec)

/-- 'fourwatchlaw.NodeRelays', WHERE WHAT IT READS IS OF BULK AT MOST 1048576: true; the input reads as it did. -/
def nodeRelaysUptoRow : OpenClaim := { program := "ytngmeaaglogieaa", sum := "5ae069405b51fe65e59ef0bf506dcc1715510e1683345be0871fe1691f428be7", func := "fourwatch/fourwatchlaw.NodeRelays", spec := "nodeRelays", apart := false, narrowed := true }
def NodeRelaysUptoSaid : Prop := nodeRelaysUptoRow.holds Try.pinned (OpenSpec.upto nodeRelaysSpec)

/-- 'fourwatchlaw.NodePasses', WHERE WHAT IT READS IS OF BULK AT MOST 1048576: true; the input reads as it did. -/
def nodePassesUptoRow : OpenClaim := { program := "ytngmeaaglogieaa", sum := "5ae069405b51fe65e59ef0bf506dcc1715510e1683345be0871fe1691f428be7", func := "fourwatch/fourwatchlaw.NodePasses", spec := "nodePasses", apart := false, narrowed := true }
def NodePassesUptoSaid : Prop := nodePassesUptoRow.holds Try.pinned (OpenSpec.upto nodePassesSpec)

/-- 'fourwatchlaw.NodeJudges', WHERE WHAT IT READS IS OF BULK AT MOST 1048576: true; the input reads as it did. -/
def nodeJudgesUptoRow : OpenClaim := { program := "ytngmeaaglogieaa", sum := "5ae069405b51fe65e59ef0bf506dcc1715510e1683345be0871fe1691f428be7", func := "fourwatch/fourwatchlaw.NodeJudges", spec := "nodeJudges", unfollowed := true, recurses := true, apart := false, narrowed := true }
def NodeJudgesUptoSaid : Prop := nodeJudgesUptoRow.holds Try.pinned (OpenSpec.upto nodeJudgesSpec)

end Rows
end Go.Proofs.Ytngmeaaglogieaa
