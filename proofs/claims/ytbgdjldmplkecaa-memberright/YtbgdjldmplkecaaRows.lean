/-
  No cell of these rows narrows 'for every input' (looked for: loops, veiled, ifaces, maps, wideKeys, modest, calm, conditions, laid).
  DERIVED. THE GIVEN ROWS OF THIS SEAT. 5 by the template 'for every input the law returns true; each argument reads behind the call as it read before'; 0 by the template 'total and deterministic' (their statements: YtbgdjldmplkecaaTotals.lean).
  GIVEN WITH THE SEED: the statements are not yours to turn. If you find one false, say at which input.
  Laid BY PROGRAM, IN A SANDBOX (cutbox-rows.mjs): the forced cells as the released guide's own fill.sh prints them over the translation 3b10515a9b4be416… (all of the seat's roots in one cut). By AI agents, Wed Nov 11 2026. No macro, syntax, notation, axiom, sorry.
-/
import Derived.Test.YtbgdjldmplkecaaChecked
import GoSem.Claim
import GoSem.ClaimJoined
import GoSem.ClaimMapViews
import Derived.JoinedTies
import Derived.KernelRfl
namespace Go.Proofs.Ytbgdjldmplkecaa
/- THE CELL 'sum', in the pinned program and in every row, IS THE sha256 OF THE DUMP (.gsa) THAT YtbgdjldmplkecaaProg.lean LOADS. Nothing in Lean hashes anything: it is a label: what it is worth is what the hold of that sum in a sandbox is worth. -/
noncomputable def Try.pinned : Pinned := { name := "ytbgdjldmplkecaa", sum := "3b10515a9b4be416e6c856d310f7441c969722b0f4333edfadef4c33ef0952b9", checked := Try.checked }
namespace Rows
def none {H : Type} : Left H := { results := [], args := [] }

/-- 'fourwatchlaw.MemberRolls': WHATEVER THE INPUT: true; the input reads as it did. -/
def memberRollsSpec : ChangeSpec := { name := "memberRolls", fn := fun _ => fun
  | [d] => { results := [.lit (.bool true)], args := [d] }
  | _ => none }
def memberRollsRow : OpenClaim := { program := "ytbgdjldmplkecaa", sum := "3b10515a9b4be416e6c856d310f7441c969722b0f4333edfadef4c33ef0952b9", func := "fourwatch/fourwatchlaw.MemberRolls", spec := "memberRolls", apart := false }
def MemberRollsSaid : Prop := memberRollsRow.holds Try.pinned (OpenSpec.ofChange memberRollsSpec)

/-- ITS FALSE NEIGHBOUR: 'it returns false'. Refute it at one input. -/
def memberRollsWrong : ChangeSpec := { name := "memberRolls", fn := fun _ => fun
  | [d] => { results := [.lit (.bool false)], args := [d] }
  | _ => none }
def MemberRollsWrongFalsely : Prop := memberRollsRow.holds Try.pinned (OpenSpec.ofChange memberRollsWrong)

/-- 'fourwatchlaw.MemberSteps': WHATEVER THE INPUT: true; the input reads as it did. -/
def memberStepsSpec : ChangeSpec := { name := "memberSteps", fn := fun _ => fun
  | [d1, d2] => { results := [.lit (.bool true)], args := [d1, d2] }
  | _ => none }
def memberStepsRow : OpenClaim := { program := "ytbgdjldmplkecaa", sum := "3b10515a9b4be416e6c856d310f7441c969722b0f4333edfadef4c33ef0952b9", func := "fourwatch/fourwatchlaw.MemberSteps", spec := "memberSteps", apart := false }
def MemberStepsSaid : Prop := memberStepsRow.holds Try.pinned (OpenSpec.ofChange memberStepsSpec)

/-- ITS FALSE NEIGHBOUR: 'it returns false'. Refute it at one input. -/
def memberStepsWrong : ChangeSpec := { name := "memberSteps", fn := fun _ => fun
  | [d1, d2] => { results := [.lit (.bool false)], args := [d1, d2] }
  | _ => none }
def MemberStepsWrongFalsely : Prop := memberStepsRow.holds Try.pinned (OpenSpec.ofChange memberStepsWrong)

/-- 'fourwatchkeep.MemberStays': WHATEVER THE INPUT: true; the input reads as it did. -/
def memberStaysSpec : ChangeSpec := { name := "memberStays", fn := fun _ => fun
  | [d1, d2] => { results := [.lit (.bool true)], args := [d1, d2] }
  | _ => none }
def memberStaysRow : OpenClaim := { program := "ytbgdjldmplkecaa", sum := "3b10515a9b4be416e6c856d310f7441c969722b0f4333edfadef4c33ef0952b9", func := "fourwatch/fourwatchkeep.MemberStays", spec := "memberStays", apart := false }
def MemberStaysSaid : Prop := memberStaysRow.holds Try.pinned (OpenSpec.ofChange memberStaysSpec)

/-- ITS FALSE NEIGHBOUR: 'it returns false'. Refute it at one input. -/
def memberStaysWrong : ChangeSpec := { name := "memberStays", fn := fun _ => fun
  | [d1, d2] => { results := [.lit (.bool false)], args := [d1, d2] }
  | _ => none }
def MemberStaysWrongFalsely : Prop := memberStaysRow.holds Try.pinned (OpenSpec.ofChange memberStaysWrong)

/-- 'fourwatchkeep.MemberRight': WHATEVER THE INPUT: true; the input reads as it did. -/
def memberRightSpec : ChangeSpec := { name := "memberRight", fn := fun _ => fun
  | [d1, d2] => { results := [.lit (.bool true)], args := [d1, d2] }
  | _ => none }
def memberRightRow : OpenClaim := { program := "ytbgdjldmplkecaa", sum := "3b10515a9b4be416e6c856d310f7441c969722b0f4333edfadef4c33ef0952b9", func := "fourwatch/fourwatchkeep.MemberRight", spec := "memberRight", apart := false }
def MemberRightSaid : Prop := memberRightRow.holds Try.pinned (OpenSpec.ofChange memberRightSpec)

/-- ITS FALSE NEIGHBOUR: 'it returns false'. Refute it at one input. -/
def memberRightWrong : ChangeSpec := { name := "memberRight", fn := fun _ => fun
  | [d1, d2] => { results := [.lit (.bool false)], args := [d1, d2] }
  | _ => none }
def MemberRightWrongFalsely : Prop := memberRightRow.holds Try.pinned (OpenSpec.ofChange memberRightWrong)

/-- 'fourwatchkeep.MemberGoes': WHATEVER THE INPUT: true; the input reads as it did. -/
def memberGoesSpec : ChangeSpec := { name := "memberGoes", fn := fun _ => fun
  | [d] => { results := [.lit (.bool true)], args := [d] }
  | _ => none }
def memberGoesRow : OpenClaim := { program := "ytbgdjldmplkecaa", sum := "3b10515a9b4be416e6c856d310f7441c969722b0f4333edfadef4c33ef0952b9", func := "fourwatch/fourwatchkeep.MemberGoes", spec := "memberGoes", apart := false }
def MemberGoesSaid : Prop := memberGoesRow.holds Try.pinned (OpenSpec.ofChange memberGoesSpec)

/-- ITS FALSE NEIGHBOUR: 'it returns false'. Refute it at one input. -/
def memberGoesWrong : ChangeSpec := { name := "memberGoes", fn := fun _ => fun
  | [d] => { results := [.lit (.bool false)], args := [d] }
  | _ => none }
def MemberGoesWrongFalsely : Prop := memberGoesRow.holds Try.pinned (OpenSpec.ofChange memberGoesWrong)

/- THE SECOND FORM. 'bulk': how many values and letters a reading holds, each counted each time it is reached (what is shared counts as often as it is met; a slice's spare places count too). A statement '..UptoSaid' is the law's where the arguments, and the package variables that the reading takes, are together of bulk at most 1048576: NARROWER than '..Said'. Prove '..Said' where nothing that the law and all that it calls make is longer than what came in: it says more and counts as full. Else prove '..UptoSaid'. A law counts once. -/
mutual
def uptoBulk {H : Type} : DataW H → Nat
  | .lit (.string bytes) => bytes.length + 1
  | .lit _ => 1
  | .nil => 1
  | .ptr d => uptoBulk d + 1
  | .slice elems spare => uptoBulkAll elems + uptoBulkAll spare + 1
  | .agg parts => uptoBulkAll parts + 1
  | .iface _ d => uptoBulk d + 1
  | .map entries => uptoBulkEntries entries + 1
  | .held _ => 1
def uptoBulkAll {H : Type} : List (DataW H) → Nat
  | [] => 0
  | d :: r => uptoBulk d + uptoBulkAll r
def uptoBulkEntries {H : Type} : List (Lit × DataW H) → Nat
  | [] => 0
  | x :: r => uptoBulkEntry x + uptoBulkEntries r
def uptoBulkEntry {H : Type} : Lit × DataW H → Nat
  | (.string bytes, d) => bytes.length + uptoBulk d + 1
  | (_, d) => uptoBulk d + 1
 end
def uptoSmall : (H : Type) → List (DataW H) → Bool := fun _ ds => decide (uptoBulkAll ds ≤ 1048576)
def OpenSpec.upto (s : _root_.Go.ChangeSpec) : _root_.Go.OpenSpec := { _root_.Go.OpenSpec.ofChange s with cond := some uptoSmall }

/-- 'fourwatchlaw.MemberRolls', WHERE WHAT IT READS IS OF BULK AT MOST 1048576: true; the input reads as it did. -/
def memberRollsUptoRow : OpenClaim := { program := "ytbgdjldmplkecaa", sum := "3b10515a9b4be416e6c856d310f7441c969722b0f4333edfadef4c33ef0952b9", func := "fourwatch/fourwatchlaw.MemberRolls", spec := "memberRolls", apart := false, narrowed := true }
def MemberRollsUptoSaid : Prop := memberRollsUptoRow.holds Try.pinned (OpenSpec.upto memberRollsSpec)

/-- 'fourwatchlaw.MemberSteps', WHERE WHAT IT READS IS OF BULK AT MOST 1048576: true; the input reads as it did. -/
def memberStepsUptoRow : OpenClaim := { program := "ytbgdjldmplkecaa", sum := "3b10515a9b4be416e6c856d310f7441c969722b0f4333edfadef4c33ef0952b9", func := "fourwatch/fourwatchlaw.MemberSteps", spec := "memberSteps", apart := false, narrowed := true }
def MemberStepsUptoSaid : Prop := memberStepsUptoRow.holds Try.pinned (OpenSpec.upto memberStepsSpec)

/-- 'fourwatchkeep.MemberStays', WHERE WHAT IT READS IS OF BULK AT MOST 1048576: true; the input reads as it did. -/
def memberStaysUptoRow : OpenClaim := { program := "ytbgdjldmplkecaa", sum := "3b10515a9b4be416e6c856d310f7441c969722b0f4333edfadef4c33ef0952b9", func := "fourwatch/fourwatchkeep.MemberStays", spec := "memberStays", apart := false, narrowed := true }
def MemberStaysUptoSaid : Prop := memberStaysUptoRow.holds Try.pinned (OpenSpec.upto memberStaysSpec)

/-- 'fourwatchkeep.MemberRight', WHERE WHAT IT READS IS OF BULK AT MOST 1048576: true; the input reads as it did. -/
def memberRightUptoRow : OpenClaim := { program := "ytbgdjldmplkecaa", sum := "3b10515a9b4be416e6c856d310f7441c969722b0f4333edfadef4c33ef0952b9", func := "fourwatch/fourwatchkeep.MemberRight", spec := "memberRight", apart := false, narrowed := true }
def MemberRightUptoSaid : Prop := memberRightUptoRow.holds Try.pinned (OpenSpec.upto memberRightSpec)

/-- 'fourwatchkeep.MemberGoes', WHERE WHAT IT READS IS OF BULK AT MOST 1048576: true; the input reads as it did. -/
def memberGoesUptoRow : OpenClaim := { program := "ytbgdjldmplkecaa", sum := "3b10515a9b4be416e6c856d310f7441c969722b0f4333edfadef4c33ef0952b9", func := "fourwatch/fourwatchkeep.MemberGoes", spec := "memberGoes", apart := false, narrowed := true }
def MemberGoesUptoSaid : Prop := memberGoesUptoRow.holds Try.pinned (OpenSpec.upto memberGoesSpec)

end Rows
end Go.Proofs.Ytbgdjldmplkecaa
