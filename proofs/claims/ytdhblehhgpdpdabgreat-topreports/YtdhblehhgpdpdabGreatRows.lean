/-
  No cell of these rows narrows 'for every input' (looked for: loops, veiled, ifaces, maps, wideKeys, modest, calm, conditions, laid).
  DERIVED. THE GIVEN ROWS OF THIS SEAT. 6 by the template 'for every input the law returns true; each argument reads behind the call as it read before'; 0 by the template 'total and deterministic' (their statements: YtdhblehhgpdpdabGreatTotals.lean).
  GIVEN WITH THE SEED: the statements are not yours to turn. If you find one false, say at which input.
  Laid BY PROGRAM, IN A SANDBOX (cutbox-rows.mjs): the forced cells as the released guide's own fill.sh prints them over the translation 12843889180f60ea… (all of the seat's roots in one cut). By AI agents, Wed Nov 11 2026. No macro, syntax, notation, axiom, sorry.
-/
import Derived.Test.YtdhblehhgpdpdabGreatChecked
import GoSem.Claim
import GoSem.ClaimJoined
import GoSem.ClaimMapViews
import Derived.JoinedTies
import Derived.KernelRfl
namespace Go.Proofs.YtdhblehhgpdpdabGreat
/- THE CELL 'sum', in the pinned program and in every row, IS THE sha256 OF THE DUMP (.gsa) THAT YtdhblehhgpdpdabGreatProg.lean LOADS. Nothing in Lean hashes anything: it is a label: what it is worth is what the hold of that sum in a sandbox is worth. -/
noncomputable def Tryz.pinned : Pinned := { name := "ytdhblehhgpdpdabgreat", sum := "12843889180f60eabe44b722db486d9f439002d7680a904846e345ef752875b0", checked := Tryz.checked }
namespace Rows
def none {H : Type} : Left H := { results := [], args := [] }

/-- 'fourwatchtop.TopTrue': WHATEVER THE INPUT: true; the input reads as it did. -/
def topTrueSpec : ChangeSpec := { name := "topTrue", fn := fun _ => fun
  | [d1, d2, d3] => { results := [.lit (.bool true)], args := [d1, d2, d3] }
  | _ => none }
def topTrueRow : OpenClaim := { program := "ytdhblehhgpdpdabgreat", sum := "12843889180f60eabe44b722db486d9f439002d7680a904846e345ef752875b0", func := "fourwatch/fourwatchtop.TopTrue", spec := "topTrue", inPlace := ["math/bits.Add64"], unfollowed := true, recurses := true, named := ["math/bits.divideError", "math/bits.overflowError"], apart := false }
def TopTrueSaid : Prop := topTrueRow.holds Tryz.pinned (OpenSpec.ofChange topTrueSpec)

/-- ITS FALSE NEIGHBOUR: 'it returns false'. Refute it at one input. -/
def topTrueWrong : ChangeSpec := { name := "topTrue", fn := fun _ => fun
  | [d1, d2, d3] => { results := [.lit (.bool false)], args := [d1, d2, d3] }
  | _ => none }
def TopTrueWrongFalsely : Prop := topTrueRow.holds Tryz.pinned (OpenSpec.ofChange topTrueWrong)

/-- 'fourwatchtop.TopWithin': WHATEVER THE INPUT: true; the input reads as it did. -/
def topWithinSpec : ChangeSpec := { name := "topWithin", fn := fun _ => fun
  | [d1, d2, d3] => { results := [.lit (.bool true)], args := [d1, d2, d3] }
  | _ => none }
def topWithinRow : OpenClaim := { program := "ytdhblehhgpdpdabgreat", sum := "12843889180f60eabe44b722db486d9f439002d7680a904846e345ef752875b0", func := "fourwatch/fourwatchtop.TopWithin", spec := "topWithin", inPlace := ["math/bits.Add64"], unfollowed := true, recurses := true, named := ["math/bits.divideError", "math/bits.overflowError"], apart := false }
def TopWithinSaid : Prop := topWithinRow.holds Tryz.pinned (OpenSpec.ofChange topWithinSpec)

/-- ITS FALSE NEIGHBOUR: 'it returns false'. Refute it at one input. -/
def topWithinWrong : ChangeSpec := { name := "topWithin", fn := fun _ => fun
  | [d1, d2, d3] => { results := [.lit (.bool false)], args := [d1, d2, d3] }
  | _ => none }
def TopWithinWrongFalsely : Prop := topWithinRow.holds Tryz.pinned (OpenSpec.ofChange topWithinWrong)

/-- 'fourwatchtop.TopIn': WHATEVER THE INPUT: true; the input reads as it did. -/
def topInSpec : ChangeSpec := { name := "topIn", fn := fun _ => fun
  | [d1, d2, d3] => { results := [.lit (.bool true)], args := [d1, d2, d3] }
  | _ => none }
def topInRow : OpenClaim := { program := "ytdhblehhgpdpdabgreat", sum := "12843889180f60eabe44b722db486d9f439002d7680a904846e345ef752875b0", func := "fourwatch/fourwatchtop.TopIn", spec := "topIn", inPlace := ["math/bits.Add64"], unfollowed := true, recurses := true, named := ["math/bits.divideError", "math/bits.overflowError"], apart := false }
def TopInSaid : Prop := topInRow.holds Tryz.pinned (OpenSpec.ofChange topInSpec)

/-- ITS FALSE NEIGHBOUR: 'it returns false'. Refute it at one input. -/
def topInWrong : ChangeSpec := { name := "topIn", fn := fun _ => fun
  | [d1, d2, d3] => { results := [.lit (.bool false)], args := [d1, d2, d3] }
  | _ => none }
def TopInWrongFalsely : Prop := topInRow.holds Tryz.pinned (OpenSpec.ofChange topInWrong)

/-- 'fourwatchtop.TopReports': WHATEVER THE INPUT: true; the input reads as it did. -/
def topReportsSpec : ChangeSpec := { name := "topReports", fn := fun _ => fun
  | [d1, d2, d3] => { results := [.lit (.bool true)], args := [d1, d2, d3] }
  | _ => none }
def topReportsRow : OpenClaim := { program := "ytdhblehhgpdpdabgreat", sum := "12843889180f60eabe44b722db486d9f439002d7680a904846e345ef752875b0", func := "fourwatch/fourwatchtop.TopReports", spec := "topReports", inPlace := ["math/bits.Add64"], unfollowed := true, recurses := true, named := ["math/bits.divideError", "math/bits.overflowError"], apart := false }
def TopReportsSaid : Prop := topReportsRow.holds Tryz.pinned (OpenSpec.ofChange topReportsSpec)

/-- ITS FALSE NEIGHBOUR: 'it returns false'. Refute it at one input. -/
def topReportsWrong : ChangeSpec := { name := "topReports", fn := fun _ => fun
  | [d1, d2, d3] => { results := [.lit (.bool false)], args := [d1, d2, d3] }
  | _ => none }
def TopReportsWrongFalsely : Prop := topReportsRow.holds Tryz.pinned (OpenSpec.ofChange topReportsWrong)

/-- 'fourwatchtop.TopFollows': WHATEVER THE INPUT: true; the input reads as it did. -/
def topFollowsSpec : ChangeSpec := { name := "topFollows", fn := fun _ => fun
  | [d1, d2, d3] => { results := [.lit (.bool true)], args := [d1, d2, d3] }
  | _ => none }
def topFollowsRow : OpenClaim := { program := "ytdhblehhgpdpdabgreat", sum := "12843889180f60eabe44b722db486d9f439002d7680a904846e345ef752875b0", func := "fourwatch/fourwatchtop.TopFollows", spec := "topFollows", inPlace := ["math/bits.Add64"], unfollowed := true, recurses := true, named := ["math/bits.divideError", "math/bits.overflowError"], apart := false }
def TopFollowsSaid : Prop := topFollowsRow.holds Tryz.pinned (OpenSpec.ofChange topFollowsSpec)

/-- ITS FALSE NEIGHBOUR: 'it returns false'. Refute it at one input. -/
def topFollowsWrong : ChangeSpec := { name := "topFollows", fn := fun _ => fun
  | [d1, d2, d3] => { results := [.lit (.bool false)], args := [d1, d2, d3] }
  | _ => none }
def TopFollowsWrongFalsely : Prop := topFollowsRow.holds Tryz.pinned (OpenSpec.ofChange topFollowsWrong)

/-- 'fourwatchtop.TopPlain': WHATEVER THE INPUT: true; the input reads as it did. -/
def topPlainSpec : ChangeSpec := { name := "topPlain", fn := fun _ => fun
  | [d1, d2] => { results := [.lit (.bool true)], args := [d1, d2] }
  | _ => none }
def topPlainRow : OpenClaim := { program := "ytdhblehhgpdpdabgreat", sum := "12843889180f60eabe44b722db486d9f439002d7680a904846e345ef752875b0", func := "fourwatch/fourwatchtop.TopPlain", spec := "topPlain", inPlace := ["math/bits.Add64"], unfollowed := true, recurses := true, named := ["math/bits.divideError", "math/bits.overflowError"], apart := false }
def TopPlainSaid : Prop := topPlainRow.holds Tryz.pinned (OpenSpec.ofChange topPlainSpec)

/-- ITS FALSE NEIGHBOUR: 'it returns false'. Refute it at one input. -/
def topPlainWrong : ChangeSpec := { name := "topPlain", fn := fun _ => fun
  | [d1, d2] => { results := [.lit (.bool false)], args := [d1, d2] }
  | _ => none }
def TopPlainWrongFalsely : Prop := topPlainRow.holds Tryz.pinned (OpenSpec.ofChange topPlainWrong)

/- THE SECOND FORM. 'bulk': how many values and letters a reading holds, each counted each time it is reached (what is shared counts as often as it is met; a slice's spare places count too). A statement '..UptoSaid' is the law's where the arguments, and the package variables that the reading takes, are together of bulk at most 1048576: NARROWER than '..Said'. Prove '..Said' where nothing that the law and all that it calls make is longer than what came in: it says more and counts as full. Else prove '..UptoSaid'. A law counts once. -/
mutual
def uptoBulk {H : Type} : DataW H → Nat
  | .lit (.string bytes) => bytes.length + 1
  | .lit _ => 1
  | .nil => 1
  | .ptr d => uptoBulk d + 1
  | .slice elems spare => uptoBulkAll elems + uptoBulkAll spare + 1
  | .agg parts => uptoBulkAll parts + 1
  | .iface _ d => uptoBulk d + 1
  | .map entries => uptoBulkEntries entries + 1
  | .held _ => 1
def uptoBulkAll {H : Type} : List (DataW H) → Nat
  | [] => 0
  | d :: r => uptoBulk d + uptoBulkAll r
def uptoBulkEntries {H : Type} : List (Lit × DataW H) → Nat
  | [] => 0
  | x :: r => uptoBulkEntry x + uptoBulkEntries r
def uptoBulkEntry {H : Type} : Lit × DataW H → Nat
  | (.string bytes, d) => bytes.length + uptoBulk d + 1
  | (_, d) => uptoBulk d + 1
 end
def uptoSmall : (H : Type) → List (DataW H) → Bool := fun _ ds => decide (uptoBulkAll ds ≤ 1048576)
def OpenSpec.upto (s : _root_.Go.ChangeSpec) : _root_.Go.OpenSpec := { _root_.Go.OpenSpec.ofChange s with cond := some uptoSmall }

/-- 'fourwatchtop.TopTrue', WHERE WHAT IT READS IS OF BULK AT MOST 1048576: true; the input reads as it did. -/
def topTrueUptoRow : OpenClaim := { program := "ytdhblehhgpdpdabgreat", sum := "12843889180f60eabe44b722db486d9f439002d7680a904846e345ef752875b0", func := "fourwatch/fourwatchtop.TopTrue", spec := "topTrue", inPlace := ["math/bits.Add64"], unfollowed := true, recurses := true, named := ["math/bits.divideError", "math/bits.overflowError"], apart := false, narrowed := true }
def TopTrueUptoSaid : Prop := topTrueUptoRow.holds Tryz.pinned (OpenSpec.upto topTrueSpec)

/-- 'fourwatchtop.TopWithin', WHERE WHAT IT READS IS OF BULK AT MOST 1048576: true; the input reads as it did. -/
def topWithinUptoRow : OpenClaim := { program := "ytdhblehhgpdpdabgreat", sum := "12843889180f60eabe44b722db486d9f439002d7680a904846e345ef752875b0", func := "fourwatch/fourwatchtop.TopWithin", spec := "topWithin", inPlace := ["math/bits.Add64"], unfollowed := true, recurses := true, named := ["math/bits.divideError", "math/bits.overflowError"], apart := false, narrowed := true }
def TopWithinUptoSaid : Prop := topWithinUptoRow.holds Tryz.pinned (OpenSpec.upto topWithinSpec)

/-- 'fourwatchtop.TopIn', WHERE WHAT IT READS IS OF BULK AT MOST 1048576: true; the input reads as it did. -/
def topInUptoRow : OpenClaim := { program := "ytdhblehhgpdpdabgreat", sum := "12843889180f60eabe44b722db486d9f439002d7680a904846e345ef752875b0", func := "fourwatch/fourwatchtop.TopIn", spec := "topIn", inPlace := ["math/bits.Add64"], unfollowed := true, recurses := true, named := ["math/bits.divideError", "math/bits.overflowError"], apart := false, narrowed := true }
def TopInUptoSaid : Prop := topInUptoRow.holds Tryz.pinned (OpenSpec.upto topInSpec)

/-- 'fourwatchtop.TopReports', WHERE WHAT IT READS IS OF BULK AT MOST 1048576: true; the input reads as it did. -/
def topReportsUptoRow : OpenClaim := { program := "ytdhblehhgpdpdabgreat", sum := "12843889180f60eabe44b722db486d9f439002d7680a904846e345ef752875b0", func := "fourwatch/fourwatchtop.TopReports", spec := "topReports", inPlace := ["math/bits.Add64"], unfollowed := true, recurses := true, named := ["math/bits.divideError", "math/bits.overflowError"], apart := false, narrowed := true }
def TopReportsUptoSaid : Prop := topReportsUptoRow.holds Tryz.pinned (OpenSpec.upto topReportsSpec)

/-- 'fourwatchtop.TopFollows', WHERE WHAT IT READS IS OF BULK AT MOST 1048576: true; the input reads as it did. -/
def topFollowsUptoRow : OpenClaim := { program := "ytdhblehhgpdpdabgreat", sum := "12843889180f60eabe44b722db486d9f439002d7680a904846e345ef752875b0", func := "fourwatch/fourwatchtop.TopFollows", spec := "topFollows", inPlace := ["math/bits.Add64"], unfollowed := true, recurses := true, named := ["math/bits.divideError", "math/bits.overflowError"], apart := false, narrowed := true }
def TopFollowsUptoSaid : Prop := topFollowsUptoRow.holds Tryz.pinned (OpenSpec.upto topFollowsSpec)

/-- 'fourwatchtop.TopPlain', WHERE WHAT IT READS IS OF BULK AT MOST 1048576: true; the input reads as it did. -/
def topPlainUptoRow : OpenClaim := { program := "ytdhblehhgpdpdabgreat", sum := "12843889180f60eabe44b722db486d9f439002d7680a904846e345ef752875b0", func := "fourwatch/fourwatchtop.TopPlain", spec := "topPlain", inPlace := ["math/bits.Add64"], unfollowed := true, recurses := true, named := ["math/bits.divideError", "math/bits.overflowError"], apart := false, narrowed := true }
def TopPlainUptoSaid : Prop := topPlainUptoRow.holds Tryz.pinned (OpenSpec.upto topPlainSpec)

end Rows
end Go.Proofs.YtdhblehhgpdpdabGreat
