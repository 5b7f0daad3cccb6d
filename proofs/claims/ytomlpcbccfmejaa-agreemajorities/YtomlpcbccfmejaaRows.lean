/-
  No cell of these rows narrows 'for every input' (looked for: loops, veiled, ifaces, maps, wideKeys, modest, calm, conditions, laid).
  DERIVED. THE GIVEN ROWS OF THIS SEAT. 6 by the template 'for every input the law returns true; each argument reads behind the call as it read before'; 0 by the template 'total and deterministic' (their statements: YtomlpcbccfmejaaTotals.lean).
  GIVEN WITH THE SEED: the statements are not yours to turn. If you find one false, say at which input.
  Laid BY PROGRAM, IN A SANDBOX (cutbox-rows.mjs): the forced cells as the released guide's own fill.sh prints them over the translation 951d819d1255d588… (all of the seat's roots in one cut). By AI agents, Wed Nov 11 2026. No macro, syntax, notation, axiom, sorry.
-/
import Derived.Test.YtomlpcbccfmejaaChecked
import GoSem.Claim
import GoSem.ClaimJoined
import GoSem.ClaimMapViews
import Derived.JoinedTies
import Derived.KernelRfl
namespace Go.Proofs.Ytomlpcbccfmejaa
/- THE CELL 'sum', in the pinned program and in every row, IS THE sha256 OF THE DUMP (.gsa) THAT YtomlpcbccfmejaaProg.lean LOADS. Nothing in Lean hashes anything: it is a label: what it is worth is what the hold of that sum in a sandbox is worth. -/
noncomputable def Try.pinned : Pinned := { name := "ytomlpcbccfmejaa", sum := "951d819d1255d5888dc2b6be71b27a7f8b317d3c2172b2cc470de185ec1b0af9", checked := Try.checked }
namespace Rows
def none {H : Type} : Left H := { results := [], args := [] }

/-- 'fourwatchlaw.AgreeMajorities': WHATEVER THE INPUT: true; the input reads as it did. -/
def agreeMajoritiesSpec : ChangeSpec := { name := "agreeMajorities", fn := fun _ => fun
  | [d1, d2] => { results := [.lit (.bool true)], args := [d1, d2] }
  | _ => none }
def agreeMajoritiesRow : OpenClaim := { program := "ytomlpcbccfmejaa", sum := "951d819d1255d5888dc2b6be71b27a7f8b317d3c2172b2cc470de185ec1b0af9", func := "fourwatch/fourwatchlaw.AgreeMajorities", spec := "agreeMajorities", apart := false }
def AgreeMajoritiesSaid : Prop := agreeMajoritiesRow.holds Try.pinned (OpenSpec.ofChange agreeMajoritiesSpec)

/-- ITS FALSE NEIGHBOUR: 'it returns false'. Refute it at one input. -/
def agreeMajoritiesWrong : ChangeSpec := { name := "agreeMajorities", fn := fun _ => fun
  | [d1, d2] => { results := [.lit (.bool false)], args := [d1, d2] }
  | _ => none }
def AgreeMajoritiesWrongFalsely : Prop := agreeMajoritiesRow.holds Try.pinned (OpenSpec.ofChange agreeMajoritiesWrong)

/-- 'fourwatchlaw.AgreeDecides': WHATEVER THE INPUT: true; the input reads as it did. -/
def agreeDecidesSpec : ChangeSpec := { name := "agreeDecides", fn := fun _ => fun
  | [d1, d2, d3] => { results := [.lit (.bool true)], args := [d1, d2, d3] }
  | _ => none }
def agreeDecidesRow : OpenClaim := { program := "ytomlpcbccfmejaa", sum := "951d819d1255d5888dc2b6be71b27a7f8b317d3c2172b2cc470de185ec1b0af9", func := "fourwatch/fourwatchlaw.AgreeDecides", spec := "agreeDecides", apart := false }
def AgreeDecidesSaid : Prop := agreeDecidesRow.holds Try.pinned (OpenSpec.ofChange agreeDecidesSpec)

/-- ITS FALSE NEIGHBOUR: 'it returns false'. Refute it at one input. -/
def agreeDecidesWrong : ChangeSpec := { name := "agreeDecides", fn := fun _ => fun
  | [d1, d2, d3] => { results := [.lit (.bool false)], args := [d1, d2, d3] }
  | _ => none }
def AgreeDecidesWrongFalsely : Prop := agreeDecidesRow.holds Try.pinned (OpenSpec.ofChange agreeDecidesWrong)

/-- 'fourwatchlaw.AgreeVectors': WHATEVER THE INPUT: true; the input reads as it did. -/
def agreeVectorsSpec : ChangeSpec := { name := "agreeVectors", fn := fun _ => fun
  | [d1, d2, d3] => { results := [.lit (.bool true)], args := [d1, d2, d3] }
  | _ => none }
def agreeVectorsRow : OpenClaim := { program := "ytomlpcbccfmejaa", sum := "951d819d1255d5888dc2b6be71b27a7f8b317d3c2172b2cc470de185ec1b0af9", func := "fourwatch/fourwatchlaw.AgreeVectors", spec := "agreeVectors", unfollowed := true, recurses := true, apart := false }
def AgreeVectorsSaid : Prop := agreeVectorsRow.holds Try.pinned (OpenSpec.ofChange agreeVectorsSpec)

/-- ITS FALSE NEIGHBOUR: 'it returns false'. Refute it at one input. -/
def agreeVectorsWrong : ChangeSpec := { name := "agreeVectors", fn := fun _ => fun
  | [d1, d2, d3] => { results := [.lit (.bool false)], args := [d1, d2, d3] }
  | _ => none }
def AgreeVectorsWrongFalsely : Prop := agreeVectorsRow.holds Try.pinned (OpenSpec.ofChange agreeVectorsWrong)

/-- 'fourwatchkeep.MajorityOrder': WHATEVER THE INPUT: true; the input reads as it did. -/
def majorityOrderSpec : ChangeSpec := { name := "majorityOrder", fn := fun _ => fun
  | [d1, d2, d3] => { results := [.lit (.bool true)], args := [d1, d2, d3] }
  | _ => none }
def majorityOrderRow : OpenClaim := { program := "ytomlpcbccfmejaa", sum := "951d819d1255d5888dc2b6be71b27a7f8b317d3c2172b2cc470de185ec1b0af9", func := "fourwatch/fourwatchkeep.MajorityOrder", spec := "majorityOrder", apart := false }
def MajorityOrderSaid : Prop := majorityOrderRow.holds Try.pinned (OpenSpec.ofChange majorityOrderSpec)

/-- ITS FALSE NEIGHBOUR: 'it returns false'. Refute it at one input. -/
def majorityOrderWrong : ChangeSpec := { name := "majorityOrder", fn := fun _ => fun
  | [d1, d2, d3] => { results := [.lit (.bool false)], args := [d1, d2, d3] }
  | _ => none }
def MajorityOrderWrongFalsely : Prop := majorityOrderRow.holds Try.pinned (OpenSpec.ofChange majorityOrderWrong)

/-- 'fourwatchkeep.AgreeSame': WHATEVER THE INPUT: true; the input reads as it did. -/
def agreeSameSpec : ChangeSpec := { name := "agreeSame", fn := fun _ => fun
  | [d1, d2, d3] => { results := [.lit (.bool true)], args := [d1, d2, d3] }
  | _ => none }
def agreeSameRow : OpenClaim := { program := "ytomlpcbccfmejaa", sum := "951d819d1255d5888dc2b6be71b27a7f8b317d3c2172b2cc470de185ec1b0af9", func := "fourwatch/fourwatchkeep.AgreeSame", spec := "agreeSame", apart := false }
def AgreeSameSaid : Prop := agreeSameRow.holds Try.pinned (OpenSpec.ofChange agreeSameSpec)

/-- ITS FALSE NEIGHBOUR: 'it returns false'. Refute it at one input. -/
def agreeSameWrong : ChangeSpec := { name := "agreeSame", fn := fun _ => fun
  | [d1, d2, d3] => { results := [.lit (.bool false)], args := [d1, d2, d3] }
  | _ => none }
def AgreeSameWrongFalsely : Prop := agreeSameRow.holds Try.pinned (OpenSpec.ofChange agreeSameWrong)

/-- 'fourwatchkeep.AgreeTrue': WHATEVER THE INPUT: true; the input reads as it did. -/
def agreeTrueSpec : ChangeSpec := { name := "agreeTrue", fn := fun _ => fun
  | [d1, d2, d3] => { results := [.lit (.bool true)], args := [d1, d2, d3] }
  | _ => none }
def agreeTrueRow : OpenClaim := { program := "ytomlpcbccfmejaa", sum := "951d819d1255d5888dc2b6be71b27a7f8b317d3c2172b2cc470de185ec1b0af9", func := "fourwatch/fourwatchkeep.AgreeTrue", spec := "agreeTrue", apart := false }
def AgreeTrueSaid : Prop := agreeTrueRow.holds Try.pinned (OpenSpec.ofChange agreeTrueSpec)

/-- ITS FALSE NEIGHBOUR: 'it returns false'. Refute it at one input. -/
def agreeTrueWrong : ChangeSpec := { name := "agreeTrue", fn := fun _ => fun
  | [d1, d2, d3] => { results := [.lit (.bool false)], args := [d1, d2, d3] }
  | _ => none }
def AgreeTrueWrongFalsely : Prop := agreeTrueRow.holds Try.pinned (OpenSpec.ofChange agreeTrueWrong)

/- THE SECOND FORM. 'bulk': how many values and letters a reading holds, each counted each time it is reached (what is shared counts as often as it is met; a slice's spare places count too). A statement '..UptoSaid' is the law's where the arguments, and the package variables that the reading takes, are together of bulk at most 1048576: NARROWER than '..Said'. Prove '..Said' where nothing that the law and all that it calls make is longer than what came in: it says more and counts as full. Else prove '..UptoSaid'. A law counts once. -/
mutual
def uptoBulk {H : Type} : DataW H → Nat
  | .lit (.string bytes) => bytes.length + 1
  | .lit _ => 1
  | .nil => 1
  | .ptr d => uptoBulk d + 1
  | .slice elems spare => uptoBulkAll elems + uptoBulkAll spare + 1
  | .agg parts => uptoBulkAll parts + 1
  | .iface _ d => uptoBulk d + 1
  | .map entries => uptoBulkEntries entries + 1
  | .held _ => 1
def uptoBulkAll {H : Type} : List (DataW H) → Nat
  | [] => 0
  | d :: r => uptoBulk d + uptoBulkAll r
def uptoBulkEntries {H : Type} : List (Lit × DataW H) → Nat
  | [] => 0
  | x :: r => uptoBulkEntry x + uptoBulkEntries r
def uptoBulkEntry {H : Type} : Lit × DataW H → Nat
  | (.string bytes, d) => bytes.length + uptoBulk d + 1
  | (_, d) => uptoBulk d + 1
 end
def uptoSmall : (H : Type) → List (DataW H) → Bool := fun _ ds => decide (uptoBulkAll ds ≤ 1048576)
def OpenSpec.upto (s : _root_.Go.ChangeSpec) : _root_.Go.OpenSpec := { _root_.Go.OpenSpec.ofChange s with cond := some uptoSmall }

/-- 'fourwatchlaw.AgreeMajorities', WHERE WHAT IT READS IS OF BULK AT MOST 1048576: true; the input reads as it did. -/
def agreeMajoritiesUptoRow : OpenClaim := { program := "ytomlpcbccfmejaa", sum := "951d819d1255d5888dc2b6be71b27a7f8b317d3c2172b2cc470de185ec1b0af9", func := "fourwatch/fourwatchlaw.AgreeMajorities", spec := "agreeMajorities", apart := false, narrowed := true }
def AgreeMajoritiesUptoSaid : Prop := agreeMajoritiesUptoRow.holds Try.pinned (OpenSpec.upto agreeMajoritiesSpec)

/-- 'fourwatchlaw.AgreeDecides', WHERE WHAT IT READS IS OF BULK AT MOST 1048576: true; the input reads as it did. -/
def agreeDecidesUptoRow : OpenClaim := { program := "ytomlpcbccfmejaa", sum := "951d819d1255d5888dc2b6be71b27a7f8b317d3c2172b2cc470de185ec1b0af9", func := "fourwatch/fourwatchlaw.AgreeDecides", spec := "agreeDecides", apart := false, narrowed := true }
def AgreeDecidesUptoSaid : Prop := agreeDecidesUptoRow.holds Try.pinned (OpenSpec.upto agreeDecidesSpec)

/-- 'fourwatchlaw.AgreeVectors', WHERE WHAT IT READS IS OF BULK AT MOST 1048576: true; the input reads as it did. -/
def agreeVectorsUptoRow : OpenClaim := { program := "ytomlpcbccfmejaa", sum := "951d819d1255d5888dc2b6be71b27a7f8b317d3c2172b2cc470de185ec1b0af9", func := "fourwatch/fourwatchlaw.AgreeVectors", spec := "agreeVectors", unfollowed := true, recurses := true, apart := false, narrowed := true }
def AgreeVectorsUptoSaid : Prop := agreeVectorsUptoRow.holds Try.pinned (OpenSpec.upto agreeVectorsSpec)

/-- 'fourwatchkeep.MajorityOrder', WHERE WHAT IT READS IS OF BULK AT MOST 1048576: true; the input reads as it did. -/
def majorityOrderUptoRow : OpenClaim := { program := "ytomlpcbccfmejaa", sum := "951d819d1255d5888dc2b6be71b27a7f8b317d3c2172b2cc470de185ec1b0af9", func := "fourwatch/fourwatchkeep.MajorityOrder", spec := "majorityOrder", apart := false, narrowed := true }
def MajorityOrderUptoSaid : Prop := majorityOrderUptoRow.holds Try.pinned (OpenSpec.upto majorityOrderSpec)

/-- 'fourwatchkeep.AgreeSame', WHERE WHAT IT READS IS OF BULK AT MOST 1048576: true; the input reads as it did. -/
def agreeSameUptoRow : OpenClaim := { program := "ytomlpcbccfmejaa", sum := "951d819d1255d5888dc2b6be71b27a7f8b317d3c2172b2cc470de185ec1b0af9", func := "fourwatch/fourwatchkeep.AgreeSame", spec := "agreeSame", apart := false, narrowed := true }
def AgreeSameUptoSaid : Prop := agreeSameUptoRow.holds Try.pinned (OpenSpec.upto agreeSameSpec)

/-- 'fourwatchkeep.AgreeTrue', WHERE WHAT IT READS IS OF BULK AT MOST 1048576: true; the input reads as it did. -/
def agreeTrueUptoRow : OpenClaim := { program := "ytomlpcbccfmejaa", sum := "951d819d1255d5888dc2b6be71b27a7f8b317d3c2172b2cc470de185ec1b0af9", func := "fourwatch/fourwatchkeep.AgreeTrue", spec := "agreeTrue", apart := false, narrowed := true }
def AgreeTrueUptoSaid : Prop := agreeTrueUptoRow.holds Try.pinned (OpenSpec.upto agreeTrueSpec)

end Rows
end Go.Proofs.Ytomlpcbccfmejaa
