/- A clock among a statement's arguments, opened. -/
import Derived.Test.YtgikknoklnbihaaRows
import Derived.Test.YtgikknoklnbihaaClkOK
import Derived.Lib.SmallJoins
import Derived.OpenShut
import Derived.SizedLaws
import Derived.Laws.IdiomArrays
namespace Go.Proofs.Ytgikknoklnbihaa
open Go.ChangeShapes Go.WideShapes Go.ChangeAt Go.RowKit Go.Joins

theorem cellsClock : Try.prog.cellsOf 23 = 2 := by kernel_rfl
section
variable {H : Type} {enc : TypeId × Value → H} {w : World} {base : Nat} {spare : Nat → Bool} {held : Bool}

theorem open_clock {r : Reach} {b0 : Nat} {v : Value} {d : DataW H} {p : List MemPlace} (hv : Value.okWide Try.prog w r b0 23 v) (h : DataW.Trod enc Try.prog w base spare held 23 v d p) :
    ∃ O R, v = ckV O R ∧ R64 O ∧ R64 R := by
  obtain ⟨c0, c1, y0, y1, m, rfl, rfl, rfl, hy0, hy1⟩ := open_agg2 Try.underlying23 (by kernel_rfl) cellsClock hv h
  obtain ⟨O, e0, _, w0⟩ := DataW.trod_int Try.underlying3 hy0
  obtain ⟨R, e1, _, w1⟩ := DataW.trod_int Try.underlying3 hy1
  simp at e0 e1
  subst e0 e1
  exact ⟨O, R, rfl, R64.of_wf w0, R64.of_wf w1⟩
end

end Go.Proofs.Ytgikknoklnbihaa
