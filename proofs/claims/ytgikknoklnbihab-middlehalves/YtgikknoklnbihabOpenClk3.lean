/- Three numbers among a statement's arguments, opened. -/
import Derived.Test.YtgikknoklnbihabOpenFour
import Derived.Test.YtgikknoklnbihabLawsC5
namespace Go.Proofs.Ytgikknoklnbihab
open Go.ChangeShapes Go.WideShapes Go.ChangeAt Go.RowKit Go.Joins

theorem cellsThree : Try.prog.cellsOf 30 = 3 := by kernel_rfl
section
variable {H : Type} {enc : TypeId × Value → H} {w : World} {base : Nat} {spare : Nat → Bool} {held : Bool}
theorem open_three {r : Reach} {b0 : Nat} {v : Value} {d : DataW H} {p : List MemPlace} (hv : Value.okWide Try.prog w r b0 30 v) (h : DataW.Trod enc Try.prog w base spare held 30 v d p) :
    ∃ f, v = threeV f ∧ ∀ i, R64 (f i) := by
  obtain ⟨cs, rfl, hsz⟩ := okWide_four Try.underlying30 hv
  obtain ⟨c0, c1, c2, rfl⟩ := array_three (hsz.trans cellsThree)
  obtain ⟨fuel, hf⟩ := h
  have hf' : DataW.trod enc Try.prog w base spare held fuel 30 [c0, c1, c2] = some (d, p) := hf
  obtain ⟨y0, y1, y2, m, _, h0, h1, h2⟩ := trod_array3 Try.underlying30 cellsInt1 hf'
  obtain ⟨x0, e0, _, w0⟩ := DataW.trod_int Try.underlying3 h0
  obtain ⟨x1, e1, _, w1⟩ := DataW.trod_int Try.underlying3 h1
  obtain ⟨x2, e2, _, w2⟩ := DataW.trod_int Try.underlying3 h2
  simp at e0 e1 e2
  subst e0 e1 e2
  exact ⟨l4F x0 x1 x2 0, rfl, l4_R (R64.of_wf w0) (R64.of_wf w1) (R64.of_wf w2) R64_nought⟩
end

end Go.Proofs.Ytgikknoklnbihab
