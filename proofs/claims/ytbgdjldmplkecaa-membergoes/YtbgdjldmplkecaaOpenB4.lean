/- Four truth values among a statement's arguments, opened. -/
import Derived.Test.YtbgdjldmplkecaaOpenFour
import Derived.Test.YtbgdjldmplkecaaVotOK
namespace Go.Proofs.Ytbgdjldmplkecaa
open Go.ChangeShapes Go.WideShapes Go.ChangeAt Go.RowKit Go.Joins

theorem cellsBool1 : Try.prog.cellsOf 4 = 1 := by kernel_rfl
theorem cellsB4 : Try.prog.cellsOf 22 = 4 := by kernel_rfl
/-- Four truth values as a function. -/
def fnB (x0 x1 x2 x3 : Bool) (i : Nat) : Bool := if i = 0 then x0 else if i = 1 then x1 else if i = 2 then x2 else x3
section
variable {H : Type} {enc : TypeId × Value → H} {w : World} {base : Nat} {spare : Nat → Bool} {held : Bool}
theorem open_bools {r : Reach} {b0 : Nat} {v : Value} {d : DataW H} {p : List MemPlace} (hv : Value.okWide Try.prog w r b0 22 v) (h : DataW.Trod enc Try.prog w base spare held 22 v d p) :
    ∃ f, v = boolV f := by
  obtain ⟨cs, rfl, hsz⟩ := okWide_four Try.underlying22 hv
  obtain ⟨c0, c1, c2, c3, rfl⟩ := array_four (hsz.trans cellsB4)
  obtain ⟨fuel, hf⟩ := h
  have hf' : DataW.trod enc Try.prog w base spare held fuel 22 [c0, c1, c2, c3] = some (d, p) := hf
  obtain ⟨y0, y1, y2, y3, m, _, h0, h1, h2, h3⟩ := trod_array4 Try.underlying22 cellsBool1 hf'
  obtain ⟨x0, e0, _⟩ := DataW.trod_bool Try.underlying4 h0
  obtain ⟨x1, e1, _⟩ := DataW.trod_bool Try.underlying4 h1
  obtain ⟨x2, e2, _⟩ := DataW.trod_bool Try.underlying4 h2
  obtain ⟨x3, e3, _⟩ := DataW.trod_bool Try.underlying4 h3
  simp at e0 e1 e2 e3
  subst e0 e1 e2 e3
  exact ⟨fnB x0 x1 x2 x3, rfl⟩
end

end Go.Proofs.Ytbgdjldmplkecaa
