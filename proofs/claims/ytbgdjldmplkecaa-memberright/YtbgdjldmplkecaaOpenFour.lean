/- Four numbers among a statement's arguments, opened. -/
import Derived.Test.YtbgdjldmplkecaaRows
import Derived.Test.YtbgdjldmplkecaaClkOK
import Derived.Lib.SmallJoins
import Derived.OpenShut
import Derived.SizedLaws
import Derived.Laws.IdiomArrays
namespace Go.Proofs.Ytbgdjldmplkecaa
open Go.ChangeShapes Go.WideShapes Go.ChangeAt Go.RowKit Go.Joins

theorem cellsInt1 : Try.prog.cellsOf 3 = 1 := by kernel_rfl
theorem array_four {α : Type} {cs : Array α} (h : cs.size = 4) : ∃ c0 c1 c2 c3, cs = #[c0, c1, c2, c3] := by
  obtain ⟨l⟩ := cs
  match l, h with
  | [c0, c1, c2, c3], _ => exact ⟨c0, c1, c2, c3, rfl⟩
theorem array_three {α : Type} {cs : Array α} (h : cs.size = 3) : ∃ c0 c1 c2, cs = #[c0, c1, c2] := by
  obtain ⟨l⟩ := cs
  match l, h with
  | [c0, c1, c2], _ => exact ⟨c0, c1, c2, rfl⟩

section
variable {H : Type} {enc : TypeId × Value → H} {w : World} {base : Nat} {spare : Nat → Bool} {held : Bool}

theorem okWide_four {t e : TypeId} {n : Nat} {P : Program} {r : Reach} {b0 : Nat} {v : Value} (ht : P.underlying t = some (.array n e)) (h : Value.okWide P w r b0 t v) : ∃ cs, v = .agg cs ∧ cs.size = P.cellsOf t := by
  simp only [Value.okWide, ht] at h
  obtain ⟨cs, h1, h2, _⟩ := h
  exact ⟨cs, h1, h2⟩
theorem cellsFour : Try.prog.cellsOf 23 = 4 := by kernel_rfl
/-- Four numbers as a function. -/
def fnF (x0 x1 x2 x3 : Int) (i : Nat) : Int := if i = 0 then x0 else if i = 1 then x1 else if i = 2 then x2 else x3
theorem fnF_R {x0 x1 x2 x3 : Int} (h0 : R64 x0) (h1 : R64 x1) (h2 : R64 x2) (h3 : R64 x3) (i : Nat) : R64 (fnF x0 x1 x2 x3 i) := by unfold fnF; split; exact h0; split; exact h1; split; exact h2; exact h3
theorem open_four {r : Reach} {b0 : Nat} {v : Value} {d : DataW H} {p : List MemPlace} (hv : Value.okWide Try.prog w r b0 23 v) (h : DataW.Trod enc Try.prog w base spare held 23 v d p) :
    ∃ f, v = fourV f ∧ ∀ i, R64 (f i) := by
  obtain ⟨cs, rfl, hsz⟩ := okWide_four Try.underlying23 hv
  obtain ⟨c0, c1, c2, c3, rfl⟩ := array_four (hsz.trans cellsFour)
  obtain ⟨fuel, hf⟩ := h
  have hf' : DataW.trod enc Try.prog w base spare held fuel 23 [c0, c1, c2, c3] = some (d, p) := hf
  obtain ⟨y0, y1, y2, y3, m, _, h0, h1, h2, h3⟩ := trod_array4 Try.underlying23 cellsInt1 hf'
  obtain ⟨x0, e0, _, w0⟩ := DataW.trod_int Try.underlying3 h0
  obtain ⟨x1, e1, _, w1⟩ := DataW.trod_int Try.underlying3 h1
  obtain ⟨x2, e2, _, w2⟩ := DataW.trod_int Try.underlying3 h2
  obtain ⟨x3, e3, _, w3⟩ := DataW.trod_int Try.underlying3 h3
  simp at e0 e1 e2 e3
  subst e0 e1 e2 e3
  exact ⟨fnF x0 x1 x2 x3, rfl, fnF_R (R64.of_wf w0) (R64.of_wf w1) (R64.of_wf w2) (R64.of_wf w3)⟩
end

end Go.Proofs.Ytbgdjldmplkecaa
