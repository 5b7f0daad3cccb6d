/- Numbers among a statement's arguments, opened, their room too. -/
import Derived.Test.YtnfejfdekedmhacOpenMat
namespace Go.Proofs.Ytnfejfdekedmhac
open Go.ChangeShapes Go.WideShapes Go.ChangeAt Go.RowKit Go.Joins

section
variable {H : Type} {enc : TypeId × Value → H} {w : World} {base : Nat} {held : Bool}
set_option maxRecDepth 100000 in
theorem open_rowRoom {r : Reach} {b0 : Nat} {v : Value} {d : DataW H} {p : List MemPlace} (hv : Value.okWide Try.prog w r b0 22 v) (h : DataW.Trod enc Try.prog w base (fun _ => true) held 22 v d p) (hsz : ∀ n ∈ d.weights Try.prog 22, n ≤ reachBytes) :
    ∃ ao len cap f, v = .slice ao len cap ∧ ArgS w ao len cap f ∧ len ≤ cap := by
  obtain ⟨ao, len, cap, f, rfl, ha⟩ := open_rowArg hv h hsz
  refine ⟨ao, len, cap, f, rfl, ha, ?_⟩
  obtain ⟨fuel, hf⟩ := h
  have hf' : DataW.trod enc Try.prog w base (fun _ => true) held fuel 22 [.slice ao len cap] = some (d, p) := hf
  rcases open_ints Try.underlying22 Try.underlying3 cellsInt hf' with ⟨hcs, _⟩ | ⟨a, l, c, zs, hcs, _, hl, _⟩
  · simp at hcs
    omega
  · simp at hcs
    omega
end

end Go.Proofs.Ytnfejfdekedmhac
