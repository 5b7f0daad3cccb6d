/- A message among a statement's arguments, opened. -/
import Derived.Test.YtnbpkidjojgghaaRows
import Derived.Test.YtnbpkidjojgghaaNear6
import Derived.Test.YtnbpkidjojgghaaOpenRow
namespace Go.Proofs.Ytnbpkidjojgghaa
open Go.ChangeShapes Go.WideShapes Go.ChangeAt Go.RowKit Go.Joins

theorem cellsMsg : Try.prog.cellsOf 24 = 4 := by kernel_rfl

section
variable {H : Type} {enc : TypeId × Value → H} {w : World} {base : Nat} {held : Bool}

set_option maxRecDepth 100000 in
theorem open_msgArg {r : Reach} {b0 : Nat} {v : Value} {d : DataW H} {p : List MemPlace} (hv : Value.okWide Try.prog w r b0 24 v) (h : DataW.Trod enc Try.prog w base (fun _ => true) held 24 v d p) (hsz : ∀ n ∈ d.weights Try.prog 24, n ≤ reachBytes) :
    ∃ K F R ao len cap f, v = msV K F R (.slice ao len cap) ∧ R64 K ∧ R64 F ∧ R64 R ∧ ArgS w ao len cap f ∧ len ≤ cap := by
  obtain ⟨c0, c1, c2, c3, y0, y1, y2, y3, m, rfl, rfl, rfl, hy0, hy1, hy2, hy3⟩ := open_agg4 Try.underlying24 (by kernel_rfl) cellsMsg hv h
  obtain ⟨K, e0, _, wK⟩ := DataW.trod_int Try.underlying3 hy0
  obtain ⟨F, e1, _, wF⟩ := DataW.trod_int Try.underlying3 hy1
  obtain ⟨R, e2, _, wR⟩ := DataW.trod_int Try.underlying3 hy2
  simp at e0 e1 e2
  subst e0 e1 e2
  obtain ⟨ao, len, cap, f, rfl, ha⟩ := open_row hy3 (fun n hn => hsz n (by
    simp only [DataW.weights, Try.underlying24, List.map, DataW.weightsEach]
    simp only [List.mem_append]
    exact Or.inr (Or.inr (Or.inr (Or.inl hn)))))
  refine ⟨K, F, R, ao, len, cap, f, rfl, R64.of_wf wK, R64.of_wf wF, R64.of_wf wR, ha, ?_⟩
  rcases open_ints Try.underlying22 Try.underlying3 cellsInt hy3 with ⟨hcs, _⟩ | ⟨a, l, c, zs, hcs, _, hl, _⟩
  · simp at hcs
    omega
  · simp at hcs
    omega
end

end Go.Proofs.Ytnbpkidjojgghaa
