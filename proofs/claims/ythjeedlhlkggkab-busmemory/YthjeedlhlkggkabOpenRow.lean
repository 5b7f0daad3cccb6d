/- Numbers among a statement's arguments, opened. -/
import Derived.Test.YthjeedlhlkggkabRows
import Derived.Test.YthjeedlhlkggkabRowPlain
import Derived.Lib.SmallJoins
import Derived.OpenShut
import Derived.SizedLaws
import Derived.ChangeSlices
namespace Go.Proofs.Ythjeedlhlkggkab
open Go.ChangeShapes Go.WideShapes Go.ChangeAt Go.RowKit Go.Joins

/-- A slice of numbers that was handed in. -/
def ArgS (w : World) (ao : Option Addr) (len cap : Nat) (f : Nat → Int) : Prop :=
  ((ao = none ∧ len = 0 ∧ cap = 0) ∨ ∃ x, ao = some x ∧ ∀ i, i < len → w.cell? (x.add i) = some (.int .i64 (f i))) ∧ len * 8 ≤ 140737488351232 ∧ ∀ i, R64 (f i)
theorem ArgS.rds {w : World} {ao : Option Addr} {len cap : Nat} {f : Nat → Int} (h : ArgS w ao len cap f) : Rds w ao len f := by
  intro hl
  rcases h.1 with ⟨_, h0, _⟩ | ⟨x, rfl, hc⟩
  · omega
  · obtain ⟨b, o, spot⟩ := x
    have hs : spot = none := by simpa [Addr.add] using World.cell?_spot (hc 0 hl)
    subst hs
    exact ⟨b, o, rfl, fun i hi => by have := hc i hi; rw [Addr.add_lit] at this; exact this⟩
theorem ArgS.below {w w' : World} {ao : Option Addr} {len cap : Nat} {f : Nat → Int} (h : ArgS w ao len cap f) (k : Below w.heap.size w w') : ArgS w' ao len cap f := by
  refine ⟨?_, h.2⟩
  rcases h.1 with h | ⟨x, rfl, hc⟩
  · exact Or.inl h
  · exact Or.inr ⟨x, rfl, fun i hi => at_below (hc i hi) k⟩

theorem bytesInt : Try.prog.bytesOf 3 = 8 := by kernel_rfl
theorem cellsInt : Try.prog.cellsOf 3 = 1 := by kernel_rfl

section
variable {H : Type} {enc : TypeId × Value → H} {w : World} {base : Nat} {held : Bool}

set_option maxRecDepth 100000 in
theorem open_row {fuel : Nat} {v : Value} {x : DataW H × List MemPlace} (h : DataW.trod enc Try.prog w base (fun _ => true) held fuel 63 [v] = some x) (hsz : ∀ n ∈ x.1.weights Try.prog 63, n ≤ reachBytes) :
    ∃ ao len cap f, v = .slice ao len cap ∧ ArgS w ao len cap f := by
  rcases open_ints Try.underlying63 Try.underlying3 cellsInt h with ⟨hcs, _⟩ | ⟨a, len, cap, zs, hcs, _, hl, _, hz, hx, hcell, hwz⟩
  · simp at hcs
    exact ⟨none, 0, 0, fun _ => 0, hcs, Or.inl ⟨rfl, rfl, rfl⟩, by decide, fun _ => R64_nought⟩
  · simp at hcs
    have hz' : zs.length = cap := by simpa using hz
    have hb : zs.length * 8 ≤ reachBytes := by
      refine hsz _ ?_
      rw [hx]
      simp [DataW.weights, Try.underlying63, bytesInt, lits]
      left; omega
    refine ⟨some a, len, cap, fun i => zs.getD i 0, hcs, Or.inr ⟨a, rfl, fun i hi => hcell i (by omega)⟩, by unfold reachBytes at hb; omega, fun i => ?_⟩
    rcases Nat.lt_or_ge i zs.length with hi | hi
    · have e : zs.getD i 0 = zs[i] := by simp [List.getD, hi]
      show R64 (zs.getD i 0)
      rw [e]; exact R64.of_wf (hwz _ (List.getElem_mem hi))
    · have e : zs.getD i 0 = 0 := by simp [List.getD, hi]
      show R64 (zs.getD i 0)
      rw [e]; exact R64_nought
set_option maxRecDepth 100000 in
theorem open_rowArg {r : Reach} {b0 : Nat} {v : Value} {d : DataW H} {p : List MemPlace} (hv : Value.okWide Try.prog w r b0 63 v) (h : DataW.Trod enc Try.prog w base (fun _ => true) held 63 v d p) (hsz : ∀ n ∈ d.weights Try.prog 63, n ≤ reachBytes) :
    ∃ ao len cap f, v = .slice ao len cap ∧ ArgS w ao len cap f := by
  obtain ⟨ao, len, cap, rfl⟩ := okWide_slice Try.underlying63 hv
  obtain ⟨fuel, hf⟩ := h
  have hf' : DataW.trod enc Try.prog w base (fun _ => true) held fuel 63 [.slice ao len cap] = some (d, p) := hf
  exact open_row hf' hsz
set_option maxRecDepth 100000 in
theorem open_rowRoom {r : Reach} {b0 : Nat} {v : Value} {d : DataW H} {p : List MemPlace} (hv : Value.okWide Try.prog w r b0 63 v) (h : DataW.Trod enc Try.prog w base (fun _ => true) held 63 v d p) (hsz : ∀ n ∈ d.weights Try.prog 63, n ≤ reachBytes) :
    ∃ ao len cap f, v = .slice ao len cap ∧ ArgS w ao len cap f ∧ len ≤ cap := by
  obtain ⟨ao, len, cap, f, rfl, ha⟩ := open_rowArg hv h hsz
  refine ⟨ao, len, cap, f, rfl, ha, ?_⟩
  obtain ⟨fuel, hf⟩ := h
  have hf' : DataW.trod enc Try.prog w base (fun _ => true) held fuel 63 [.slice ao len cap] = some (d, p) := hf
  rcases open_ints Try.underlying63 Try.underlying3 cellsInt hf' with ⟨hcs, _⟩ | ⟨a, l, c, zs, hcs, _, hl, _⟩
  · simp at hcs
    omega
  · simp at hcs
    omega
end

end Go.Proofs.Ythjeedlhlkggkab
