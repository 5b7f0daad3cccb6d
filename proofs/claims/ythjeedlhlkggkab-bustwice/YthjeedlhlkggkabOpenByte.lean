/- Bytes among a statement's arguments, opened. -/
import Derived.Test.YthjeedlhlkggkabRows
import Derived.Test.YthjeedlhlkggkabByteMem
import Derived.Lib.SmallJoins
import Derived.OpenShut
import Derived.SizedLaws
import Derived.ChangeSlices
namespace Go.Proofs.Ythjeedlhlkggkab
open Go.ChangeShapes Go.WideShapes Go.ChangeAt Go.RowKit Go.Joins

/-- Bytes that were handed in. -/
def ArgB (w : World) (ao : Option Addr) (len cap : Nat) (g : Nat → Nat) : Prop :=
  Sr w ao len cap (bF g) ∧ len ≤ 140737488351232 ∧ (∀ i, g i < 256) ∧ len ≤ cap
theorem ArgB.below {w w' : World} {ao : Option Addr} {len cap : Nat} {g : Nat → Nat} (h : ArgB w ao len cap g) (k : Below w.heap.size w w') : ArgB w' ao len cap g := ⟨h.1.below k, h.2⟩

theorem bytesByte : Try.prog.bytesOf 5 = 1 := by kernel_rfl
theorem cellsByte : Try.prog.cellsOf 5 = 1 := by kernel_rfl

section
variable {H : Type} {enc : TypeId × Value → H} {w : World} {base : Nat} {held : Bool}

set_option maxRecDepth 100000 in
theorem open_bytes {fuel : Nat} {v : Value} {x : DataW H × List MemPlace} (h : DataW.trod enc Try.prog w base (fun _ => true) held fuel 30 [v] = some x) (hsz : ∀ n ∈ x.1.weights Try.prog 30, n ≤ reachBytes) :
    ∃ ao len cap g, v = .slice ao len cap ∧ ArgB w ao len cap g := by
  rcases open_ints Try.underlying30 Try.underlying5 cellsByte h with ⟨hcs, _⟩ | ⟨a, len, cap, zs, hcs, _, hl, _, hz, hx, hcell, hwz⟩
  · simp at hcs
    exact ⟨none, 0, 0, fun _ => 0, hcs, Or.inl ⟨rfl, rfl, rfl⟩, by decide, fun _ => by show 0 < 256; omega, Nat.le_refl _⟩
  · simp at hcs
    have hz' : zs.length = cap := by simpa using hz
    have hb : zs.length * 1 ≤ reachBytes := by
      refine hsz _ ?_
      rw [hx]
      simp [DataW.weights, Try.underlying30, bytesByte, lits]
      left; omega
    have hw : ∀ i, i < zs.length → 0 ≤ zs.getD i 0 ∧ zs.getD i 0 < 256 := by
      intro i hi
      have e : zs.getD i 0 = zs[i] := by simp [List.getD, hi]
      have := hwz _ (List.getElem_mem hi)
      rw [e]
      simp [Lit.wf, IntKind.min, IntKind.max, IntKind.bits, IntKind.signed] at this
      omega
    refine ⟨some a, len, cap, fun i => if i < len then (zs.getD i 0).toNat else 0, hcs, Or.inr ⟨a, rfl, fun i hi => ?_⟩, by unfold reachBytes at hb; omega, fun i => ?_, hl⟩
    · rw [hcell i (by omega)]
      show some (Value.int .u8 (zs.getD i 0)) = some (Value.int .u8 ((if i < len then (zs.getD i 0).toNat else 0 : Nat) : Int))
      rw [if_pos hi, Int.toNat_of_nonneg (hw i (by omega)).1]
    · show (if i < len then (zs.getD i 0).toNat else 0) < 256
      split
      · have := hw i (by omega); omega
      · omega
set_option maxRecDepth 100000 in
theorem open_bytesArg {r : Reach} {b0 : Nat} {v : Value} {d : DataW H} {p : List MemPlace} (hv : Value.okWide Try.prog w r b0 30 v) (h : DataW.Trod enc Try.prog w base (fun _ => true) held 30 v d p) (hsz : ∀ n ∈ d.weights Try.prog 30, n ≤ reachBytes) :
    ∃ ao len cap g, v = .slice ao len cap ∧ ArgB w ao len cap g := by
  obtain ⟨ao, len, cap, rfl⟩ := okWide_slice Try.underlying30 hv
  obtain ⟨fuel, hf⟩ := h
  have hf' : DataW.trod enc Try.prog w base (fun _ => true) held fuel 30 [.slice ao len cap] = some (d, p) := hf
  exact open_bytes hf' hsz
theorem bulk_lits {k : IntKind} (zs : List Int) : Rows.uptoBulkAll (lits (H := H) k zs) = zs.length := by
  induction zs with
  | nil => rfl
  | cons z zs ih =>
    show Rows.uptoBulkAll (DataW.lit (.int k z) :: lits k zs) = _
    simp only [Rows.uptoBulkAll, Rows.uptoBulk, ih, List.length_cons]
    omega
/-- The same, with what the reading's bulk says of the length. -/
theorem open_bytesUp {r : Reach} {b0 : Nat} {v : Value} {d : DataW H} {p : List MemPlace} (hv : Value.okWide Try.prog w r b0 30 v) (h : DataW.Trod enc Try.prog w base (fun _ => true) held 30 v d p) (hsz : ∀ n ∈ d.weights Try.prog 30, n ≤ reachBytes) :
    ∃ ao len cap g, v = .slice ao len cap ∧ ArgB w ao len cap g ∧ len ≤ Rows.uptoBulk d := by
  obtain ⟨ao, len, cap, g, rfl, ha⟩ := open_bytesArg hv h hsz
  refine ⟨ao, len, cap, g, rfl, ha, ?_⟩
  obtain ⟨fuel, hf⟩ := h
  have hf' : DataW.trod enc Try.prog w base (fun _ => true) held fuel 30 [.slice ao len cap] = some (d, p) := hf
  rcases open_ints Try.underlying30 Try.underlying5 cellsByte hf' with ⟨hcs, _⟩ | ⟨a, l, c, zs, hcs, _, hl, _, hz, hx, _⟩
  · simp at hcs
    omega
  · simp at hcs
    have hz' : zs.length = c := by simpa using hz
    have e : d = .slice (lits .u8 (zs.take l)) (lits .u8 (zs.drop l)) := congrArg Prod.fst hx
    rw [e]
    simp only [Rows.uptoBulk, bulk_lits, List.length_take]
    omega
end

end Go.Proofs.Ythjeedlhlkggkab
