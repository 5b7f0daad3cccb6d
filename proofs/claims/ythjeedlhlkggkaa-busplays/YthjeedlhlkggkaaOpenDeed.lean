/- Deeds among a statement's arguments, opened. -/
import Derived.Test.YthjeedlhlkggkaaOpenBus
namespace Go.Proofs.Ythjeedlhlkggkaa
open Go.ChangeShapes Go.WideShapes Go.ChangeAt Go.RowKit Go.Joins

theorem cellsDeedU : Try.prog.cellsOf 42 = 5 := by kernel_rfl
theorem bytesDeedU : Try.prog.bytesOf 42 = 56 := by kernel_rfl
set_option maxRecDepth 100000 in
theorem open_deedsArg {H : Type} {enc : TypeId × Value → H} {w : World} {base : Nat} {held : Bool} {r : Reach} {b0 : Nat} {v : Value} {d : DataW H} {p : List MemPlace} (hv : Value.okWide Try.prog w r b0 40 v) (h : DataW.Trod enc Try.prog w base (fun _ => true) held 40 v d p) (hsz : ∀ n ∈ d.weights Try.prog 40, n ≤ reachBytes) :
    ∃ (ao : Option Addr) (cap : Nat) (L : List Lp), v = .slice ao L.length cap ∧ (∀ c, c ∈ L → PcOK c.p) ∧ BRd w ao cap L ∧ L.length ≤ 9223372036854775807 := by
  obtain ⟨ao, len, cap, rfl⟩ := okWide_slice Try.underlying40 hv
  obtain ⟨fuel, hf⟩ := h
  have hf' : DataW.trod enc Try.prog w base (fun _ => true) held fuel 40 [.slice ao len cap] = some (d, p) := hf
  obtain ⟨ao', cap', L, e, hr, hok, hlen⟩ := open_fives Try.underlying40 Try.underlying42 ⟨rfl, rfl⟩ ⟨rfl, rfl⟩ ⟨rfl, rfl⟩ ⟨rfl, rfl⟩ ⟨rfl, rfl⟩ cellsDeedU bytesDeedU hf' hsz
  exact ⟨ao', cap', L, e, hok, hr, by omega⟩

end Go.Proofs.Ythjeedlhlkggkaa
