/- Bytes as a text. -/
import Derived.Test.YtgndilalhikmmabByteMem
import Derived.Laws.BytesArg
namespace Go.Proofs.Ytgndilalhikmmab
open Go.RowKit

/-- The text of bytes. -/
def sB (g : Nat → Nat) (n : Nat) : ByteArray := strOfNums ((List.range n).map fun i => (g i : Int))
theorem sB_congr {g f : Nat → Nat} {n : Nat} (h : ∀ i, i < n → g i = f i) : sB g n = sB f n := by
  unfold sB
  congr 1
  apply List.map_congr_left
  intro i hi
  rw [h i (by simpa using hi)]
/-- Different bytes are different texts. -/
theorem sB_inj {g f : Nat → Nat} {n : Nat} (hg : ∀ i, g i < 256) (hf : ∀ i, f i < 256) (h : sB g n = sB f n) : ∀ i, i < n → g i = f i := by
  intro i hi
  have h1 := congrArg (fun b : ByteArray => b.data.toList[i]?) h
  simp only [sB, strOfNums_data, List.map_map, List.getElem?_map, List.getElem?_range hi, Option.map_some] at h1
  have h2 := congrArg UInt8.toNat (Option.some.inj h1)
  simp only [Function.comp, Int.toNat_natCast, UInt8.toNat_ofNat'] at h2
  have := hg i; have := hf i
  omega
theorem sB_size (g : Nat → Nat) (n : Nat) : (sB g n).size = n := by unfold sB; rw [strOfNums_size]; simp
theorem run_convB (w : World) (ao : Option Addr) (n c : Nat) (g : Nat → Nat) (hr : Rd w ao n (bF g)) : (convert 22 9 (.slice ao n c)).run Try.prog w = .ok (.string (sB g n)) w := by
  rcases Nat.eq_zero_or_pos n with h0 | h0
  · subst h0
    rw [run_convert_bytes_string w 22 9 5 _ 0 c Try.underlying22 Try.underlying5 Try.underlying9]
    cases ao with
    | none => simp [Conv.bytesToString]; rfl
    | some a => simp [Conv.bytesToString, loadCells, loadCellsFrom]; rfl
  · obtain ⟨b, o, rfl, hc⟩ := hr h0
    exact run_convert_bytes_arg w 22 5 Try.underlying22 Try.underlying5 b o n c ((List.range n).map fun i => (g i : Int)) (by simp) (fun i hi => by
      rw [hc i hi]
      show some (Value.int .u8 (g i : Int)) = _
      simp [List.getD, hi]) 9 Try.underlying9

end Go.Proofs.Ytgndilalhikmmab
