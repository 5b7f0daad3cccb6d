import Derived.Test.YtdhblehhgpdpdacGreatFixWalks
import Derived.Test.YtdhblehhgpdpdacGreatBigPlain
import Derived.OneCell
namespace Go.Proofs.YtdhblehhgpdpdacGreat
open Go.RowKit
def BlAt (t : Nat) (w : World) (b : Nat) (x : Bool) : Prop := w.heap[b]? = some (.cells #[.bool x] t (0, 0))
theorem BlAt.lt {t : Nat} {w : World} {b : Nat} {x : Bool} (h : BlAt t w b x) : b < w.heap.size := lt_of_block h
theorem BlAt.kept {t z : Nat} {w w' : World} {b : Nat} {x : Bool} (h : BlAt t w b x) (k : Kept z w w') (hz : b ≠ z) : BlAt t w' b x := by
 unfold BlAt at h ⊢; rw [k.block b (lt_of_block h) hz]; exact h
theorem BlAt.set {t : Nat} {w : World} {b : Nat} {x : Bool} (h : BlAt t w b x) (y : Bool) : BlAt t (w.setCell ⟨b, 0, none⟩ (.bool y)) b y := by
 unfold BlAt at h ⊢
 exact heap_setCell_same w b 0 _ _ (.bool y) h
theorem kept_set (w : World) (b i : Nat) (u : Value) : Kept b w (w.setCell ⟨b, i, none⟩ u) :=
 ⟨rfl, rfl, rfl, by simp [World.setCell], fun k _ hn => heap_setCell_other w ⟨b, i, none⟩ k u hn⟩
theorem below_of_kept {B z : Nat} {a w w' : World} (h : Below B a w) (k : Kept z w w') (hz : B ≤ z) (hB : B ≤ w.heap.size := by first | exact Below.size (by assumption) | omega) : Below B a w' :=
 h.trans ⟨k.os, k.tape, k.output, k.size, fun i hi => k.block i (by omega) (by omega)⟩
end Go.Proofs.YtdhblehhgpdpdacGreat
