import Derived.Test.YtdhblehhgpdpdaaGreatFixWalks
import Derived.Test.YtdhblehhgpdpdaaGreatBigPlain
import Derived.OneCell
namespace Go.Proofs.YtdhblehhgpdpdaaGreat
open Go.RowKit
def BlAt (t : Nat) (w : World) (b : Nat) (x : Bool) : Prop := w.heap[b]? = some (.cells #[.bool x] t (0, 0))
theorem BlAt.cell0 {t : Nat} {w : World} {b : Nat} {x : Bool} (h : BlAt t w b x) : w.cell? ⟨b, 0, none⟩ = some (.bool x) := by
 unfold BlAt at h; simp [World.cell?, h]
theorem BlAt.free {t : Nat} {w : World} {b : Nat} {x : Bool} (h : BlAt t w b x) (i : Nat) : w.frozen? ⟨b, i, none⟩ = false := by
 unfold BlAt at h; simp [World.frozen?, h]
theorem BlAt.lt {t : Nat} {w : World} {b : Nat} {x : Bool} (h : BlAt t w b x) : b < w.heap.size := lt_of_block h
theorem BlAt.kept {t z : Nat} {w w' : World} {b : Nat} {x : Bool} (h : BlAt t w b x) (k : Kept z w w') (hz : b ≠ z) : BlAt t w' b x := by
 unfold BlAt at h ⊢; rw [k.block b (lt_of_block h) hz]; exact h
theorem BlAt.below {t : Nat} {w w' : World} {b : Nat} {x : Bool} (h : BlAt t w b x) (k : Below w.heap.size w w') : BlAt t w' b x := by
 unfold BlAt at h ⊢; rw [k.block b (lt_of_block h)]; exact h
theorem BlAt.set {t : Nat} {w : World} {b : Nat} {x : Bool} (h : BlAt t w b x) (y : Bool) : BlAt t (w.setCell ⟨b, 0, none⟩ (.bool y)) b y := by
 unfold BlAt at h ⊢
 exact heap_setCell_same w b 0 _ _ (.bool y) h
theorem BlAt.new (t : Nat) (w : World) (x : Bool) : BlAt t (w.alloc (.cells #[.bool x] t)) w.heap.size x := by
 unfold BlAt
 show (w.heap.push _)[w.heap.size]? = _
 rw [Array.getElem?_push_size]
theorem kept_refl (z : Nat) (w : World) : Kept z w w := ⟨rfl, rfl, rfl, Nat.le_refl _, fun _ _ _ => rfl⟩
theorem kept_set (w : World) (b i : Nat) (u : Value) : Kept b w (w.setCell ⟨b, i, none⟩ u) :=
 ⟨rfl, rfl, rfl, by simp [World.setCell], fun k _ hn => heap_setCell_other w ⟨b, i, none⟩ k u hn⟩
theorem kept_drew {z : Nat} (w : World) : Kept z w w.drew := ⟨rfl, rfl, rfl, Nat.le_refl _, fun _ _ _ => rfl⟩
theorem below_of_kept {B z : Nat} {a w w' : World} (h : Below B a w) (k : Kept z w w') (hz : B ≤ z) (hB : B ≤ w.heap.size := by first | exact Below.size (by assumption) | omega) : Below B a w' :=
 h.trans ⟨k.os, k.tape, k.output, k.size, fun i hi => k.block i (by omega) (by omega)⟩
theorem below_drew {B : Nat} {a w : World} (h : Below B a w) : Below B a w.drew := ⟨h.os, h.tape, h.output, h.size, h.block⟩
end Go.Proofs.YtdhblehhgpdpdaaGreat
