import Derived.Test.YtdhblehhgpdpdacGreatRowPlain
import Derived.Test.YtdhblehhgpdpdacGreatByteMem
import Derived.Test.YtdhblehhgpdpdacGreatNear131
namespace Go.Proofs.YtdhblehhgpdpdacGreat
open Go.RowKit
def iF (f : Nat → Int) (i : Nat) : Value := .int .i64 (f i)
end Go.Proofs.YtdhblehhgpdpdacGreat
namespace Go.Proofs.YtdhblehhgpdpdacGreat
open Go.RowKit
def lcBad (O R t : Int) : Prop := O < -1073741824 ∨ 1073741824 < O ∨ R < -500 ∨ 500 < R ∨ t < 0 ∨ 1099511627776 < t
instance (O R t : Int) : Decidable (lcBad O R t) := by unfold lcBad; infer_instance
end Go.Proofs.YtdhblehhgpdpdacGreat
namespace Go.Proofs.YtdhblehhgpdpdacGreat
open Go.RowKit
def F4 (w : World) (b : Nat) (f : Nat → Int) : Prop := Vh 48 w b 4 4 (iF f)
section
variable {w w' : World} {b : Nat} {f : Nat → Int}
theorem F4.cell (h : F4 w b f) {i : Nat} (hi : i < 4) : w.cell? ⟨b, i, none⟩ = some (.int .i64 (f i)) := Vh.cell h hi
theorem F4.lt (h : F4 w b f) : b < w.heap.size := Vh.lt h
theorem F4.kept {z : Nat} (h : F4 w b f) (k : Kept z w w') (hz : b ≠ z) : F4 w' b f := Vh.kept h k hz
theorem F4.congr {g : Nat → Int} (h : F4 w b f) (e : ∀ i, i < 4 → f i = g i) : F4 w b g := Vh.congr h (fun i hi => by unfold iF; rw [e i hi])
theorem F4.set (h : F4 w b f) (i : Nat) (x : Int) : F4 (w.setCell ⟨b, i, none⟩ (.int .i64 x)) b (fun j => if j = i then x else f j) :=
 Vh.congr (Vh.set h i (.int .i64 x)) (fun j _ => by
  unfold stW iF
  by_cases e : j = i
  ·rw [if_pos e]; show _ = Value.int .i64 (if j = i then x else f j); rw [if_pos e]
  ·rw [if_neg e]; show _ = Value.int .i64 (if j = i then x else f j); rw [if_neg e])
theorem F4.put (h : F4 w b f) (g : Nat → Int) : ∃ w', w' = (((w.setCell ⟨b, 0, none⟩ (.int .i64 (g 0))).setCell ⟨b, 1, none⟩ (.int .i64 (g 1))).setCell ⟨b, 2, none⟩ (.int .i64 (g 2))).setCell ⟨b, 3, none⟩ (.int .i64 (g 3)) ∧ F4 w' b g ∧ Kept b w w' := by
 refine ⟨_, rfl, ((((h.set 0 (g 0)).set 1 (g 1)).set 2 (g 2)).set 3 (g 3)).congr (fun i hi => ?_), (((kept_set w b 0 _).trans (kept_set _ b 1 _) (Or.inl rfl)).trans (kept_set _ b 2 _) (Or.inl rfl)).trans (kept_set _ b 3 _) (Or.inl rfl)⟩
 have : i = 0 ∨ i = 1 ∨ i = 2 ∨ i = 3 := by omega
 rcases this with rfl | rfl | rfl | rfl <;> rfl
end
end Go.Proofs.YtdhblehhgpdpdacGreat
namespace Go.Proofs.YtdhblehhgpdpdacGreat
open Go.RowKit
def tF (b : Nat → Bool) (i : Nat) : Value := .bool (b i)
def B4 (w : World) (p : Nat) (b : Nat → Bool) : Prop := Vh 47 w p 4 4 (tF b)
section
variable {w w' : World} {p : Nat} {b : Nat → Bool}
theorem B4.cell (h : B4 w p b) {i : Nat} (hi : i < 4) : w.cell? ⟨p, i, none⟩ = some (.bool (b i)) := Vh.cell h hi
theorem B4.lt (h : B4 w p b) : p < w.heap.size := Vh.lt h
theorem B4.kept {z : Nat} (h : B4 w p b) (k : Kept z w w') (hz : p ≠ z) : B4 w' p b := Vh.kept h k hz
theorem B4.congr {g : Nat → Bool} (h : B4 w p b) (e : ∀ i, i < 4 → b i = g i) : B4 w p g := Vh.congr h (fun i hi => by unfold tF; rw [e i hi])
theorem B4.set (h : B4 w p b) (i : Nat) (x : Bool) : B4 (w.setCell ⟨p, i, none⟩ (.bool x)) p (fun j => if j = i then x else b j) :=
 Vh.congr (Vh.set h i (.bool x)) (fun j _ => by
  unfold stW tF
  by_cases e : j = i
  ·rw [if_pos e]; show _ = Value.bool (if j = i then x else b j); rw [if_pos e]
  ·rw [if_neg e]; show _ = Value.bool (if j = i then x else b j); rw [if_neg e])
end
def VdAt (w : World) (b : Nat) (X : Int) (S : Bool) (r : Value) : Prop := w.heap[b]? = some (.cells #[.int .i64 X, .bool S, r] 53 (0, 0))
section
variable {w w' : World} {b : Nat} {X : Int} {S : Bool} {r : Value}
theorem VdAt.lt (h : VdAt w b X S r) : b < w.heap.size := lt_of_block h
theorem VdAt.same (h : VdAt w b X S r) (e : w'.heap[b]? = w.heap[b]?) : VdAt w' b X S r := e.trans h
theorem VdAt.kept {z : Nat} (h : VdAt w b X S r) (k : Kept z w w') (hz : b ≠ z) : VdAt w' b X S r := h.same (k.block b h.lt hz)
theorem VdAt.put (h : VdAt w b X S r) (X' : Int) (S' : Bool) (u : Value) :
  ∃ w', w' = ((w.setCell ⟨b, 0, none⟩ (.int .i64 X')).setCell ⟨b, 1, none⟩ (.bool S')).setCell ⟨b, 2, none⟩ u ∧ VdAt w' b X' S' u ∧ Kept b w w' := by
 refine ⟨_, rfl, ?_, ((kept_set w b 0 _).trans (kept_set _ b 1 _) (Or.inl rfl)).trans (kept_set _ b 2 _) (Or.inl rfl)⟩
 unfold VdAt at h ⊢
 have h1 := heap_setCell_same w b 0 _ _ (.int .i64 X') h
 have h2 := heap_setCell_same _ b 1 _ _ (.bool S') h1
 exact heap_setCell_same _ b 2 _ _ u h2
end
end Go.Proofs.YtdhblehhgpdpdacGreat
