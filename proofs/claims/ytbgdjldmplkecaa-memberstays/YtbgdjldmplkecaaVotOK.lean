/- What Vote is held to, whoever wrote it; four truth values, a verdict in memory. -/
import Derived.Test.YtbgdjldmplkecaaVotSpec
import Derived.Test.YtbgdjldmplkecaaFourMem
namespace Go.Proofs.Ytbgdjldmplkecaa
open Go.RowKit

/-- Truth values as values. -/
def tF (b : Nat → Bool) (i : Nat) : Value := .bool (b i)
theorem tF_one (b : Nat → Bool) (i : Nat) : (tF b i).oneCell' = true := rfl
/-- Four truth values as one value. -/
def boolV (b : Nat → Bool) : Value := .agg #[.bool (b 0), .bool (b 1), .bool (b 2), .bool (b 3)]
/-- The block of four truth values. -/
def B4 (w : World) (p : Nat) (b : Nat → Bool) : Prop := Vh 22 w p 4 4 (tF b)
section
variable {w w' : World} {p : Nat} {b : Nat → Bool}
theorem B4.cell (h : B4 w p b) {i : Nat} (hi : i < 4) : w.cell? ⟨p, i, none⟩ = some (.bool (b i)) := Vh.cell h hi
theorem B4.free (h : B4 w p b) (i : Nat) : w.frozen? ⟨p, i, none⟩ = false := Vh.free h i
theorem B4.lt (h : B4 w p b) : p < w.heap.size := Vh.lt h
theorem B4.below (h : B4 w p b) (k : Below w.heap.size w w') : B4 w' p b := Vh.below h k
theorem B4.under {B : Nat} (h : B4 w p b) (k : Below B w w') (hb : p < B) : B4 w' p b := Vh.same h (k.block p hb)
theorem B4.kept {z : Nat} (h : B4 w p b) (k : Kept z w w') (hz : p ≠ z) : B4 w' p b := Vh.kept h k hz
theorem B4.congr {g : Nat → Bool} (h : B4 w p b) (e : ∀ i, i < 4 → b i = g i) : B4 w p g := Vh.congr h (fun i hi => by unfold tF; rw [e i hi])
theorem B4.set (h : B4 w p b) (i : Nat) (x : Bool) : B4 (w.setCell ⟨p, i, none⟩ (.bool x)) p (fun j => if j = i then x else b j) :=
  Vh.congr (Vh.set h i (.bool x)) (fun j _ => by
    unfold stW tF
    by_cases e : j = i
    · rw [if_pos e]; show _ = Value.bool (if j = i then x else b j); rw [if_pos e]
    · rw [if_neg e]; show _ = Value.bool (if j = i then x else b j); rw [if_neg e])
theorem B4.new (w : World) (b : Nat → Bool) : B4 (w.alloc (.cells #[.bool (b 0), .bool (b 1), .bool (b 2), .bool (b 3)] 22)) w.heap.size b :=
  Vh.new w 22 #[.bool (b 0), .bool (b 1), .bool (b 2), .bool (b 3)] (tF b) (by show 4 ≤ maxLen; decide) (fun i hi => by
    have : i = 0 ∨ i = 1 ∨ i = 2 ∨ i = 3 := by simp at hi; omega
    rcases this with rfl | rfl | rfl | rfl <;> rfl)
end
theorem b4_alloc (w : World) (b : Nat → Bool) : ∃ w1, w1 = w.alloc (.cells #[.bool (b 0), .bool (b 1), .bool (b 2), .bool (b 3)] 22) ∧ B4 w1 w.heap.size b ∧ Below w.heap.size w w1 ∧ w1.heap.size = w.heap.size + 1 :=
  ⟨_, rfl, B4.new w b, al_below w _, al_size w _⟩

/-- A verdict as a value; the block of a verdict's variable. -/
def vdV (X : Int) (S : Bool) (r : Value) : Value := .agg #[.int .i64 X, .bool S, r]
def VdAt (w : World) (b : Nat) (X : Int) (S : Bool) (r : Value) : Prop := w.heap[b]? = some (.cells #[.int .i64 X, .bool S, r] 31 (0, 0))
section
variable {w w' : World} {b : Nat} {X : Int} {S : Bool} {r : Value}
theorem VdAt.cell0 (h : VdAt w b X S r) : w.cell? ⟨b, 0, none⟩ = some (.int .i64 X) := by unfold VdAt at h; unfold World.cell?; rw [h]; rfl
theorem VdAt.cell1 (h : VdAt w b X S r) : w.cell? ⟨b, 1, none⟩ = some (.bool S) := by unfold VdAt at h; unfold World.cell?; rw [h]; rfl
theorem VdAt.cell2 (h : VdAt w b X S r) : w.cell? ⟨b, 2, none⟩ = some r := by unfold VdAt at h; unfold World.cell?; rw [h]; rfl
theorem VdAt.free (h : VdAt w b X S r) (i : Nat) : w.frozen? ⟨b, i, none⟩ = false := by unfold VdAt at h; simp [World.frozen?, h]
theorem VdAt.lt (h : VdAt w b X S r) : b < w.heap.size := lt_of_block h
theorem VdAt.same (h : VdAt w b X S r) (e : w'.heap[b]? = w.heap[b]?) : VdAt w' b X S r := e.trans h
theorem VdAt.below (h : VdAt w b X S r) (k : Below w.heap.size w w') : VdAt w' b X S r := h.same (k.block b h.lt)
theorem VdAt.under {B : Nat} (h : VdAt w b X S r) (k : Below B w w') (hb : b < B) : VdAt w' b X S r := h.same (k.block b hb)
theorem VdAt.kept {z : Nat} (h : VdAt w b X S r) (k : Kept z w w') (hz : b ≠ z) : VdAt w' b X S r := h.same (k.block b h.lt hz)
theorem VdAt.new (w : World) (X : Int) (S : Bool) (r : Value) : VdAt (w.alloc (.cells #[.int .i64 X, .bool S, r] 31)) w.heap.size X S r := by
  unfold VdAt
  show (w.heap.push _)[w.heap.size]? = _
  rw [Array.getElem?_push_size]
theorem VdAt.put (h : VdAt w b X S r) (X' : Int) (S' : Bool) (u : Value) :
    ∃ w', w' = ((w.setCell ⟨b, 0, none⟩ (.int .i64 X')).setCell ⟨b, 1, none⟩ (.bool S')).setCell ⟨b, 2, none⟩ u ∧ VdAt w' b X' S' u ∧ Kept b w w' := by
  refine ⟨_, rfl, ?_, ((kept_set w b 0 _).trans (kept_set _ b 1 _) (Or.inl rfl)).trans (kept_set _ b 2 _) (Or.inl rfl)⟩
  unfold VdAt at h ⊢
  have h1 := heap_setCell_same w b 0 _ _ (.int .i64 X') h
  have h2 := heap_setCell_same _ b 1 _ _ (.bool S') h1
  exact heap_setCell_same _ b 2 _ _ u h2
theorem VdAt.put0 (h : VdAt w b X S r) (X' : Int) : ∃ w', w' = w.setCell ⟨b, 0, none⟩ (.int .i64 X') ∧ VdAt w' b X' S r ∧ Kept b w w' := by
  refine ⟨_, rfl, ?_, kept_set w b 0 _⟩
  unfold VdAt at h ⊢
  exact heap_setCell_same w b 0 _ _ (.int .i64 X') h
theorem VdAt.put1 (h : VdAt w b X S r) (S' : Bool) : ∃ w', w' = w.setCell ⟨b, 1, none⟩ (.bool S') ∧ VdAt w' b X S' r ∧ Kept b w w' := by
  refine ⟨_, rfl, ?_, kept_set w b 1 _⟩
  unfold VdAt at h ⊢
  exact heap_setCell_same w b 1 _ _ (.bool S') h
theorem VdAt.put2 (h : VdAt w b X S r) (u : Value) : ∃ w', w' = w.setCell ⟨b, 2, none⟩ u ∧ VdAt w' b X S u ∧ Kept b w w' := by
  refine ⟨_, rfl, ?_, kept_set w b 2 _⟩
  unfold VdAt at h ⊢
  exact heap_setCell_same w b 2 _ _ u h
end
theorem vd_alloc (w : World) (X : Int) (S : Bool) (r : Value) : ∃ w1, w1 = w.alloc (.cells #[.int .i64 X, .bool S, r] 31) ∧ VdAt w1 w.heap.size X S r ∧ Below w.heap.size w w1 ∧ w1.heap.size = w.heap.size + 1 :=
  ⟨_, rfl, VdAt.new w X S r, al_below w _, al_size w _⟩

/-- What Vote is held to. -/
def VtOK (fn : Nat) : Prop := ∀ (v : Nat → Int) (b : Nat → Bool) (w : World), (∀ i, R64 (v i)) →
  Calls Try.prog fn #[fourV v, boolV b] w fun e w' => ∃ (X : Int) (r : Value), IsV v b 4 X ∧ e = .returned (vdV X (vtS v b X) r) ∧ w'.ownsRow w.heap.size 4 1 r 4 (rowV (tF (vtA v b X)) 4) ∧ Below w.heap.size w w'

end Go.Proofs.Ytbgdjldmplkecaa
