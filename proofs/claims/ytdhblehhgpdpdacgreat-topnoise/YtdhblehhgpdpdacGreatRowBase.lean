import Derived.Test.YtdhblehhgpdpdacGreatVecPlain
import Derived.Deep.OwnRows
import Derived.Laws.Cover3
import Derived.Laws.AppendOwnNone
import Derived.Laws.Rows
namespace Go.Proofs.YtdhblehhgpdpdacGreat
open Go.RowKit
theorem at_kept {z : Nat} {w w' : World} {a : Addr} {v : Value} (h : w.cell? a = some v) (k : Kept z w w') (hz : a.block ≠ z) : w'.cell? a = some v :=
 (World.cell?_of_block (w := w) (a := a) (k.block a.block (World.block_lt_of_cell? w a h) hz)).trans h
structure Kp2 (y z : Nat) (w w' : World) : Prop where
 os : w'.os = w.os
 tape : w'.tape = w.tape
 output : w'.output = w.output
 size : w.heap.size ≤ w'.heap.size
 block : ∀ k, k < w.heap.size → k ≠ y → k ≠ z → w'.heap[k]? = w.heap[k]?
theorem Kp2.trans {y z : Nat} {a b c : World} (h : Kp2 y z a b) (k : Kp2 y z b c) : Kp2 y z a c :=
 ⟨k.os.trans h.os, k.tape.trans h.tape, k.output.trans h.output, Nat.le_trans h.size k.size, fun i hi h1 h2 => (k.block i (Nat.lt_of_lt_of_le hi h.size) h1 h2).trans (h.block i hi h1 h2)⟩
theorem Kp2.one {y z : Nat} {w0 w w' : World} (h : Kept y w0 w) (k : Kp2 y z w w') (hz : w0.heap.size ≤ z) : Kept y w0 w' :=
 ⟨k.os.trans h.os, k.tape.trans h.tape, k.output.trans h.output, Nat.le_trans h.size k.size, fun i hi h1 => (k.block i (Nat.lt_of_lt_of_le hi h.size) h1 (by omega)).trans (h.block i hi h1)⟩
def stW (g : Nat → Value) (k : Nat) (x : Value) : Nat → Value := fun j => if j = k then x else g j
theorem stW_same (g : Nat → Value) (k : Nat) (x : Value) : stW g k x k = x := if_pos rfl
theorem stW_other (g : Nat → Value) {k j : Nat} (x : Value) (h : j ≠ k) : stW g k x j = g j := if_neg h
def Vh (t : TypeId) (w : World) (b N cap : Nat) (g : Nat → Value) : Prop :=
 ∃ cur : Array Value, w.heap[b]? = some (.cells cur t (0, 0)) ∧ cur.size = cap ∧ N ≤ cap ∧ cap ≤ maxLen ∧ ∀ i, i < N → cur[i]? = some (g i)
section
variable {t : TypeId} {w w' : World} {b N cap : Nat} {g : Nat → Value}
theorem Vh.cell (h : Vh t w b N cap g) {i : Nat} (hi : i < N) : w.cell? ⟨b, i, none⟩ = some (g i) := by
 obtain ⟨c, hb, _, _, _, hc⟩ := h
 simp [World.cell?, hb, hc i hi]
theorem Vh.lt (h : Vh t w b N cap g) : b < w.heap.size := by
 obtain ⟨c, hb, _⟩ := h
 exact lt_of_block hb
theorem Vh.same (h : Vh t w b N cap g) (e : w'.heap[b]? = w.heap[b]?) : Vh t w' b N cap g := by
 obtain ⟨c, hb, hr⟩ := h
 exact ⟨c, e.trans hb, hr⟩
theorem Vh.congr {f : Nat → Value} (h : Vh t w b N cap g) (e : ∀ i, i < N → g i = f i) : Vh t w b N cap f := by
 obtain ⟨c, hb, h1, h2, h3, h4⟩ := h
 exact ⟨c, hb, h1, h2, h3, fun i hi => by rw [h4 i hi, e i hi]⟩
theorem Vh.kept {z : Nat} (h : Vh t w b N cap g) (k : Kept z w w') (hz : b ≠ z) : Vh t w' b N cap g := h.same (k.block b h.lt hz)
theorem Vh.set (h : Vh t w b N cap g) (i : Nat) (x : Value) : Vh t (w.setCell ⟨b, i, none⟩ x) b N cap (stW g i x) := by
 obtain ⟨c, hb, hn, h2, h3, hc⟩ := h
 refine ⟨c.setIfInBounds i x, ?_, by simpa using hn, h2, h3, fun j hj => ?_⟩
 ·simp [World.setCell, Array.getElem?_modify, hb]
 ·rw [Array.getElem?_setIfInBounds]
  by_cases e : j = i
  ·subst e
   rw [stW_same]
   simp [hn]; omega
  ·rw [if_neg (fun h => e h.symm), stW_other g x e]
   exact hc j hj
end
def rowV (g : Nat → Value) (l : Nat) : List Value := (List.range l).map g
theorem rowV_at (g : Nat → Value) {l i : Nat} (hi : i < l) : (rowV g l)[i]? = some (g i) := by
 unfold rowV; rw [List.getElem?_map, List.getElem?_range hi]; rfl
def Rd (w : World) (ao : Option Addr) (len : Nat) (g : Nat → Value) : Prop := 0 < len → ∃ b o, ao = some ⟨b, o, none⟩ ∧ ∀ i, i < len → w.cell? ⟨b, o + i, none⟩ = some (g i)
section
variable {t : TypeId} {w w' : World} {b N cap len : Nat} {g : Nat → Value} {ao : Option Addr}
theorem Rd.congr {f : Nat → Value} (h : Rd w ao len g) (e : ∀ i, i < len → g i = f i) : Rd w ao len f := by
 intro hl
 obtain ⟨b, o, ea, hc⟩ := h hl
 exact ⟨b, o, ea, fun i hi => by rw [← e i hi]; exact hc i hi⟩
theorem Rd.lt (h : Rd w ao len g) (hl : 0 < len) : ∃ b o, ao = some ⟨b, o, none⟩ ∧ b < w.heap.size := by
 obtain ⟨b, o, ea, hc⟩ := h hl
 exact ⟨b, o, ea, World.block_lt_of_cell? w ⟨b, o + 0, none⟩ (hc 0 hl)⟩
theorem Vh.rd (h : Vh t w b N cap g) : Rd w (some ⟨b, 0, none⟩) N g := fun _ => ⟨b, 0, rfl, fun i hi => by rw [Nat.zero_add]; exact h.cell hi⟩
end
end Go.Proofs.YtdhblehhgpdpdacGreat
