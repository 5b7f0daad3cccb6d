import Derived.Test.YtdhblehhgpdpdacGreatNear51
import Derived.Test.YtdhblehhgpdpdacGreatRowBase
namespace Go.Proofs.YtdhblehhgpdpdacGreat
open Go.RowKit
def Nh (w : World) (b N cap : Nat) (g : Nat → Int) : Prop :=
 ∃ cur : Array Value, w.heap[b]? = some (.cells cur 3 (0, 0)) ∧ cur.size = cap ∧ N ≤ cap ∧ cap ≤ maxLen ∧ ∀ i, i < N → cur[i]? = some (.int .i64 (g i))
theorem Nh.cell {w : World} {b N cap : Nat} {g : Nat → Int} (h : Nh w b N cap g) {i : Nat} (hi : i < N) : w.cell? ⟨b, i, none⟩ = some (.int .i64 (g i)) := by
 obtain ⟨c, hb, _, _, _, hc⟩ := h
 simp [World.cell?, hb, hc i hi]
theorem Nh.lt {w : World} {b N cap : Nat} {g : Nat → Int} (h : Nh w b N cap g) : b < w.heap.size := by
 obtain ⟨c, hb, _⟩ := h
 exact lt_of_block hb
theorem Nh.same {w w' : World} {b N cap : Nat} {g : Nat → Int} (h : Nh w b N cap g) (e : w'.heap[b]? = w.heap[b]?) : Nh w' b N cap g := by
 obtain ⟨c, hb, hr⟩ := h
 exact ⟨c, e.trans hb, hr⟩
theorem Nh.congr {w : World} {b N cap : Nat} {g f : Nat → Int} (h : Nh w b N cap g) (e : ∀ i, i < N → g i = f i) : Nh w b N cap f := by
 obtain ⟨c, hb, h1, h2, h3, h4⟩ := h
 exact ⟨c, hb, h1, h2, h3, fun i hi => by rw [h4 i hi, e i hi]⟩
theorem Nh.kept {z : Nat} {w w' : World} {b N cap : Nat} {g : Nat → Int} (h : Nh w b N cap g) (k : Kept z w w') (hz : b ≠ z) : Nh w' b N cap g := h.same (k.block b h.lt hz)
theorem Nh.set {w : World} {b N cap : Nat} {g : Nat → Int} (h : Nh w b N cap g) (i : Nat) (x : Int) : Nh (w.setCell ⟨b, i, none⟩ (.int .i64 x)) b N cap (stF g i x) := by
 obtain ⟨c, hb, hn, h2, h3, hc⟩ := h
 refine ⟨c.setIfInBounds i (.int .i64 x), ?_, by simpa using hn, h2, h3, fun j hj => ?_⟩
 ·simp [World.setCell, Array.getElem?_modify, hb]
 ·rw [Array.getElem?_setIfInBounds]
  by_cases e : j = i
  ·subst e
   rw [stF_same]
   simp [hn]; omega
  ·rw [if_neg (fun h => e h.symm), stF_other g x e]
   exact hc j hj
end Go.Proofs.YtdhblehhgpdpdacGreat
