/- A row that grows by append. -/
import Derived.Test.YtnfejfdekedmhabMatFac
namespace Go.Proofs.Ytnfejfdekedmhab
open Go.RowKit

/-- A row that grows by append: its first k numbers. -/
def GrowR (w : World) (base : Nat) (ao : Option Addr) (k c : Nat) (f : Nat → Int) : Prop := w.ownsRow base 3 1 (.slice ao k c) k (rowL f k)
theorem rowL_succ (f : Nat → Int) (k : Nat) : rowL f (k + 1) = rowL f k ++ [.int .i64 (f k)] := by
  unfold rowL; rw [List.range_succ, List.map_append]; rfl
theorem growR_next {w : World} {base k : Nat} {f : Nat → Int} {v : Value} (h : w.ownsRow base 3 1 v (k + 1) (rowL f k ++ [.int .i64 (f k)])) : ∃ ao c, v = .slice ao (k + 1) c ∧ GrowR w base ao (k + 1) c f := by
  have h0 := h
  rw [← rowL_succ] at h0
  rcases h.2 with ⟨_, h1⟩ | ⟨g, cap, cur, rfl, _⟩
  · omega
  · exact ⟨_, _, rfl, h0⟩
theorem GrowR.nh {w : World} {base k c : Nat} {ao : Option Addr} {f : Nat → Int} (h : GrowR w base ao k c f) (hk : 1 ≤ k) : ∃ r, ao = some ⟨r, 0, none⟩ ∧ base ≤ r ∧ Nh w r k c f := by
  obtain ⟨r, cap, e, hb, hn⟩ := Nh.of_owns hk h (fun i hi => rowL_at f hi)
  cases e
  exact ⟨r, rfl, hb, hn⟩
theorem grown_below {w w' : World} {base k c : Nat} {ao : Option Addr} {f : Nat → Int} (h : GrowR w base ao k c f) (hg : w.grownBy w' (Value.ownBlock (.slice ao k c))) (hb : base ≤ w.heap.size) : Below base w w' :=
  ⟨hg.os, hg.tape, hg.output, hg.size, fun i hi => hg.block i (by omega) (fun e => by have := (World.ownsRow.lt h i e.symm).1; omega)⟩
theorem GrowR.kept {z : Nat} {w w' : World} {base k c : Nat} {ao : Option Addr} {f : Nat → Int} (h : GrowR w base ao k c f) (q : Kept z w w') (hz : z < base) : GrowR w' base ao k c f := by
  refine World.ownsRow.kept (row := some z) h ⟨q.os, q.tape, q.output, q.size, fun i hi hne => q.block i hi (fun e => hne (by rw [e]))⟩ (Or.inr (fun e => ?_))
  have := (World.ownsRow.lt h z e).1
  omega
theorem GrowR.below {w w' : World} {base k c : Nat} {ao : Option Addr} {f : Nat → Int} (h : GrowR w base ao k c f) (q : Below w.heap.size w w') : GrowR w' base ao k c f := by
  refine World.ownsRow.kept (row := none) h ⟨q.os, q.tape, q.output, q.size, fun i hi _ => q.block i hi⟩ ?_
  cases hv : Value.ownBlock (.slice ao k c)
  · exact Or.inl rfl
  · exact Or.inr (by simp)

end Go.Proofs.Ytnfejfdekedmhab
