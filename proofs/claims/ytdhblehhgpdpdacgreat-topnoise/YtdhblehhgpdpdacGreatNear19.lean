import Derived.Test.YtdhblehhgpdpdacGreatMemOK
import Derived.ArgAppend
import Derived.Test.YtdhblehhgpdpdacGreatNear135
namespace Go.Proofs.YtdhblehhgpdpdacGreat
open Go.RowKit
def chL : List (Int × Nat) → List Value
 | [] => []
 | c :: l => .int .i64 c.1 :: .int .i64 (c.2 : Nat) :: chL l
theorem chL_at {l : List (Int × Nat)} : ∀ {i : Nat} {c : Int × Nat}, l[i]? = some c → (chL l)[i * 2]? = some (.int .i64 c.1) ∧ (chL l)[i * 2 + 1]? = some (.int .i64 (c.2 : Nat)) := by
 induction l with
 | nil => intro i c h; simp at h
 | cons d l ih =>
  intro i c h
  cases i with
  | zero => simp at h; subst h; exact ⟨rfl, rfl⟩
  | succ i =>
   simp at h
   have := ih h
   rw [show (i + 1) * 2 = i * 2 + 1 + 1 by omega]
   exact this
def OwnC (w : World) (B : Nat) (v : Value) (l : List (Int × Nat)) : Prop := w.ownsRow B 201 2 v l.length (chL l)
theorem OwnC.nil (w : World) (B : Nat) : OwnC w B (.slice none 0 0) [] := World.ownsRow_nil _ _ _ _
theorem OwnC.slice {w : World} {B : Nat} {v : Value} {l : List (Int × Nat)} (h : OwnC w B v l) : ∃ ao cap, v = .slice ao l.length cap := by
 rcases h.2 with ⟨rfl, h0⟩ | ⟨g, cap, cur, rfl, _⟩
 ·exact ⟨none, 0, by rw [h0]⟩
 ·exact ⟨_, cap, rfl⟩
theorem OwnC.kept {z B : Nat} {w w' : World} {v : Value} {l : List (Int × Nat)} (h : OwnC w B v l) (k : Kept z w w') (hz : z < B) : OwnC w' B v l := by
 refine ⟨h.1, ?_⟩
 rcases h.2 with hn | ⟨g, cap, cur, rfl, hb, hgg, rest⟩
 ·exact .inl hn
 ·exact .inr ⟨g, cap, cur, rfl, hb, (k.block g (lt_of_block hgg) (by omega)).trans hgg, rest⟩
theorem OwnC.rd {w : World} {B cap n : Nat} {ao : Option Addr} {l : List (Int × Nat)} (h : OwnC w B (.slice ao n cap) l) : ChRd B w ao l := fun hl => by
 rcases h.2 with ⟨_, h0⟩ | ⟨g, c2, cur, e, hb, rest⟩
 ·omega
 ·cases e
  refine ⟨g, 0, rfl, hb, fun i c hi => ?_⟩
  obtain ⟨h1, h2⟩ := chL_at hi
  have c1 := h.cells (g := g) rfl _ _ h1
  have c2 := h.cells (g := g) rfl _ _ h2
  rw [Addr.add_lit] at c1 c2
  rw [← Nat.add_assoc] at c2
  exact ⟨c1, c2⟩
end Go.Proofs.YtdhblehhgpdpdacGreat
namespace Go.Proofs.YtdhblehhgpdpdacGreat
open Go.RowKit
structure SJ (w : World) (R : Rl) (X : Int) (st : Bool) (s : Value) (wr : World) : Prop where
 r : RAt wr w.heap.size R
 v : VdAt wr (w.heap.size + 1) X st s
 z : RAt wr (w.heap.size + 1 + 1) zeroR
 k : Below w.heap.size w wr
 n : w.heap.size + 1 + 1 + 1 ≤ wr.heap.size
section
variable {w wr w' : World} {R R' : Rl} {X : Int} {st : Bool} {s : Value}
theorem SJ.put (h : SJ w R X st s wr) (k : Kept w.heap.size wr w') (r : RAt w' w.heap.size R') : SJ w R' X st s w' := ⟨r, h.v.kept k (by omega), h.z.kept k (by omega), below_of_kept h.k k (Nat.le_refl _) h.k.size, Nat.le_trans h.n k.size⟩
end
end Go.Proofs.YtdhblehhgpdpdacGreat
