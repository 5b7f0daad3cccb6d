import Derived.Test.YtdhblehhgpdpdaaGreatFixPlain
import Derived.OwnWalk
import Derived.Deep.Draws
import Derived.Below
namespace Go.Proofs.YtdhblehhgpdpdaaGreat
open Go.RowKit
def Wd (n : Nat) (f : Nat → Int) : Prop := ∀ i, i < n → 0 ≤ f i ∧ f i < 4294967296
def val (f : Nat → Int) : Nat → Int
 | 0 => 0
 | n + 1 => val f n + f n * 4294967296 ^ n
theorem pow_pos (n : Nat) : (0 : Int) < 4294967296 ^ n := Int.pow_pos (by decide)
def Row (w : World) (b n : Nat) (f : Nat → Int) : Prop := ∀ i, i < n → w.cell? ⟨b, i, none⟩ = some (.int .u32 (f i))
def Sl (w : World) (v : Value) (n : Nat) (f : Nat → Int) : Prop :=
 (v = .slice none 0 0 ∧ n = 0) ∨ ∃ b cap : Nat, v = .slice (some ⟨b, 0, none⟩) n cap ∧ n ≤ cap ∧ cap ≤ 9223372036854775807 ∧ b < w.heap.size ∧ Row w b n f
theorem Row.same {w w' : World} {b n : Nat} {f : Nat → Int} (h : Row w b n f) (hb : w'.heap[b]? = w.heap[b]?) : Row w' b n f :=
 fun i hi => (World.cell?_of_block (w := w) (a := ⟨b, i, none⟩) hb).trans (h i hi)
theorem Row.less {w : World} {b n m : Nat} {f : Nat → Int} (h : Row w b n f) (hm : m ≤ n) : Row w b m f := fun i hi => h i (by omega)
theorem Wd.less {n m : Nat} {f : Nat → Int} (h : Wd n f) (hm : m ≤ n) : Wd m f := fun i hi => h i (by omega)
structure Kept (z : Nat) (w w' : World) : Prop where
 os : w'.os = w.os
 tape : w'.tape = w.tape
 output : w'.output = w.output
 size : w.heap.size ≤ w'.heap.size
 block : ∀ k, k < w.heap.size → k ≠ z → w'.heap[k]? = w.heap[k]?
theorem Kept.of_below {z : Nat} {w w' : World} (h : Below w.heap.size w w') : Kept z w w' := ⟨h.os, h.tape, h.output, h.size, fun k hk _ => h.block k hk⟩
theorem Kept.below {z : Nat} {w w' : World} (h : Kept z w w') (hz : w.heap.size ≤ z) : Below w.heap.size w w' := ⟨h.os, h.tape, h.output, h.size, fun k hk => h.block k hk (by omega)⟩
theorem Kept.trans {z z' : Nat} {a b c : World} (h : Kept z a b) (k : Kept z' b c) (hz : z' = z ∨ a.heap.size ≤ z') : Kept z a c :=
 ⟨k.os.trans h.os, k.tape.trans h.tape, k.output.trans h.output, Nat.le_trans h.size k.size, fun i hi hn => (k.block i (Nat.lt_of_lt_of_le hi h.size) (by omega)).trans (h.block i hi hn)⟩
theorem Sl.kept {z : Nat} {w w' : World} {v : Value} {n : Nat} {f : Nat → Int} (h : Sl w v n f) (k : Kept z w w') (hz : ∀ b cap, v = .slice (some ⟨b, 0, none⟩) n cap → b ≠ z) : Sl w' v n f := by
 rcases h with h | ⟨b, cap, hv, h1, h2, h3, h4⟩
 ·exact Or.inl h
 ·exact Or.inr ⟨b, cap, hv, h1, h2, Nat.lt_of_lt_of_le h3 k.size, h4.same (k.block b h3 (hz b cap hv))⟩
theorem Sl.below {w w' : World} {v : Value} {n : Nat} {f : Nat → Int} (h : Sl w v n f) (k : Below w.heap.size w w') : Sl w' v n f := by
 rcases h with h | ⟨b, cap, hv, h1, h2, h3, h4⟩
 ·exact Or.inl h
 ·exact Or.inr ⟨b, cap, hv, h1, h2, Nat.lt_of_lt_of_le h3 k.size, h4.same (k.block b h3)⟩
end Go.Proofs.YtdhblehhgpdpdaaGreat
