/- Plain arithmetic of whole numbers as words to the base 2^32, the least first; and such words in memory. -/
import Derived.Test.YtngmeaaglogieabGreatFixPlain
import Derived.OwnWalk
import Derived.Deep.Draws
import Derived.Below
namespace Go.Proofs.YtngmeaaglogieabGreat
open Go.RowKit

/-- Words. -/
def Wd (n : Nat) (f : Nat → Int) : Prop := ∀ i, i < n → 0 ≤ f i ∧ f i < 4294967296
/-- The first n words as a number. -/
def val (f : Nat → Int) : Nat → Int
  | 0 => 0
  | n + 1 => val f n + f n * 4294967296 ^ n
/-- No nought stands last. -/
def Nm (n : Nat) (f : Nat → Int) : Prop := n = 0 ∨ f (n - 1) ≠ 0

theorem val_congr {f g : Nat → Int} : ∀ {n : Nat}, (∀ i, i < n → f i = g i) → val f n = val g n
  | 0, _ => rfl
  | n + 1, h => by
    show val f n + f n * 4294967296 ^ n = val g n + g n * 4294967296 ^ n
    rw [val_congr (fun i hi => h i (by omega)), h n (by omega)]
theorem pow_pos (n : Nat) : (0 : Int) < 4294967296 ^ n := Int.pow_pos (by decide)
theorem val_bd {f : Nat → Int} : ∀ {n : Nat}, Wd n f → 0 ≤ val f n ∧ val f n < 4294967296 ^ n
  | 0, _ => ⟨Int.le_refl _, (by decide : (0 : Int) < 4294967296 ^ 0)⟩
  | n + 1, h => by
    obtain ⟨h0, h1⟩ := val_bd (fun i hi => h i (by omega) : Wd n f)
    obtain ⟨g0, g1⟩ := h n (by omega)
    have hp := pow_pos n
    have e1 : 0 ≤ f n * 4294967296 ^ n := Int.mul_nonneg g0 (by omega)
    have e2 : (f n + 1) * 4294967296 ^ n ≤ 4294967296 * 4294967296 ^ n := Int.mul_le_mul_of_nonneg_right (by omega) (by omega)
    rw [Int.add_mul, Int.one_mul] at e2
    refine ⟨?_, ?_⟩
    · show 0 ≤ val f n + f n * 4294967296 ^ n; omega
    · show val f n + f n * 4294967296 ^ n < 4294967296 ^ (n + 1)
      rw [Int.pow_succ, Int.mul_comm (4294967296 ^ n)]
      omega
/-- Noughts above do not count. -/
theorem val_noughts {f : Nat → Int} {m : Nat} : ∀ {n : Nat}, m ≤ n → (∀ i, m ≤ i → i < n → f i = 0) → val f n = val f m
  | 0, h, _ => by have : m = 0 := by omega
                  subst this; rfl
  | n + 1, h, hz => by
    rcases Nat.lt_or_ge n m with hl | hl
    · have : m = n + 1 := by omega
      subst this; rfl
    · show val f n + f n * 4294967296 ^ n = val f m
      rw [val_noughts hl (fun i h1 h2 => hz i h1 (by omega)), hz n hl (by omega)]
      omega
/-- A number without a nought last reaches its own length. -/
theorem val_ge {f : Nat → Int} {n : Nat} (h : Wd (n + 1) f) (hn : f n ≠ 0) : 4294967296 ^ n ≤ val f (n + 1) := by
  have h0 := (val_bd (fun i hi => h i (by omega) : Wd n f)).1
  have g0 := (h n (by omega)).1
  have := Int.mul_le_mul_of_nonneg_right (show 1 ≤ f n by omega) (Int.le_of_lt (pow_pos n))
  show 4294967296 ^ n ≤ val f n + f n * 4294967296 ^ n
  omega

/-- The n words f lie at the head of block b. -/
def Row (w : World) (b n : Nat) (f : Nat → Int) : Prop := ∀ i, i < n → w.cell? ⟨b, i, none⟩ = some (.int .u32 (f i))
/-- A slice value that holds n words. -/
def Sl (w : World) (v : Value) (n : Nat) (f : Nat → Int) : Prop :=
  (v = .slice none 0 0 ∧ n = 0) ∨ ∃ b cap : Nat, v = .slice (some ⟨b, 0, none⟩) n cap ∧ n ≤ cap ∧ cap ≤ 9223372036854775807 ∧ b < w.heap.size ∧ Row w b n f

theorem Row.same {w w' : World} {b n : Nat} {f : Nat → Int} (h : Row w b n f) (hb : w'.heap[b]? = w.heap[b]?) : Row w' b n f :=
  fun i hi => (World.cell?_of_block (w := w) (a := ⟨b, i, none⟩) hb).trans (h i hi)
theorem Row.less {w : World} {b n m : Nat} {f : Nat → Int} (h : Row w b n f) (hm : m ≤ n) : Row w b m f := fun i hi => h i (by omega)
theorem Wd.less {n m : Nat} {f : Nat → Int} (h : Wd n f) (hm : m ≤ n) : Wd m f := fun i hi => h i (by omega)

/-- The world w' has what w had, but for one block at most (and it may have more). -/
structure Kept (z : Nat) (w w' : World) : Prop where
  os : w'.os = w.os
  tape : w'.tape = w.tape
  output : w'.output = w.output
  size : w.heap.size ≤ w'.heap.size
  block : ∀ k, k < w.heap.size → k ≠ z → w'.heap[k]? = w.heap[k]?

theorem Kept.of_below {z : Nat} {w w' : World} (h : Below w.heap.size w w') : Kept z w w' := ⟨h.os, h.tape, h.output, h.size, fun k hk _ => h.block k hk⟩
theorem Kept.below {z : Nat} {w w' : World} (h : Kept z w w') (hz : w.heap.size ≤ z) : Below w.heap.size w w' := ⟨h.os, h.tape, h.output, h.size, fun k hk => h.block k hk (by omega)⟩
theorem Kept.trans {z z' : Nat} {a b c : World} (h : Kept z a b) (k : Kept z' b c) (hz : z' = z ∨ a.heap.size ≤ z') : Kept z a c :=
  ⟨k.os.trans h.os, k.tape.trans h.tape, k.output.trans h.output, Nat.le_trans h.size k.size, fun i hi hn => (k.block i (Nat.lt_of_lt_of_le hi h.size) (by omega)).trans (h.block i hi hn)⟩
theorem Sl.kept {z : Nat} {w w' : World} {v : Value} {n : Nat} {f : Nat → Int} (h : Sl w v n f) (k : Kept z w w') (hz : ∀ b cap, v = .slice (some ⟨b, 0, none⟩) n cap → b ≠ z) : Sl w' v n f := by
  rcases h with h | ⟨b, cap, hv, h1, h2, h3, h4⟩
  · exact Or.inl h
  · exact Or.inr ⟨b, cap, hv, h1, h2, Nat.lt_of_lt_of_le h3 k.size, h4.same (k.block b h3 (hz b cap hv))⟩
theorem Sl.below {w w' : World} {v : Value} {n : Nat} {f : Nat → Int} (h : Sl w v n f) (k : Below w.heap.size w w') : Sl w' v n f := by
  rcases h with h | ⟨b, cap, hv, h1, h2, h3, h4⟩
  · exact Or.inl h
  · exact Or.inr ⟨b, cap, hv, h1, h2, Nat.lt_of_lt_of_le h3 k.size, h4.same (k.block b h3)⟩

end Go.Proofs.YtngmeaaglogieabGreat
