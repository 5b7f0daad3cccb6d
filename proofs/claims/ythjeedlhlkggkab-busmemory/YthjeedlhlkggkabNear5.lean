/- Joined: RowRoom, Scribble. -/
import Derived.Test.YthjeedlhlkggkabOpenRow
import Derived.Laws.CopyRow
import Derived.Laws.CopyOwn
import Derived.ArgAppend
import Derived.Laws.AppendOwnNone
namespace Go.Proofs.Ythjeedlhlkggkab
open Go.RowKit

theorem makeBig (n : Nat) (hn : n ≤ 17592186044000) (w : World) : (Instr.makeSlice 63 (.int .i64 (n : Int)) (.int .i64 (n : Int))).run Try.prog w = .ok (.slice (some ⟨w.heap.size, 0, none⟩) n n) (w.alloc (.cells (madeCells #[.int .i64 0] n) 3)) :=
  run_make_row' (P := Try.prog) 63 3 (.int .i64 0) 8 Try.underlying63 infoInt rfl .i64 .i64 n (by omega) (by omega) w

/-- Numbers and two marks behind them. -/
def rmF (f : Nat → Int) (l : Nat) : Nat → Int := fun t => if t < l then f t else if t = l then -4711 else -4712
/-- A copy to the head of new noughts. -/
theorem copy_head (b l c : Nat) (ao : Option Addr) (f : Nat → Int) (w : World) (hb : Nh w b (l + 2) (l + 2) (fun _ => 0)) (ha : Rds w ao l f) :
    ∃ w1, (Builtin.copy_ #[63, 63] 3 #[.slice (some ⟨b, 0, none⟩) (l + 2) (l + 2), .slice ao l c]).run Try.prog w = .ok (.int .i64 (l : Int)) w1 ∧ Nh w1 b (l + 2) (l + 2) (fun t => if t < l then f t else 0) ∧ Kept b w w1 := by
  obtain ⟨i0, hi0, hz0, hz1, hz2⟩ := info_parts infoInt
  have hsz : (Try.prog.info? 3).map (·.size) = some 1 := by rw [hi0]; simp [hz1]
  rcases Nat.eq_zero_or_pos l with h0 | h0
  · subst h0
    exact ⟨w, run_copy_none (P := Try.prog) _ _ _ _ 3 _ _ _ _ _ _ Try.underlying63 hsz (Nat.zero_min _), hb.congr (fun t _ => by rw [if_neg (by omega)]), kept_refl _ _⟩
  · obtain ⟨ba, o, rfl, hc⟩ := ha h0
    obtain ⟨cur, h1, h2, h3, h4, h5⟩ := hb
    have hl := rowL_len f l
    rw [Nat.mul_one] at hl
    have hr := run_copy_row (P := Try.prog) w 63 63 3 3 b 0 (l + 2) (l + 2) ⟨ba, o, none⟩ l c cur 3 (rowL f l) Try.underlying63 hsz h1 (by rw [hl]; exact (Nat.min_eq_left (by omega)).symm) (rowL_cells hc) (by omega) (rowL_one f l)
    rw [hl] at hr
    refine ⟨_, hr, ⟨_, setRow_heap w b cur _ 3 (0, 0) h1, ?_, h3, h4, ?_⟩, ⟨rfl, rfl, rfl, by simp [World.setRow], fun k _ hk => setRow_other w b k _ hk⟩⟩
    · simp only [List.size_toArray, List.length_append, List.length_take, List.length_drop, Array.length_toList, hl]; omega
    · intro i hi
      rw [List.getElem?_toArray]
      show _ = some (Value.int .i64 (if i < l then f i else 0))
      by_cases c2 : i < l
      · rw [if_pos c2, List.append_assoc, List.take_zero, List.nil_append, List.getElem?_append_left (by omega)]
        exact rowL_at f c2
      · rw [if_neg c2, List.take_zero, List.nil_append, List.getElem?_append_right (by omega), hl, List.getElem?_drop, Array.getElem?_toList]
        rw [show 0 + l + (i - l) = i by omega]
        exact h5 i hi

end Go.Proofs.Ythjeedlhlkggkab

namespace Go.Proofs.Ythjeedlhlkggkab
open Go.RowKit

/-- All blocks but those from B up to U are as they were. -/
structure KI (B U : Nat) (w w' : World) : Prop where
  os : w'.os = w.os
  tape : w'.tape = w.tape
  output : w'.output = w.output
  size : w.heap.size ≤ w'.heap.size
  block : ∀ k, k < w.heap.size → (k < B ∨ U ≤ k) → w'.heap[k]? = w.heap[k]?
theorem KI.of_below {B U : Nat} {w w' : World} (h : Below w.heap.size w w') : KI B U w w' := ⟨h.os, h.tape, h.output, h.size, fun k hk _ => h.block k hk⟩
theorem KI.of_kept {B U z : Nat} {w w' : World} (h : Kept z w w') (h1 : B ≤ z) (h2 : z < U ∨ w.heap.size ≤ z) : KI B U w w' := ⟨h.os, h.tape, h.output, h.size, fun k hk hh => h.block k hk (by omega)⟩
theorem KI.trans {B U : Nat} {a b c : World} (h : KI B U a b) (k : KI B U b c) : KI B U a c := ⟨k.os.trans h.os, k.tape.trans h.tape, k.output.trans h.output, Nat.le_trans h.size k.size, fun i hi hh => (k.block i (Nat.lt_of_lt_of_le hi h.size) hh).trans (h.block i hi hh)⟩
theorem below_ki {B U C : Nat} {w0 w w' : World} (h : Below C w0 w) (k : KI B U w w') (hc : C ≤ B) (hs : C ≤ w.heap.size) : Below C w0 w' := h.trans ⟨k.os, k.tape, k.output, k.size, fun i hi => k.block i (by omega) (Or.inl (by omega))⟩
theorem Nh.ki {B U : Nat} {w w' : World} {b N cap : Nat} {g : Nat → Int} (h : Nh w b N cap g) (k : KI B U w w') (hb : b < B ∨ U ≤ b) : Nh w' b N cap g := h.same (k.block b h.lt hb)
/-- A result: nothing, or numbers in a block of its own. -/
def ResO (w : World) (B U : Nat) (ao : Option Addr) (l c : Nat) : Prop := (ao = none ∧ l = 0 ∧ c = 0) ∨ ∃ (r : Nat) (F : Nat → Int), ao = some ⟨r, 0, none⟩ ∧ B ≤ r ∧ r < U ∧ Nh w r l c F ∧ l ≤ 36

/-- Three numbers of one kind. -/
theorem three_cells (w : World) : ∀ (j : Nat) (u : Value), [Value.int .i64 (-99), .int .i64 (-99), .int .i64 (-99)][j]? = some u → (w.alloc (.cells #[.int .i64 (-99), .int .i64 (-99), .int .i64 (-99)] 3)).cell? ((⟨w.heap.size, 0, none⟩ : Addr).add j) = some u := by
  intro j u hj
  have hb : (w.alloc (.cells #[.int .i64 (-99), .int .i64 (-99), .int .i64 (-99)] 3)).heap[w.heap.size]? = some (.cells #[.int .i64 (-99), .int .i64 (-99), .int .i64 (-99)] 3 (0, 0)) := heap_alloc_new _ _
  rw [Addr.add_lit]
  match j, hj with
  | 0, hj => cases hj; unfold World.cell?; rw [hb]; rfl
  | 1, hj => cases hj; unfold World.cell?; rw [hb]; rfl
  | 2, hj => cases hj; unfold World.cell?; rw [hb]; rfl
  | j + 3, hj => simp at hj
theorem three_one : ∀ u ∈ [Value.int .i64 (-99), .int .i64 (-99), .int .i64 (-99)], u.oneCell' = true := by
  intro u hu
  simp at hu
  subst hu; rfl
/-- The first number of an owned row. -/
theorem own_first {w : World} {base n : Nat} {v : Value} {xs : List Value} (hn : 1 ≤ n) (h : w.ownsRow base 3 1 v n xs) : ∃ g c cv, v = .slice (some ⟨g, 0, none⟩) n c ∧ base ≤ g ∧ g < w.heap.size ∧ w.cell? ⟨g, 0, none⟩ = some cv ∧ w.frozen? ⟨g, 0, none⟩ = false := by
  obtain ⟨hl, h1⟩ := h
  rcases h1 with ⟨rfl, rfl⟩ | ⟨g, cap, cur, rfl, hg, hh, hc, hm, hsz, hcur⟩
  · omega
  · have : 0 < cur.size := by omega
    exact ⟨g, cap, cur[0], rfl, hg, lt_of_block hh, by unfold World.cell?; rw [hh]; simp [this], by unfold World.frozen?; rw [hh]; rfl⟩

end Go.Proofs.Ythjeedlhlkggkab
