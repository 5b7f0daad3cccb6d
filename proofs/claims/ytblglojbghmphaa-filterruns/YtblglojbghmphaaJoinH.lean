/- Joined: BigLow, BigDiv2. -/
import Derived.Test.YtblglojbghmphaaJoinF
import Derived.Laws.CopyOwn
import Derived.Test.YtblglojbghmphaaJoinG
namespace Go.Proofs.Ytblglojbghmphaa
open Go.RowKit

/-- A block of noughts into whose head words are copied. -/
theorem own_splice {w : World} {g n l : Nat} {f : Nat → Int} (hl : l ≤ n) (h : w.heap[g]? = some (.cells (splice (madeCells #[Value.int .u32 0] n).toList 0 ((List.range l).map (fun i => Value.int .u32 (f i)))).toArray 80 (0, 0))) :
    Own w g n (padF l f) := by
  have hs : (madeCells #[Value.int .u32 0] n).size = n := size_madeCells _ _
  refine ⟨_, h, ?_, ?_⟩
  · simp [splice, hs]; omega
  · intro i hi
    show ((splice (madeCells #[Value.int .u32 0] n).toList 0 ((List.range l).map (fun i => Value.int .u32 (f i)))).toArray)[i]? = some (.int .u32 (if i < l then f i else 0))
    rw [List.getElem?_toArray]
    unfold splice
    rw [List.take_zero, List.nil_append]
    by_cases hil : i < l
    · rw [if_pos hil, List.getElem?_append_left (by simpa using hil), List.getElem?_map, List.getElem?_range hil]; rfl
    · rw [if_neg hil, List.getElem?_append_right (by simpa using hil)]
      simp only [List.length_map, List.length_range, Nat.zero_add, List.getElem?_drop]
      rw [show l + (i - l) = i by omega]
      simp [madeCells, hi, Nat.mod_one]

/-- Words copied to the head of a new block of noughts. -/
theorem run_copy_new (n l cap : Nat) (ao : Option Addr) (f : Nat → Int) (hl : l ≤ n) (w : World) (hs : Sl w (.slice ao l cap) l f) :
    ∃ w1, (Builtin.copy_ #[53, 53] 3 #[.slice (some ⟨w.heap.size, 0, none⟩) n n, .slice ao l cap]).run Try.prog (w.alloc (.cells (madeCells #[.int .u32 0] n) 80)) = .ok (.int .i64 (l : Int)) w1 ∧
      Own w1 w.heap.size n (padF l f) ∧ Below w.heap.size w w1 := by
  obtain ⟨i0, hii, hz0, hz1, hz2⟩ := info_parts Try.infoU32
  have hsz : (Try.prog.info? 80).map (·.size) = some 1 := by rw [hii]; simp [hz1]
  have hg : (w.alloc (.cells (madeCells #[.int .u32 0] n) 80)).heap[w.heap.size]? = some (.cells (madeCells #[.int .u32 0] n) 80 (0, 0)) := by
    show (w.heap.push _)[w.heap.size]? = _
    rw [Array.getElem?_push_size]
  have hms : (madeCells #[Value.int .u32 0] n).size = n := size_madeCells _ _
  rcases Nat.eq_zero_or_pos l with h0 | h0
  · subst h0
    refine ⟨_, run_copy_none (P := Try.prog) _ _ _ _ 80 _ _ _ _ _ _ Try.underlying53 hsz (Nat.zero_min _), ?_, below_new w _⟩
    refine own_splice (f := f) (Nat.zero_le _) ?_
    rw [hg]
    simp [splice]
  · rcases hs with ⟨-, h⟩ | ⟨bv, cap', hv, -, -, hb, hr⟩
    · exact absurd h (by omega)
    · obtain rfl : ao = some ⟨bv, 0, none⟩ := by cases hv; rfl
      have hlen : ((List.range l).map (fun i => Value.int .u32 (f i))).length = l := by rw [List.length_map, List.length_range]
      have hrun := run_copy_row (P := Try.prog) (w.alloc (.cells (madeCells #[.int .u32 0] n) 80)) 53 53 3 80 w.heap.size 0 n n ⟨bv, 0, none⟩ l cap _ _ ((List.range l).map (fun i => Value.int .u32 (f i)))
        Try.underlying53 hsz hg (by rw [hlen]; exact (Nat.min_eq_left hl).symm) (by
          intro j u hj
          rw [List.getElem?_map] at hj
          rcases Nat.lt_or_ge j l with h | h
          · rw [List.getElem?_range h] at hj
            simp at hj
            subst hj
            have e : (⟨bv, 0, none⟩ : Addr).add j = ⟨bv, j, none⟩ := by unfold Addr.add; by_cases hj0 : j = 0 <;> simp [hj0]
            rw [e]; exact cell_below (hr j h) (below_new w _)
          · rw [List.getElem?_eq_none (by simpa using h)] at hj
            cases hj) (by rw [hlen, hms]; omega) (by
          intro u hu
          obtain ⟨i, _, rfl⟩ := List.mem_map.1 hu
          rfl)
      rw [hlen] at hrun
      refine ⟨_, hrun, ?_, below_setRow (below_new w _) (Nat.le_refl _) _⟩
      refine own_splice hl ?_
      rw [setRow_heap _ _ _ _ _ _ hg]
      simp [splice]

end Go.Proofs.Ytblglojbghmphaa

namespace Go.Proofs.Ytblglojbghmphaa
open Go.RowKit

/-- Words copied to the head of a block of noughts. -/
theorem run_copy_to (n l cap g : Nat) (ao : Option Addr) (f : Nat → Int) (hl : l ≤ n) (w : World) (hg : w.heap[g]? = some (.cells (madeCells #[.int .u32 0] n) 80 (0, 0))) (hs : Sl w (.slice ao l cap) l f) :
    ∃ w1, (Builtin.copy_ #[53, 53] 3 #[.slice (some ⟨g, 0, none⟩) n n, .slice ao l cap]).run Try.prog w = .ok (.int .i64 (l : Int)) w1 ∧
      Own w1 g n (padF l f) ∧ Kept g w w1 := by
  obtain ⟨i0, hii, hz0, hz1, hz2⟩ := info_parts Try.infoU32
  have hsz : (Try.prog.info? 80).map (·.size) = some 1 := by rw [hii]; simp [hz1]
  have hms : (madeCells #[Value.int .u32 0] n).size = n := size_madeCells _ _
  rcases Nat.eq_zero_or_pos l with h0 | h0
  · subst h0
    refine ⟨_, run_copy_none (P := Try.prog) _ _ _ _ 80 _ _ _ _ _ _ Try.underlying53 hsz (Nat.zero_min _), ?_, Kept.refl _ _⟩
    refine own_splice (f := f) (Nat.zero_le _) ?_
    rw [hg]
    simp [splice]
  · rcases hs with ⟨-, h⟩ | ⟨bv, cap', hv, -, -, hb, hr⟩
    · exact absurd h (by omega)
    · obtain rfl : ao = some ⟨bv, 0, none⟩ := by cases hv; rfl
      have hlen : ((List.range l).map (fun i => Value.int .u32 (f i))).length = l := by rw [List.length_map, List.length_range]
      have hrun := run_copy_row (P := Try.prog) w 53 53 3 80 g 0 n n ⟨bv, 0, none⟩ l cap _ _ ((List.range l).map (fun i => Value.int .u32 (f i)))
        Try.underlying53 hsz hg (by rw [hlen]; exact (Nat.min_eq_left hl).symm) (by
          intro j u hj
          rw [List.getElem?_map] at hj
          rcases Nat.lt_or_ge j l with h | h
          · rw [List.getElem?_range h] at hj
            simp at hj
            subst hj
            have e : (⟨bv, 0, none⟩ : Addr).add j = ⟨bv, j, none⟩ := by unfold Addr.add; by_cases hj0 : j = 0 <;> simp [hj0]
            rw [e]; exact hr j h
          · rw [List.getElem?_eq_none (by simpa using h)] at hj
            cases hj) (by rw [hlen, hms]; omega) (by
          intro u hu
          obtain ⟨i, _, rfl⟩ := List.mem_map.1 hu
          rfl)
      rw [hlen] at hrun
      refine ⟨_, hrun, ?_, ⟨rfl, rfl, rfl, by simp [World.setRow], fun k _ hk => setRow_other w g k _ hk⟩⟩
      refine own_splice hl ?_
      rw [setRow_heap _ _ _ _ _ _ hg]
      simp [splice]

/-- The divisor, shifted so that its highest bit stands at the end of a word. -/
theorem norm_top {b : Int} {L l : Nat} {f : Nat → Int} (hL : 1 ≤ L) (h1 : b < 2 ^ L) (h2 : 2 ^ L ≤ 2 * b) (hb : 4294967296 ≤ b) (hw : Wd l f) (hn : Nm l f) (hv : val f l = b * 2 ^ (31 - (L - 1) % 32)) :
    l = (L - 1) / 32 + 1 ∧ Dr l f ∧ 2 * val f l ≥ 4294967296 ^ l := by
  obtain ⟨K, rfl⟩ : ∃ K, L = K + 1 := ⟨L - 1, by omega⟩
  rw [show K + 1 - 1 = K by omega] at *
  obtain ⟨s, es⟩ : ∃ s, 31 - K % 32 = s := ⟨_, rfl⟩
  rw [es] at hv
  have e1 : K + 1 + s = 32 * (K / 32 + 1) := by omega
  have hp := two_pos s
  have hK : (2 : Int) ^ (K + 1) = 2 * 2 ^ K := by rw [Int.pow_succ, Int.mul_comm]
  have u1 : val f l < 4294967296 ^ (K / 32 + 1) := by
    rw [hv, pow32, ← e1, Int.pow_add]
    exact Int.mul_lt_mul_of_pos_right h1 hp
  have u2 : 4294967296 ^ (K / 32 + 1) ≤ 2 * val f l := by
    rw [hv, pow32, ← e1, Int.pow_add, ← Int.mul_assoc]
    exact Int.mul_le_mul_of_nonneg_right h2 (Int.le_of_lt hp)
  have l1 := len_le hw hn u1
  have hlow : K / 32 + 1 ≤ l := by
    rcases Nat.lt_or_ge l (K / 32 + 1) with h | h
    · have a := (val_bd hw).2
      have a2 : (4294967296 : Int) ^ l ≤ 4294967296 ^ (K / 32) := by rw [pow32, pow32]; exact pow_le_two (by omega)
      rw [Int.pow_succ] at u2
      have := pow_pos (K / 32)
      omega
    · exact h
  obtain rfl : l = K / 32 + 1 := by omega
  refine ⟨rfl, ⟨?_, hw, ?_⟩, u2⟩
  · rcases Nat.lt_or_ge K 32 with h | h
    · have : (2 : Int) ^ (K + 1) ≤ 2 ^ 32 := pow_le_two (by omega)
      have e32 : (2 : Int) ^ 32 = 4294967296 := by decide
      omega
    · omega
  · rw [show K / 32 + 1 - 1 = K / 32 by omega]
    have b1 := val_bd (hw.less (show K / 32 ≤ K / 32 + 1 by omega))
    have ev : val f (K / 32 + 1) = val f (K / 32) + f (K / 32) * 4294967296 ^ (K / 32) := rfl
    have := pow_pos (K / 32)
    rw [Int.pow_succ] at u2
    rcases Int.lt_or_le (f (K / 32)) 2147483648 with h | h
    · have := Int.mul_le_mul_of_nonneg_right (show f (K / 32) ≤ 2147483647 by omega) (Int.le_of_lt (pow_pos (K / 32)))
      omega
    · exact h

theorem Own.same {w w' : World} {b N : Nat} {g : Nat → Int} (h : Own w b N g) (hb : w'.heap[b]? = w.heap[b]?) : Own w' b N g := by
  obtain ⟨cs, h1, h2, h3⟩ := h
  exact ⟨cs, hb.trans h1, h2, h3⟩
theorem Own.other {w : World} {b c N : Nat} {g : Nat → Int} (h : Own w b N g) (hb : b ≠ c) (i : Nat) (u : Value) : Own (w.setCell ⟨c, i, none⟩ u) b N g := h.same (heap_setCell_other w ⟨c, i, none⟩ b u hb)

end Go.Proofs.Ytblglojbghmphaa
