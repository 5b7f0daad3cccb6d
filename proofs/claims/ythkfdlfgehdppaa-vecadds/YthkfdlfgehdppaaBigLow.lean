/- Contracts of the reference's whole numbers of any size: low and of for numbers not below nought, SetBit. -/
import Derived.Test.YthkfdlfgehdppaaBigMul
import Derived.Laws.CopyOwn
namespace Go.Proofs.Ythkfdlfgehdppaa
open Go.RowKit

/-- A block of noughts into whose head words are copied. -/
theorem own_splice {w : World} {g n l : Nat} {f : Nat → Int} (hl : l ≤ n) (h : w.heap[g]? = some (.cells (splice (madeCells #[Value.int .u32 0] n).toList 0 ((List.range l).map (fun i => Value.int .u32 (f i)))).toArray 83 (0, 0))) :
    Own w g n (padF l f) := by
  have hs : (madeCells #[Value.int .u32 0] n).size = n := size_madeCells _ _
  refine ⟨_, h, ?_, ?_⟩
  · simp [splice, hs]; omega
  · intro i hi
    show ((splice (madeCells #[Value.int .u32 0] n).toList 0 ((List.range l).map (fun i => Value.int .u32 (f i)))).toArray)[i]? = some (.int .u32 (if i < l then f i else 0))
    rw [List.getElem?_toArray]
    unfold splice
    rw [List.take_zero, List.nil_append]
    by_cases hil : i < l
    · rw [if_pos hil, List.getElem?_append_left (by simpa using hil), List.getElem?_map, List.getElem?_range hil]; rfl
    · rw [if_neg hil, List.getElem?_append_right (by simpa using hil)]
      simp only [List.length_map, List.length_range, Nat.zero_add, List.getElem?_drop]
      rw [show l + (i - l) = i by omega]
      simp [madeCells, hi, Nat.mod_one]

/-- Words copied to the head of a new block of noughts. -/
theorem run_copy_new (n l cap : Nat) (ao : Option Addr) (f : Nat → Int) (hl : l ≤ n) (w : World) (hs : Sl w (.slice ao l cap) l f) :
    ∃ w1, (Builtin.copy_ #[55, 55] 3 #[.slice (some ⟨w.heap.size, 0, none⟩) n n, .slice ao l cap]).run Try.prog (w.alloc (.cells (madeCells #[.int .u32 0] n) 83)) = .ok (.int .i64 (l : Int)) w1 ∧
      Own w1 w.heap.size n (padF l f) ∧ Below w.heap.size w w1 := by
  obtain ⟨i0, hii, hz0, hz1, hz2⟩ := info_parts Try.infoU32
  have hsz : (Try.prog.info? 83).map (·.size) = some 1 := by rw [hii]; simp [hz1]
  have hg : (w.alloc (.cells (madeCells #[.int .u32 0] n) 83)).heap[w.heap.size]? = some (.cells (madeCells #[.int .u32 0] n) 83 (0, 0)) := by
    show (w.heap.push _)[w.heap.size]? = _
    rw [Array.getElem?_push_size]
  have hms : (madeCells #[Value.int .u32 0] n).size = n := size_madeCells _ _
  rcases Nat.eq_zero_or_pos l with h0 | h0
  · subst h0
    refine ⟨_, run_copy_none (P := Try.prog) _ _ _ _ 83 _ _ _ _ _ _ Try.underlying55 hsz (Nat.zero_min _), ?_, below_new w _⟩
    refine own_splice (f := f) (Nat.zero_le _) ?_
    rw [hg]
    simp [splice]
  · rcases hs with ⟨-, h⟩ | ⟨bv, cap', hv, -, -, hb, hr⟩
    · exact absurd h (by omega)
    · obtain rfl : ao = some ⟨bv, 0, none⟩ := by cases hv; rfl
      have hlen : ((List.range l).map (fun i => Value.int .u32 (f i))).length = l := by rw [List.length_map, List.length_range]
      have hrun := run_copy_row (P := Try.prog) (w.alloc (.cells (madeCells #[.int .u32 0] n) 83)) 55 55 3 83 w.heap.size 0 n n ⟨bv, 0, none⟩ l cap _ _ ((List.range l).map (fun i => Value.int .u32 (f i)))
        Try.underlying55 hsz hg (by rw [hlen]; exact (Nat.min_eq_left hl).symm) (by
          intro j u hj
          rw [List.getElem?_map] at hj
          rcases Nat.lt_or_ge j l with h | h
          · rw [List.getElem?_range h] at hj
            simp at hj
            subst hj
            have e : (⟨bv, 0, none⟩ : Addr).add j = ⟨bv, j, none⟩ := by unfold Addr.add; by_cases hj0 : j = 0 <;> simp [hj0]
            rw [e]; exact cell_below (hr j h) (below_new w _)
          · rw [List.getElem?_eq_none (by simpa using h)] at hj
            cases hj) (by rw [hlen, hms]; omega) (by
          intro u hu
          obtain ⟨i, _, rfl⟩ := List.mem_map.1 hu
          rfl)
      rw [hlen] at hrun
      refine ⟨_, hrun, ?_, below_setRow (below_new w _) (Nat.le_refl _) _⟩
      refine own_splice hl ?_
      rw [setRow_heap _ _ _ _ _ _ hg]
      simp [splice]

set_option maxHeartbeats 400000 in
theorem low_any (b n l cap : Nat) (ao : Option Addr) (f : Nat → Int) (hl : l ≤ n) (hn : n ≤ 100000) (w : World) (hi : IntAt w b (.bool false) (.slice ao l cap)) (hs : Sl w (.slice ao l cap) l f) :
    Calls Try.prog 71 #[.pointer (some ⟨b, 0, none⟩), .int .i64 (n : Int)] w fun e w' =>
      e = .returned (.slice (some ⟨w.heap.size, 0, none⟩) n n) ∧ Own w' w.heap.size n (padF l f) ∧ Below w.heap.size w w' := by
  have hmk := fun wx => run_make_row' (P := Try.prog) 55 83 (.int .u32 0) 4 Try.underlying55 Try.infoU32 rfl .i64 .i64 n (by omega) (by omega) wx
  have c1 := cell_below hi.cell1 (below_new w (.cells (madeCells #[.int .u32 0] n) 83))
  obtain ⟨w1, hcp, ho, hb⟩ := run_copy_new n l cap ao f hl w hs
  have c0 := (IntAt.below hi hb).cell0
  have HO := hide ho; have HB := hide hb
  clear hi hs ho hb
  go_enter Try.func71, Try.ntmps71
  go_wp2_with fail
  go_ret
  exact ⟨rfl, unhide HO, unhide HB⟩

end Go.Proofs.Ythkfdlfgehdppaa
