/- Contracts: same, roomy, stayed: numbers with marked room behind them. -/
import Derived.Test.YtgikknoklnbihabOpenRow
import Derived.Laws.CopyRow
import Derived.Laws.CopyOwn
import Derived.ArgAppend
namespace Go.Proofs.Ytgikknoklnbihab
open Go.RowKit

theorem makeBig (n : Nat) (hn : n ≤ 17592186044000) (w : World) : (Instr.makeSlice 22 (.int .i64 (n : Int)) (.int .i64 (n : Int))).run Try.prog w = .ok (.slice (some ⟨w.heap.size, 0, none⟩) n n) (w.alloc (.cells (madeCells #[.int .i64 0] n) 3)) :=
  run_make_row' (P := Try.prog) 22 3 (.int .i64 0) 8 Try.underlying22 infoInt rfl .i64 .i64 n (by omega) (by omega) w

set_option maxHeartbeats 1000000 in
theorem sameB_yes (ao bo : Option Addr) (l ca cb : Nat) (f g : Nat → Int) (w : World) (hl : l ≤ 17592186043904) (ha : Rds w ao l f) (hb : Rds w bo l g) (he : ∀ i, i < l → f i = g i) :
    Calls Try.prog 22 #[.slice ao l ca, .slice bo l cb] w fun e w' => e = .returned (.bool true) ∧ Below w.heap.size w w' := by
  have tl : ((l : Int) != (l : Int)) = false := by simp
  have HA := hide ha; have HB := hide hb; have HE := hide he
  clear ha hb he
  go_enter Try.func22, Try.ntmps22
  go_wp2_with fail
  go_loopw [5] (fun is wr => ∃ i : Nat, is = .int .i64 i ∧ i ≤ l ∧ Below w.heap.size w wr)
    (fun is _ => l - (intOf is).toNat)
  case atStart => exact ⟨0, rfl, Nat.zero_le _, Below.refl _ _⟩
  case round =>
    obtain ⟨i, rfl, hi, hK⟩ := hrel
    by_cases hin : i < l
    · obtain ⟨b, o, rfl, hc⟩ := unhide HA (by omega)
      obtain ⟨b2, o2, rfl, hc2⟩ := unhide HB (by omega)
      have c1 := at_below (hc i hin) hK
      have c2 := at_below (hc2 i hin) hK
      rw [unhide HE i hin] at c1
      have tg : ((g i) != (g i)) = false := by simp
      have HK := hide hK
      clear hK hc hc2
      go_wp2_with fail
      go_region
      go_wp2_with fail
      go_roundw
      case rel => exact ⟨i + 1, by go_num, by omega, below_drew (unhide HK)⟩
      case measure => simp [intOf] <;> omega
    · have hin2 : i = l := by omega
      subst hin2
      have HK := hide hK
      clear hK
      go_wp2_with fail
      go_ret
      exact ⟨rfl, unhide HK⟩

/-- Numbers and two marks behind them. -/
def rmF (f : Nat → Int) (l : Nat) : Nat → Int := fun t => if t < l then f t else if t = l then -4711 else -4712
/-- A copy to the head of new noughts. -/
theorem copy_head (b l c : Nat) (ao : Option Addr) (f : Nat → Int) (w : World) (hb : Nh w b (l + 2) (l + 2) (fun _ => 0)) (ha : Rds w ao l f) :
    ∃ w1, (Builtin.copy_ #[22, 22] 3 #[.slice (some ⟨b, 0, none⟩) (l + 2) (l + 2), .slice ao l c]).run Try.prog w = .ok (.int .i64 (l : Int)) w1 ∧ Nh w1 b (l + 2) (l + 2) (fun t => if t < l then f t else 0) ∧ Kept b w w1 := by
  obtain ⟨i0, hi0, hz0, hz1, hz2⟩ := info_parts infoInt
  have hsz : (Try.prog.info? 3).map (·.size) = some 1 := by rw [hi0]; simp [hz1]
  rcases Nat.eq_zero_or_pos l with h0 | h0
  · subst h0
    exact ⟨w, run_copy_none (P := Try.prog) _ _ _ _ 3 _ _ _ _ _ _ Try.underlying22 hsz (Nat.zero_min _), hb.congr (fun t _ => by rw [if_neg (by omega)]), kept_refl _ _⟩
  · obtain ⟨ba, o, rfl, hc⟩ := ha h0
    obtain ⟨cur, h1, h2, h3, h4, h5⟩ := hb
    have hl := rowL_len f l
    rw [Nat.mul_one] at hl
    have hr := run_copy_row (P := Try.prog) w 22 22 3 3 b 0 (l + 2) (l + 2) ⟨ba, o, none⟩ l c cur 3 (rowL f l) Try.underlying22 hsz h1 (by rw [hl]; exact (Nat.min_eq_left (by omega)).symm) (rowL_cells hc) (by omega) (rowL_one f l)
    rw [hl] at hr
    refine ⟨_, hr, ⟨_, setRow_heap w b cur _ 3 (0, 0) h1, ?_, h3, h4, ?_⟩, ⟨rfl, rfl, rfl, by simp [World.setRow], fun k _ hk => setRow_other w b k _ hk⟩⟩
    · simp only [List.size_toArray, List.length_append, List.length_take, List.length_drop, Array.length_toList, hl]; omega
    · intro i hi
      rw [List.getElem?_toArray]
      show _ = some (Value.int .i64 (if i < l then f i else 0))
      by_cases c2 : i < l
      · rw [if_pos c2, List.append_assoc, List.take_zero, List.nil_append, List.getElem?_append_left (by omega)]
        exact rowL_at f c2
      · rw [if_neg c2, List.take_zero, List.nil_append, List.getElem?_append_right (by omega), hl, List.getElem?_drop, Array.getElem?_toList]
        rw [show 0 + l + (i - l) = i by omega]
        exact h5 i hi

set_option maxHeartbeats 1000000 in
theorem roomy_any (ao : Option Addr) (l c : Nat) (f : Nat → Int) (w : World) (ha : ArgS w ao l c f) :
    Calls Try.prog 14 #[.slice ao l c] w fun e w' =>
      e = .returned (.slice (some ⟨w.heap.size, 0, none⟩) l (l + 2)) ∧ Nh w' w.heap.size (l + 2) (l + 2) (rmF f l) ∧ Below w.heap.size w w' := by
  have hl : l ≤ 17592186043904 := by have := ha.2.1; omega
  have hmk := makeBig (l + 2) (by omega)
  rw [show ((l + 2 : Nat) : Int) = (l : Int) + 2 by omega] at hmk
  have w2 : IntKind.i64.wrap ((l : Int) + 2) = (l : Int) + 2 := by rw [IntKind.wrap_i64]; omega
  have w1' : IntKind.i64.wrap ((l : Int) + 1) = (l : Int) + 1 := by rw [IntKind.wrap_i64]; omega
  obtain ⟨w5, hcp, n5, k5⟩ := copy_head w.heap.size l c ao f (w.alloc (.cells (madeCells #[.int .i64 0] (l + 2)) 3)) (Nh.made w (l + 2) (by unfold maxLen; omega)) (ha.rds.below (al_below _ _))
  have c1 := n5.cell (show l < l + 2 by omega); have c2 := n5.cell (show l + 1 < l + 2 by omega); have f1 := n5.free l; have f2 := n5.free (l + 1)
  have F := hide (show Nh ((w5.setCell ⟨w.heap.size, l, none⟩ (.int .i64 (-4711))).setCell ⟨w.heap.size, l + 1, none⟩ (.int .i64 (-4712))) w.heap.size (l + 2) (l + 2) (rmF f l) ∧ Below w.heap.size w ((w5.setCell ⟨w.heap.size, l, none⟩ (.int .i64 (-4711))).setCell ⟨w.heap.size, l + 1, none⟩ (.int .i64 (-4712))) from by
    refine ⟨((n5.set l (-4711)).set (l + 1) (-4712)).congr (fun t ht => ?_), ?_⟩
    · unfold rmF stF
      by_cases e1 : t = l + 1
      · rw [if_pos e1, if_neg (by omega), if_neg (by omega)]
      · rw [if_neg e1]
        by_cases e2 : t = l
        · rw [if_pos e2, if_neg (by omega), if_pos e2]
        · rw [if_neg e2, if_pos (by omega)]
          show (if t < l then f t else 0) = f t
          rw [if_pos (by omega)]
    · exact below_of_kept (below_of_kept (below_of_kept (al_below w _) k5 (Nat.le_refl _) (by rw [al_size]; omega)) (kept_set _ _ _ _) (Nat.le_refl _) (by have := k5.size; rw [al_size] at this; omega)) (kept_set _ _ _ _) (Nat.le_refl _) (by have := k5.size; rw [al_size] at this; have := (kept_set w5 w.heap.size l (.int .i64 (-4711))).size; omega))
  clear n5 k5 ha
  go_enter Try.func14, Try.ntmps14
  go_wp2_with fail
  go_ret
  exact ⟨rfl, (unhide F).1, (unhide F).2⟩

set_option maxHeartbeats 1000000 in
theorem stayed_any (b l c2 : Nat) (ao : Option Addr) (f : Nat → Int) (w : World) (hl : l ≤ 17592186043904) (hn : Nh w b (l + 2) (l + 2) (rmF f l)) (ha : Rds w ao l f) :
    Calls Try.prog 15 #[.slice (some ⟨b, 0, none⟩) l (l + 2), .slice ao l c2] w fun e w' => e = .returned (.bool true) ∧ Below w.heap.size w w' := by
  have w2 : IntKind.i64.wrap ((l : Int) + 2) = (l : Int) + 2 := by rw [IntKind.wrap_i64]; omega
  have w1' : IntKind.i64.wrap ((l : Int) + 1) = (l : Int) + 1 := by rw [IntKind.wrap_i64]; omega
  have HN := hide hn; have HA := hide ha
  clear hn ha
  go_enter Try.func15, Try.ntmps15
  go_wp2_with fail
  refine (sameB_yes _ _ l _ _ (rmF f l) f _ hl ((unhide HN).less (by omega)).rds (unhide HA) (fun i hi => by unfold rmF; rw [if_pos hi])).mono ?_
  rintro e w1 ⟨rfl, k1⟩
  have n1 := (unhide HN).below k1
  have c1 : w1.cell? ⟨b, l, none⟩ = some (.int .i64 (-4711)) := by have := n1.cell (show l < l + 2 by omega); unfold rmF at this; rw [if_neg (by omega), if_pos rfl] at this; exact this
  have c2' : w1.cell? ⟨b, l + 1, none⟩ = some (.int .i64 (-4712)) := by have := n1.cell (show l + 1 < l + 2 by omega); unfold rmF at this; rw [if_neg (by omega), if_neg (by omega)] at this; exact this
  have K1 := hide k1
  clear k1 n1
  go_wp2_with fail
  go_ret
  exact ⟨rfl, unhide K1⟩

end Go.Proofs.Ytgikknoklnbihab
