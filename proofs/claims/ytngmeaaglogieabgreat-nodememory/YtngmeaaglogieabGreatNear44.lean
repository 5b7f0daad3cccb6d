/- Joined: RowRoom, Scribble. -/
import Derived.Test.YtngmeaaglogieabGreatNear67
import Derived.Laws.CopyRow
import Derived.Laws.CopyOwn
import Derived.ArgAppend
import Derived.Laws.AppendOwnNone
namespace Go.Proofs.YtngmeaaglogieabGreat
open Go.RowKit

theorem makeBig (n : Nat) (hn : n ≤ 17592186044410) (w : World) : (Instr.makeSlice 39 (.int .i64 (n : Int)) (.int .i64 (n : Int))).run Tryz.prog w = .ok (.slice (some ⟨w.heap.size, 0, none⟩) n n) (w.alloc (.cells (madeCells #[.int .i64 0] n) 3)) :=
  run_make_row' (P := Tryz.prog) 39 3 (.int .i64 0) 8 Tryz.underlying39 infoInt rfl .i64 .i64 n (by omega) (by omega) w

set_option maxHeartbeats 1000000 in
theorem sameB_yes (ao bo : Option Addr) (l ca cb : Nat) (f g : Nat → Int) (w : World) (hl : l ≤ 17592186044404) (ha : Rds w ao l f) (hb : Rds w bo l g) (he : ∀ i, i < l → f i = g i) :
    Calls Tryz.prog 29 #[.slice ao l ca, .slice bo l cb] w fun e w' => e = .returned (.bool true) ∧ Below w.heap.size w w' := by
  have tl : ((l : Int) != (l : Int)) = false := by simp
  have HA := hide ha; have HB := hide hb; have HE := hide he
  clear ha hb he
  go_enter Tryz.func29, Tryz.ntmps29
  go_wp2_with fail
  go_loopw [5] (fun is wr => ∃ i : Nat, is = .int .i64 i ∧ i ≤ l ∧ Below w.heap.size w wr)
    (fun is _ => l - (intOf is).toNat)
  case atStart => exact ⟨0, rfl, Nat.zero_le _, Below.refl _ _⟩
  case round =>
    obtain ⟨i, rfl, hi, hK⟩ := hrel
    by_cases hin : i < l
    · obtain ⟨b, o, rfl, hc⟩ := unhide HA (by omega)
      obtain ⟨b2, o2, rfl, hc2⟩ := unhide HB (by omega)
      have c1 := at_below (hc i hin) hK
      have c2 := at_below (hc2 i hin) hK
      rw [unhide HE i hin] at c1
      have tg : ((g i) != (g i)) = false := by simp
      have HK := hide hK
      clear hK hc hc2
      go_wp2_with fail
      go_region
      go_wp2_with fail
      go_roundw
      case rel => exact ⟨i + 1, by go_num, by omega, below_drew (unhide HK)⟩
      case measure => simp [intOf] <;> omega
    · have hin2 : i = l := by omega
      subst hin2
      have HK := hide hK
      clear hK
      go_wp2_with fail
      go_ret
      exact ⟨rfl, unhide HK⟩

/-- Numbers and two marks behind them. -/
def rmF (f : Nat → Int) (l : Nat) : Nat → Int := fun t => if t < l then f t else if t = l then -4711 else -4712
/-- A copy to the head of new noughts. -/
theorem copy_head (b l c : Nat) (ao : Option Addr) (f : Nat → Int) (w : World) (hb : Nh w b (l + 2) (l + 2) (fun _ => 0)) (ha : Rds w ao l f) :
    ∃ w1, (Builtin.copy_ #[39, 39] 3 #[.slice (some ⟨b, 0, none⟩) (l + 2) (l + 2), .slice ao l c]).run Tryz.prog w = .ok (.int .i64 (l : Int)) w1 ∧ Nh w1 b (l + 2) (l + 2) (fun t => if t < l then f t else 0) ∧ Kept b w w1 := by
  obtain ⟨i0, hi0, hz0, hz1, hz2⟩ := info_parts infoInt
  have hsz : (Tryz.prog.info? 3).map (·.size) = some 1 := by rw [hi0]; simp [hz1]
  rcases Nat.eq_zero_or_pos l with h0 | h0
  · subst h0
    exact ⟨w, run_copy_none (P := Tryz.prog) _ _ _ _ 3 _ _ _ _ _ _ Tryz.underlying39 hsz (Nat.zero_min _), hb.congr (fun t _ => by rw [if_neg (by omega)]), kept_refl _ _⟩
  · obtain ⟨ba, o, rfl, hc⟩ := ha h0
    obtain ⟨cur, h1, h2, h3, h4, h5⟩ := hb
    have hl := rowL_len f l
    rw [Nat.mul_one] at hl
    have hr := run_copy_row (P := Tryz.prog) w 39 39 3 3 b 0 (l + 2) (l + 2) ⟨ba, o, none⟩ l c cur 3 (rowL f l) Tryz.underlying39 hsz h1 (by rw [hl]; exact (Nat.min_eq_left (by omega)).symm) (rowL_cells hc) (by omega) (rowL_one f l)
    rw [hl] at hr
    refine ⟨_, hr, ⟨_, setRow_heap w b cur _ 3 (0, 0) h1, ?_, h3, h4, ?_⟩, ⟨rfl, rfl, rfl, by simp [World.setRow], fun k _ hk => setRow_other w b k _ hk⟩⟩
    · simp only [List.size_toArray, List.length_append, List.length_take, List.length_drop, Array.length_toList, hl]; omega
    · intro i hi
      rw [List.getElem?_toArray]
      show _ = some (Value.int .i64 (if i < l then f i else 0))
      by_cases c2 : i < l
      · rw [if_pos c2, List.append_assoc, List.take_zero, List.nil_append, List.getElem?_append_left (by omega)]
        exact rowL_at f c2
      · rw [if_neg c2, List.take_zero, List.nil_append, List.getElem?_append_right (by omega), hl, List.getElem?_drop, Array.getElem?_toList]
        rw [show 0 + l + (i - l) = i by omega]
        exact h5 i hi

set_option maxHeartbeats 1000000 in
theorem roomy_rd (ao : Option Addr) (l c : Nat) (f : Nat → Int) (w : World) (hl : l ≤ 17592186044404) (ha : Rds w ao l f) :
    Calls Tryz.prog 4 #[.slice ao l c] w fun e w' =>
      e = .returned (.slice (some ⟨w.heap.size, 0, none⟩) l (l + 2)) ∧ Nh w' w.heap.size (l + 2) (l + 2) (rmF f l) ∧ Below w.heap.size w w' := by
  have hmk := makeBig (l + 2) (by omega)
  rw [show ((l + 2 : Nat) : Int) = (l : Int) + 2 by omega] at hmk
  have w2 : IntKind.i64.wrap ((l : Int) + 2) = (l : Int) + 2 := by rw [IntKind.wrap_i64]; omega
  have w1' : IntKind.i64.wrap ((l : Int) + 1) = (l : Int) + 1 := by rw [IntKind.wrap_i64]; omega
  obtain ⟨w5, hcp, n5, k5⟩ := copy_head w.heap.size l c ao f (w.alloc (.cells (madeCells #[.int .i64 0] (l + 2)) 3)) (Nh.made w (l + 2) (by unfold maxLen; omega)) (ha.below (al_below _ _))
  have c1 := n5.cell (show l < l + 2 by omega); have c2 := n5.cell (show l + 1 < l + 2 by omega); have f1 := n5.free l; have f2 := n5.free (l + 1)
  have F := hide (show Nh ((w5.setCell ⟨w.heap.size, l, none⟩ (.int .i64 (-4711))).setCell ⟨w.heap.size, l + 1, none⟩ (.int .i64 (-4712))) w.heap.size (l + 2) (l + 2) (rmF f l) ∧ Below w.heap.size w ((w5.setCell ⟨w.heap.size, l, none⟩ (.int .i64 (-4711))).setCell ⟨w.heap.size, l + 1, none⟩ (.int .i64 (-4712))) from by
    refine ⟨((n5.set l (-4711)).set (l + 1) (-4712)).congr (fun t ht => ?_), ?_⟩
    · unfold rmF stF
      by_cases e1 : t = l + 1
      · rw [if_pos e1, if_neg (by omega), if_neg (by omega)]
      · rw [if_neg e1]
        by_cases e2 : t = l
        · rw [if_pos e2, if_neg (by omega), if_pos e2]
        · rw [if_neg e2, if_pos (by omega)]
          show (if t < l then f t else 0) = f t
          rw [if_pos (by omega)]
    · exact below_of_kept (below_of_kept (below_of_kept (al_below w _) k5 (Nat.le_refl _) (by rw [al_size]; omega)) (kept_set _ _ _ _) (Nat.le_refl _) (by have := k5.size; rw [al_size] at this; omega)) (kept_set _ _ _ _) (Nat.le_refl _) (by have := k5.size; rw [al_size] at this; have := (kept_set w5 w.heap.size l (.int .i64 (-4711))).size; omega))
  clear n5 k5 ha
  go_enter Tryz.func4, Tryz.ntmps4
  go_wp2_with fail
  go_ret
  exact ⟨rfl, (unhide F).1, (unhide F).2⟩
theorem roomy_any (ao : Option Addr) (l c : Nat) (f : Nat → Int) (w : World) (ha : ArgS w ao l c f) :
    Calls Tryz.prog 4 #[.slice ao l c] w fun e w' =>
      e = .returned (.slice (some ⟨w.heap.size, 0, none⟩) l (l + 2)) ∧ Nh w' w.heap.size (l + 2) (l + 2) (rmF f l) ∧ Below w.heap.size w w' := roomy_rd ao l c f w (by have := ha.2.1; omega) ha.rds

set_option maxHeartbeats 1000000 in
theorem stayed_rd (b l c2 : Nat) (ao : Option Addr) (f : Nat → Int) (w : World) (hl : l ≤ 17592186044404) (hn : Nh w b (l + 2) (l + 2) (rmF f l)) (ha : Rds w ao l f) :
    Calls Tryz.prog 11 #[.slice (some ⟨b, 0, none⟩) l (l + 2), .slice ao l c2] w fun e w' => e = .returned (.bool true) ∧ Below w.heap.size w w' := by
  have w2 : IntKind.i64.wrap ((l : Int) + 2) = (l : Int) + 2 := by rw [IntKind.wrap_i64]; omega
  have w1' : IntKind.i64.wrap ((l : Int) + 1) = (l : Int) + 1 := by rw [IntKind.wrap_i64]; omega
  have HN := hide hn; have HA := hide ha
  clear hn ha
  go_enter Tryz.func11, Tryz.ntmps11
  go_wp2_with fail
  refine (sameB_yes _ _ l _ _ (rmF f l) f _ hl ((unhide HN).less (by omega)).rds (unhide HA) (fun i hi => by unfold rmF; rw [if_pos hi])).mono ?_
  rintro e w1 ⟨rfl, k1⟩
  have n1 := (unhide HN).below k1
  have c1 : w1.cell? ⟨b, l, none⟩ = some (.int .i64 (-4711)) := by have := n1.cell (show l < l + 2 by omega); unfold rmF at this; rw [if_neg (by omega), if_pos rfl] at this; exact this
  have c2' : w1.cell? ⟨b, l + 1, none⟩ = some (.int .i64 (-4712)) := by have := n1.cell (show l + 1 < l + 2 by omega); unfold rmF at this; rw [if_neg (by omega), if_neg (by omega)] at this; exact this
  have K1 := hide k1
  clear k1 n1
  go_wp2_with fail
  go_ret
  exact ⟨rfl, unhide K1⟩
theorem stayed_any (b l c2 : Nat) (ao : Option Addr) (f : Nat → Int) (w : World) (hl : l ≤ 17592186043904) (hn : Nh w b (l + 2) (l + 2) (rmF f l)) (ha : Rds w ao l f) :
    Calls Tryz.prog 11 #[.slice (some ⟨b, 0, none⟩) l (l + 2), .slice ao l c2] w fun e w' => e = .returned (.bool true) ∧ Below w.heap.size w w' := stayed_rd b l c2 ao f w (by omega) hn ha

end Go.Proofs.YtngmeaaglogieabGreat

namespace Go.Proofs.YtngmeaaglogieabGreat
open Go.RowKit

/-- All blocks but those from B up to U are as they were. -/
structure KI (B U : Nat) (w w' : World) : Prop where
  os : w'.os = w.os
  tape : w'.tape = w.tape
  output : w'.output = w.output
  size : w.heap.size ≤ w'.heap.size
  block : ∀ k, k < w.heap.size → (k < B ∨ U ≤ k) → w'.heap[k]? = w.heap[k]?
theorem KI.of_below {B U : Nat} {w w' : World} (h : Below w.heap.size w w') : KI B U w w' := ⟨h.os, h.tape, h.output, h.size, fun k hk _ => h.block k hk⟩
theorem KI.of_kept {B U z : Nat} {w w' : World} (h : Kept z w w') (h1 : B ≤ z) (h2 : z < U ∨ w.heap.size ≤ z) : KI B U w w' := ⟨h.os, h.tape, h.output, h.size, fun k hk hh => h.block k hk (by omega)⟩
theorem KI.trans {B U : Nat} {a b c : World} (h : KI B U a b) (k : KI B U b c) : KI B U a c := ⟨k.os.trans h.os, k.tape.trans h.tape, k.output.trans h.output, Nat.le_trans h.size k.size, fun i hi hh => (k.block i (Nat.lt_of_lt_of_le hi h.size) hh).trans (h.block i hi hh)⟩
theorem below_ki {B U C : Nat} {w0 w w' : World} (h : Below C w0 w) (k : KI B U w w') (hc : C ≤ B) (hs : C ≤ w.heap.size) : Below C w0 w' := h.trans ⟨k.os, k.tape, k.output, k.size, fun i hi => k.block i (by omega) (Or.inl (by omega))⟩
theorem Nh.ki {B U : Nat} {w w' : World} {b N cap : Nat} {g : Nat → Int} (h : Nh w b N cap g) (k : KI B U w w') (hb : b < B ∨ U ≤ b) : Nh w' b N cap g := h.same (k.block b h.lt hb)
/-- A result: nothing, or numbers in a block of its own. -/
def ResO (w : World) (B U : Nat) (ao : Option Addr) (l c : Nat) : Prop := (ao = none ∧ l = 0 ∧ c = 0) ∨ ∃ (r : Nat) (F : Nat → Int), ao = some ⟨r, 0, none⟩ ∧ B ≤ r ∧ r < U ∧ Nh w r l c F ∧ l ≤ 36

/-- Three numbers of one kind. -/
theorem three_cells (w : World) : ∀ (j : Nat) (u : Value), [Value.int .i64 (-99), .int .i64 (-99), .int .i64 (-99)][j]? = some u → (w.alloc (.cells #[.int .i64 (-99), .int .i64 (-99), .int .i64 (-99)] 3)).cell? ((⟨w.heap.size, 0, none⟩ : Addr).add j) = some u := by
  intro j u hj
  have hb : (w.alloc (.cells #[.int .i64 (-99), .int .i64 (-99), .int .i64 (-99)] 3)).heap[w.heap.size]? = some (.cells #[.int .i64 (-99), .int .i64 (-99), .int .i64 (-99)] 3 (0, 0)) := heap_alloc_new _ _
  rw [Addr.add_lit]
  match j, hj with
  | 0, hj => cases hj; unfold World.cell?; rw [hb]; rfl
  | 1, hj => cases hj; unfold World.cell?; rw [hb]; rfl
  | 2, hj => cases hj; unfold World.cell?; rw [hb]; rfl
  | j + 3, hj => simp at hj
theorem three_one : ∀ u ∈ [Value.int .i64 (-99), .int .i64 (-99), .int .i64 (-99)], u.oneCell' = true := by
  intro u hu
  simp at hu
  subst hu; rfl
/-- The first number of an owned row. -/
theorem own_first {w : World} {base n : Nat} {v : Value} {xs : List Value} (hn : 1 ≤ n) (h : w.ownsRow base 3 1 v n xs) : ∃ g c cv, v = .slice (some ⟨g, 0, none⟩) n c ∧ base ≤ g ∧ g < w.heap.size ∧ w.cell? ⟨g, 0, none⟩ = some cv ∧ w.frozen? ⟨g, 0, none⟩ = false := by
  obtain ⟨hl, h1⟩ := h
  rcases h1 with ⟨rfl, rfl⟩ | ⟨g, cap, cur, rfl, hg, hh, hc, hm, hsz, hcur⟩
  · omega
  · have : 0 < cur.size := by omega
    exact ⟨g, cap, cur[0], rfl, hg, lt_of_block hh, by unfold World.cell?; rw [hh]; simp [this], by unfold World.frozen?; rw [hh]; rfl⟩

set_option maxHeartbeats 2000000 in
theorem scribbleO_any (B U : Nat) (ao : Option Addr) (l c : Nat) (w : World) (h : ResO w B U ao l c) (hB : B ≤ w.heap.size) :
    Calls Tryz.prog 9 #[.slice ao l c] w fun e w' => e = .returned (.tuple #[]) ∧ KI B U w w' := by
  obtain ⟨i0, hi0, hz0, hz1, hz2⟩ := info_parts infoInt
  rcases h with ⟨rfl, rfl, rfl⟩ | ⟨r, F, rfl, hr1, hr2, hn, hl⟩
  · go_enter Tryz.func9, Tryz.ntmps9
    go_wp2_with fail
    go_loopw [2] (fun is wr => is = .int .i64 0 ∧ w = wr) (fun _ _ => 0)
    case atStart => exact ⟨rfl, rfl⟩
    case round =>
      obtain ⟨rfl, rfl⟩ := hrel
      go_wp2_with (at_builtin; refine wpList_append_own _ rfl _ _ 39 rfl w.heap.size 3 i0 (.int .i64 0) 1 8 Tryz.underlying39 hi0 hz0 hz1 hz2 rfl (by decide) (.slice none 0 0) 0 [] rfl (World.ownsRow_nil _ _ _ _) ⟨w.heap.size, 0, none⟩ 3 3 [.int .i64 (-99), .int .i64 (-99), .int .i64 (-99)] rfl rfl (three_cells w) three_one (by decide) (by decide) (by rw [al_size]; omega) ?_)
      intro v' w2 hown hgr hnil
      obtain ⟨g, c', cv, rfl, hg1, hg2, c0, f0⟩ := own_first (by omega) hown
      have K2 := hide (show KI B U w w2 from (KI.of_below (al_below w _)).trans (by
        have k := below_grown hgr (by intro k h; cases h)
        exact ⟨k.os, k.tape, k.output, k.size, fun i hi _ => k.block i hi⟩))
      have HG := hide hg1
      clear hown hgr hnil hg1 hg2
      go_wp2_with fail
      go_end0
      refine ⟨rfl, ?_⟩
      have k3 := kept_set w2 g 0 (.int .i64 (-98))
      have k2 := unhide K2
      exact ⟨k3.os.trans k2.os, k3.tape.trans k2.tape, k3.output.trans k2.output, Nat.le_trans k2.size k3.size, fun i hi hh => (k3.block i (Nat.lt_of_lt_of_le hi k2.size) (by have := unhide HG; omega)).trans (k2.block i hi hh)⟩
  · have HR1 := hide hr1; have HR2 := hide hr2; have HN := hide hn
    clear hr1 hr2 hn
    go_enter Tryz.func9, Tryz.ntmps9
    go_wp2_with fail
    go_loopw [2] (fun is wr => ∃ (i : Nat) (F : Nat → Int), is = .int .i64 i ∧ i ≤ l ∧ Nh wr r l c F ∧ Kept r w wr) (fun is _ => l - (intOf is).toNat)
    case atStart => exact ⟨0, F, rfl, Nat.zero_le _, unhide HN, kept_refl _ _⟩
    case round =>
      obtain ⟨i, F2, rfl, hi, hn, hk⟩ := hrel
      have HN2 := hide hn; have HK := hide hk
      clear hn hk
      rename World => wr
      by_cases hil : i < l
      · have cc := (unhide HN2).cell hil; have ff := (unhide HN2).free i
        go_wp2_with fail
        go_roundw
        case rel => exact ⟨i + 1, stF F2 i (-99), by go_num, by omega, (unhide HN2).set i _, (unhide HK).trans (kept_set _ _ _ _) (Or.inl rfl)⟩
        case measure => simp [intOf] <;> omega
      · have hil2 : i = l := by omega
        subst hil2
        have LT := hide (unhide HN2).lt
        have KW := hide (show KI B U w wr from KI.of_kept (unhide HK) (unhide HR1) (Or.inl (unhide HR2)))
        have HO := hide ((((unhide HN2).owns (base := B) (unhide HR1))).alloc (.cells #[.int .i64 (-99), .int .i64 (-99), .int .i64 (-99)] 3))
        have SZ := hide (show B ≤ wr.heap.size from by have := (unhide HK).size; omega)
        by_cases hfit : i + 3 ≤ c
        · go_wp2_with (at_builtin; refine wpList_append_fits _ rfl _ _ 39 rfl B 3 i0 1 Tryz.underlying39 hi0 hz1 r i c _ rfl (unhide HO) ⟨wr.heap.size, 0, none⟩ 3 3 [.int .i64 (-99), .int .i64 (-99), .int .i64 (-99)] rfl rfl (three_cells wr) three_one hfit ?_)
          intro w2 hown hgr
          obtain ⟨g, c', cv, e, hg1, hg2, c0, f0⟩ := own_first (by omega) hown
          cases e
          have K2 := hide (show KI B U w w2 from ((unhide KW).trans (KI.of_below (al_below wr _))).trans ⟨hgr.os, hgr.tape, hgr.output, hgr.size, fun k hk hh => hgr.block k hk (by have h1 := unhide HR1; have h2 := unhide HR2; intro e; cases e; omega)⟩)
          clear hown hgr hg1 hg2
          go_wp2_with fail
          go_end0
          exact ⟨rfl, (unhide K2).trans (KI.of_kept (kept_set _ _ _ _) (unhide HR1) (Or.inl (unhide HR2)))⟩
        · go_wp2_with (at_builtin; refine wpList_append_grows _ rfl _ _ 39 rfl 3 i0 (.int .i64 0) 1 8 Tryz.underlying39 hi0 hz0 hz1 hz2 rfl (by decide) (some ⟨r, 0, none⟩) i c (rowL F2 i) rfl (fun h => by cases h) (rowL_len _ _) (fun b hb j u hj => ?_) ⟨wr.heap.size, 0, none⟩ 3 3 [.int .i64 (-99), .int .i64 (-99), .int .i64 (-99)] rfl rfl (three_cells wr) three_one (by omega) (by unfold maxLen; omega) (by omega) ?_)
          · cases hb
            exact rowL_cells (fun t ht => by rw [Nat.zero_add]; exact at_below ((unhide HN2).cell ht) (al_below _ _)) j u hj
          intro v' w2 hown hgr
          obtain ⟨g, c', cv, rfl, hg1, hg2, c0, f0⟩ := own_first (by omega) hown
          have K2 := hide (show KI B U w w2 from ((unhide KW).trans (KI.of_below (al_below wr _))).trans ⟨hgr.os, hgr.tape, hgr.output, hgr.size, fun k hk hh => hgr.block k hk (by simp)⟩)
          have HG := hide hg1
          clear hown hgr hg1 hg2
          go_wp2_with fail
          go_end0
          refine ⟨rfl, ?_⟩
          have k3 := kept_set w2 g 0 (.int .i64 (-98))
          have k2 := unhide K2
          have hs := (unhide HK).size
          exact ⟨k3.os.trans k2.os, k3.tape.trans k2.tape, k3.output.trans k2.output, Nat.le_trans k2.size k3.size, fun t ht hh => (k3.block t (Nat.lt_of_lt_of_le ht k2.size) (by have := unhide HG; omega)).trans (k2.block t ht hh)⟩

end Go.Proofs.YtngmeaaglogieabGreat
