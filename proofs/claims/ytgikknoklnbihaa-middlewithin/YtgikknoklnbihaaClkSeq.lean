/- What is sorted comes from an iterator: slices.AppendSeq, Collect, Sorted against whatever iterator of numbers. -/
import Derived.Test.YtgikknoklnbihaaRound
import Derived.Test.YtgikknoklnbihaaIntMem
import Derived.Test.YtgikknoklnbihaaClkSort
import Derived.Test.YtgikknoklnbihaaShelf
import Derived.Sort.OwnSortedInts
import Derived.Shelf.Abstract
import Derived.Shelf.RegionOpen
import Derived.WalkKit
import Derived.TacticsInMore
import Derived.LoopNIn
import Derived.LoopIn
namespace Go.Proofs.Ytgikknoklnbihaa
open Go.RowKit Go.Shelf Go.Sort

attribute [local go_sem] Oper.semAt_some

/-- An iterator that gives just these numbers, one after another; what it reads lies in w. -/
def GvOK (g : Nat) (lb : Array Value) (xs : List Int) (w : World) : Prop :=
  SeqStopsK Fence.wide 2 Try.prog g lb (fun x : Int => #[.int .i64 x]) (Below w.heap.size) (fun ys => ys = xs) (fun _ => True) xs.length w

/-- What lies in memory between two numbers. -/
def ApI (w : World) (pre : List Int) (W : World) : Prop :=
  ∃ (ao : Option Addr) (c : Nat), Vh 28 W w.heap.size 1 1 (fun _ => .slice ao pre.length c) ∧ W.ownsRow (w.heap.size + 1) 3 1 (.slice ao pre.length c) pre.length (pre.map (Value.int .i64)) ∧ Below w.heap.size w W ∧ w.heap.size + 1 ≤ W.heap.size
theorem apI_own {w : World} {B : Nat} (hB : B = w.heap.size + 1) : OwnFrom B (ApI w) := by
  subst hB
  rintro pre X Y row ⟨ao, c, h1, h2, h4, h5⟩ hg hrow
  have hlow : ∀ j, j < w.heap.size + 1 → some j ≠ row := fun j hj e => by have := (hrow j e.symm).1; omega
  refine ⟨ao, c, h1.same (hg.block _ h1.lt (hlow _ (by omega))), h2.kept hg ?_, h4.trans ⟨hg.os, hg.tape, hg.output, hg.size, fun j hj => hg.block j (by omega) (hlow j (by omega))⟩, Nat.le_trans h5 hg.size⟩
  rcases h2.2 with ⟨e, _⟩ | ⟨b, cap, cur, e, _, hgb, _⟩
  · exact .inl (by rw [e]; rfl)
  · rw [e]
    refine .inr fun e' => ?_
    obtain ⟨_, o, ho, hc⟩ := hrow b (by simpa [Value.ownBlock] using e'.symm)
    rw [hgb] at ho; cases ho; cases hc
theorem ap_round {w W w3 : World} {pre : List Int} {x : Int} {ao : Option Addr} {ac g' cap' : Nat} (B0 : Nat)
    (h1 : Vh 28 W w.heap.size 1 1 (fun _ => .slice ao pre.length ac)) (h2 : W.ownsRow (w.heap.size + 1) 3 1 (.slice ao pre.length ac) pre.length (pre.map (Value.int .i64))) (h4 : Below w.heap.size w W) (h5 : w.heap.size + 1 ≤ W.heap.size)
    (ho : w3.ownsRow (w.heap.size + 1) 3 1 (.slice (some ⟨g', 0, none⟩) (pre.length + 1) cap') (pre.length + 1) (pre.map (Value.int .i64) ++ [.int .i64 x])) (hg : (W.alloc (.cells #[.int .i64 x] 3)).grownBy w3 (Value.slice ao pre.length ac).ownBlock) :
    Vh 28 w3 w.heap.size 1 1 (fun _ => .slice ao pre.length ac) ∧ KeepsFrom B0 W (w3.setCell ⟨w.heap.size, 0, none⟩ (.slice (some ⟨g', 0, none⟩) (pre.length + 1) cap')) ∧ Below w.heap.size W (w3.setCell ⟨w.heap.size, 0, none⟩ (.slice (some ⟨g', 0, none⟩) (pre.length + 1) cap')) ∧ ApI w (pre ++ [x]) (w3.setCell ⟨w.heap.size, 0, none⟩ (.slice (some ⟨g', 0, none⟩) (pre.length + 1) cap')) := by
  have sz : (W.alloc (.cells #[.int .i64 x] 3)).heap.size = W.heap.size + 1 := al_size _ _
  have hlow : ∀ j, j < w.heap.size + 1 → some j ≠ (Value.slice ao pre.length ac).ownBlock := by
    intro j hj e
    rcases h2.2 with ⟨e2, _⟩ | ⟨b, cap, cur, e2, hb, _⟩
    · rw [e2] at e; simp [Value.ownBlock] at e
    · rw [e2] at e; simp [Value.ownBlock] at e; omega
  have hblk : ∀ j, j < w.heap.size + 1 → w3.heap[j]? = W.heap[j]? := fun j hj => (hg.block j (by rw [sz]; omega) (hlow j hj)).trans ((al_below W (.cells #[.int .i64 x] 3)).block j (show j < W.heap.size by omega))
  have s3 := hg.size
  rw [sz] at s3
  have m3 := h1.same (hblk _ (by omega))
  have m4 := m3.set 0 (.slice (some ⟨g', 0, none⟩) (pre.length + 1) cap')
  have k4 := kept_set w3 w.heap.size 0 (.slice (some ⟨g', 0, none⟩) (pre.length + 1) cap')
  obtain ⟨w4, e4⟩ : ∃ w4, w4 = w3.setCell ⟨w.heap.size, 0, none⟩ (.slice (some ⟨g', 0, none⟩) (pre.length + 1) cap') := ⟨_, rfl⟩
  rw [← e4] at m4 k4
  have hbl : Below w.heap.size W w4 := ⟨by rw [k4.os]; exact hg.os, by rw [k4.tape]; exact hg.tape, by rw [k4.output]; exact hg.output, by have := k4.size; omega, fun j hj => (k4.block j (by omega) (by omega)).trans (hblk j (by omega))⟩
  refine ⟨m3, ?_, ?_, ?_⟩
  · refine ((KeepsOthers.alloc W (.cells #[.int .i64 x] 3)).trans ((KeepsOthers.of_grownBy hg fun j o ej hj => ?_).trans (KeepsOthers.setCell _ _ _))).from _
    rcases (h2.alloc (.cells #[.int .i64 x] 3)).2 with ⟨e2, _⟩ | ⟨b, cap, cur, e2, _, hgb, _⟩
    · rw [e2] at ej; simp [Value.ownBlock] at ej
    · rw [e2] at ej
      obtain rfl : b = j := by simpa [Value.ownBlock] using ej
      rw [hgb] at hj; cases hj; rfl
  · rw [← e4]; exact hbl
  · rw [← e4]
    refine ⟨some ⟨g', 0, none⟩, cap', ?_, ?_, h4.trans hbl, ?_⟩
    · refine m4.congr (fun i hi => ?_)
      have : i = 0 := by omega
      subst this
      rw [stW_same]; simp
    · have := own_keptz ho k4 (by omega)
      simpa using this
    · have := k4.size; omega

theorem bx_new (w : World) (v : Value) : Vh 28 (w.alloc (.cells #[v] 28)) w.heap.size 1 1 (fun _ => v) := by
  refine Vh.new w 28 #[v] (fun _ => v) (by show 1 ≤ maxLen; decide) (fun i hi => ?_)
  have : i = 0 := by simp at hi; omega
  subst this
  rfl

set_option maxRecDepth 100000 in
set_option maxHeartbeats 2000000 in
theorem appendSeq_any (g : Nat) (lb : Array Value) (xs : List Int) (w : World) (hx : xs.length ≤ 64) (eg : ∀ args w, (callFunc g args).run Try.prog w = .ok (.enter g args) w) (hseq : GvOK g lb xs w) :
    Calls Try.prog 47 #[.slice none 0 0, .func (.func g) #[] lb] w fun e w' => ∃ v, e = .returned v ∧ w'.ownsRow w.heap.size 3 1 v xs.length (xs.map (Value.int .i64)) ∧ Below w.heap.size w w' := by
  obtain ⟨i0, hi, hz0, hz1, hz2⟩ := info_parts infoInt
  have h1 := bx_new w (.slice none 0 0)
  have k1 := al_below w (.cells #[.slice none 0 0] 28)
  have s1 := al_size w (.cells #[.slice none 0 0] 28)
  obtain ⟨w1, e1⟩ : ∃ w1, w1 = w.alloc (.cells #[.slice none 0 0] 28) := ⟨_, rfl⟩
  rw [← e1] at h1 k1 s1
  have E1 := hide e1; have H1 := hide h1; have K1 := hide k1; have S1 := hide s1; have HX := hide hx; have HQ := hide hseq
  clear e1 h1 k1 s1 hx hseq
  refine (callsIn_wide (n := 3)).1 ?_
  refine callsIn_of_wp_marks Try.func47 rfl trivial ?_ rfl
  refine wpIn_wide.2 ?_
  simp only [Try.ntmps47, List.size_toArray, List.length_cons, List.length_nil, Nat.reduceAdd, Nat.reduceSub, Array.replicate_succ, Array.replicate_zero, List.push_toArray, List.append_toArray, List.nil_append, List.cons_append]
  go_wp2_with fail
  rw [← unhide E1]
  refine (wpIn_wide (n := 3)).1 ?_
  refine wpIn_rangeFunc_ownG rfl (by omega) (gf := g) (lb := lb) rfl trivial eg (unhide HQ) (fun h k => h.trans k) (fun W l o o' hl h h2 h3 => belowK_b (w := w1) (by have := unhide S1; omega) W l o o' hl h h2 h3) (unhide K1) (fun _ => rfl)
    (ApI w) (fun _ _ _ => False) (apI_own (unhide S1)) (fun _ _ _ _ _ hs _ _ => hs)
    ⟨none, 0, unhide H1, World.ownsRow_nil _ _ _ _, unhide K1, by have := unhide S1; omega⟩
    (fun x => { tmps := #[.slice none 0 0, .func (.func g) #[] lb, .pointer (some ⟨w.heap.size, 0, none⟩), undef, .slice none 0 0, .int .i64 x, .func (.func g) #[] lb, .int .i64 x, undef, undef, undef, undef, undef], defers := [] }) ?assign ?body ?done ?stop
  case assign =>
    intro l x W K hK
    gi_wp2
    exact hK
  case body =>
    rintro l pre x W ⟨ao, ac, h1, h2, h4, h5⟩ hlt
    have c1 := h1.cell (i := 0) (by omega)
    have hx64 := unhide HX
    gi_wp2_with (first
      | (gi_at_builtin; refine wpListIn_append_own _ rfl _ _ 28 rfl (w.heap.size + 1) 3 i0 (.int .i64 0) 1 8 Try.underlying28 hi hz0 hz1 hz2 rfl (by decide) _ _ _ rfl (h2.alloc _) ⟨W.heap.size, 0, none⟩ 1 1 [.int .i64 x] rfl rfl (cell_one_new _ _ _) (by simp [Value.oneCell']) (by unfold maxLen; omega) (by omega) (by rw [al_size]; omega) ?_
         intro v' w3 hown3 hgr3 _
         obtain ⟨g', cap', rfl⟩ := ownsRow_succ hown3
         obtain ⟨m3, kf, kx, ki⟩ := ap_round (x := x) w1.heap.size h1 h2 h4 h5 hown3 hgr3
         have c3 := m3.cell (i := 0) (by omega)
         have f3 := m3.free 0
         have KF := hide kf; have KX := hide kx; have KI := hide ki
         clear kf kx ki hown3 hgr3 m3 h1 h2 h4 h5 c1
         go_frame)
      | gi_in)
    exact ⟨unhide KF, unhide KX, unhide KI⟩
  case done =>
    rintro D ys W hD rfl ⟨ao, ac, h1, h2, h4, h5⟩ hK
    have c1 := h1.cell (i := 0) (by omega)
    have H := hide (⟨h1, h2, h4, h5⟩ : _ ∧ _ ∧ _ ∧ _); have HK := hide hK; have HD := hide hD
    clear h1 h2 h4 h5 hK hD
    go_wp2_with fail
    obtain ⟨h1, h2, h4, h5⟩ := unhide H
    have hD := unhide HD
    rw [unhide S1] at hD
    have o5 := ownsRow_putObj h2 (.deferred none) (unhide HK) rfl
    have b5 := h4.trans (belowK_b (w := w) (Nat.le_refl _) W D _ (.deferred none) (by omega) (unhide HK) rfl rfl)
    refine ⟨by simp, .inl ⟨_, _, rfl, run_takeDeferred (unhide HK), ?_⟩⟩
    exact ⟨_, results_tmp rfl _ _ _, ⟨_, rfl, own_base o5 (by omega), b5⟩⟩
  case stop =>
    rintro D c pre W _ _ h _
    exact h.elim

theorem enter_sort : ∀ args w, (callFunc 40 args).run Try.prog w = .ok (.enter 40 args) w := enters_of Try.func40 (by kernel_rfl) rfl
theorem collect_any (g : Nat) (lb : Array Value) (xs : List Int) (w : World) (hx : xs.length ≤ 64) (eg : ∀ args w, (callFunc g args).run Try.prog w = .ok (.enter g args) w) (hseq : GvOK g lb xs w) :
    Calls Try.prog 39 #[.func (.func g) #[] lb] w fun e w' => ∃ v, e = .returned v ∧ w'.ownsRow w.heap.size 3 1 v xs.length (xs.map (Value.int .i64)) ∧ Below w.heap.size w w' := by
  have C := appendSeq_any g lb xs w hx eg hseq
  clear hseq eg
  go_enter Try.func39, Try.ntmps39
  go_wp2_with fail
  refine C.mono ?_
  rintro e w' ⟨v, rfl, h1, h2⟩
  have H1 := hide h1; have H2 := hide h2
  clear h1 h2 C
  go_wp2_with fail
  go_ret
  exact ⟨v, rfl, unhide H1, unhide H2⟩
/-- Sorting a row of one's own. -/
theorem sort_any (B : Nat) (v : Value) (xs : List Int) (w : World) (hx : xs.length ≤ 64) (ho : w.ownsRow B 3 1 v xs.length (xs.map (Value.int .i64))) (hB : B ≤ w.heap.size) :
    Calls Try.prog 40 #[v] w fun e w' => e = .returned (.tuple #[]) ∧ w'.ownsRow B 3 1 v xs.length ((srt xs).map (Value.int .i64)) ∧ Below B w w' := by
  rcases ho.2 with ⟨rfl, hz⟩ | ⟨gb, cap, cur, rfl, hbase, hgb, r1, r2, r3, r4⟩
  · have hss : xs = [] := List.eq_nil_of_length_eq_zero hz
    subst hss
    refine (AnyM.slices_Sort_int_none Try.sortInts none 0 w).mono ?_
    rintro e w' ⟨rfl, rfl⟩
    exact ⟨rfl, by simpa [srt] using ho, Below.refl _ _⟩
  · have hH : Holds (Value.int .i64) w gb 0 xs.toArray := holds_of_blockI hgb (by simpa using r4)
    have hgl : gb < w.heap.size := (Array.getElem?_eq_some_iff.1 hgb).1
    refine (AnyM.slices_Sort_int Try.sortInts gb 0 cap xs w hH hgl (by omega)).mono ?_
    rintro e w' ⟨rfl, nn, os, rfl⟩
    refine ⟨rfl, ownsRow_sortedI (srt_len xs) hbase hgb r1 r2 r3, ?_⟩
    exact (Below.refl B w).grown (grownBy_sortedI _) hB (fun j hj => by cases hj; exact hbase)
theorem sorted_any (g : Nat) (lb : Array Value) (xs : List Int) (w : World) (hx : xs.length ≤ 64) (eg : ∀ args w, (callFunc g args).run Try.prog w = .ok (.enter g args) w) (hseq : GvOK g lb xs w) :
    Calls Try.prog 29 #[.func (.func g) #[] lb] w fun e w' => ∃ ao cap, e = .returned (.slice ao xs.length cap) ∧ w'.ownsRow w.heap.size 3 1 (.slice ao xs.length cap) xs.length ((srt xs).map (Value.int .i64)) ∧ Below w.heap.size w w' := by
  have C := collect_any g lb xs w hx eg hseq
  clear hseq eg
  go_enter Try.func29, Try.ntmps29
  go_wp2_with fail
  refine C.mono ?_
  rintro e w1 ⟨v, rfl, h1, h2⟩
  have S := sort_any w.heap.size v xs w1 hx h1 h2.size
  obtain ⟨ao, cap, rfl⟩ : ∃ ao cap, v = .slice ao xs.length cap := by
    rcases h1.2 with ⟨rfl, h0⟩ | ⟨b, c, _, rfl, _⟩
    · exact ⟨none, 0, by rw [h0]⟩
    · exact ⟨_, c, rfl⟩
  have H2 := hide h2
  clear h1 h2 C
  go_wp2_with fail
  refine S.mono ?_
  rintro e w2 ⟨rfl, h3, h4⟩
  have H3 := hide h3; have H4 := hide h4
  clear h3 h4 S
  go_wp2_with fail
  go_ret
  exact ⟨ao, cap, rfl, unhide H3, (unhide H2).trans (unhide H4)⟩

end Go.Proofs.Ytgikknoklnbihaa
