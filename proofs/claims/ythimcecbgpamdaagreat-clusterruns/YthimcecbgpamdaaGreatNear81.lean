/- Joined: ClkSeq, ClkIter, ClkOth, ClkSmall, ClkMid. -/
import Derived.Test.YthimcecbgpamdaaGreatNear164
import Derived.Test.YthimcecbgpamdaaGreatNear70
import Derived.Test.YthimcecbgpamdaaGreatNear149
import Derived.Test.YthimcecbgpamdaaGreatShelf
import Derived.Sort.OwnSortedInts
import Derived.Shelf.Abstract
import Derived.Shelf.RegionOpen
import Derived.WalkKit
import Derived.TacticsInMore
import Derived.LoopNIn
import Derived.LoopIn
namespace Go.Proofs.YthimcecbgpamdaaGreat
open Go.RowKit Go.Shelf Go.Sort

attribute [local go_sem] Oper.semAt_some

/-- An iterator that gives just these numbers, one after another; what it reads lies in w. -/
def GvOK (g : Nat) (lb : Array Value) (xs : List Int) (w : World) : Prop :=
  SeqStopsK Fence.wide 2 Tryz.prog g lb (fun x : Int => #[.int .i64 x]) (Below w.heap.size) (fun ys => ys = xs) (fun _ => True) xs.length w

/-- What lies in memory between two numbers. -/
def ApI (w : World) (pre : List Int) (W : World) : Prop :=
  ∃ (ao : Option Addr) (c : Nat), Vh 65 W w.heap.size 1 1 (fun _ => .slice ao pre.length c) ∧ W.ownsRow (w.heap.size + 1) 3 1 (.slice ao pre.length c) pre.length (pre.map (Value.int .i64)) ∧ Below w.heap.size w W ∧ w.heap.size + 1 ≤ W.heap.size
theorem apI_own {w : World} {B : Nat} (hB : B = w.heap.size + 1) : OwnFrom B (ApI w) := by
  subst hB
  rintro pre X Y row ⟨ao, c, h1, h2, h4, h5⟩ hg hrow
  have hlow : ∀ j, j < w.heap.size + 1 → some j ≠ row := fun j hj e => by have := (hrow j e.symm).1; omega
  refine ⟨ao, c, h1.same (hg.block _ h1.lt (hlow _ (by omega))), h2.kept hg ?_, h4.trans ⟨hg.os, hg.tape, hg.output, hg.size, fun j hj => hg.block j (by omega) (hlow j (by omega))⟩, Nat.le_trans h5 hg.size⟩
  rcases h2.2 with ⟨e, _⟩ | ⟨b, cap, cur, e, _, hgb, _⟩
  · exact .inl (by rw [e]; rfl)
  · rw [e]
    refine .inr fun e' => ?_
    obtain ⟨_, o, ho, hc⟩ := hrow b (by simpa [Value.ownBlock] using e'.symm)
    rw [hgb] at ho; cases ho; cases hc
theorem ap_round {w W w3 : World} {pre : List Int} {x : Int} {ao : Option Addr} {ac g' cap' : Nat} (B0 : Nat)
    (h1 : Vh 65 W w.heap.size 1 1 (fun _ => .slice ao pre.length ac)) (h2 : W.ownsRow (w.heap.size + 1) 3 1 (.slice ao pre.length ac) pre.length (pre.map (Value.int .i64))) (h4 : Below w.heap.size w W) (h5 : w.heap.size + 1 ≤ W.heap.size)
    (ho : w3.ownsRow (w.heap.size + 1) 3 1 (.slice (some ⟨g', 0, none⟩) (pre.length + 1) cap') (pre.length + 1) (pre.map (Value.int .i64) ++ [.int .i64 x])) (hg : (W.alloc (.cells #[.int .i64 x] 3)).grownBy w3 (Value.slice ao pre.length ac).ownBlock) :
    Vh 65 w3 w.heap.size 1 1 (fun _ => .slice ao pre.length ac) ∧ KeepsFrom B0 W (w3.setCell ⟨w.heap.size, 0, none⟩ (.slice (some ⟨g', 0, none⟩) (pre.length + 1) cap')) ∧ Below w.heap.size W (w3.setCell ⟨w.heap.size, 0, none⟩ (.slice (some ⟨g', 0, none⟩) (pre.length + 1) cap')) ∧ ApI w (pre ++ [x]) (w3.setCell ⟨w.heap.size, 0, none⟩ (.slice (some ⟨g', 0, none⟩) (pre.length + 1) cap')) := by
  have sz : (W.alloc (.cells #[.int .i64 x] 3)).heap.size = W.heap.size + 1 := al_size _ _
  have hlow : ∀ j, j < w.heap.size + 1 → some j ≠ (Value.slice ao pre.length ac).ownBlock := by
    intro j hj e
    rcases h2.2 with ⟨e2, _⟩ | ⟨b, cap, cur, e2, hb, _⟩
    · rw [e2] at e; simp [Value.ownBlock] at e
    · rw [e2] at e; simp [Value.ownBlock] at e; omega
  have hblk : ∀ j, j < w.heap.size + 1 → w3.heap[j]? = W.heap[j]? := fun j hj => (hg.block j (by rw [sz]; omega) (hlow j hj)).trans ((al_below W (.cells #[.int .i64 x] 3)).block j (show j < W.heap.size by omega))
  have s3 := hg.size
  rw [sz] at s3
  have m3 := h1.same (hblk _ (by omega))
  have m4 := m3.set 0 (.slice (some ⟨g', 0, none⟩) (pre.length + 1) cap')
  have k4 := kept_set w3 w.heap.size 0 (.slice (some ⟨g', 0, none⟩) (pre.length + 1) cap')
  obtain ⟨w4, e4⟩ : ∃ w4, w4 = w3.setCell ⟨w.heap.size, 0, none⟩ (.slice (some ⟨g', 0, none⟩) (pre.length + 1) cap') := ⟨_, rfl⟩
  rw [← e4] at m4 k4
  have hbl : Below w.heap.size W w4 := ⟨by rw [k4.os]; exact hg.os, by rw [k4.tape]; exact hg.tape, by rw [k4.output]; exact hg.output, by have := k4.size; omega, fun j hj => (k4.block j (by omega) (by omega)).trans (hblk j (by omega))⟩
  refine ⟨m3, ?_, ?_, ?_⟩
  · refine ((KeepsOthers.alloc W (.cells #[.int .i64 x] 3)).trans ((KeepsOthers.of_grownBy hg fun j o ej hj => ?_).trans (KeepsOthers.setCell _ _ _))).from _
    rcases (h2.alloc (.cells #[.int .i64 x] 3)).2 with ⟨e2, _⟩ | ⟨b, cap, cur, e2, _, hgb, _⟩
    · rw [e2] at ej; simp [Value.ownBlock] at ej
    · rw [e2] at ej
      obtain rfl : b = j := by simpa [Value.ownBlock] using ej
      rw [hgb] at hj; cases hj; rfl
  · rw [← e4]; exact hbl
  · rw [← e4]
    refine ⟨some ⟨g', 0, none⟩, cap', ?_, ?_, h4.trans hbl, ?_⟩
    · refine m4.congr (fun i hi => ?_)
      have : i = 0 := by omega
      subst this
      rw [stW_same]; simp
    · have := own_keptz ho k4 (by omega)
      simpa using this
    · have := k4.size; omega

theorem bx_new (w : World) (v : Value) : Vh 65 (w.alloc (.cells #[v] 65)) w.heap.size 1 1 (fun _ => v) := by
  refine Vh.new w 65 #[v] (fun _ => v) (by show 1 ≤ maxLen; decide) (fun i hi => ?_)
  have : i = 0 := by simp at hi; omega
  subst this
  rfl

set_option maxRecDepth 100000 in
set_option maxHeartbeats 2000000 in
theorem appendSeq_any (g : Nat) (lb : Array Value) (xs : List Int) (w : World) (hx : xs.length ≤ 64) (eg : ∀ args w, (callFunc g args).run Tryz.prog w = .ok (.enter g args) w) (hseq : GvOK g lb xs w) :
    Calls Tryz.prog 194 #[.slice none 0 0, .func (.func g) #[] lb] w fun e w' => ∃ v, e = .returned v ∧ w'.ownsRow w.heap.size 3 1 v xs.length (xs.map (Value.int .i64)) ∧ Below w.heap.size w w' := by
  obtain ⟨i0, hi, hz0, hz1, hz2⟩ := info_parts infoInt
  have h1 := bx_new w (.slice none 0 0)
  have k1 := al_below w (.cells #[.slice none 0 0] 65)
  have s1 := al_size w (.cells #[.slice none 0 0] 65)
  obtain ⟨w1, e1⟩ : ∃ w1, w1 = w.alloc (.cells #[.slice none 0 0] 65) := ⟨_, rfl⟩
  rw [← e1] at h1 k1 s1
  have E1 := hide e1; have H1 := hide h1; have K1 := hide k1; have S1 := hide s1; have HX := hide hx; have HQ := hide hseq
  clear e1 h1 k1 s1 hx hseq
  refine (callsIn_wide (n := 3)).1 ?_
  refine callsIn_of_wp_marks Tryz.func194 rfl trivial ?_ rfl
  refine wpIn_wide.2 ?_
  simp only [Tryz.ntmps194, List.size_toArray, List.length_cons, List.length_nil, Nat.reduceAdd, Nat.reduceSub, Array.replicate_succ, Array.replicate_zero, List.push_toArray, List.append_toArray, List.nil_append, List.cons_append]
  go_wp2_with fail
  rw [← unhide E1]
  refine (wpIn_wide (n := 3)).1 ?_
  refine wpIn_rangeFunc_ownG rfl (by omega) (gf := g) (lb := lb) rfl trivial eg (unhide HQ) (fun h k => h.trans k) (fun W l o o' hl h h2 h3 => belowK_b (w := w1) (by have := unhide S1; omega) W l o o' hl h h2 h3) (unhide K1) (fun _ => rfl)
    (ApI w) (fun _ _ _ => False) (apI_own (unhide S1)) (fun _ _ _ _ _ hs _ _ => hs)
    ⟨none, 0, unhide H1, World.ownsRow_nil _ _ _ _, unhide K1, by have := unhide S1; omega⟩
    (fun x => { tmps := #[.slice none 0 0, .func (.func g) #[] lb, .pointer (some ⟨w.heap.size, 0, none⟩), undef, .slice none 0 0, .int .i64 x, .func (.func g) #[] lb, .int .i64 x, undef, undef, undef, undef, undef], defers := [] }) ?assign ?body ?done ?stop
  case assign =>
    intro l x W K hK
    gi_wp2
    exact hK
  case body =>
    rintro l pre x W ⟨ao, ac, h1, h2, h4, h5⟩ hlt
    have c1 := h1.cell (i := 0) (by omega)
    have hx64 := unhide HX
    gi_wp2_with (first
      | (gi_at_builtin; refine wpListIn_append_own _ rfl _ _ 65 rfl (w.heap.size + 1) 3 i0 (.int .i64 0) 1 8 Tryz.underlying65 hi hz0 hz1 hz2 rfl (by decide) _ _ _ rfl (h2.alloc _) ⟨W.heap.size, 0, none⟩ 1 1 [.int .i64 x] rfl rfl (cell_one_new _ _ _) (by simp [Value.oneCell']) (by unfold maxLen; omega) (by omega) (by rw [al_size]; omega) ?_
         intro v' w3 hown3 hgr3 _
         obtain ⟨g', cap', rfl⟩ := ownsRow_succ hown3
         obtain ⟨m3, kf, kx, ki⟩ := ap_round (x := x) w1.heap.size h1 h2 h4 h5 hown3 hgr3
         have c3 := m3.cell (i := 0) (by omega)
         have f3 := m3.free 0
         have KF := hide kf; have KX := hide kx; have KI := hide ki
         clear kf kx ki hown3 hgr3 m3 h1 h2 h4 h5 c1
         go_frame)
      | gi_in)
    exact ⟨unhide KF, unhide KX, unhide KI⟩
  case done =>
    rintro D ys W hD rfl ⟨ao, ac, h1, h2, h4, h5⟩ hK
    have c1 := h1.cell (i := 0) (by omega)
    have H := hide (⟨h1, h2, h4, h5⟩ : _ ∧ _ ∧ _ ∧ _); have HK := hide hK; have HD := hide hD
    clear h1 h2 h4 h5 hK hD
    go_wp2_with fail
    obtain ⟨h1, h2, h4, h5⟩ := unhide H
    have hD := unhide HD
    rw [unhide S1] at hD
    have o5 := ownsRow_putObj h2 (.deferred none) (unhide HK) rfl
    have b5 := h4.trans (belowK_b (w := w) (Nat.le_refl _) W D _ (.deferred none) (by omega) (unhide HK) rfl rfl)
    refine ⟨by simp, .inl ⟨_, _, rfl, run_takeDeferred (unhide HK), ?_⟩⟩
    exact ⟨_, results_tmp rfl _ _ _, ⟨_, rfl, own_base o5 (by omega), b5⟩⟩
  case stop =>
    rintro D c pre W _ _ h _
    exact h.elim

theorem enter_sort : ∀ args w, (callFunc 176 args).run Tryz.prog w = .ok (.enter 176 args) w := enters_of Tryz.func176 (by kernel_rfl) rfl
theorem collect_any (g : Nat) (lb : Array Value) (xs : List Int) (w : World) (hx : xs.length ≤ 64) (eg : ∀ args w, (callFunc g args).run Tryz.prog w = .ok (.enter g args) w) (hseq : GvOK g lb xs w) :
    Calls Tryz.prog 175 #[.func (.func g) #[] lb] w fun e w' => ∃ v, e = .returned v ∧ w'.ownsRow w.heap.size 3 1 v xs.length (xs.map (Value.int .i64)) ∧ Below w.heap.size w w' := by
  have C := appendSeq_any g lb xs w hx eg hseq
  clear hseq eg
  go_enter Tryz.func175, Tryz.ntmps175
  go_wp2_with fail
  refine C.mono ?_
  rintro e w' ⟨v, rfl, h1, h2⟩
  have H1 := hide h1; have H2 := hide h2
  clear h1 h2 C
  go_wp2_with fail
  go_ret
  exact ⟨v, rfl, unhide H1, unhide H2⟩
/-- Sorting a row of one's own. -/
theorem sort_any (B : Nat) (v : Value) (xs : List Int) (w : World) (hx : xs.length ≤ 64) (ho : w.ownsRow B 3 1 v xs.length (xs.map (Value.int .i64))) (hB : B ≤ w.heap.size) :
    Calls Tryz.prog 176 #[v] w fun e w' => e = .returned (.tuple #[]) ∧ w'.ownsRow B 3 1 v xs.length ((srt xs).map (Value.int .i64)) ∧ Below B w w' := by
  rcases ho.2 with ⟨rfl, hz⟩ | ⟨gb, cap, cur, rfl, hbase, hgb, r1, r2, r3, r4⟩
  · have hss : xs = [] := List.eq_nil_of_length_eq_zero hz
    subst hss
    refine (AnyM.slices_Sort_int_none Tryz.sortInts none 0 w).mono ?_
    rintro e w' ⟨rfl, rfl⟩
    exact ⟨rfl, by simpa [srt] using ho, Below.refl _ _⟩
  · have hH : Holds (Value.int .i64) w gb 0 xs.toArray := holds_of_blockI hgb (by simpa using r4)
    have hgl : gb < w.heap.size := (Array.getElem?_eq_some_iff.1 hgb).1
    refine (AnyM.slices_Sort_int Tryz.sortInts gb 0 cap xs w hH hgl (by omega)).mono ?_
    rintro e w' ⟨rfl, nn, os, rfl⟩
    refine ⟨rfl, ownsRow_sortedI (srt_len xs) hbase hgb r1 r2 r3, ?_⟩
    exact (Below.refl B w).grown (grownBy_sortedI _) hB (fun j hj => by cases hj; exact hbase)
theorem sorted_any (g : Nat) (lb : Array Value) (xs : List Int) (w : World) (hx : xs.length ≤ 64) (eg : ∀ args w, (callFunc g args).run Tryz.prog w = .ok (.enter g args) w) (hseq : GvOK g lb xs w) :
    Calls Tryz.prog 147 #[.func (.func g) #[] lb] w fun e w' => ∃ ao cap, e = .returned (.slice ao xs.length cap) ∧ w'.ownsRow w.heap.size 3 1 (.slice ao xs.length cap) xs.length ((srt xs).map (Value.int .i64)) ∧ Below w.heap.size w w' := by
  have C := collect_any g lb xs w hx eg hseq
  clear hseq eg
  go_enter Tryz.func147, Tryz.ntmps147
  go_wp2_with fail
  refine C.mono ?_
  rintro e w1 ⟨v, rfl, h1, h2⟩
  have S := sort_any w.heap.size v xs w1 hx h1 h2.size
  obtain ⟨ao, cap, rfl⟩ : ∃ ao cap, v = .slice ao xs.length cap := by
    rcases h1.2 with ⟨rfl, h0⟩ | ⟨b, c, _, rfl, _⟩
    · exact ⟨none, 0, by rw [h0]⟩
    · exact ⟨_, c, rfl⟩
  have H2 := hide h2
  clear h1 h2 C
  go_wp2_with fail
  refine S.mono ?_
  rintro e w2 ⟨rfl, h3, h4⟩
  have H3 := hide h3; have H4 := hide h4
  clear h3 h4 S
  go_wp2_with fail
  go_ret
  exact ⟨ao, cap, rfl, unhide H3, (unhide H2).trans (unhide H4)⟩

end Go.Proofs.YthimcecbgpamdaaGreat

namespace Go.Proofs.YthimcecbgpamdaaGreat
open Go.RowKit Go.Shelf

attribute [local go_sem] Oper.semAt_some

theorem lsN_at {f : Nat → Int} {n k : Nat} (hk : k < n) : (lsN f n).take (k + 1) = (lsN f n).take k ++ [f k] := by
  rw [List.take_succ_eq_append_getElem (by rw [lsN_len]; exact hk)]
  simp [lsN]
theorem lsN_all {f : Nat → Int} {n : Nat} : (lsN f n).take n = lsN f n := List.take_of_length_le (by rw [lsN_len]; exact Nat.le_refl _)

set_option maxRecDepth 100000 in
set_option maxHeartbeats 1000000 in
theorem values1_gives (X b o n cap : Nat) (f : Nat → Int) (w : World) (hn : n ≤ 64) (hX : w.cell? ⟨X, 0, none⟩ = some (.slice (some ⟨b, o, none⟩) n cap)) (hc : ∀ i, i < n → w.cell? ⟨b, o + i, none⟩ = some (.int .i64 (f i))) :
    GvOK 149 #[.pointer (some ⟨X, 0, none⟩)] (lsN f n) w := by
  intro l J Jx W hW _ _ hY h0
  have cx : W.cell? ⟨X, 0, none⟩ = some (.slice (some ⟨b, o, none⟩) n cap) := at_below hX hW
  refine callsIn_of_wp Tryz.func149 rfl trivial ?_ rfl
  simp only [Tryz.ntmps149, List.size_toArray, List.length_cons, List.length_nil, Nat.reduceAdd, Nat.reduceSub, Array.replicate_succ, Array.replicate_zero, List.push_toArray, List.append_toArray, List.nil_append, List.cons_append]
  gi_wp2
  clear cx
  gi_loopw [7] (fun q wr => ∃ k : Nat, k ≤ n ∧ q = .int .i64 (k : Int) ∧ J ((lsN f n).take k) wr ∧ Below w.heap.size w wr)
    (fun q _ => n - (intOf q).toNat)
  case atStart => exact ⟨0, Nat.zero_le _, rfl, by simpa using h0, hW⟩
  case round =>
    obtain ⟨k, hk, rfl, hJs, hb⟩ := hrel
    rename World => wr
    by_cases hlt : k < n
    · obtain ⟨fn, tmps, assign, body, hy, hR⟩ := hY _ (f k) wr hJs (by rw [List.length_take, lsN_len]; omega)
      have ck : wr.cell? ⟨b, o + k, none⟩ = some (.int .i64 (f k)) := at_below (hc k hlt) hb
      have hlt' : (k : Int) < (n : Int) := by omega
      gi_wp2
      refine hR.mono ?_
      rintro e W3 (⟨rfl, hJ3, hk3⟩ | ⟨rfl, hJx3⟩)
      · gi_wp2
        go_roundw
        case rel => exact ⟨k + 1, by omega, by go_num, by rw [lsN_at hlt]; exact hJ3, hb.trans hk3⟩
        case measure => simp [intOf]; omega
      · gi_wp2
        refine bodyPost_ret (results_none rfl _ _ _) rfl ?_
        exact ⟨⟨_, rfl⟩, .inr ⟨_, trivial, hJx3⟩⟩
    · obtain rfl : k = n := by omega
      gi_wp2
      go_end0
      exact ⟨⟨_, rfl⟩, .inl ⟨_, rfl, by rw [lsN_all] at hJs; exact hJs⟩⟩

theorem values_any (ao : Option Addr) (len c : Nat) (w : World) :
    Calls Tryz.prog 123 #[.slice ao len c] w fun e w' => e = .returned (.func (.func 149) #[] #[.pointer (some ⟨w.heap.size, 0, none⟩)]) ∧ Vh 65 w' w.heap.size 1 1 (fun _ => .slice ao len c) ∧ Below w.heap.size w w' ∧ w'.heap.size = w.heap.size + 1 := by
  have h1 := bx_new w (.slice ao len c)
  have h2 := al_below w (.cells #[.slice ao len c] 65)
  have h3 := al_size w (.cells #[.slice ao len c] 65)
  obtain ⟨w1, e1⟩ : ∃ w1, w1 = w.alloc (.cells #[.slice ao len c] 65) := ⟨_, rfl⟩
  rw [← e1] at h1 h2 h3
  have H := hide (⟨h1, h2, h3⟩ : _ ∧ _ ∧ _); have E1 := hide e1
  clear h1 h2 h3 e1
  go_enter Tryz.func123, Tryz.ntmps123
  go_wp2_with fail
  rw [← unhide E1]
  go_ret
  exact ⟨rfl, unhide H⟩


end Go.Proofs.YthimcecbgpamdaaGreat

namespace Go.Proofs.YthimcecbgpamdaaGreat
open Go.RowKit Go.Shelf

attribute [local go_sem] Oper.semAt_some

/-- All but the bad one. -/
def othC (f : Nat → Int) (bad : Int) : Nat → List Int
  | 0 => []
  | k + 1 => if (k : Int) = bad then othC f bad k else othC f bad k ++ [f k]
theorem oth_skip {f : Nat → Int} {bad : Int} {k : Nat} (h : (k : Int) = bad) : othC f bad (k + 1) = othC f bad k := by show (if _ then _ else _) = _; rw [if_pos h]
theorem oth_take {f : Nat → Int} {bad : Int} {k : Nat} (h : (k : Int) ≠ bad) : othC f bad (k + 1) = othC f bad k ++ [f k] := by show (if _ then _ else _) = _; rw [if_neg h]
theorem oth_len_step (f : Nat → Int) (bad : Int) (k : Nat) : (othC f bad k).length ≤ (othC f bad (k + 1)).length := by
  by_cases h : (k : Int) = bad
  · rw [oth_skip h]; exact Nat.le_refl _
  · rw [oth_take h]; simp
theorem oth_len_mono (f : Nat → Int) (bad : Int) {k n : Nat} (h : k ≤ n) : (othC f bad k).length ≤ (othC f bad n).length := by
  induction n with
  | zero => have : k = 0 := by omega
            subst this; exact Nat.le_refl _
  | succ n ih =>
    by_cases e : k = n + 1
    · subst e; exact Nat.le_refl _
    · exact Nat.le_trans (ih (by omega)) (oth_len_step f bad n)
theorem oth_len_lt {f : Nat → Int} {bad : Int} {k n : Nat} (h : k < n) (hb : (k : Int) ≠ bad) : (othC f bad k).length < (othC f bad n).length := by
  have := oth_len_mono f bad (show k + 1 ≤ n by omega)
  rw [oth_take hb] at this
  simp at this; omega
theorem oth_len_le (f : Nat → Int) (bad : Int) (n : Nat) : (othC f bad n).length ≤ n := by
  induction n with
  | zero => exact Nat.le_refl _
  | succ n ih =>
    by_cases h : (n : Int) = bad
    · rw [oth_skip h]; omega
    · rw [oth_take h]; simp; omega
theorem oth_mem {f : Nat → Int} {bad x : Int} {n : Nat} : x ∈ othC f bad n ↔ ∃ i : Nat, i < n ∧ (i : Int) ≠ bad ∧ x = f i := by
  induction n with
  | zero => constructor
            · intro h; cases h
            · rintro ⟨i, hi, _⟩; omega
  | succ n ih =>
    by_cases h : (n : Int) = bad
    · rw [oth_skip h, ih]
      constructor
      · rintro ⟨i, hi, hb, e⟩; exact ⟨i, by omega, hb, e⟩
      · rintro ⟨i, hi, hb, e⟩
        refine ⟨i, ?_, hb, e⟩
        by_cases c : i = n
        · subst c; exact absurd h hb
        · omega
    · rw [oth_take h, List.mem_append, ih]
      constructor
      · rintro (⟨i, hi, hb, e⟩ | e)
        · exact ⟨i, by omega, hb, e⟩
        · exact ⟨n, by omega, h, by simpa using e⟩
      · rintro ⟨i, hi, hb, e⟩
        by_cases c : i = n
        · subst c; exact Or.inr (by simpa using e)
        · exact Or.inl ⟨i, by omega, hb, e⟩
theorem oth_pos (f : Nat → Int) (bad : Int) : 0 < (othC f bad 4).length := by
  by_cases h : ((0 : Nat) : Int) = bad
  · exact Nat.lt_of_le_of_lt (Nat.zero_le _) (oth_len_lt (k := 1) (by omega) (by omega))
  · exact Nat.lt_of_le_of_lt (Nat.zero_le _) (oth_len_lt (k := 0) (by omega) h)
/-- The greatest less the least, in order. -/
theorem sp_srt {f : Nat → Int} {bad a b : Int} (ha : (srt (othC f bad 4))[0]? = some a) (hb : (srt (othC f bad 4))[(othC f bad 4).length - 1]? = some b) : IsSp f bad (b - a) := by
  have mem : ∀ x, x ∈ srt (othC f bad 4) ↔ x ∈ othC f bad 4 := fun x => (srt_perm _).mem_iff
  refine ⟨fun i k hi hk bi bk => ?_, ?_⟩
  · have mi := (mem _).2 (oth_mem.2 ⟨i, hi, bi, rfl⟩)
    have mk := (mem _).2 (oth_mem.2 ⟨k, hk, bk, rfl⟩)
    obtain ⟨p, hp⟩ := List.mem_iff_getElem?.1 mi
    obtain ⟨q, hq⟩ := List.mem_iff_getElem?.1 mk
    have lp : p < (srt (othC f bad 4)).length := (List.getElem?_eq_some_iff.1 hp).1
    rw [srt_len] at lp
    have := srt_at hp hb (by omega)
    have := srt_at ha hq (by omega)
    omega
  · obtain ⟨i, hi, bi, ei⟩ := oth_mem.1 ((mem _).1 (List.mem_iff_getElem?.2 ⟨_, hb⟩))
    obtain ⟨k, hk, bk, ek⟩ := oth_mem.1 ((mem _).1 (List.mem_iff_getElem?.2 ⟨_, ha⟩))
    exact ⟨i, k, hi, hk, bi, bk, by rw [ei, ek]⟩


end Go.Proofs.YthimcecbgpamdaaGreat

namespace Go.Proofs.YthimcecbgpamdaaGreat
open Go.RowKit

theorem halfDown_any (a b : Int) (w : World) (ra : R64 a) (rb : R64 b) :
    Calls Tryz.prog 148 #[.int .i64 a, .int .i64 b] w fun e w' => e = .returned (.int .i64 ((a + b) / 2)) ∧ w' = w := by
  obtain ⟨p, q, h1, h2, ⟨p1, p2⟩, ⟨q1, q2⟩, h3⟩ := half_bits ra rb
  obtain ⟨a1, a2⟩ := ra
  obtain ⟨b1, b2⟩ := rb
  have E := hide h3
  have l1 : -9223372036854775808 ≤ p + q / 2 := by omega
  have l2 : p + q / 2 ≤ 9223372036854775807 := by omega
  clear h3
  go_enter Tryz.func148, Tryz.ntmps148
  go_wp2_with fail
  go_ret
  exact ⟨by rw [unhide E]; rfl, rfl⟩

/-- Are all four within? -/
def alB (f : Nat → Int) (l : Int) : Bool := decide (∀ i : Nat, i < 4 → -l ≤ f i ∧ f i ≤ l)
theorem alB_yes {f : Nat → Int} {l : Int} (h : ∀ i : Nat, i < 4 → -l ≤ f i ∧ f i ≤ l) : alB f l = true := decide_eq_true h
theorem alB_no {f : Nat → Int} {l : Int} {i : Nat} (hi : i < 4) (h : ¬ (-l ≤ f i ∧ f i ≤ l)) : alB f l = false := decide_eq_false (fun h2 => h (h2 i hi))
end Go.Proofs.YthimcecbgpamdaaGreat

namespace Go.Proofs.YthimcecbgpamdaaGreat
open Go.RowKit Go.Shelf

theorem srt_all {P : Int → Prop} {l : List Int} (h : ∀ x, x ∈ l → P x) {k : Nat} {v : Int} (e : (srt l)[k]? = some v) : P v := h v ((srt_perm l).mem_iff.1 (List.mem_iff_getElem?.2 ⟨k, e⟩))
theorem lsN_mem {f : Nat → Int} {n : Nat} {x : Int} (h : x ∈ lsN f n) : ∃ i, i < n ∧ x = f i := by
  unfold lsN at h
  obtain ⟨i, hi, rfl⟩ := List.mem_map.1 h
  exact ⟨i, by simpa using hi, rfl⟩
/-- A number of a sorted row of one's own. -/
theorem own_srt {w : World} {B : Nat} {ao : Option Addr} {cap : Nat} {xs : List Int} (h : w.ownsRow B 3 1 (.slice ao xs.length cap) xs.length ((srt xs).map (Value.int .i64))) (h0 : 0 < xs.length) :
    ∃ b, ao = some ⟨b, 0, none⟩ ∧ ∀ k v, (srt xs)[k]? = some v → w.cell? ⟨b, k, none⟩ = some (.int .i64 v) := by
  have hh := h
  rcases h.2 with ⟨_, e⟩ | ⟨r, c, cur, e, _, _, hc, _⟩
  · omega
  · cases e
    refine ⟨r, rfl, fun k v hv => ?_⟩
    have := hh.cells (g := r) rfl k (.int .i64 v) (by rw [List.getElem?_map, hv]; rfl)
    rw [Addr.add_lit, Nat.zero_add] at this
    exact this

/-- Two cells. -/
def C2 (p q : Addr) (x y : Value) (w : World) : Prop := w.cell? p = some x ∧ w.cell? q = some y

set_option maxHeartbeats 1000000 in
theorem middle_any (g : Nat) (lb : Array Value) (f : Nat → Int) (n : Nat) (w : World) (hn : 1 ≤ n) (hn2 : n ≤ 64) (hf : ∀ i, R64 (f i)) (eg : ∀ args w, (callFunc g args).run Tryz.prog w = .ok (.enter g args) w) (hseq : GvOK g lb (lsN f n) w) :
    Calls Tryz.prog 122 #[.func (.func g) #[] lb] w fun e w' => ∃ m, IsMid f n m ∧ e = .returned (.int .i64 m) ∧ Below w.heap.size w w' := by
  have C := sorted_any g lb (lsN f n) w (by rw [lsN_len]; exact hn2) eg hseq
  clear hseq eg
  have HF := hide hf
  clear hf
  go_enter Tryz.func122, Tryz.ntmps122
  go_wp2_with fail
  refine C.mono ?_
  rintro e w1 ⟨ao, cap, rfl, h1, h2⟩
  obtain ⟨b, rfl, hc⟩ := own_srt h1 (by rw [lsN_len]; omega)
  rw [lsN_len] at *
  obtain ⟨q, eq⟩ : ∃ q : Nat, (n - 1) / 3 = q := ⟨_, rfl⟩
  have lq : q < n := by omega
  obtain ⟨x, hx⟩ : ∃ x, (srt (lsN f n))[q]? = some x := ⟨_, List.getElem?_eq_getElem (by rw [srt_len, lsN_len]; exact lq)⟩
  obtain ⟨y, hy⟩ : ∃ y, (srt (lsN f n))[n - 1 - q]? = some y := ⟨_, List.getElem?_eq_getElem (by rw [srt_len, lsN_len]; omega)⟩
  have cx := hc _ _ hx; have cy := hc _ _ hy
  have rx : R64 x := srt_all (P := R64) (fun z hz => by obtain ⟨i, _, rfl⟩ := lsN_mem hz; exact unhide HF i) hx
  have ry : R64 y := srt_all (P := R64) (fun z hz => by obtain ⟨i, _, rfl⟩ := lsN_mem hz; exact unhide HF i) hy
  have M := hide (show IsMid f n ((x + y) / 2) from by subst eq; exact mid_srt hx hy)
  have K := hide h2
  obtain ⟨p, ep⟩ : ∃ p : Nat, n - 1 - q = p := ⟨_, rfl⟩
  rw [ep] at cy
  have ep' : (n : Int) - 1 - (q : Int) = (p : Int) := by omega
  have eq' : ((n : Int) - 1).tdiv 3 = (q : Int) := by
    rw [Int.tdiv_eq_ediv_of_nonneg (by omega)]; omega
  have lp : p < n := by omega
  clear C h1 h2 hc hx hy
  go_wp2_with fail
  have wn : IntKind.i64.wrap ((n : Int) - 1) = (n : Int) - 1 := by rw [IntKind.wrap_i64]; omega
  have wp : IntKind.i64.wrap (p : Int) = (p : Int) := by rw [IntKind.wrap_i64]; omega
  have i1 : 0 ≤ (p : Int) ∧ (p : Int) < (n : Int) := by omega
  have i2 : 0 ≤ (q : Int) ∧ (q : Int) < (n : Int) := by omega
  refine region_by (S := C2 ⟨b, q, none⟩ ⟨b, p, none⟩ (.int .i64 x) (.int .i64 y))
    [(0, false), (1, false), (2, false), (3, false), (4, false), (5, false), (6, false), (7, false), (8, false), (9, false), (10, false), (11, false), (12, true), (13, true)] [] (by kernel_rfl) (by kernel_rfl) ?_
  have hS : C2 ⟨b, q, none⟩ ⟨b, p, none⟩ (.int .i64 x) (.int .i64 y) w1.drew := ⟨cx, cy⟩
  iterate 12
    refine seq_read (v := ?_) rfl (fun _ _ _ h => h) (by rfl) hS ?_ ?_
    rotate_left 1
    · intro wx hwx
      obtain ⟨k1, k2⟩ := hwx
      go_simp <;> exact rfl
    go_frame
  refine seq_do rfl (fun K hK => ?_)
  go_simp
  refine (halfDown_any x y _ rx ry).mono ?_
  rintro e w2 ⟨rfl, rfl⟩
  refine hK _ _ (fun _ => hS) ?_
  clear hK K
  refine seq_do rfl (fun K hK => ?_)
  go_simp
  refine hK _ _ (fun _ => hS) ?_
  clear hK K
  refine seq_end ?_
  clear cx cy hS
  obtain ⟨m, em⟩ : ∃ m, (x + y) / 2 = m := ⟨_, rfl⟩
  rw [em] at M ⊢
  clear em
  go_wp2_with fail
  go_ret
  exact ⟨m, unhide M, rfl, below_drew (unhide K)⟩

theorem clockMiddle_ok : MdOK 95 := by
  intro ao n cap f w hf hl hc hs
  by_cases h0 : n = 0
  · subst h0
    go_enter Tryz.func95, Tryz.ntmps95
    go_wp2_with fail
    go_ret2
    exact ⟨0, 8, Or.inr ⟨by omega, rfl, rfl⟩, rfl, Below.refl _ _⟩
  · have z : (((n : Nat) : Int) == 0) = false := by simp; omega
    by_cases h1 : 64 < n
    · have h1' : 64 < (n : Int) := by omega
      have HF := hide hf; have HS := hide hs
      clear hf hs
      go_enter Tryz.func95, Tryz.ntmps95
      go_wp2_with fail
      go_ret2
      exact ⟨0, 8, Or.inr ⟨by omega, rfl, rfl⟩, rfl, Below.refl _ _⟩
    · have h1' : (n : Int) ≤ 64 := by omega
      obtain ⟨b, o, rfl, hcell⟩ := hs.rd (by omega)
      have HF := hide hf; have HC := hide hcell
      clear hf hcell hs
      go_enter Tryz.func95, Tryz.ntmps95
      go_wp2_with fail
      refine (values_any (some ⟨b, o, none⟩) n cap _).mono ?_
      rintro e w1 ⟨rfl, bx, k1, s1⟩
      have G := middle_any 149 #[.pointer (some ⟨w.heap.size, 0, none⟩)] f n w1 (by omega) (by omega) (unhide HF) (enters_of Tryz.func149 (by kernel_rfl) rfl)
        (values1_gives w.heap.size b o n cap f w1 (by omega) (bx.cell (i := 0) (by omega)) (fun i hi => at_below (unhide HC i hi) k1))
      have K1 := hide k1
      clear bx k1 s1
      go_wp2_with fail
      refine G.mono ?_
      rintro e w2 ⟨m, hm, rfl, k2⟩
      have M := hide hm; have K2 := hide ((unhide K1).trans (k2.mono (unhide K1).size))
      clear hm k2 G
      go_wp2_with fail
      go_ret2
      exact ⟨m, 0, Or.inl ⟨by omega, by omega, rfl, unhide M⟩, rfl, unhide K2⟩



end Go.Proofs.YthimcecbgpamdaaGreat
