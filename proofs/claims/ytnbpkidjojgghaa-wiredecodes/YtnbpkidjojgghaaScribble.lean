/- What may be written over: a result's numbers; the contract of scribble. -/
import Derived.Test.YtnbpkidjojgghaaRowRoom
import Derived.Laws.AppendOwnNone
namespace Go.Proofs.Ytnbpkidjojgghaa
open Go.RowKit

/-- All blocks but those from B up to U are as they were. -/
structure KI (B U : Nat) (w w' : World) : Prop where
  os : w'.os = w.os
  tape : w'.tape = w.tape
  output : w'.output = w.output
  size : w.heap.size ≤ w'.heap.size
  block : ∀ k, k < w.heap.size → (k < B ∨ U ≤ k) → w'.heap[k]? = w.heap[k]?
theorem KI.of_below {B U : Nat} {w w' : World} (h : Below w.heap.size w w') : KI B U w w' := ⟨h.os, h.tape, h.output, h.size, fun k hk _ => h.block k hk⟩
theorem KI.of_kept {B U z : Nat} {w w' : World} (h : Kept z w w') (h1 : B ≤ z) (h2 : z < U ∨ w.heap.size ≤ z) : KI B U w w' := ⟨h.os, h.tape, h.output, h.size, fun k hk hh => h.block k hk (by omega)⟩
theorem KI.trans {B U : Nat} {a b c : World} (h : KI B U a b) (k : KI B U b c) : KI B U a c := ⟨k.os.trans h.os, k.tape.trans h.tape, k.output.trans h.output, Nat.le_trans h.size k.size, fun i hi hh => (k.block i (Nat.lt_of_lt_of_le hi h.size) hh).trans (h.block i hi hh)⟩
theorem below_ki {B U C : Nat} {w0 w w' : World} (h : Below C w0 w) (k : KI B U w w') (hc : C ≤ B) (hs : C ≤ w.heap.size) : Below C w0 w' := h.trans ⟨k.os, k.tape, k.output, k.size, fun i hi => k.block i (by omega) (Or.inl (by omega))⟩
theorem Nh.ki {B U : Nat} {w w' : World} {b N cap : Nat} {g : Nat → Int} (h : Nh w b N cap g) (k : KI B U w w') (hb : b < B ∨ U ≤ b) : Nh w' b N cap g := h.same (k.block b h.lt hb)
/-- A result: nothing, or numbers in a block of its own. -/
def ResO (w : World) (B U : Nat) (ao : Option Addr) (l c : Nat) : Prop := (ao = none ∧ l = 0 ∧ c = 0) ∨ ∃ (r : Nat) (F : Nat → Int), ao = some ⟨r, 0, none⟩ ∧ B ≤ r ∧ r < U ∧ Nh w r l c F ∧ l ≤ 36

/-- Three numbers of one kind. -/
theorem three_cells (w : World) : ∀ (j : Nat) (u : Value), [Value.int .i64 (-99), .int .i64 (-99), .int .i64 (-99)][j]? = some u → (w.alloc (.cells #[.int .i64 (-99), .int .i64 (-99), .int .i64 (-99)] 3)).cell? ((⟨w.heap.size, 0, none⟩ : Addr).add j) = some u := by
  intro j u hj
  have hb : (w.alloc (.cells #[.int .i64 (-99), .int .i64 (-99), .int .i64 (-99)] 3)).heap[w.heap.size]? = some (.cells #[.int .i64 (-99), .int .i64 (-99), .int .i64 (-99)] 3 (0, 0)) := heap_alloc_new _ _
  rw [Addr.add_lit]
  match j, hj with
  | 0, hj => cases hj; unfold World.cell?; rw [hb]; rfl
  | 1, hj => cases hj; unfold World.cell?; rw [hb]; rfl
  | 2, hj => cases hj; unfold World.cell?; rw [hb]; rfl
  | j + 3, hj => simp at hj
theorem three_one : ∀ u ∈ [Value.int .i64 (-99), .int .i64 (-99), .int .i64 (-99)], u.oneCell' = true := by
  intro u hu
  simp at hu
  subst hu; rfl
/-- The first number of an owned row. -/
theorem own_first {w : World} {base n : Nat} {v : Value} {xs : List Value} (hn : 1 ≤ n) (h : w.ownsRow base 3 1 v n xs) : ∃ g c cv, v = .slice (some ⟨g, 0, none⟩) n c ∧ base ≤ g ∧ g < w.heap.size ∧ w.cell? ⟨g, 0, none⟩ = some cv ∧ w.frozen? ⟨g, 0, none⟩ = false := by
  obtain ⟨hl, h1⟩ := h
  rcases h1 with ⟨rfl, rfl⟩ | ⟨g, cap, cur, rfl, hg, hh, hc, hm, hsz, hcur⟩
  · omega
  · have : 0 < cur.size := by omega
    exact ⟨g, cap, cur[0], rfl, hg, lt_of_block hh, by unfold World.cell?; rw [hh]; simp [this], by unfold World.frozen?; rw [hh]; rfl⟩

set_option maxHeartbeats 2000000 in
theorem scribbleO_any (B U : Nat) (ao : Option Addr) (l c : Nat) (w : World) (h : ResO w B U ao l c) (hB : B ≤ w.heap.size) :
    Calls Try.prog 24 #[.slice ao l c] w fun e w' => e = .returned (.tuple #[]) ∧ KI B U w w' := by
  obtain ⟨i0, hi0, hz0, hz1, hz2⟩ := info_parts infoInt
  rcases h with ⟨rfl, rfl, rfl⟩ | ⟨r, F, rfl, hr1, hr2, hn, hl⟩
  · go_enter Try.func24, Try.ntmps24
    go_wp2_with fail
    go_loopw [2] (fun is wr => is = .int .i64 0 ∧ w = wr) (fun _ _ => 0)
    case atStart => exact ⟨rfl, rfl⟩
    case round =>
      obtain ⟨rfl, rfl⟩ := hrel
      go_wp2_with (at_builtin; refine wpList_append_own _ rfl _ _ 22 rfl w.heap.size 3 i0 (.int .i64 0) 1 8 Try.underlying22 hi0 hz0 hz1 hz2 rfl (by decide) (.slice none 0 0) 0 [] rfl (World.ownsRow_nil _ _ _ _) ⟨w.heap.size, 0, none⟩ 3 3 [.int .i64 (-99), .int .i64 (-99), .int .i64 (-99)] rfl rfl (three_cells w) three_one (by decide) (by decide) (by rw [al_size]; omega) ?_)
      intro v' w2 hown hgr hnil
      obtain ⟨g, c', cv, rfl, hg1, hg2, c0, f0⟩ := own_first (by omega) hown
      have K2 := hide (show KI B U w w2 from (KI.of_below (al_below w _)).trans (by
        have k := below_grown hgr (by intro k h; cases h)
        exact ⟨k.os, k.tape, k.output, k.size, fun i hi _ => k.block i hi⟩))
      have HG := hide hg1
      clear hown hgr hnil hg1 hg2
      go_wp2_with fail
      go_end0
      refine ⟨rfl, ?_⟩
      have k3 := kept_set w2 g 0 (.int .i64 (-98))
      have k2 := unhide K2
      exact ⟨k3.os.trans k2.os, k3.tape.trans k2.tape, k3.output.trans k2.output, Nat.le_trans k2.size k3.size, fun i hi hh => (k3.block i (Nat.lt_of_lt_of_le hi k2.size) (by have := unhide HG; omega)).trans (k2.block i hi hh)⟩
  · have HR1 := hide hr1; have HR2 := hide hr2; have HN := hide hn
    clear hr1 hr2 hn
    go_enter Try.func24, Try.ntmps24
    go_wp2_with fail
    go_loopw [2] (fun is wr => ∃ (i : Nat) (F : Nat → Int), is = .int .i64 i ∧ i ≤ l ∧ Nh wr r l c F ∧ Kept r w wr) (fun is _ => l - (intOf is).toNat)
    case atStart => exact ⟨0, F, rfl, Nat.zero_le _, unhide HN, kept_refl _ _⟩
    case round =>
      obtain ⟨i, F2, rfl, hi, hn, hk⟩ := hrel
      have HN2 := hide hn; have HK := hide hk
      clear hn hk
      rename World => wr
      by_cases hil : i < l
      · have cc := (unhide HN2).cell hil; have ff := (unhide HN2).free i
        go_wp2_with fail
        go_roundw
        case rel => exact ⟨i + 1, stF F2 i (-99), by go_num, by omega, (unhide HN2).set i _, (unhide HK).trans (kept_set _ _ _ _) (Or.inl rfl)⟩
        case measure => simp [intOf] <;> omega
      · have hil2 : i = l := by omega
        subst hil2
        have LT := hide (unhide HN2).lt
        have KW := hide (show KI B U w wr from KI.of_kept (unhide HK) (unhide HR1) (Or.inl (unhide HR2)))
        have HO := hide ((((unhide HN2).owns (base := B) (unhide HR1))).alloc (.cells #[.int .i64 (-99), .int .i64 (-99), .int .i64 (-99)] 3))
        have SZ := hide (show B ≤ wr.heap.size from by have := (unhide HK).size; omega)
        by_cases hfit : i + 3 ≤ c
        · go_wp2_with (at_builtin; refine wpList_append_fits _ rfl _ _ 22 rfl B 3 i0 1 Try.underlying22 hi0 hz1 r i c _ rfl (unhide HO) ⟨wr.heap.size, 0, none⟩ 3 3 [.int .i64 (-99), .int .i64 (-99), .int .i64 (-99)] rfl rfl (three_cells wr) three_one hfit ?_)
          intro w2 hown hgr
          obtain ⟨g, c', cv, e, hg1, hg2, c0, f0⟩ := own_first (by omega) hown
          cases e
          have K2 := hide (show KI B U w w2 from ((unhide KW).trans (KI.of_below (al_below wr _))).trans ⟨hgr.os, hgr.tape, hgr.output, hgr.size, fun k hk hh => hgr.block k hk (by have h1 := unhide HR1; have h2 := unhide HR2; intro e; cases e; omega)⟩)
          clear hown hgr hg1 hg2
          go_wp2_with fail
          go_end0
          exact ⟨rfl, (unhide K2).trans (KI.of_kept (kept_set _ _ _ _) (unhide HR1) (Or.inl (unhide HR2)))⟩
        · go_wp2_with (at_builtin; refine wpList_append_grows _ rfl _ _ 22 rfl 3 i0 (.int .i64 0) 1 8 Try.underlying22 hi0 hz0 hz1 hz2 rfl (by decide) (some ⟨r, 0, none⟩) i c (rowL F2 i) rfl (fun h => by cases h) (rowL_len _ _) (fun b hb j u hj => ?_) ⟨wr.heap.size, 0, none⟩ 3 3 [.int .i64 (-99), .int .i64 (-99), .int .i64 (-99)] rfl rfl (three_cells wr) three_one (by omega) (by unfold maxLen; omega) (by omega) ?_)
          · cases hb
            exact rowL_cells (fun t ht => by rw [Nat.zero_add]; exact at_below ((unhide HN2).cell ht) (al_below _ _)) j u hj
          intro v' w2 hown hgr
          obtain ⟨g, c', cv, rfl, hg1, hg2, c0, f0⟩ := own_first (by omega) hown
          have K2 := hide (show KI B U w w2 from ((unhide KW).trans (KI.of_below (al_below wr _))).trans ⟨hgr.os, hgr.tape, hgr.output, hgr.size, fun k hk hh => hgr.block k hk (by simp)⟩)
          have HG := hide hg1
          clear hown hgr hg1 hg2
          go_wp2_with fail
          go_end0
          refine ⟨rfl, ?_⟩
          have k3 := kept_set w2 g 0 (.int .i64 (-98))
          have k2 := unhide K2
          have hs := (unhide HK).size
          exact ⟨k3.os.trans k2.os, k3.tape.trans k2.tape, k3.output.trans k2.output, Nat.le_trans k2.size k3.size, fun t ht hh => (k3.block t (Nat.lt_of_lt_of_le ht k2.size) (by have := unhide HG; omega)).trans (k2.block t ht hh)⟩

end Go.Proofs.Ytnbpkidjojgghaa
