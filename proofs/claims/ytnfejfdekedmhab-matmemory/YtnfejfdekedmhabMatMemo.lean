/- Results that may be written over; the faces' results. -/
import Derived.Test.YtnfejfdekedmhabMatRoom
import Derived.Test.YtnfejfdekedmhabMatTwo
namespace Go.Proofs.Ytnfejfdekedmhab
open Go.RowKit

/-- All blocks but those from B up to U are as they were. -/
structure KI (B U : Nat) (w w' : World) : Prop where
  os : w'.os = w.os
  tape : w'.tape = w.tape
  output : w'.output = w.output
  size : w.heap.size ≤ w'.heap.size
  block : ∀ k, k < w.heap.size → (k < B ∨ U ≤ k) → w'.heap[k]? = w.heap[k]?
theorem KI.of_below {B U : Nat} {w w' : World} (h : Below w.heap.size w w') : KI B U w w' := ⟨h.os, h.tape, h.output, h.size, fun k hk _ => h.block k hk⟩
theorem KI.of_kept {B U z : Nat} {w w' : World} (h : Kept z w w') (h1 : B ≤ z) (h2 : z < U ∨ w.heap.size ≤ z) : KI B U w w' := ⟨h.os, h.tape, h.output, h.size, fun k hk hh => h.block k hk (by omega)⟩
theorem KI.trans {B U : Nat} {a b c : World} (h : KI B U a b) (k : KI B U b c) : KI B U a c := ⟨k.os.trans h.os, k.tape.trans h.tape, k.output.trans h.output, Nat.le_trans h.size k.size, fun i hi hh => (k.block i (Nat.lt_of_lt_of_le hi h.size) hh).trans (h.block i hi hh)⟩
theorem below_ki {B U C : Nat} {w0 w w' : World} (h : Below C w0 w) (k : KI B U w w') (hc : C ≤ B) (hs : C ≤ w.heap.size) : Below C w0 w' := h.trans ⟨k.os, k.tape, k.output, k.size, fun i hi => k.block i (by omega) (Or.inl (by omega))⟩
theorem MbAt.ki {B U : Nat} {w w' : World} {b : Nat} {N : Int} {v : Value} (h : MbAt w b N v) (k : KI B U w w') (hb : b < B ∨ U ≤ b) : MbAt w' b N v := h.same (k.block b h.lt hb)
theorem Nh.ki {B U : Nat} {w w' : World} {b N cap : Nat} {g : Nat → Int} (h : Nh w b N cap g) (k : KI B U w w') (hb : b < B ∨ U ≤ b) : Nh w' b N cap g := h.same (k.block b h.lt hb)
/-- A result: nothing, or numbers in a block of its own. -/
def ResAt (w : World) (B U : Nat) (ao : Option Addr) (l c : Nat) : Prop := (ao = none ∧ l = 0 ∧ c = 0) ∨ ∃ (r : Nat) (F : Nat → Int), ao = some ⟨r, 0, none⟩ ∧ B ≤ r ∧ r < U ∧ Nh w r l c F ∧ 1 ≤ l ∧ l ≤ 36 ∧ ∀ i, R64 (F i)
theorem ResAt.below {w w' : World} {B U : Nat} {ao : Option Addr} {l c : Nat} (h : ResAt w B U ao l c) (k : Below w.heap.size w w') : ResAt w' B U ao l c := by
  rcases h with h | ⟨r, F, h1, h2, h3, h4, h5⟩
  · exact Or.inl h
  · exact Or.inr ⟨r, F, h1, h2, h3, h4.below k, h5⟩
theorem ResAt.ki {w w' : World} {B U B' U' : Nat} {ao : Option Addr} {l c : Nat} (h : ResAt w B U ao l c) (k : KI B' U' w w') (hh : U ≤ B' ∨ U' ≤ B) : ResAt w' B U ao l c := by
  rcases h with h | ⟨r, F, h1, h2, h3, h4, h5⟩
  · exact Or.inl h
  · exact Or.inr ⟨r, F, h1, h2, h3, h4.ki k (by omega), h5⟩
theorem ResAt.args {w : World} {B U : Nat} {ao : Option Addr} {l c : Nat} (h : ResAt w B U ao l c) : ∃ F, ArgS w ao l c F := by
  rcases h with ⟨h1, h2, h3⟩ | ⟨r, F, rfl, _, _, h4, h5, h6, h7⟩
  · exact ⟨fun _ => 0, Or.inl ⟨h1, h2, h3⟩, by omega, fun _ => R64_nought⟩
  · exact ⟨F, Or.inr ⟨_, rfl, fun i hi => by rw [Addr.add_lit, Nat.zero_add]; exact h4.cell hi⟩, by omega, h7⟩

/-- Three numbers of one kind. -/
theorem three_cells (w : World) : ∀ (j : Nat) (u : Value), [Value.int .i64 (-99), .int .i64 (-99), .int .i64 (-99)][j]? = some u → (w.alloc (.cells #[.int .i64 (-99), .int .i64 (-99), .int .i64 (-99)] 3)).cell? ((⟨w.heap.size, 0, none⟩ : Addr).add j) = some u := by
  intro j u hj
  have hb : (w.alloc (.cells #[.int .i64 (-99), .int .i64 (-99), .int .i64 (-99)] 3)).heap[w.heap.size]? = some (.cells #[.int .i64 (-99), .int .i64 (-99), .int .i64 (-99)] 3 (0, 0)) := heap_alloc_new _ _
  rw [Addr.add_lit]
  match j, hj with
  | 0, hj => cases hj; unfold World.cell?; rw [hb]; rfl
  | 1, hj => cases hj; unfold World.cell?; rw [hb]; rfl
  | 2, hj => cases hj; unfold World.cell?; rw [hb]; rfl
  | j + 3, hj => simp at hj
theorem three_one : ∀ u ∈ [Value.int .i64 (-99), .int .i64 (-99), .int .i64 (-99)], u.oneCell' = true := by
  intro u hu
  simp at hu
  subst hu; rfl
/-- The first number of an owned row. -/
theorem own_first {w : World} {base n : Nat} {v : Value} {xs : List Value} (hn : 1 ≤ n) (h : w.ownsRow base 3 1 v n xs) : ∃ g c cv, v = .slice (some ⟨g, 0, none⟩) n c ∧ base ≤ g ∧ g < w.heap.size ∧ w.cell? ⟨g, 0, none⟩ = some cv ∧ w.frozen? ⟨g, 0, none⟩ = false := by
  obtain ⟨hl, h1⟩ := h
  rcases h1 with ⟨rfl, rfl⟩ | ⟨g, cap, cur, rfl, hg, hh, hc, hm, hsz, hcur⟩
  · omega
  · have : 0 < cur.size := by omega
    exact ⟨g, cap, cur[0], rfl, hg, lt_of_block hh, by unfold World.cell?; rw [hh]; simp [this], by unfold World.frozen?; rw [hh]; rfl⟩

set_option maxHeartbeats 2000000 in
theorem scribble_any (B U : Nat) (ao : Option Addr) (l c : Nat) (w : World) (h : ResAt w B U ao l c) (hB : B ≤ w.heap.size) :
    Calls Try.prog 15 #[.slice ao l c] w fun e w' => e = .returned (.tuple #[]) ∧ KI B U w w' := by
  obtain ⟨i0, hi0, hz0, hz1, hz2⟩ := info_parts infoInt
  rcases h with ⟨rfl, rfl, rfl⟩ | ⟨r, F, rfl, hr1, hr2, hn, hl1, hl, _⟩
  · go_enter Try.func15, Try.ntmps15
    go_wp2_with fail
    go_loopw [2] (fun is wr => is = .int .i64 0 ∧ w = wr) (fun _ _ => 0)
    case atStart => exact ⟨rfl, rfl⟩
    case round =>
      obtain ⟨rfl, rfl⟩ := hrel
      go_wp2_with (at_builtin; refine wpList_append_own _ rfl _ _ 22 rfl w.heap.size 3 i0 (.int .i64 0) 1 8 Try.underlying22 hi0 hz0 hz1 hz2 rfl (by decide) (.slice none 0 0) 0 [] rfl (World.ownsRow_nil _ _ _ _) ⟨w.heap.size, 0, none⟩ 3 3 [.int .i64 (-99), .int .i64 (-99), .int .i64 (-99)] rfl rfl (three_cells w) three_one (by decide) (by decide) (by rw [al_size]; omega) ?_)
      intro v' w2 hown hgr hnil
      obtain ⟨g, c', cv, rfl, hg1, hg2, c0, f0⟩ := own_first (by omega) hown
      have K2 := hide (show KI B U w w2 from (KI.of_below (al_below w _)).trans (by
        have k := below_grown hgr (by intro k h; cases h)
        exact ⟨k.os, k.tape, k.output, k.size, fun i hi _ => k.block i hi⟩))
      have HG := hide hg1
      clear hown hgr hnil hg1 hg2
      go_wp2_with fail
      go_end0
      refine ⟨rfl, ?_⟩
      have k3 := kept_set w2 g 0 (.int .i64 (-98))
      have k2 := unhide K2
      exact ⟨k3.os.trans k2.os, k3.tape.trans k2.tape, k3.output.trans k2.output, Nat.le_trans k2.size k3.size, fun i hi hh => (k3.block i (Nat.lt_of_lt_of_le hi k2.size) (by have := unhide HG; omega)).trans (k2.block i hi hh)⟩
  · have HR1 := hide hr1; have HR2 := hide hr2; have HN := hide hn
    clear hr1 hr2 hn
    go_enter Try.func15, Try.ntmps15
    go_wp2_with fail
    go_loopw [2] (fun is wr => ∃ (i : Nat) (F : Nat → Int), is = .int .i64 i ∧ i ≤ l ∧ Nh wr r l c F ∧ Kept r w wr) (fun is _ => l - (intOf is).toNat)
    case atStart => exact ⟨0, F, rfl, Nat.zero_le _, unhide HN, kept_refl _ _⟩
    case round =>
      obtain ⟨i, F2, rfl, hi, hn, hk⟩ := hrel
      have HN2 := hide hn; have HK := hide hk
      clear hn hk
      rename World => wr
      by_cases hil : i < l
      · have cc := (unhide HN2).cell hil; have ff := (unhide HN2).free i
        go_wp2_with fail
        go_roundw
        case rel => exact ⟨i + 1, stF F2 i (-99), by go_num, by omega, (unhide HN2).set i _, (unhide HK).trans (kept_set _ _ _ _) (Or.inl rfl)⟩
        case measure => simp [intOf] <;> omega
      · have hil2 : i = l := by omega
        subst hil2
        have LT := hide (unhide HN2).lt
        have KW := hide (show KI B U w wr from KI.of_kept (unhide HK) (unhide HR1) (Or.inl (unhide HR2)))
        have HO := hide ((((unhide HN2).owns (base := B) (unhide HR1))).alloc (.cells #[.int .i64 (-99), .int .i64 (-99), .int .i64 (-99)] 3))
        have SZ := hide (show B ≤ wr.heap.size from by have := (unhide HK).size; omega)
        by_cases hfit : i + 3 ≤ c
        · go_wp2_with (at_builtin; refine wpList_append_fits _ rfl _ _ 22 rfl B 3 i0 1 Try.underlying22 hi0 hz1 r i c _ rfl (unhide HO) ⟨wr.heap.size, 0, none⟩ 3 3 [.int .i64 (-99), .int .i64 (-99), .int .i64 (-99)] rfl rfl (three_cells wr) three_one hfit ?_)
          intro w2 hown hgr
          obtain ⟨g, c', cv, e, hg1, hg2, c0, f0⟩ := own_first (by omega) hown
          cases e
          have K2 := hide (show KI B U w w2 from ((unhide KW).trans (KI.of_below (al_below wr _))).trans ⟨hgr.os, hgr.tape, hgr.output, hgr.size, fun k hk hh => hgr.block k hk (by have h1 := unhide HR1; have h2 := unhide HR2; intro e; cases e; omega)⟩)
          clear hown hgr hg1 hg2
          go_wp2_with fail
          go_end0
          exact ⟨rfl, (unhide K2).trans (KI.of_kept (kept_set _ _ _ _) (unhide HR1) (Or.inl (unhide HR2)))⟩
        · go_wp2_with (at_builtin; refine wpList_append_grows _ rfl _ _ 22 rfl 3 i0 (.int .i64 0) 1 8 Try.underlying22 hi0 hz0 hz1 hz2 rfl (by decide) (some ⟨r, 0, none⟩) i c (rowL F2 i) rfl (fun h => by cases h) (rowL_len _ _) (fun b hb j u hj => ?_) ⟨wr.heap.size, 0, none⟩ 3 3 [.int .i64 (-99), .int .i64 (-99), .int .i64 (-99)] rfl rfl (three_cells wr) three_one (by omega) (by unfold maxLen; omega) (by omega) ?_)
          · cases hb
            exact rowL_cells (fun t ht => by rw [Nat.zero_add]; exact at_below ((unhide HN2).cell ht) (al_below _ _)) j u hj
          intro v' w2 hown hgr
          obtain ⟨g, c', cv, rfl, hg1, hg2, c0, f0⟩ := own_first (by omega) hown
          have K2 := hide (show KI B U w w2 from ((unhide KW).trans (KI.of_below (al_below wr _))).trans ⟨hgr.os, hgr.tape, hgr.output, hgr.size, fun k hk hh => hgr.block k hk (by simp)⟩)
          have HG := hide hg1
          clear hown hgr hg1 hg2
          go_wp2_with fail
          go_end0
          refine ⟨rfl, ?_⟩
          have k3 := kept_set w2 g 0 (.int .i64 (-98))
          have k2 := unhide K2
          have hs := (unhide HK).size
          exact ⟨k3.os.trans k2.os, k3.tape.trans k2.tape, k3.output.trans k2.output, Nat.le_trans k2.size k3.size, fun t ht hh => (k3.block t (Nat.lt_of_lt_of_le ht k2.size) (by have := unhide HG; omega)).trans (k2.block t ht hh)⟩

/-- A result whose numbers are told. -/
def ResF (w : World) (B U : Nat) (ao : Option Addr) (l c : Nat) (F : Nat → Int) : Prop := (ao = none ∧ l = 0 ∧ c = 0) ∨ ∃ r : Nat, ao = some ⟨r, 0, none⟩ ∧ B ≤ r ∧ r < U ∧ Nh w r l c F ∧ 1 ≤ l ∧ l ≤ 36
theorem ResF.below {w w' : World} {B U : Nat} {ao : Option Addr} {l c : Nat} {F : Nat → Int} (h : ResF w B U ao l c F) (k : Below w.heap.size w w') : ResF w' B U ao l c F := by
  rcases h with h | ⟨r, h1, h2, h3, h4, h5⟩
  · exact Or.inl h
  · exact Or.inr ⟨r, h1, h2, h3, h4.below k, h5⟩
theorem ResF.ki {w w' : World} {B U B' U' : Nat} {ao : Option Addr} {l c : Nat} {F : Nat → Int} (h : ResF w B U ao l c F) (k : KI B' U' w w') (hh : U ≤ B' ∨ U' ≤ B) : ResF w' B U ao l c F := by
  rcases h with h | ⟨r, h1, h2, h3, h4, h5⟩
  · exact Or.inl h
  · exact Or.inr ⟨r, h1, h2, h3, h4.ki k (by omega), h5⟩
theorem ResF.rds {w : World} {B U : Nat} {ao : Option Addr} {l c : Nat} {F : Nat → Int} (h : ResF w B U ao l c F) : Rds w ao l F := by
  intro hl
  rcases h with ⟨_, h, _⟩ | ⟨r, rfl, _, _, h4, _⟩
  · omega
  · exact h4.rds hl
theorem ResF.len {w : World} {B U : Nat} {ao : Option Addr} {l c : Nat} {F : Nat → Int} (h : ResF w B U ao l c F) : l ≤ 36 := by
  rcases h with ⟨_, h, _⟩ | ⟨r, _, _, _, _, _, h⟩ <;> omega
theorem ResAt.told {w : World} {B U : Nat} {ao : Option Addr} {l c : Nat} (h : ResAt w B U ao l c) : ∃ F, ResF w B U ao l c F ∧ ArgS w ao l c F := by
  rcases h with ⟨h1, h2, h3⟩ | ⟨r, F, rfl, b1, b2, h4, h5, h6, h7⟩
  · exact ⟨fun _ => 0, Or.inl ⟨h1, h2, h3⟩, Or.inl ⟨h1, h2, h3⟩, by omega, fun _ => R64_nought⟩
  · exact ⟨F, Or.inr ⟨r, rfl, b1, b2, h4, h5, h6⟩, Or.inr ⟨_, rfl, fun i hi => by rw [Addr.add_lit, Nat.zero_add]; exact h4.cell hi⟩, by omega, h7⟩
theorem wpList_cloneR (w : World) {ops : Array Oper} {rest : List Oper} {o : Oper} {a : Act} {Q : Exit → Act → World → Prop} (hgd : o.guard = none) (s x : Operand)
    (ho : o.op = .call { callee := .builtin .append, args := #[s, x], argTypes := #[22, 22] }) (hs : a.eval s = .slice none 0 0)
    (vo : Option Addr) (lv cv : Nat) (f : Nat → Int) (hx : a.eval x = .slice vo lv cv) (B U : Nat) (hr : ResF w B U vo lv cv f)
    (h : ∀ ao' cap' w', ResF w' w.heap.size w'.heap.size ao' lv cap' f → Below w.heap.size w w' → wpList Try.prog ops Q rest (a.put o.dst (.slice ao' lv cap')) w') : wpList Try.prog ops Q (o :: rest) a w := by
  obtain ⟨i0, hi, hz0, hz1, hz2⟩ := info_parts infoInt
  rcases hr with ⟨rfl, rfl, rfl⟩ | ⟨r, rfl, _, _, hn, h1, h36⟩
  · exact wpList_append_own_none hgd s x 22 ho w.heap.size 3 i0 1 Try.underlying22 hi (.slice none 0 0) 0 [] hs (World.ownsRow_nil _ _ _ _) hx (h none 0 w (Or.inl ⟨rfl, rfl, rfl⟩) (Below.refl _ _))
  · refine wpList_append_own w hgd s x 22 ho w.heap.size 3 i0 (.int .i64 0) 1 8 Try.underlying22 hi hz0 hz1 hz2 rfl (by decide) (.slice none 0 0) 0 [] hs (World.ownsRow_nil _ _ _ _) ⟨r, 0, none⟩ lv cv (rowL f lv) hx (rowL_len f lv) (rowL_cells (fun i hi => by rw [Nat.zero_add]; exact hn.cell hi)) (rowL_one f lv) (by unfold maxLen; omega) (by omega) (Nat.le_refl _) ?_
    intro v' w2 hown hgr hnil
    rw [Nat.zero_add, List.nil_append] at hown
    have hb2 : Below w.heap.size w w2 := below_grown hgr (by intro k h; cases h)
    obtain ⟨r2, c2, rfl, hr2, hn2⟩ := Nh.of_owns h1 hown (fun i hi => rowL_at f hi)
    exact h _ c2 w2 (Or.inr ⟨r2, rfl, hr2, hn2.lt, hn2, h1, h36⟩) hb2

theorem rmF_R {f : Nat → Int} {l : Nat} (h : ∀ i, R64 (f i)) : ∀ i, R64 (rmF f l i) := by
  intro i; unfold rmF
  split
  · exact h i
  · split <;> (unfold R64; omega)
theorem roomy_ex (ao : Option Addr) (l c : Nat) (f : Nat → Int) (w : World) (ha : ArgS w ao l c f) :
    Calls Try.prog 9 #[.slice ao l c] w fun e w' =>
      ∃ b : Nat, e = .returned (.slice (some ⟨b, 0, none⟩) l (l + 2)) ∧ w.heap.size ≤ b ∧ Nh w' b (l + 2) (l + 2) (rmF f l) ∧ Below w.heap.size w w' :=
  (roomy_any ao l c f w ha).mono fun _ _ ⟨h1, h2, h3⟩ => ⟨_, h1, Nat.le_refl _, h2, h3⟩
theorem sq1 {n : Nat} (h1 : 1 ≤ n) : 1 ≤ n * n := Nat.mul_le_mul h1 h1
theorem turn_res (N : Int) (ao : Option Addr) (l c : Nat) (f : Nat → Int) (w : World) (hf : ∀ i, R64 (f i)) (hr : Rds w ao l f) :
    Calls Try.prog 10 #[.agg #[.int .i64 N, .slice ao l c]] w fun e w' => ∃ (R : Int) (ao' : Option Addr) (l' c' : Nat) (q : Int), e = .returned (.tuple #[.agg #[.int .i64 R, .slice ao' l' c'], .int .i64 q]) ∧ ResAt w' w.heap.size w'.heap.size ao' l' c' ∧ Below w.heap.size w w' := by
  cases hg : goodM N l
  · exact (turn_bad N ao l c w hg).mono fun e w' ⟨h1, h2⟩ => ⟨_, _, _, _, _, h1, Or.inl ⟨rfl, rfl, rfl⟩, h2⟩
  · obtain ⟨n, rfl, h1, h6, rfl⟩ := goodM_of hg
    exact (turn_good n ao c f w h1 h6 hf hr).mono fun e w' ⟨r, cp, g, e1, e2, e3, e4, _, e5⟩ => ⟨_, _, _, _, _, e1, Or.inr ⟨r, g, rfl, e2, e3.lt, e3, sq1 h1, sq_le h6, e4⟩, e5⟩
theorem mul_res (N : Int) (ao : Option Addr) (l c : Nat) (f : Nat → Int) (w : World) (hf : ∀ i, R64 (f i)) (hr : Rds w ao l f) :
    Calls Try.prog 11 #[.agg #[.int .i64 N, .slice ao l c], .agg #[.int .i64 N, .slice ao l c]] w fun e w' => ∃ (R : Int) (ao' : Option Addr) (l' c' : Nat) (p : Bool) (q : Int), e = .returned (.tuple #[.agg #[.int .i64 R, .slice ao' l' c'], .bool p, .int .i64 q]) ∧ ResAt w' w.heap.size w'.heap.size ao' l' c' ∧ Below w.heap.size w w' := by
  cases hg : goodM N l
  · exact (mul_bad N N ao ao l c l c w (by unfold goodP; rw [hg]; rfl)).mono fun e w' ⟨h1, h2⟩ => ⟨_, _, _, _, _, _, h1, Or.inl ⟨rfl, rfl, rfl⟩, h2⟩
  · obtain ⟨n, rfl, h1, h6, rfl⟩ := goodM_of hg
    exact (mul_good n ao ao c c f f w h1 h6 hf hf hr hr).mono fun e w' ⟨r, cp, g, e1, e2, e3, e4, _, e5⟩ => ⟨_, _, _, _, _, _, e1, Or.inr ⟨r, g, rfl, e2, e3.lt, e3, sq1 h1, sq_le h6, e4⟩, e5⟩
theorem times_res (N : Int) (ao vo : Option Addr) (l c lv cv : Nat) (f v : Nat → Int) (w : World) (hf : ∀ i, R64 (f i)) (hv : ∀ i, R64 (v i)) (hr : Rds w ao l f) (hrv : Rds w vo lv v) :
    Calls Try.prog 12 #[.agg #[.int .i64 N, .slice ao l c], .slice vo lv cv] w fun e w' => ∃ (ao' : Option Addr) (l' c' : Nat) (p : Bool) (q : Int), e = .returned (.tuple #[.slice ao' l' c', .bool p, .int .i64 q]) ∧ ResAt w' w.heap.size w'.heap.size ao' l' c' ∧ Below w.heap.size w w' := by
  by_cases hg : goodM N l = false ∨ (lv : Int) ≠ N
  · exact (times_bad N ao vo l c lv cv w hg).mono fun e w' ⟨h1, h2⟩ => ⟨_, _, _, _, _, h1, Or.inl ⟨rfl, rfl, rfl⟩, h2⟩
  · obtain ⟨hg1, hg2⟩ := not_or.1 hg
    obtain ⟨n, rfl, h1, h6, rfl⟩ := goodM_of (show goodM N l = true by cases h : goodM N l with | false => exact absurd h hg1 | true => rfl)
    obtain rfl : lv = n := by omega
    exact (times_good lv ao vo c cv f v w h1 h6 hf hv hr hrv).mono fun e w' ⟨u, e1, e2, e3, e5⟩ => ⟨_, _, _, _, _, e1, Or.inr ⟨u, _, rfl, e2, e3.lt, e3, h1, by omega, fun i => chV_R _ _ _⟩, e5⟩
theorem factor_res (N : Int) (ao : Option Addr) (l c : Nat) (f : Nat → Int) (w : World) (hf : ∀ i, R64 (f i)) (hr : Rds w ao l f) :
    Calls Try.prog 13 #[.agg #[.int .i64 N, .slice ao l c]] w fun e w' => ∃ (R : Int) (ao' dO : Option Addr) (l' c' dl dc B1 U1 B2 U2 : Nat) (p : Bool) (q : Int), e = .returned (.tuple #[.agg #[.int .i64 R, .slice ao' l' c'], .slice dO dl dc, .bool p, .int .i64 q]) ∧ ResAt w' B1 U1 ao' l' c' ∧ ResAt w' B2 U2 dO dl dc ∧ (w.heap.size ≤ B1 ∧ U1 ≤ w'.heap.size ∧ w.heap.size ≤ B2 ∧ U2 ≤ w'.heap.size ∧ B1 ≤ w'.heap.size ∧ B2 ≤ w'.heap.size ∧ (U1 ≤ B2 ∨ U2 ≤ B1)) ∧ Below w.heap.size w w' := by
  cases hg : goodM N l
  · exact (factor_bad N ao l c w hg).mono fun e w' ⟨h1, h2⟩ => ⟨_, _, _, _, _, _, _, w.heap.size, w.heap.size, w.heap.size, w.heap.size, _, _, h1, Or.inl ⟨rfl, rfl, rfl⟩, Or.inl ⟨rfl, rfl, rfl⟩, ⟨Nat.le_refl _, h2.size, Nat.le_refl _, h2.size, h2.size, h2.size, Or.inl (Nat.le_refl _)⟩, h2⟩
  · obtain ⟨n, rfl, h1, h6, rfl⟩ := goodM_of hg
    refine (factor_good n ao c f w h1 h6 hf hr).mono ?_
    rintro e w' (⟨_, r, cp, u, g, e1, b1, b2, ne, n1, r1, _, n2, k⟩ | ⟨_, e1, h2⟩)
    · exact ⟨_, _, _, _, _, _, _, r, r + 1, u, u + 1, _, _, e1, Or.inr ⟨r, g, rfl, Nat.le_refl _, by omega, n1, sq1 h1, sq_le h6, r1⟩, Or.inr ⟨u, _, rfl, Nat.le_refl _, by omega, n2, h1, by omega, facD_R hf n⟩, ⟨b1, n1.lt, b2, n2.lt, Nat.le_of_lt n1.lt, Nat.le_of_lt n2.lt, by omega⟩, k⟩
    · exact ⟨_, _, _, _, _, _, _, w.heap.size, w.heap.size, w.heap.size, w.heap.size, _, _, e1, Or.inl ⟨rfl, rfl, rfl⟩, Or.inl ⟨rfl, rfl, rfl⟩, ⟨Nat.le_refl _, h2.size, Nat.le_refl _, h2.size, h2.size, h2.size, Or.inl (Nat.le_refl _)⟩, h2⟩
theorem solve_res (N : Int) (ao vo : Option Addr) (l c lv cv : Nat) (f v : Nat → Int) (w : World) (hf : ∀ i, R64 (f i)) (hv : ∀ i, R64 (v i)) (hr : Rds w ao l f) (hrv : Rds w vo lv v) :
    Calls Try.prog 14 #[.agg #[.int .i64 N, .slice ao l c], .slice vo lv cv] w fun e w' => ∃ (ao' : Option Addr) (l' c' : Nat) (p : Bool) (q : Int), e = .returned (.tuple #[.slice ao' l' c', .bool p, .int .i64 q]) ∧ ResAt w' w.heap.size w'.heap.size ao' l' c' ∧ Below w.heap.size w w' := by
  by_cases hg : goodM N l = false ∨ (lv : Int) ≠ N
  · exact (solve_bad N ao vo l c lv cv w hg).mono fun e w' ⟨h1, h2⟩ => ⟨_, _, _, _, _, h1, Or.inl ⟨rfl, rfl, rfl⟩, h2⟩
  · obtain ⟨hg1, hg2⟩ := not_or.1 hg
    obtain ⟨n, rfl, h1, h6, rfl⟩ := goodM_of (show goodM N l = true by cases h : goodM N l with | false => exact absurd h hg1 | true => rfl)
    obtain rfl : lv = n := by omega
    refine (solve_good lv ao vo c cv f v w h1 h6 hf hv hr hrv).mono ?_
    rintro e w' (⟨_, u, cu, g, _, e1, e2, e3, e5⟩ | ⟨_, e1, h2⟩)
    · exact ⟨_, _, _, _, _, e1, Or.inr ⟨u, _, rfl, e2, e3.lt, e3, h1, by omega, upF_R (dvF_R (dnF_R hv lv) lv) lv⟩, e5⟩
    · exact ⟨_, _, _, _, _, e1, Or.inl ⟨rfl, rfl, rfl⟩, h2⟩

end Go.Proofs.Ytnfejfdekedmhab
