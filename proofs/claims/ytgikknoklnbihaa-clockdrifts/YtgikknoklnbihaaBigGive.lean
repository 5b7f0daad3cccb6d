/- Contracts of the reference's whole numbers of any size: give, SetInt64, NewInt, whole. -/
import Derived.Test.YtgikknoklnbihaaBigWalks
import Derived.OneCell
namespace Go.Proofs.Ytgikknoklnbihaa
open Go.RowKit

/-- The number at block b: its sign's cell and its words' cell. -/
def IntAt (w : World) (b : Nat) (s v : Value) : Prop := w.heap[b]? = some (.cells #[s, v] 55 (0, 0))

theorem IntAt.cell0 {w : World} {b : Nat} {s v : Value} (h : IntAt w b s v) : w.cell? ⟨b, 0, none⟩ = some s := by
  unfold IntAt at h; simp [World.cell?, h]
theorem IntAt.cell1 {w : World} {b : Nat} {s v : Value} (h : IntAt w b s v) : w.cell? ⟨b, 1, none⟩ = some v := by
  unfold IntAt at h; simp [World.cell?, h]
theorem IntAt.free {w : World} {b : Nat} {s v : Value} (h : IntAt w b s v) (i : Nat) : w.frozen? ⟨b, i, none⟩ = false := by
  unfold IntAt at h; simp [World.frozen?, h]
theorem IntAt.lt {w : World} {b : Nat} {s v : Value} (h : IntAt w b s v) : b < w.heap.size := lt_of_block h
theorem IntAt.kept {z : Nat} {w w' : World} {b : Nat} {s v : Value} (h : IntAt w b s v) (k : Kept z w w') (hz : b ≠ z) : IntAt w' b s v := by
  unfold IntAt at h ⊢; rw [k.block b (lt_of_block h) hz]; exact h
theorem IntAt.below {w w' : World} {b : Nat} {s v : Value} (h : IntAt w b s v) (k : Below w.heap.size w w') : IntAt w' b s v := by
  unfold IntAt at h ⊢; rw [k.block b (lt_of_block h)]; exact h
theorem Kept.refl (z : Nat) (w : World) : Kept z w w := ⟨rfl, rfl, rfl, Nat.le_refl _, fun _ _ _ => rfl⟩
theorem Kept.setCell {z : Nat} {a w : World} (h : Kept z a w) (i : Nat) (u : Value) : Kept z a (w.setCell ⟨z, i, none⟩ u) :=
  ⟨h.os, h.tape, h.output, by simpa [World.setCell] using h.size, fun k hk hn => (heap_setCell_other w ⟨z, i, none⟩ k u hn).trans (h.block k hk hn)⟩
theorem give_world {w : World} {z : Nat} {n0 v0 : Value} (hz : IntAt w z n0 v0) (s v : Value) :
    IntAt ((w.setCell ⟨z, 1, none⟩ v).setCell ⟨z, 0, none⟩ s) z s v := by
  unfold IntAt at hz ⊢
  have h1 := heap_setCell_same w z 1 _ _ v hz
  have h2 := heap_setCell_same _ z 0 _ _ s h1
  exact h2

set_option maxHeartbeats 400000 in
theorem give_any (z n cap : Nat) (ao : Option Addr) (neg : Bool) (n0 v0 : Value) (w : World) (hz : IntAt w z n0 v0) :
    Calls Try.prog 36 #[.pointer (some ⟨z, 0, none⟩), .bool neg, .slice ao n cap] w fun e w' =>
      e = .returned (.pointer (some ⟨z, 0, none⟩)) ∧ IntAt w' z (.bool (neg && decide (0 < n))) (.slice ao n cap) ∧ Kept z w w' := by
  have c0 := hz.cell0; have c1 := hz.cell1; have f0 := hz.free 0; have f1 := hz.free 1
  have HZ := hide hz
  clear hz
  cases neg
  · go_enter Try.func36, Try.ntmps36
    go_wp2_with fail
    go_ret
    exact ⟨rfl, give_world (unhide HZ) _ _, ((Kept.refl z w).setCell 1 _).setCell 0 _⟩
  · go_enter Try.func36, Try.ntmps36
    go_wp2_with fail
    go_ret
    exact ⟨rfl, give_world (unhide HZ) _ _, ((Kept.refl z w).setCell 1 _).setCell 0 _⟩

/-- The whole number x lies at block b. -/
def Num (w : World) (b : Nat) (x : Int) : Prop :=
  ∃ (neg : Bool) (v : Value) (n : Nat) (f : Nat → Int), IntAt w b (.bool neg) v ∧ Sl w v n f ∧ Wd n f ∧ Nm n f ∧ x = sgnZ neg (val f n) ∧ (n = 0 → neg = false)

theorem Sl.other {z : Nat} {w w' : World} {v v0 : Value} {s0 : Bool} {n : Nat} {f : Nat → Int} (h : Sl w v n f) (k : Kept z w w') (hz : IntAt w z (.bool s0) v0) : Sl w' v n f := by
  rcases h with h | ⟨b, cap, hv, h1, h2, h3, h4⟩
  · exact Or.inl h
  · rcases Nat.eq_zero_or_pos n with h0 | h0
    · subst h0
      exact Or.inr ⟨b, cap, hv, h1, h2, Nat.lt_of_lt_of_le h3 k.size, fun i hi => absurd hi (by omega)⟩
    · have hb : b ≠ z := by
        intro e
        subst e
        have c := h4 0 h0
        rw [hz.cell0] at c
        cases c
      exact Or.inr ⟨b, cap, hv, h1, h2, Nat.lt_of_lt_of_le h3 k.size, h4.same (k.block b h3 hb)⟩
theorem Num.lt {w : World} {b : Nat} {x : Int} (h : Num w b x) : b < w.heap.size := by
  obtain ⟨neg, v, n, f, h, -⟩ := h; exact h.lt
theorem Num.other {z : Nat} {w w' : World} {v0 : Value} {s0 : Bool} {b : Nat} {x : Int} (h : Num w b x) (k : Kept z w w') (hb : b ≠ z) (hz : IntAt w z (.bool s0) v0) : Num w' b x := by
  obtain ⟨neg, v, n, f, h1, h2, h3, h4, h5, h6⟩ := h
  exact ⟨neg, v, n, f, h1.kept k hb, h2.other k hz, h3, h4, h5, h6⟩
theorem Num.below {w w' : World} {b : Nat} {x : Int} (h : Num w b x) (k : Below w.heap.size w w') : Num w' b x := by
  obtain ⟨neg, v, n, f, h1, h2, h3, h4, h5, h6⟩ := h
  exact ⟨neg, v, n, f, h1.below k, h2.below k, h3, h4, h5, h6⟩
theorem val_pos {f : Nat → Int} {n : Nat} (hw : Wd n f) (hn : Nm n f) (h : n ≠ 0) : 0 < val f n := by
  obtain ⟨m, rfl⟩ : ∃ m, n = m + 1 := ⟨n - 1, by omega⟩
  have := val_ge hw (by rcases hn with h | h; exact absurd h (by omega); exact h)
  have := pow_pos m
  omega
/-- What give makes of words. -/
theorem num_of_give {w : World} {z n : Nat} {v : Value} {f : Nat → Int} {neg : Bool} (h : IntAt w z (.bool (neg && decide (0 < n))) v) (hs : Sl w v n f) (hw : Wd n f) (hn : Nm n f) : Num w z (sgnZ neg (val f n)) := by
  refine ⟨_, v, n, f, h, hs, hw, hn, ?_, ?_⟩
  · rcases Nat.eq_zero_or_pos n with h0 | h0
    · subst h0; cases neg <;> rfl
    · rw [decide_eq_true h0]; simp
  · intro h0; subst h0; simp

set_option maxHeartbeats 400000 in
theorem setInt64_any (z : Nat) (x : Int) (hx : R64 x) (s0 : Bool) (v0 : Value) (w : World) (hz : IntAt w z (.bool s0) v0) :
    Calls Try.prog 43 #[.pointer (some ⟨z, 0, none⟩), .int .i64 x] w fun e w' =>
      e = .returned (.pointer (some ⟨z, 0, none⟩)) ∧ Num w' z x ∧ Kept z w w' := by
  have HZ := hide hz
  obtain ⟨a1, a2⟩ := hx
  clear hz
  by_cases h : x < 0
  · have e1 : Hid (IntKind.u64.wrap (-IntKind.u64.wrap x) = -x) := by show _ = _; rw [IntKind.wrap_u64, IntKind.wrap_u64]; omega
    go_enter Try.func43, Try.ntmps43
    go_wp2_with fail
    rw [unhide e1]
    refine (words_any (-x) (by omega) (by omega) _).mono ?_
    rintro e w1 ⟨v, m, f, rfl, hs, hw, hn, hv, hb⟩
    have H1 := hide hs; have H2 := hide hw; have H3 := hide hn; have H4 := hide hv; have H5 := hide hb
    rcases hs with ⟨rfl, rfl⟩ | ⟨b, cap, rfl, -, -, -, -⟩
    all_goals
      clear hw hn hv hb
      go_wp2_with fail
      refine (give_any z _ _ _ true _ _ _ ((unhide HZ).below (unhide H5))).mono ?_
      rintro e w2 ⟨rfl, hi, hk⟩
      have F := hide (show Num w2 z x ∧ Kept z w w2 from by
        have hsl := (unhide H1).other hk ((unhide HZ).below (unhide H5))
        have hnum := num_of_give hi hsl (unhide H2) (unhide H3)
        rw [unhide H4] at hnum
        have e2 : sgnZ true (-x) = x := by show - -x = x; omega
        rw [e2] at hnum
        exact ⟨hnum, (Kept.of_below (unhide H5)).trans hk (Or.inl rfl)⟩)
      clear hi hk
      go_wp2_with fail
      go_ret
      exact ⟨rfl, (unhide F).1, (unhide F).2⟩
  · go_enter Try.func43, Try.ntmps43
    go_wp2_with fail
    refine (words_any x (by omega) (by omega) _).mono ?_
    rintro e w1 ⟨v, m, f, rfl, hs, hw, hn, hv, hb⟩
    have H1 := hide hs; have H2 := hide hw; have H3 := hide hn; have H4 := hide hv; have H5 := hide hb
    rcases hs with ⟨rfl, rfl⟩ | ⟨b, cap, rfl, -, -, -, -⟩
    all_goals
      clear hw hn hv hb
      go_wp2_with fail
      refine (give_any z _ _ _ false _ _ _ ((unhide HZ).below (unhide H5))).mono ?_
      rintro e w2 ⟨rfl, hi, hk⟩
      have F := hide (show Num w2 z x ∧ Kept z w w2 from by
        have hsl := (unhide H1).other hk ((unhide HZ).below (unhide H5))
        have hnum := num_of_give hi hsl (unhide H2) (unhide H3)
        rw [unhide H4] at hnum
        exact ⟨hnum, (Kept.of_below (unhide H5)).trans hk (Or.inl rfl)⟩)
      clear hi hk
      go_wp2_with fail
      go_ret
      exact ⟨rfl, (unhide F).1, (unhide F).2⟩

/-- new(Int). -/
theorem intAt_new (w : World) : IntAt (w.alloc (.cells #[.bool false, .slice none 0 0] 55)) w.heap.size (.bool false) (.slice none 0 0) := by
  unfold IntAt
  show (w.heap.push _)[w.heap.size]? = _
  rw [Array.getElem?_push_size]
theorem below_new (w : World) (o : Obj) : Below w.heap.size w (w.alloc o) := (Below.refl _ _).alloc (Nat.le_refl _) _
/-- A block that was new, and then written. -/
theorem below_of_new {w w2 : World} {o : Obj} (k : Kept w.heap.size (w.alloc o) w2) : Below w.heap.size w w2 :=
  ((Kept.of_below (z := w.heap.size) (below_new w o)).trans k (Or.inl rfl)).below (Nat.le_refl _)

set_option maxHeartbeats 400000 in
theorem newInt_any (x : Int) (hx : R64 x) (w : World) :
    Calls Try.prog 32 #[.int .i64 x] w fun e w' =>
      ∃ b : Nat, e = .returned (.pointer (some ⟨b, 0, none⟩)) ∧ w.heap.size ≤ b ∧ Num w' b x ∧ Below w.heap.size w w' := by
  have HX := hide hx
  clear hx
  go_enter Try.func32, Try.ntmps32
  go_wp2_with fail
  refine (setInt64_any _ x (unhide HX) _ _ _ (intAt_new w)).mono ?_
  rintro e w2 ⟨rfl, hn, hk⟩
  have F := hide (show Num w2 w.heap.size x ∧ Below w.heap.size w w2 from ⟨hn, below_of_new hk⟩)
  clear hn hk
  go_wp2_with fail
  go_ret
  exact ⟨w.heap.size, rfl, Nat.le_refl _, (unhide F).1, (unhide F).2⟩

set_option maxHeartbeats 400000 in
theorem whole_any (x : Int) (hx : R64 x) (w : World) :
    Calls Try.prog 21 #[.int .i64 x] w fun e w' =>
      ∃ b : Nat, e = .returned (.pointer (some ⟨b, 0, none⟩)) ∧ w.heap.size ≤ b ∧ Num w' b x ∧ Below w.heap.size w w' := by
  have HX := hide hx
  obtain ⟨x1, x2⟩ := hx
  go_enter Try.func21, Try.ntmps21
  go_wp2_with fail
  refine (newInt_any x (unhide HX) _).mono ?_
  rintro e w2 ⟨b, rfl, hb, hn, hk⟩
  have F := hide (show w.heap.size ≤ b ∧ Num w2 b x ∧ Below w.heap.size w w2 from ⟨hb, hn, hk⟩)
  clear hb hn hk
  go_wp2_with fail
  go_ret
  exact ⟨b, rfl, (unhide F).1, (unhide F).2.1, (unhide F).2.2⟩

end Go.Proofs.Ytgikknoklnbihaa
