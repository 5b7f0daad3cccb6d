/- Contracts of package clock: the iterator over the offsets of all but the bad one. -/
import Derived.Test.YtgikknoklnbihaaClkIter
namespace Go.Proofs.Ytgikknoklnbihaa
open Go.RowKit Go.Shelf

attribute [local go_sem] Oper.semAt_some

/-- All but the bad one. -/
def oth (f : Nat → Int) (bad : Int) : Nat → List Int
  | 0 => []
  | k + 1 => if (k : Int) = bad then oth f bad k else oth f bad k ++ [f k]
theorem oth_skip {f : Nat → Int} {bad : Int} {k : Nat} (h : (k : Int) = bad) : oth f bad (k + 1) = oth f bad k := by show (if _ then _ else _) = _; rw [if_pos h]
theorem oth_take {f : Nat → Int} {bad : Int} {k : Nat} (h : (k : Int) ≠ bad) : oth f bad (k + 1) = oth f bad k ++ [f k] := by show (if _ then _ else _) = _; rw [if_neg h]
theorem oth_len_step (f : Nat → Int) (bad : Int) (k : Nat) : (oth f bad k).length ≤ (oth f bad (k + 1)).length := by
  by_cases h : (k : Int) = bad
  · rw [oth_skip h]; exact Nat.le_refl _
  · rw [oth_take h]; simp
theorem oth_len_mono (f : Nat → Int) (bad : Int) {k n : Nat} (h : k ≤ n) : (oth f bad k).length ≤ (oth f bad n).length := by
  induction n with
  | zero => have : k = 0 := by omega
            subst this; exact Nat.le_refl _
  | succ n ih =>
    by_cases e : k = n + 1
    · subst e; exact Nat.le_refl _
    · exact Nat.le_trans (ih (by omega)) (oth_len_step f bad n)
theorem oth_len_lt {f : Nat → Int} {bad : Int} {k n : Nat} (h : k < n) (hb : (k : Int) ≠ bad) : (oth f bad k).length < (oth f bad n).length := by
  have := oth_len_mono f bad (show k + 1 ≤ n by omega)
  rw [oth_take hb] at this
  simp at this; omega
theorem oth_len_le (f : Nat → Int) (bad : Int) (n : Nat) : (oth f bad n).length ≤ n := by
  induction n with
  | zero => exact Nat.le_refl _
  | succ n ih =>
    by_cases h : (n : Int) = bad
    · rw [oth_skip h]; omega
    · rw [oth_take h]; simp; omega
theorem oth_mem {f : Nat → Int} {bad x : Int} {n : Nat} : x ∈ oth f bad n ↔ ∃ i : Nat, i < n ∧ (i : Int) ≠ bad ∧ x = f i := by
  induction n with
  | zero => constructor
            · intro h; cases h
            · rintro ⟨i, hi, _⟩; omega
  | succ n ih =>
    by_cases h : (n : Int) = bad
    · rw [oth_skip h, ih]
      constructor
      · rintro ⟨i, hi, hb, e⟩; exact ⟨i, by omega, hb, e⟩
      · rintro ⟨i, hi, hb, e⟩
        refine ⟨i, ?_, hb, e⟩
        by_cases c : i = n
        · subst c; exact absurd h hb
        · omega
    · rw [oth_take h, List.mem_append, ih]
      constructor
      · rintro (⟨i, hi, hb, e⟩ | e)
        · exact ⟨i, by omega, hb, e⟩
        · exact ⟨n, by omega, h, by simpa using e⟩
      · rintro ⟨i, hi, hb, e⟩
        by_cases c : i = n
        · subst c; exact Or.inr (by simpa using e)
        · exact Or.inl ⟨i, by omega, hb, e⟩
theorem oth_pos (f : Nat → Int) (bad : Int) : 0 < (oth f bad 4).length := by
  by_cases h : ((0 : Nat) : Int) = bad
  · exact Nat.lt_of_le_of_lt (Nat.zero_le _) (oth_len_lt (k := 1) (by omega) (by omega))
  · exact Nat.lt_of_le_of_lt (Nat.zero_le _) (oth_len_lt (k := 0) (by omega) h)
/-- The greatest less the least, in order. -/
theorem sp_srt {f : Nat → Int} {bad a b : Int} (ha : (srt (oth f bad 4))[0]? = some a) (hb : (srt (oth f bad 4))[(oth f bad 4).length - 1]? = some b) : IsSp f bad (b - a) := by
  have mem : ∀ x, x ∈ srt (oth f bad 4) ↔ x ∈ oth f bad 4 := fun x => (srt_perm _).mem_iff
  refine ⟨fun i k hi hk bi bk => ?_, ?_⟩
  · have mi := (mem _).2 (oth_mem.2 ⟨i, hi, bi, rfl⟩)
    have mk := (mem _).2 (oth_mem.2 ⟨k, hk, bk, rfl⟩)
    obtain ⟨p, hp⟩ := List.mem_iff_getElem?.1 mi
    obtain ⟨q, hq⟩ := List.mem_iff_getElem?.1 mk
    have lp : p < (srt (oth f bad 4)).length := (List.getElem?_eq_some_iff.1 hp).1
    rw [srt_len] at lp
    have := srt_at hp hb (by omega)
    have := srt_at ha hq (by omega)
    omega
  · obtain ⟨i, hi, bi, ei⟩ := oth_mem.1 ((mem _).1 (List.mem_iff_getElem?.2 ⟨_, hb⟩))
    obtain ⟨k, hk, bk, ek⟩ := oth_mem.1 ((mem _).1 (List.mem_iff_getElem?.2 ⟨_, ha⟩))
    exact ⟨i, k, hi, hk, bi, bk, by rw [ei, ek]⟩

set_option maxRecDepth 100000 in
set_option maxHeartbeats 1000000 in
theorem others1_gives (A X : Nat) (f : Nat → Int) (bad : Int) (w : World) (hA : F4 w A f) (hX : N1 w X bad) :
    GvOK 41 #[.pointer (some ⟨A, 0, none⟩), .pointer (some ⟨X, 0, none⟩)] (oth f bad 4) w := by
  intro l J Jx W hW _ _ hYd h0
  have mA := hA.below hW
  have c0 := mA.cell (show 0 < 4 by omega); have c1 := mA.cell (show 1 < 4 by omega); have c2 := mA.cell (show 2 < 4 by omega); have c3 := mA.cell (show 3 < 4 by omega)
  clear mA
  refine callsIn_of_wp Try.func41 rfl trivial ?_ rfl
  simp only [Try.ntmps41, List.size_toArray, List.length_cons, List.length_nil, Nat.reduceAdd, Nat.reduceSub, Array.replicate_succ, Array.replicate_zero, List.push_toArray, List.append_toArray, List.nil_append, List.cons_append]
  gi_wp2
  clear c0 c1 c2 c3
  gi_loopw [7] (fun q wr => ∃ k : Nat, k ≤ 4 ∧ q = .int .i64 (k : Int) ∧ J (oth f bad k) wr ∧ Below w.heap.size w wr)
    (fun q _ => 4 - (intOf q).toNat)
  case atStart => exact ⟨0, Nat.zero_le _, rfl, by simpa [oth] using h0, hW⟩
  case round =>
    obtain ⟨k, hk, rfl, hJs, hb⟩ := hrel
    rename World => wr
    by_cases hlt : k < 4
    · have cX : wr.cell? ⟨X, 0, none⟩ = some (.int .i64 bad) := at_below (hX.cell (i := 0) (by omega)) hb
      have hlt' : (k : Int) < 4 := by omega
      have at_ := run_index4 f hlt
      by_cases c : (k : Int) = bad
      · have tb : ((k : Int) != bad) = false := by simp [c]
        have EV := hide (oth_skip (f := f) c)
        obtain ⟨u, eu⟩ : ∃ u, f k = u := ⟨_, rfl⟩
        rw [eu] at at_
        clear c eu
        gi_wp2
        refine ⟨fun _ h => (nomatch h), ?_⟩
        gi_wp2
        go_roundw
        case rel => exact ⟨k + 1, by omega, by go_num, by rw [unhide EV]; exact hJs, hb⟩
        case measure => simp [intOf]; omega
      · obtain ⟨fn, tmps, assign, body, hy, hR⟩ := hYd _ (f k) wr hJs (oth_len_lt hlt c)
        have tb : ((k : Int) != bad) = true := by simp [c]
        have EV := hide (oth_take (f := f) c)
        obtain ⟨u, eu⟩ : ∃ u, f k = u := ⟨_, rfl⟩
        rw [eu] at hy hR at_ EV
        clear c eu
        gi_wp2
        refine hR.mono ?_
        rintro e W3 (⟨rfl, hJ3, hk3⟩ | ⟨rfl, hJx3⟩)
        · gi_wp2
          go_roundw
          case rel => exact ⟨k + 1, by omega, by go_num, by rw [unhide EV]; exact hJ3, hb.trans hk3⟩
          case measure => simp [intOf]; omega
        · gi_wp2
          refine bodyPost_ret (results_none rfl _ _ _) rfl ?_
          exact ⟨⟨_, rfl⟩, .inr ⟨_, trivial, hJx3⟩⟩
    · obtain rfl : k = 4 := by omega
      gi_wp2
      go_end0
      exact ⟨⟨_, rfl⟩, .inl ⟨_, rfl, hJs⟩⟩
theorem others_any (f : Nat → Int) (bad : Int) (w : World) :
    Calls Try.prog 30 #[fourV f, .int .i64 bad] w fun e w' =>
      e = .returned (.func (.func 41) #[] #[.pointer (some ⟨w.heap.size, 0, none⟩), .pointer (some ⟨w.heap.size + 1, 0, none⟩)]) ∧
      F4 w' w.heap.size f ∧ N1 w' (w.heap.size + 1) bad ∧ Below w.heap.size w w' := by
  obtain ⟨w1, e1, mA, k1, s1⟩ := f4_alloc w f
  have m2 := n1_new w1 bad; have k2 := al_below w1 (.cells #[.int .i64 bad] 3)
  obtain ⟨w2, e2⟩ : ∃ w2, w2 = w1.alloc (.cells #[.int .i64 bad] 3) := ⟨_, rfl⟩
  rw [← e2] at m2 k2
  rw [s1] at m2
  have H := hide (show F4 w2 w.heap.size f ∧ N1 w2 (w.heap.size + 1) bad ∧ Below w.heap.size w w2 from ⟨mA.below k2, m2, k1.trans (k2.mono (by omega))⟩)
  have E := hide (show w2 = (w.alloc (.cells #[.int .i64 (f 0), .int .i64 (f 1), .int .i64 (f 2), .int .i64 (f 3)] 31)).alloc (.cells #[.int .i64 bad] 3) by rw [e2, e1])
  clear e1 mA k1 s1 m2 k2 e2
  unfold fourV
  go_enter Try.func30, Try.ntmps30
  go_wp2_with fail
  rw [← unhide E]
  go_ret
  exact ⟨rfl, unhide H⟩

end Go.Proofs.Ytgikknoklnbihaa
