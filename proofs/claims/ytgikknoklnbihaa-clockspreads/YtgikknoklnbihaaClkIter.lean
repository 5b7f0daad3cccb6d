/- Contracts of package clock: the iterators over a list's values, over what one clock reads, over the offsets of all but the bad one. -/
import Derived.Test.YtgikknoklnbihaaClkSeq
import Derived.Test.YtgikknoklnbihaaFourMem
namespace Go.Proofs.Ytgikknoklnbihaa
open Go.RowKit Go.Shelf

attribute [local go_sem] Oper.semAt_some

theorem lsN_at {f : Nat → Int} {n k : Nat} (hk : k < n) : (lsN f n).take (k + 1) = (lsN f n).take k ++ [f k] := by
  rw [List.take_succ_eq_append_getElem (by rw [lsN_len]; exact hk)]
  simp [lsN]
theorem lsN_all {f : Nat → Int} {n : Nat} : (lsN f n).take n = lsN f n := List.take_of_length_le (by rw [lsN_len]; exact Nat.le_refl _)

set_option maxRecDepth 100000 in
set_option maxHeartbeats 1000000 in
theorem values1_gives (X b o n cap : Nat) (f : Nat → Int) (w : World) (hn : n ≤ 64) (hX : w.cell? ⟨X, 0, none⟩ = some (.slice (some ⟨b, o, none⟩) n cap)) (hc : ∀ i, i < n → w.cell? ⟨b, o + i, none⟩ = some (.int .i64 (f i))) :
    GvOK 35 #[.pointer (some ⟨X, 0, none⟩)] (lsN f n) w := by
  intro l J Jx W hW _ _ hY h0
  have cx : W.cell? ⟨X, 0, none⟩ = some (.slice (some ⟨b, o, none⟩) n cap) := at_below hX hW
  refine callsIn_of_wp Try.func35 rfl trivial ?_ rfl
  simp only [Try.ntmps35, List.size_toArray, List.length_cons, List.length_nil, Nat.reduceAdd, Nat.reduceSub, Array.replicate_succ, Array.replicate_zero, List.push_toArray, List.append_toArray, List.nil_append, List.cons_append]
  gi_wp2
  clear cx
  gi_loopw [7] (fun q wr => ∃ k : Nat, k ≤ n ∧ q = .int .i64 (k : Int) ∧ J ((lsN f n).take k) wr ∧ Below w.heap.size w wr)
    (fun q _ => n - (intOf q).toNat)
  case atStart => exact ⟨0, Nat.zero_le _, rfl, by simpa using h0, hW⟩
  case round =>
    obtain ⟨k, hk, rfl, hJs, hb⟩ := hrel
    rename World => wr
    by_cases hlt : k < n
    · obtain ⟨fn, tmps, assign, body, hy, hR⟩ := hY _ (f k) wr hJs (by rw [List.length_take, lsN_len]; omega)
      have ck : wr.cell? ⟨b, o + k, none⟩ = some (.int .i64 (f k)) := at_below (hc k hlt) hb
      have hlt' : (k : Int) < (n : Int) := by omega
      gi_wp2
      refine hR.mono ?_
      rintro e W3 (⟨rfl, hJ3, hk3⟩ | ⟨rfl, hJx3⟩)
      · gi_wp2
        go_roundw
        case rel => exact ⟨k + 1, by omega, by go_num, by rw [lsN_at hlt]; exact hJ3, hb.trans hk3⟩
        case measure => simp [intOf]; omega
      · gi_wp2
        refine bodyPost_ret (results_none rfl _ _ _) rfl ?_
        exact ⟨⟨_, rfl⟩, .inr ⟨_, trivial, hJx3⟩⟩
    · obtain rfl : k = n := by omega
      gi_wp2
      go_end0
      exact ⟨⟨_, rfl⟩, .inl ⟨_, rfl, by rw [lsN_all] at hJs; exact hJs⟩⟩

theorem values_any (ao : Option Addr) (len c : Nat) (w : World) :
    Calls Try.prog 24 #[.slice ao len c] w fun e w' => e = .returned (.func (.func 35) #[] #[.pointer (some ⟨w.heap.size, 0, none⟩)]) ∧ Vh 28 w' w.heap.size 1 1 (fun _ => .slice ao len c) ∧ Below w.heap.size w w' ∧ w'.heap.size = w.heap.size + 1 := by
  have h1 := bx_new w (.slice ao len c)
  have h2 := al_below w (.cells #[.slice ao len c] 28)
  have h3 := al_size w (.cells #[.slice ao len c] 28)
  obtain ⟨w1, e1⟩ : ∃ w1, w1 = w.alloc (.cells #[.slice ao len c] 28) := ⟨_, rfl⟩
  rw [← e1] at h1 h2 h3
  have H := hide (⟨h1, h2, h3⟩ : _ ∧ _ ∧ _); have E1 := hide e1
  clear h1 h2 h3 e1
  go_enter Try.func24, Try.ntmps24
  go_wp2_with fail
  rw [← unhide E1]
  go_ret
  exact ⟨rfl, unhide H⟩

/-- What is read, one clock telling a lie. -/
def rd1 (f : Nat → Int) (bad lie : Int) (k : Nat) : Int := if (k : Int) = bad then lie else f k
/-- A block of one number. -/
def N1 (w : World) (b : Nat) (x : Int) : Prop := Vh 3 w b 1 1 (fun _ => .int .i64 x)
theorem n1_new (w : World) (x : Int) : N1 (w.alloc (.cells #[.int .i64 x] 3)) w.heap.size x := by
  refine Vh.new w 3 #[.int .i64 x] (fun _ => .int .i64 x) (by show 1 ≤ maxLen; decide) (fun i hi => ?_)
  have : i = 0 := by simp at hi; omega
  subst this
  rfl
theorem F4.wide {w w' : World} {b : Nat} {f : Nat → Int} {B : Nat} (h : F4 w b f) (k : Below B w w') (hb : b < B) : F4 w' b f := h.under k hb

set_option maxRecDepth 100000 in
set_option maxHeartbeats 1000000 in
theorem readings1_gives (A X Y : Nat) (f : Nat → Int) (bad lie : Int) (w : World) (hA : F4 w A f) (hX : N1 w X bad) (hY : N1 w Y lie) :
    GvOK 38 #[.pointer (some ⟨A, 0, none⟩), .pointer (some ⟨X, 0, none⟩), .pointer (some ⟨Y, 0, none⟩)] (lsN (rd1 f bad lie) 4) w := by
  intro l J Jx W hW _ _ hYd h0
  have mA := hA.below hW
  have c0 := mA.cell (show 0 < 4 by omega); have c1 := mA.cell (show 1 < 4 by omega); have c2 := mA.cell (show 2 < 4 by omega); have c3 := mA.cell (show 3 < 4 by omega)
  clear mA
  refine callsIn_of_wp Try.func38 rfl trivial ?_ rfl
  simp only [Try.ntmps38, List.size_toArray, List.length_cons, List.length_nil, Nat.reduceAdd, Nat.reduceSub, Array.replicate_succ, Array.replicate_zero, List.push_toArray, List.append_toArray, List.nil_append, List.cons_append]
  gi_wp2
  clear c0 c1 c2 c3
  gi_loopw [8] (fun q wr => ∃ k : Nat, k ≤ 4 ∧ q = .int .i64 (k : Int) ∧ J ((lsN (rd1 f bad lie) 4).take k) wr ∧ Below w.heap.size w wr)
    (fun q _ => 4 - (intOf q).toNat)
  case atStart => exact ⟨0, Nat.zero_le _, rfl, by simpa using h0, hW⟩
  case round =>
    obtain ⟨k, hk, rfl, hJs, hb⟩ := hrel
    rename World => wr
    by_cases hlt : k < 4
    · obtain ⟨fn, tmps, assign, body, hy, hR⟩ := hYd _ (rd1 f bad lie k) wr hJs (by rw [List.length_take, lsN_len]; omega)
      have cX : wr.cell? ⟨X, 0, none⟩ = some (.int .i64 bad) := at_below (hX.cell (i := 0) (by omega)) hb
      have cY : wr.cell? ⟨Y, 0, none⟩ = some (.int .i64 lie) := at_below (hY.cell (i := 0) (by omega)) hb
      have hlt' : (k : Int) < 4 := by omega
      have at_ := run_index4 f hlt
      by_cases c : (k : Int) = bad
      · have tb : ((k : Int) == bad) = true := by simp [c]
        have ev : rd1 f bad lie k = lie := if_pos c
        rw [ev] at hy hR
        have EV := hide ev
        clear ev c
        gi_wp2
        refine hR.mono ?_
        rintro e W3 (⟨rfl, hJ3, hk3⟩ | ⟨rfl, hJx3⟩)
        · gi_wp2
          go_roundw
          case rel => exact ⟨k + 1, by omega, by go_num, by rw [lsN_at hlt, unhide EV]; exact hJ3, hb.trans hk3⟩
          case measure => simp [intOf]; omega
        · gi_wp2
          refine bodyPost_ret (results_none rfl _ _ _) rfl ?_
          exact ⟨⟨_, rfl⟩, .inr ⟨_, trivial, hJx3⟩⟩
      · have tb : ((k : Int) == bad) = false := by simp [c]
        have ev : rd1 f bad lie k = f k := if_neg c
        rw [ev] at hy hR
        obtain ⟨u, eu⟩ : ∃ u, f k = u := ⟨_, rfl⟩
        rw [eu] at hy hR ev at_
        have EV := hide ev; have EU := hide eu
        clear ev c eu
        gi_wp2
        refine hR.mono ?_
        rintro e W3 (⟨rfl, hJ3, hk3⟩ | ⟨rfl, hJx3⟩)
        · gi_wp2
          go_roundw
          case rel => exact ⟨k + 1, by omega, by go_num, by rw [lsN_at hlt, unhide EV]; exact hJ3, hb.trans hk3⟩
          case measure => simp [intOf]; omega
        · gi_wp2
          refine bodyPost_ret (results_none rfl _ _ _) rfl ?_
          exact ⟨⟨_, rfl⟩, .inr ⟨_, trivial, hJx3⟩⟩
    · obtain rfl : k = 4 := by omega
      gi_wp2
      go_end0
      exact ⟨⟨_, rfl⟩, .inl ⟨_, rfl, by rw [lsN_all] at hJs; exact hJs⟩⟩
theorem readings_any (f : Nat → Int) (bad lie : Int) (w : World) :
    Calls Try.prog 28 #[fourV f, .int .i64 bad, .int .i64 lie] w fun e w' =>
      e = .returned (.func (.func 38) #[] #[.pointer (some ⟨w.heap.size, 0, none⟩), .pointer (some ⟨w.heap.size + 1, 0, none⟩), .pointer (some ⟨w.heap.size + 1 + 1, 0, none⟩)]) ∧
      F4 w' w.heap.size f ∧ N1 w' (w.heap.size + 1) bad ∧ N1 w' (w.heap.size + 1 + 1) lie ∧ Below w.heap.size w w' := by
  obtain ⟨w1, e1, mA, k1, s1⟩ := f4_alloc w f
  have m2 := n1_new w1 bad; have k2 := al_below w1 (.cells #[.int .i64 bad] 3); have s2 := al_size w1 (.cells #[.int .i64 bad] 3)
  obtain ⟨w2, e2⟩ : ∃ w2, w2 = w1.alloc (.cells #[.int .i64 bad] 3) := ⟨_, rfl⟩
  rw [← e2] at m2 k2 s2
  have m3 := n1_new w2 lie; have k3 := al_below w2 (.cells #[.int .i64 lie] 3)
  obtain ⟨w3, e3⟩ : ∃ w3, w3 = w2.alloc (.cells #[.int .i64 lie] 3) := ⟨_, rfl⟩
  rw [← e3] at m3 k3
  rw [s1] at m2
  rw [s2, s1] at m3
  have H := hide (show F4 w3 w.heap.size f ∧ N1 w3 (w.heap.size + 1) bad ∧ N1 w3 (w.heap.size + 1 + 1) lie ∧ Below w.heap.size w w3 from
    ⟨(mA.below k2).below k3, Vh.below m2 k3, m3, (k1.trans (k2.mono (by omega))).trans (k3.mono (by omega))⟩)
  have E := hide (show w3 = ((w.alloc (.cells #[.int .i64 (f 0), .int .i64 (f 1), .int .i64 (f 2), .int .i64 (f 3)] 31)).alloc (.cells #[.int .i64 bad] 3)).alloc (.cells #[.int .i64 lie] 3) by rw [e3, e2, e1])
  clear e1 mA k1 s1 m2 k2 s2 e2 m3 k3 e3
  unfold fourV
  go_enter Try.func28, Try.ntmps28
  go_wp2_with fail
  rw [← unhide E]
  go_ret
  exact ⟨rfl, unhide H⟩

end Go.Proofs.Ytgikknoklnbihaa
