/- Contracts of package member: Count, move, dissent, assent, note. -/
import Derived.Test.YtngmeaaglogieaaRefStp
namespace Go.Proofs.Ytngmeaaglogieaa
open Go.RowKit

theorem run_indexT4 (f : Nat → Bool) {i : Nat} (hi : i < 4) (w : World) : (Instr.index 27 (.agg #[.bool (f 0), .bool (f 1), .bool (f 2), .bool (f 3)]) (.int .i64 (i : Int))).run Try.prog w = .ok (.bool (f i)) w := by
  have : i = 0 ∨ i = 1 ∨ i = 2 ∨ i = 3 := by omega
  rcases this with rfl | rfl | rfl | rfl <;> simp [Instr.index, go_sem]

theorem memberCount_ok : CtOK 66 := by
  intro r w
  obtain ⟨w1, e1, m1, k1, z1⟩ := r_alloc w r
  have p0 := m1.inn (i := 0) (by omega)
  have p1 := m1.inn (i := 1) (by omega)
  have p2 := m1.inn (i := 2) (by omega)
  have p3 := m1.inn (i := 3) (by omega)
  rw [e1] at p0 p1 p2 p3
  have E1 := hide e1; have K1 := hide k1
  clear e1 m1 k1 z1
  unfold rollV
  go_enter Try.func66, Try.ntmps66
  go_wp2_with fail
  rw [← unhide E1]
  clear p0 p1 p2 p3
  go_loopw [3, 8] (fun ns is wr => w1 = wr ∧ ∃ i : Nat, is = .int .i64 i ∧ i ≤ 4 ∧ ns = .int .i64 (cn r.I i : Nat)) (fun _ is _ => 4 - (intOf is).toNat)
  case atStart => exact ⟨rfl, 0, rfl, by omega, rfl⟩
  case round =>
    obtain ⟨rfl, i, rfl, hi, rfl⟩ := hrel
    have hn : cn r.I i ≤ i := cn_le _ _
    by_cases hin : i < 4
    · have hin' : (i : Int) < 4 := by omega
      have at_ := run_indexT4 r.I hin
      have S := hide (show cn r.I (i + 1) = cn r.I i + if r.I i = true then 1 else 0 from rfl)
      cases hb : r.I i with
      | true =>
        rw [hb] at at_
        have T := hide (show cn r.I (i + 1) = cn r.I i + 1 by rw [unhide S, hb, if_pos rfl])
        clear hb
        go_wp2_with fail
        go_roundw
        case rel => exact ⟨trivial, i + 1, by go_num, by omega, by rw [unhide T]; go_num⟩
        case measure => simp [intOf] <;> omega
      | false =>
        rw [hb] at at_
        have T := hide (show cn r.I (i + 1) = cn r.I i by rw [unhide S, hb, if_neg (by decide)]; rfl)
        clear hb
        go_wp2_with fail
        go_roundw
        case rel => exact ⟨trivial, i + 1, by go_num, by omega, by rw [unhide T]⟩
        case measure => simp [intOf] <;> omega
    · have e9 : i = 4 := by omega
      subst e9
      rw [show ((4 : Nat) : Int) = 4 from rfl]
      go_wp2_with fail
      go_ret
      exact ⟨rfl, unhide K1⟩

set_option maxHeartbeats 1000000 in
theorem move_any (b i : Nat) (x : Bool) (R : Rl) (w : World) (hi : i < 4) (h : RAt w b R) :
    Calls Try.prog 67 #[.pointer (some ⟨b, 0, none⟩), .int .i64 (i : Int), .bool x] w fun e w' => e = .returned (.tuple #[]) ∧ RAt w' b ⟨upM R.I i x, upM R.M i 0, upM R.J i 0⟩ ∧ Kept b w w' := by
  have c1 := h.inn hi; have f1 := h.free i
  have h1 := h.setI hi x
  have c2 := h.mis hi; have f2 := h.free (4 + i)
  have h2 := h1.setM hi 0
  have c3 := h.joi hi; have f3 := h.free (8 + i)
  have H3 := hide ((h2.setJ hi 0).below (below_drew (Below.refl _ _)))
  have hi' : (i : Int) < 4 := by omega
  clear h h1 h2
  go_enter Try.func67, Try.ntmps67
  go_region
  go_wp2_with fail
  go_end0
  refine ⟨rfl, unhide H3, ?_⟩
  exact (((kept_set _ _ _ _).trans (kept_set _ _ _ _) (Or.inl rfl)).trans (kept_set _ _ _ _) (Or.inl rfl)).trans (kept_drew _) (Or.inl rfl)

set_option maxHeartbeats 1000000 in
theorem assent_any (b i : Nat) (A : Nat → Bool) (R : Rl) (w : World) (hi : i < 4) (h : RAt w b R) (hI : R.I i = false) (hA : A i = true) (hg : gd R i = true) :
    Calls Try.prog 63 #[.pointer (some ⟨b, 0, none⟩), .int .i64 (i : Int)] w fun e w' => e = .returned (.int .i64 (if 3 ≤ R.J i + 1 then 2 else 0)) ∧ RAt w' b (stN A i R) ∧ Kept b w w' := by
  obtain ⟨g1, g2, g3⟩ := (gd_out hI).1 hg
  have hi' : (i : Int) < 4 := by omega
  obtain ⟨t, et⟩ : ∃ t, R.J i = t := ⟨_, rfl⟩
  have c1 := h.joi hi; have f1 := h.free (8 + i)
  have h1 := h.setJ hi (t + 1)
  have c2 : (w.setCell ⟨b, 8 + i, none⟩ (.int .i64 (t + 1))).cell? ⟨b, 8 + i, none⟩ = some (.int .i64 (t + 1)) := by have q := h1.joi hi; rw [q]; show some (Value.int .i64 (upM R.J i (t + 1) i)) = _; rw [upM_same]
  rw [et] at c1 g2 g3 ⊢
  have H1 := hide (h1.below (below_drew (Below.refl _ _))); have ET := hide et; have G1 := hide g1; have HI := hide hI
  clear h h1 et hg g1 hI
  have kk : Kept b w (w.setCell ⟨b, 8 + i, none⟩ (.int .i64 (t + 1))).drew := (kept_set _ _ _ _).trans (kept_drew _) (Or.inl rfl)
  have KK := hide kk
  clear kk
  by_cases h3 : 3 ≤ t + 1
  · have d3 : decide (t + 1 < 3) = false := decide_eq_false (by omega)
    rw [if_pos h3]
    have ST := hide (st_in (unhide HI) hA (by rw [unhide ET]; exact h3))
    go_enter Try.func63, Try.ntmps63
    go_wp2_with fail
    go_region
    go_wp2_with fail
    refine (move_any b i true _ _ hi (unhide H1)).mono ?_
    rintro e w2 ⟨rfl, h2, k2⟩
    have H2 := hide h2; have K2 := hide ((unhide KK).trans k2 (Or.inl rfl))
    clear h2 k2 c1 c2 f1
    go_wp2_with fail
    go_ret
    refine ⟨rfl, ?_, unhide K2⟩
    rw [(unhide ST).1]
    refine (unhide H2).alike (fun j hj => ⟨rfl, ?_, ?_⟩)
    · show upM R.M i 0 j = R.M j
      by_cases e : j = i
      · rw [e, upM_same, unhide G1]
      · rw [upM_other _ _ e]
    · show upM (upM R.J i (t + 1)) i 0 j = upM R.J i 0 j
      by_cases e : j = i
      · rw [e, upM_same, upM_same]
      · rw [upM_other _ _ e, upM_other _ _ e, upM_other _ _ e]
  · have d3 : decide (t + 1 < 3) = true := decide_eq_true (by omega)
    rw [if_neg h3]
    have ST := hide (st_join (unhide HI) hA (by rw [unhide ET]; exact h3))
    go_enter Try.func63, Try.ntmps63
    go_wp2_with fail
    go_region
    go_wp2_with fail
    go_ret
    refine ⟨rfl, ?_, unhide KK⟩
    rw [(unhide ST).1, unhide ET]
    exact unhide H1

set_option maxHeartbeats 1000000 in
theorem dissent_any (b i : Nat) (A : Nat → Bool) (R : Rl) (w : World) (hi : i < 4) (h : RAt w b R) (hI : R.I i = true) (hA : A i = false) (hg : gd R i = true) :
    Calls Try.prog 62 #[.pointer (some ⟨b, 0, none⟩), .int .i64 (i : Int)] w fun e w' => e = .returned (.int .i64 (if 2 ≤ R.M i + 1 ∧ 2 < cn R.I 4 then 1 else 0)) ∧ RAt w' b (stN A i R) ∧ Kept b w w' := by
  obtain ⟨g1, g2, g3⟩ := (gd_in hI).1 hg
  have hi' : (i : Int) < 4 := by omega
  obtain ⟨t, et⟩ : ∃ t, R.M i = t := ⟨_, rfl⟩
  have c1 := h.mis hi; have f1 := h.free (4 + i)
  have h1 := h.setM hi (t + 1)
  have c2 : (w.setCell ⟨b, 4 + i, none⟩ (.int .i64 (t + 1))).cell? ⟨b, 4 + i, none⟩ = some (.int .i64 (t + 1)) := by have q := h1.mis hi; rw [q]; show some (Value.int .i64 (upM R.M i (t + 1) i)) = _; rw [upM_same]
  rw [et] at c1 g1 g2 ⊢
  have H1 := hide (h1.below (below_drew (Below.refl _ _))); have ET := hide et; have G3 := hide g3; have HI := hide hI
  clear h h1 et hg g3 hI
  have kk : Kept b w (w.setCell ⟨b, 4 + i, none⟩ (.int .i64 (t + 1))).drew := (kept_set _ _ _ _).trans (kept_drew _) (Or.inl rfl)
  have KK := hide kk
  clear kk
  have hcl : cn R.I 4 ≤ 4 := cn_le _ _
  by_cases h3 : 2 ≤ t + 1
  · have d3 : decide (t + 1 < 2) = false := decide_eq_false (by omega)
    by_cases h4 : 2 < cn R.I 4
    · have h4' : (2 : Int) < ((cn R.I 4 : Nat) : Int) := by omega
      rw [if_pos ⟨h3, h4⟩]
      have ST := hide (st_out (unhide HI) hA (by rw [unhide ET]; exact ⟨h3, h4⟩))
      go_enter Try.func62, Try.ntmps62
      go_wp2_with fail
      go_region
      go_wp2_with (refine wpList_loadRl _ rfl (.tmp 23) rfl rfl (unhide H1) ?_)
      refine (memberCount_ok _ _).mono ?_
      rintro e w1 ⟨rfl, k1⟩
      have H1 := hide ((unhide H1).below k1); have K1 := hide ((unhide KK).trans (Kept.of_below k1) (Or.inl rfl))
      clear k1 c1 c2 f1
      go_wp2_with fail
      refine (move_any b i false _ _ hi (unhide H1)).mono ?_
      rintro e w2 ⟨rfl, h2, k2⟩
      have H2 := hide h2; have K2 := hide ((unhide K1).trans k2 (Or.inl rfl))
      clear h2 k2
      go_wp2_with fail
      go_ret
      refine ⟨rfl, ?_, unhide K2⟩
      rw [(unhide ST).1]
      refine (unhide H2).alike (fun j hj => ⟨rfl, ?_, ?_⟩)
      · show upM (upM R.M i (t + 1)) i 0 j = upM R.M i 0 j
        by_cases e : j = i
        · rw [e, upM_same, upM_same]
        · rw [upM_other _ _ e, upM_other _ _ e, upM_other _ _ e]
      · show upM R.J i 0 j = R.J j
        by_cases e : j = i
        · rw [e, upM_same, unhide G3]
        · rw [upM_other _ _ e]
    · have h4' : ¬ (2 : Int) < ((cn R.I 4 : Nat) : Int) := by omega
      rw [if_neg (fun h => h4 h.2)]
      have ST := hide (st_miss (unhide HI) hA (by rw [unhide ET]; exact fun h => h4 h.2))
      go_enter Try.func62, Try.ntmps62
      go_wp2_with fail
      go_region
      go_wp2_with (refine wpList_loadRl _ rfl (.tmp 23) rfl rfl (unhide H1) ?_)
      refine (memberCount_ok _ _).mono ?_
      rintro e w1 ⟨rfl, k1⟩
      have h1 := (unhide H1).below k1; have K1 := hide ((unhide KK).trans (Kept.of_below k1) (Or.inl rfl))
      clear k1 c1 c2 f1
      have c1 := h1.mis hi; have f1 := h1.free (4 + i)
      have H2 := hide (h1.setM hi 2); have K2 := hide ((unhide K1).trans (kept_set w1 b (4 + i) (.int .i64 2)) (Or.inl rfl))
      clear h1
      go_wp2_with fail
      go_ret
      refine ⟨rfl, ?_, unhide K2⟩
      rw [(unhide ST).1, unhide ET]
      refine (unhide H2).alike (fun j hj => ⟨rfl, ?_, rfl⟩)
      show upM (upM R.M i (t + 1)) i 2 j = upM R.M i (min (t + 1) 2) j
      by_cases e : j = i
      · rw [e, upM_same, upM_same]; omega
      · rw [upM_other _ _ e, upM_other _ _ e, upM_other _ _ e]
  · have d3 : decide (t + 1 < 2) = true := decide_eq_true (by omega)
    rw [if_neg (fun h => h3 h.1)]
    have ST := hide (st_miss (unhide HI) hA (by rw [unhide ET]; exact fun h => h3 h.1))
    go_enter Try.func62, Try.ntmps62
    go_wp2_with fail
    go_region
    go_wp2_with fail
    go_ret
    refine ⟨rfl, ?_, unhide KK⟩
    rw [(unhide ST).1, unhide ET, show min (t + 1) 2 = t + 1 by omega]
    exact unhide H1

/-- What kind of change came of a node's say. -/
def kdN (A : Nat → Bool) (i : Nat) (R : Rl) : Int := if R.I i = true then (if A i = true then 0 else if 2 ≤ R.M i + 1 ∧ 2 < cn R.I 4 then 1 else 0) else if A i = true then (if 3 ≤ R.J i + 1 then 2 else 0) else 0
theorem kd_ch (A : Nat → Bool) (i : Nat) (R : Rl) : (kdN A i R = 0 ∧ chN A i R = []) ∨ ((kdN A i R = 1 ∨ kdN A i R = 2) ∧ chN A i R = [(kdN A i R, i)]) := by
  unfold kdN chN
  split
  · split
    · exact Or.inl ⟨rfl, rfl⟩
    · split
      · exact Or.inr ⟨Or.inl rfl, rfl⟩
      · exact Or.inl ⟨rfl, rfl⟩
  · split
    · split
      · exact Or.inr ⟨Or.inr rfl, rfl⟩
      · exact Or.inl ⟨rfl, rfl⟩
    · exact Or.inl ⟨rfl, rfl⟩

set_option maxHeartbeats 1000000 in
theorem note_any (b i : Nat) (A : Nat → Bool) (R : Rl) (w : World) (hi : i < 4) (h : RAt w b R) (hg : gd R i = true) :
    Calls Try.prog 60 #[.pointer (some ⟨b, 0, none⟩), .int .i64 (i : Int), .bool (A i)] w fun e w' => e = .returned (.int .i64 (kdN A i R)) ∧ RAt w' b (stN A i R) ∧ Kept b w w' := by
  have hi' : (i : Int) < 4 := by omega
  have ci := h.inn hi
  cases hI : R.I i with
  | true =>
    rw [hI] at ci
    cases hA : A i with
    | true =>
      have K := hide (show kdN A i R = 0 by unfold kdN; rw [if_pos hI, if_pos hA])
      have c1 := h.mis hi; have f1 := h.free (4 + i)
      have H2 := hide (h.setM hi 0); have K2 := hide (kept_set w b (4 + i) (.int .i64 0))
      have ST := hide (st_agree (A := A) hI hA)
      clear h hI hA hg
      go_enter Try.func60, Try.ntmps60
      go_wp2_with fail
      go_ret
      refine ⟨by rw [unhide K]; rfl, ?_, unhide K2⟩
      rw [(unhide ST).1]
      exact unhide H2
    | false =>
      have K := hide (show kdN A i R = if 2 ≤ R.M i + 1 ∧ 2 < cn R.I 4 then 1 else 0 by unfold kdN; rw [if_pos hI, if_neg (by rw [hA]; decide)])
      have D := hide (dissent_any b i A R w hi h hI hA hg)
      clear h hI hA hg
      go_enter Try.func60, Try.ntmps60
      go_wp2_with fail
      refine (unhide D).mono ?_
      rintro e w2 ⟨rfl, h2, k2⟩
      have H2 := hide h2; have K2 := hide k2
      clear h2 k2 D ci
      rw [← unhide K]
      go_wp2_with fail
      go_ret
      exact ⟨rfl, unhide H2, unhide K2⟩
  | false =>
    rw [hI] at ci
    cases hA : A i with
    | true =>
      have K := hide (show kdN A i R = if 3 ≤ R.J i + 1 then 2 else 0 by unfold kdN; rw [if_neg (by rw [hI]; decide), if_pos hA])
      have D := hide (assent_any b i A R w hi h hI hA hg)
      clear h hI hA hg
      go_enter Try.func60, Try.ntmps60
      go_wp2_with fail
      refine (unhide D).mono ?_
      rintro e w2 ⟨rfl, h2, k2⟩
      have H2 := hide h2; have K2 := hide k2
      clear h2 k2 D ci
      rw [← unhide K]
      go_wp2_with fail
      go_ret
      exact ⟨rfl, unhide H2, unhide K2⟩
    | false =>
      have K := hide (show kdN A i R = 0 by unfold kdN; rw [if_neg (by rw [hI]; decide), if_neg (by rw [hA]; decide)])
      have c1 := h.joi hi; have f1 := h.free (8 + i)
      have H2 := hide (h.setJ hi 0); have K2 := hide (kept_set w b (8 + i) (.int .i64 0))
      have ST := hide (st_off (A := A) hI hA)
      clear h hI hA hg
      go_enter Try.func60, Try.ntmps60
      go_wp2_with fail
      go_ret
      refine ⟨by rw [unhide K]; rfl, ?_, unhide K2⟩
      rw [(unhide ST).1]
      exact unhide H2

end Go.Proofs.Ytngmeaaglogieaa
