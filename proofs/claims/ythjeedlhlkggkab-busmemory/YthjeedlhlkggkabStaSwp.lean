/- slices.swapRangeCmpFunc and slices.rotateCmpFunc at parcels. -/
import Derived.Test.YthjeedlhlkggkabBusCmp
import Derived.Test.YthjeedlhlkggkabMix
namespace Go.Proofs.Ythjeedlhlkggkab
open Go.RowKit

set_option maxHeartbeats 2000000 in
set_option maxRecDepth 100000 in
theorem swapRange_any (g cap n : Nat) (F : Nat → Lp) (d : Nat → Nat) (a b k : Nat) (w : World) (h : SoR w g cap n F d) (h1 : a + k ≤ b) (h2 : b + k ≤ n) (hn : n ≤ 2513169434843) :
    Calls Try.prog 36 #[.slice (some ⟨g, 0, none⟩) n cap, .int .i64 (a : Int), .int .i64 (b : Int), .int .i64 (k : Int), (.func (.func 26) #[] #[])] w fun e w' => e = .returned (.tuple #[]) ∧ SoR w' g cap n F (swR d a b k) ∧ Kept g w w' := by
  have HH := hide h
  clear h
  go_enter Try.func36, Try.ntmps36
  go_wp2_with fail
  go_loopg [10] k (fun r s10 wr => ∃ i : Nat, s10 = .int .i64 (i : Int) ∧ i ≤ k ∧ k - i ≤ r ∧ Hid (SoR wr g cap n F (swR d a b i)) ∧ Hid (Kept g w wr))
  case atStart => exact ⟨0, rfl, by omega, by omega, hide (by rw [swR_zero]; exact unhide HH), hide (Kept.of_below (Below.refl _ _))⟩
  case round =>
    obtain ⟨i, rfl, hi, hr, HS, KS⟩ := hrel
    by_cases hik : i < k
    · have hik' : (i : Int) < (k : Int) := by omega
      go_wp2_with fail
      refine wp_leaves (fun a0 a' w' => SoR w' g cap n F (swD (swR d a b i) (a + i) (b + i)) ∧ Kept g wr w' ∧ a' = ((((((((((((((((((((((a0.put (some 16) (.slice (some ⟨g, 0, none⟩) n cap)).put (some 17) (.int .i64 ((a : Int)))).put (some 18) (.int .i64 ((i : Int)))).put (some 19) (.int .i64 ((a : Int) + (i : Int)))).put (some 20) (.slice (some ⟨g, 0, none⟩) n cap)).put (some 21) (.int .i64 ((b : Int)))).put (some 22) (.int .i64 ((i : Int)))).put (some 23) (.int .i64 ((b : Int) + (i : Int)))).put (some 24) (.slice (some ⟨g, 0, none⟩) n cap)).put (some 25) (.int .i64 ((b : Int)))).put (some 26) (.int .i64 ((i : Int)))).put (some 27) (.int .i64 ((b : Int) + (i : Int)))).put (some 28) (.pointer (some ⟨g, (b + i) * 5, none⟩))).put (some 29) (lcV (F ((swR d a b i) (b + i))))).put (some 30) (.slice (some ⟨g, 0, none⟩) n cap)).put (some 31) (.int .i64 ((a : Int)))).put (some 32) (.int .i64 ((i : Int)))).put (some 33) (.int .i64 ((a : Int) + (i : Int)))).put (some 34) (.pointer (some ⟨g, (a + i) * 5, none⟩))).put (some 35) (lcV (F ((swR d a b i) (a + i))))).put (some 36) (.pointer (some ⟨g, (a + i) * 5, none⟩))).put (some 37) (.pointer (some ⟨g, (b + i) * 5, none⟩)))) ?reg ?rest
      case reg =>
        intro A eA
        have b0 : A.eval (.tmp 0) = (.slice (some ⟨g, 0, none⟩) n cap) := by rw [eA]; rfl
        have b1 : A.eval (.tmp 1) = (.int .i64 ((a : Int))) := by rw [eA]; rfl
        have b2 : A.eval (.tmp 2) = (.int .i64 ((b : Int))) := by rw [eA]; rfl
        have b10 : A.eval (.tmp 10) = (.int .i64 ((i : Int))) := by rw [eA]; rfl
        have hs : 38 ≤ A.tmps.size := by rw [eA]; exact of_decide_eq_true rfl
        clear eA
        have hS : SoR wr.drew g cap n F ((swR d a b i)) := unhide HS
        refine region_J (S := fun W => SoR W g cap n F ((swR d a b i))) (.mv 0 (.mv 1 (.mv 2 (.mv 3 (.mv 4 (.mv 5 (.mv 6 (.mv 7 (.mv 8 (.mv 9 (.mv 10 (.mv 11 (.mv 12 (.rd 13 (.mv 14 (.mv 15 (.mv 16 (.mv 17 (.mv 18 (.rd 19 (.mv 20 (.go 21 (.mv 22 (.go 23 .fin)))))))))))))))))))))))) [21, 23] (by kernel_rfl) (by kernel_rfl) ?_
        refine sJ_mv (v := (.slice (some ⟨g, 0, none⟩) n cap)) rfl (fun _ _ _ h => absurd h.1 (fun e => nomatch e)) (wanted_rd rfl) (fun wx => run_move (.tmp 0) rfl b0 wx) ?_
        show SeqJ _ _ _ _ _ _ (Act.put _ (some 16) _) _
        refine sJ_mv (v := (.int .i64 ((a : Int)))) rfl (fun _ _ _ h => absurd h.1 (fun e => nomatch e)) (wanted_rd rfl) (fun wx => run_move (.tmp 1) rfl ((ev_other _ _ (by decide)).trans b1) wx) ?_
        show SeqJ _ _ _ _ _ _ (Act.put _ (some 17) _) _
        refine sJ_mv (v := (.int .i64 ((i : Int)))) rfl (fun _ _ _ h => absurd h.1 (fun e => nomatch e)) (wanted_rd rfl) (fun wx => run_move (.tmp 10) rfl ((ev_other _ _ (by decide)).trans ((ev_other _ _ (by decide)).trans b10)) wx) ?_
        show SeqJ _ _ _ _ _ _ (Act.put _ (some 18) _) _
        refine sJ_mv (v := (.int .i64 ((a : Int) + (i : Int)))) rfl (fun _ _ _ h => absurd h.1 (fun e => nomatch e)) (wanted_rd rfl) (fun wx => run_addP (.tmp 17) (.tmp 18) rfl ((ev_other _ _ (by decide)).trans (ev_same _ _ _ (by simp only [sz_put]; omega))) (ev_same _ _ _ (by simp only [sz_put]; omega)) (by omega) (by omega) wx) ?_
        show SeqJ _ _ _ _ _ _ (Act.put _ (some 19) _) _
        refine sJ_mv (v := (.slice (some ⟨g, 0, none⟩) n cap)) rfl (fun _ _ _ h => absurd h.1 (fun e => nomatch e)) (wanted_rd rfl) (fun wx => run_move (.tmp 0) rfl ((ev_other _ _ (by decide)).trans ((ev_other _ _ (by decide)).trans ((ev_other _ _ (by decide)).trans ((ev_other _ _ (by decide)).trans b0)))) wx) ?_
        show SeqJ _ _ _ _ _ _ (Act.put _ (some 20) _) _
        refine sJ_mv (v := (.int .i64 ((b : Int)))) rfl (fun _ _ _ h => absurd h.1 (fun e => nomatch e)) (wanted_rd rfl) (fun wx => run_move (.tmp 2) rfl ((ev_other _ _ (by decide)).trans ((ev_other _ _ (by decide)).trans ((ev_other _ _ (by decide)).trans ((ev_other _ _ (by decide)).trans ((ev_other _ _ (by decide)).trans b2))))) wx) ?_
        show SeqJ _ _ _ _ _ _ (Act.put _ (some 21) _) _
        refine sJ_mv (v := (.int .i64 ((i : Int)))) rfl (fun _ _ _ h => absurd h.1 (fun e => nomatch e)) (wanted_rd rfl) (fun wx => run_move (.tmp 10) rfl ((ev_other _ _ (by decide)).trans ((ev_other _ _ (by decide)).trans ((ev_other _ _ (by decide)).trans ((ev_other _ _ (by decide)).trans ((ev_other _ _ (by decide)).trans ((ev_other _ _ (by decide)).trans b10)))))) wx) ?_
        show SeqJ _ _ _ _ _ _ (Act.put _ (some 22) _) _
        refine sJ_mv (v := (.int .i64 ((b : Int) + (i : Int)))) rfl (fun _ _ _ h => absurd h.1 (fun e => nomatch e)) (wanted_rd rfl) (fun wx => run_addP (.tmp 21) (.tmp 22) rfl ((ev_other _ _ (by decide)).trans (ev_same _ _ _ (by simp only [sz_put]; omega))) (ev_same _ _ _ (by simp only [sz_put]; omega)) (by omega) (by omega) wx) ?_
        show SeqJ _ _ _ _ _ _ (Act.put _ (some 23) _) _
        refine sJ_mv (v := (.slice (some ⟨g, 0, none⟩) n cap)) rfl (fun _ _ _ h => absurd h.1 (fun e => nomatch e)) (wanted_rd rfl) (fun wx => run_move (.tmp 0) rfl ((ev_other _ _ (by decide)).trans ((ev_other _ _ (by decide)).trans ((ev_other _ _ (by decide)).trans ((ev_other _ _ (by decide)).trans ((ev_other _ _ (by decide)).trans ((ev_other _ _ (by decide)).trans ((ev_other _ _ (by decide)).trans ((ev_other _ _ (by decide)).trans b0)))))))) wx) ?_
        show SeqJ _ _ _ _ _ _ (Act.put _ (some 24) _) _
        refine sJ_mv (v := (.int .i64 ((b : Int)))) rfl (fun _ _ _ h => absurd h.1 (fun e => nomatch e)) (wanted_rd rfl) (fun wx => run_move (.tmp 2) rfl ((ev_other _ _ (by decide)).trans ((ev_other _ _ (by decide)).trans ((ev_other _ _ (by decide)).trans ((ev_other _ _ (by decide)).trans ((ev_other _ _ (by decide)).trans ((ev_other _ _ (by decide)).trans ((ev_other _ _ (by decide)).trans ((ev_other _ _ (by decide)).trans ((ev_other _ _ (by decide)).trans b2))))))))) wx) ?_
        show SeqJ _ _ _ _ _ _ (Act.put _ (some 25) _) _
        refine sJ_mv (v := (.int .i64 ((i : Int)))) rfl (fun _ _ _ h => absurd h.1 (fun e => nomatch e)) (wanted_rd rfl) (fun wx => run_move (.tmp 10) rfl ((ev_other _ _ (by decide)).trans ((ev_other _ _ (by decide)).trans ((ev_other _ _ (by decide)).trans ((ev_other _ _ (by decide)).trans ((ev_other _ _ (by decide)).trans ((ev_other _ _ (by decide)).trans ((ev_other _ _ (by decide)).trans ((ev_other _ _ (by decide)).trans ((ev_other _ _ (by decide)).trans ((ev_other _ _ (by decide)).trans b10)))))))))) wx) ?_
        show SeqJ _ _ _ _ _ _ (Act.put _ (some 26) _) _
        refine sJ_mv (v := (.int .i64 ((b : Int) + (i : Int)))) rfl (fun _ _ _ h => absurd h.1 (fun e => nomatch e)) (wanted_rd rfl) (fun wx => run_addP (.tmp 25) (.tmp 26) rfl ((ev_other _ _ (by decide)).trans (ev_same _ _ _ (by simp only [sz_put]; omega))) (ev_same _ _ _ (by simp only [sz_put]; omega)) (by omega) (by omega) wx) ?_
        show SeqJ _ _ _ _ _ _ (Act.put _ (some 27) _) _
        refine sJ_mv (v := (.pointer (some ⟨g, (b + i) * 5, none⟩))) rfl (fun _ _ _ h => absurd h.1 (fun e => nomatch e)) (wanted_rd rfl) (fun wx => run_ixR (i := b + i) (.tmp 24) (.tmp 27) rfl ((ev_other _ _ (by decide)).trans ((ev_other _ _ (by decide)).trans ((ev_other _ _ (by decide)).trans (ev_same _ _ _ (by simp only [sz_put]; omega))))) (ev_same _ _ _ (by simp only [sz_put]; omega)) (by omega) (by omega) wx) ?_
        show SeqJ _ _ _ _ _ _ (Act.put _ (some 28) _) _
        refine sJ_read (v := (lcV (F ((swR d a b i) (b + i))))) rfl (fun _ _ _ h => absurd h.1 (fun e => nomatch e)) (wanted_rd rfl) hS (fun wx hx => run_lodR (.tmp 28) rfl (ev_same _ _ _ (by simp only [sz_put]; omega)) hx (by omega)) ?_
        show SeqJ _ _ _ _ _ _ (Act.put _ (some 29) _) _
        refine sJ_mv (v := (.slice (some ⟨g, 0, none⟩) n cap)) rfl (fun _ _ _ h => absurd h.1 (fun e => nomatch e)) (wanted_rd rfl) (fun wx => run_move (.tmp 0) rfl ((ev_other _ _ (by decide)).trans ((ev_other _ _ (by decide)).trans ((ev_other _ _ (by decide)).trans ((ev_other _ _ (by decide)).trans ((ev_other _ _ (by decide)).trans ((ev_other _ _ (by decide)).trans ((ev_other _ _ (by decide)).trans ((ev_other _ _ (by decide)).trans ((ev_other _ _ (by decide)).trans ((ev_other _ _ (by decide)).trans ((ev_other _ _ (by decide)).trans ((ev_other _ _ (by decide)).trans ((ev_other _ _ (by decide)).trans ((ev_other _ _ (by decide)).trans b0)))))))))))))) wx) ?_
        show SeqJ _ _ _ _ _ _ (Act.put _ (some 30) _) _
        refine sJ_mv (v := (.int .i64 ((a : Int)))) rfl (fun _ _ _ h => absurd h.1 (fun e => nomatch e)) (wanted_rd rfl) (fun wx => run_move (.tmp 1) rfl ((ev_other _ _ (by decide)).trans ((ev_other _ _ (by decide)).trans ((ev_other _ _ (by decide)).trans ((ev_other _ _ (by decide)).trans ((ev_other _ _ (by decide)).trans ((ev_other _ _ (by decide)).trans ((ev_other _ _ (by decide)).trans ((ev_other _ _ (by decide)).trans ((ev_other _ _ (by decide)).trans ((ev_other _ _ (by decide)).trans ((ev_other _ _ (by decide)).trans ((ev_other _ _ (by decide)).trans ((ev_other _ _ (by decide)).trans ((ev_other _ _ (by decide)).trans ((ev_other _ _ (by decide)).trans b1))))))))))))))) wx) ?_
        show SeqJ _ _ _ _ _ _ (Act.put _ (some 31) _) _
        refine sJ_mv (v := (.int .i64 ((i : Int)))) rfl (fun _ _ _ h => absurd h.1 (fun e => nomatch e)) (wanted_rd rfl) (fun wx => run_move (.tmp 10) rfl ((ev_other _ _ (by decide)).trans ((ev_other _ _ (by decide)).trans ((ev_other _ _ (by decide)).trans ((ev_other _ _ (by decide)).trans ((ev_other _ _ (by decide)).trans ((ev_other _ _ (by decide)).trans ((ev_other _ _ (by decide)).trans ((ev_other _ _ (by decide)).trans ((ev_other _ _ (by decide)).trans ((ev_other _ _ (by decide)).trans ((ev_other _ _ (by decide)).trans ((ev_other _ _ (by decide)).trans ((ev_other _ _ (by decide)).trans ((ev_other _ _ (by decide)).trans ((ev_other _ _ (by decide)).trans ((ev_other _ _ (by decide)).trans b10)))))))))))))))) wx) ?_
        show SeqJ _ _ _ _ _ _ (Act.put _ (some 32) _) _
        refine sJ_mv (v := (.int .i64 ((a : Int) + (i : Int)))) rfl (fun _ _ _ h => absurd h.1 (fun e => nomatch e)) (wanted_rd rfl) (fun wx => run_addP (.tmp 31) (.tmp 32) rfl ((ev_other _ _ (by decide)).trans (ev_same _ _ _ (by simp only [sz_put]; omega))) (ev_same _ _ _ (by simp only [sz_put]; omega)) (by omega) (by omega) wx) ?_
        show SeqJ _ _ _ _ _ _ (Act.put _ (some 33) _) _
        refine sJ_mv (v := (.pointer (some ⟨g, (a + i) * 5, none⟩))) rfl (fun _ _ _ h => absurd h.1 (fun e => nomatch e)) (wanted_rd rfl) (fun wx => run_ixR (i := a + i) (.tmp 30) (.tmp 33) rfl ((ev_other _ _ (by decide)).trans ((ev_other _ _ (by decide)).trans ((ev_other _ _ (by decide)).trans (ev_same _ _ _ (by simp only [sz_put]; omega))))) (ev_same _ _ _ (by simp only [sz_put]; omega)) (by omega) (by omega) wx) ?_
        show SeqJ _ _ _ _ _ _ (Act.put _ (some 34) _) _
        refine sJ_read (v := (lcV (F ((swR d a b i) (a + i))))) rfl (fun _ _ _ h => absurd h.1 (fun e => nomatch e)) (wanted_rd rfl) hS (fun wx hx => run_lodR (.tmp 34) rfl (ev_same _ _ _ (by simp only [sz_put]; omega)) hx (by omega)) ?_
        show SeqJ _ _ _ _ _ _ (Act.put _ (some 35) _) _
        refine sJ_mv (v := (.pointer (some ⟨g, (a + i) * 5, none⟩))) rfl (fun _ _ _ h => absurd h.1 (fun e => nomatch e)) (wanted_rd rfl) (fun wx => run_ixR (i := a + i) (.tmp 16) (.tmp 19) rfl ((ev_other _ _ (by decide)).trans ((ev_other _ _ (by decide)).trans ((ev_other _ _ (by decide)).trans ((ev_other _ _ (by decide)).trans ((ev_other _ _ (by decide)).trans ((ev_other _ _ (by decide)).trans ((ev_other _ _ (by decide)).trans ((ev_other _ _ (by decide)).trans ((ev_other _ _ (by decide)).trans ((ev_other _ _ (by decide)).trans ((ev_other _ _ (by decide)).trans ((ev_other _ _ (by decide)).trans ((ev_other _ _ (by decide)).trans ((ev_other _ _ (by decide)).trans ((ev_other _ _ (by decide)).trans ((ev_other _ _ (by decide)).trans ((ev_other _ _ (by decide)).trans ((ev_other _ _ (by decide)).trans ((ev_other _ _ (by decide)).trans (ev_same _ _ _ (by omega))))))))))))))))))))) ((ev_other _ _ (by decide)).trans ((ev_other _ _ (by decide)).trans ((ev_other _ _ (by decide)).trans ((ev_other _ _ (by decide)).trans ((ev_other _ _ (by decide)).trans ((ev_other _ _ (by decide)).trans ((ev_other _ _ (by decide)).trans ((ev_other _ _ (by decide)).trans ((ev_other _ _ (by decide)).trans ((ev_other _ _ (by decide)).trans ((ev_other _ _ (by decide)).trans ((ev_other _ _ (by decide)).trans ((ev_other _ _ (by decide)).trans ((ev_other _ _ (by decide)).trans ((ev_other _ _ (by decide)).trans ((ev_other _ _ (by decide)).trans (ev_same _ _ _ (by simp only [sz_put]; omega)))))))))))))))))) (by omega) (by omega) wx) ?_
        show SeqJ _ _ _ _ _ _ (Act.put _ (some 36) _) _
        refine sJ_do rfl (wanted_rd rfl) (fun K hK => ?_)
        refine wp_storeR _ (.tmp 36) (.tmp 29) rfl (ev_same _ _ _ (by simp only [sz_put]; omega)) ((ev_other _ _ (by decide)).trans ((ev_other _ _ (by decide)).trans ((ev_other _ _ (by decide)).trans ((ev_other _ _ (by decide)).trans ((ev_other _ _ (by decide)).trans ((ev_other _ _ (by decide)).trans ((ev_other _ _ (by decide)).trans (ev_same _ _ _ (by simp only [sz_put]; omega))))))))) hS (by omega) rfl ?_
        intro w1 m1 k1 z1
        refine hK _ _ (fun h => absurd h (by decide)) ?_
        clear hK K
        refine sJ_mv (v := (.pointer (some ⟨g, (b + i) * 5, none⟩))) rfl (fun _ _ _ h => absurd h.1 (fun e => nomatch e)) (wanted_rd rfl) (fun wx => run_ixR (i := b + i) (.tmp 20) (.tmp 23) rfl ((ev_other _ _ (by decide)).trans ((ev_other _ _ (by decide)).trans ((ev_other _ _ (by decide)).trans ((ev_other _ _ (by decide)).trans ((ev_other _ _ (by decide)).trans ((ev_other _ _ (by decide)).trans ((ev_other _ _ (by decide)).trans ((ev_other _ _ (by decide)).trans ((ev_other _ _ (by decide)).trans ((ev_other _ _ (by decide)).trans ((ev_other _ _ (by decide)).trans ((ev_other _ _ (by decide)).trans ((ev_other _ _ (by decide)).trans ((ev_other _ _ (by decide)).trans ((ev_other _ _ (by decide)).trans ((ev_other _ _ (by decide)).trans (ev_same _ _ _ (by simp only [sz_put]; omega)))))))))))))))))) ((ev_other _ _ (by decide)).trans ((ev_other _ _ (by decide)).trans ((ev_other _ _ (by decide)).trans ((ev_other _ _ (by decide)).trans ((ev_other _ _ (by decide)).trans ((ev_other _ _ (by decide)).trans ((ev_other _ _ (by decide)).trans ((ev_other _ _ (by decide)).trans ((ev_other _ _ (by decide)).trans ((ev_other _ _ (by decide)).trans ((ev_other _ _ (by decide)).trans ((ev_other _ _ (by decide)).trans ((ev_other _ _ (by decide)).trans (ev_same _ _ _ (by simp only [sz_put]; omega))))))))))))))) (by omega) (by omega) wx) ?_
        show SeqJ _ _ _ _ _ _ (Act.put _ (some 37) _) _
        refine sJ_do rfl (wanted_rd rfl) (fun K hK => ?_)
        refine wp_storeR _ (.tmp 37) (.tmp 35) rfl (ev_same _ _ _ (by simp only [sz_put]; omega)) ((ev_other _ _ (by decide)).trans ((ev_other _ _ (by decide)).trans (ev_same _ _ _ (by simp only [sz_put]; omega)))) m1 (by omega) rfl ?_
        intro w2 m2 k2 z2
        refine hK _ _ (fun h => absurd h (by decide)) ?_
        clear hK K
        have m3 := m2
        rw [upD_two] at m3
        exact sJ_end ⟨rfl, m3, ((Kept.of_below (show Below wr.heap.size wr wr.drew from (below_drew (Below.refl _ _)))).trans k1 (Or.inl rfl)).trans k2 (Or.inl rfl), rfl⟩
      case rest =>
        rintro a' w2 ⟨m2, k2, rfl⟩
        have HS2 := hide m2
        have KS2 := hide ((unhide KS).trans k2 (Or.inl rfl))
        clear m2 k2
        go_frame
        go_wp2_with fail
        go_roundg (k - (i + 1))
        case measure => omega
        case rel => exact ⟨i + 1, by go_num, by omega, by omega, hide (by rw [← swR_succ (n := k) h1 hik]; exact unhide HS2), KS2⟩
    · obtain rfl : i = k := by omega
      go_wp2_with fail
      go_end0
      exact ⟨rfl, unhide HS, unhide KS⟩
set_option maxHeartbeats 2000000 in
set_option maxRecDepth 100000 in
theorem rotate_any (g cap n : Nat) (F : Nat → Lp) (d : Nat → Nat) (a m b : Nat) (w : World) (h : SoR w g cap n F d) (h1 : a < m) (h2 : m < b) (h3 : b ≤ n) (hn : n ≤ 2513169434843) :
    Calls Try.prog 35 #[.slice (some ⟨g, 0, none⟩) n cap, .int .i64 (a : Int), .int .i64 (m : Int), .int .i64 (b : Int), (.func (.func 26) #[] #[])] w fun e w' => e = .returned (.tuple #[]) ∧ SoR w' g cap n F (rotD d a m b) ∧ Kept g w w' := by
  have HH := hide h
  clear h
  have e1 : (m : Int) - (a : Int) = ((m - a : Nat) : Int) := by omega
  have e2 : (b : Int) - (m : Int) = ((b - m : Nat) : Int) := by omega
  go_enter Try.func35, Try.ntmps35
  go_wp2_with fail
  go_loopg [10, 11] (b - a) (fun r s10 s11 wr => ∃ (i j : Nat) (dk : Nat → Nat), s10 = .int .i64 (i : Int) ∧ s11 = .int .i64 (j : Int) ∧ 0 < i ∧ 0 < j ∧ a + i ≤ m ∧ m + j ≤ b ∧ i + j ≤ r ∧ Hid (SoR wr g cap n F dk) ∧ Hid (rotD dk (m - i) m (m + j) = rotD d a m b) ∧ Hid (Kept g w wr))
  case atStart => exact ⟨m - a, b - m, d, by first | rfl | rw [e1], by first | rfl | rw [e2], by omega, by omega, by omega, by omega, by omega, HH, hide (by rw [show m - (m - a) = a by omega, show m + (b - m) = b by omega]), hide (Kept.of_below (Below.refl _ _))⟩
  case round =>
    clear e1 e2
    obtain ⟨i, j, dk, rfl, rfl, hi, hj, hai, hbj, hr, HS, HE, KS⟩ := hrel
    by_cases hij : i = j
    · subst hij
      have hcall := swapRange_any g cap n F dk (m - i) m i wr (unhide HS) (by omega) (by omega) hn
      rw [show ((m - i : Nat) : Int) = (m : Int) - (i : Int) by omega] at hcall
      go_wp2_with fail
      refine hcall.mono ?_
      rintro e w2 ⟨rfl, m2, k2⟩
      have M2 := hide m2
      have K2 := hide ((unhide KS).trans k2 (Or.inl rfl))
      clear m2 k2 hcall
      go_wp2_with fail
      go_end0
      exact ⟨rfl, by rw [← unhide HE, ← rot_even (by omega)]; exact unhide M2, unhide K2⟩
    · have hijz : ¬ (i : Int) = (j : Int) := by omega
      have hijb : ((i : Int) == (j : Int)) = false := beq_eq_false_iff_ne.2 hijz
      by_cases hlt : j < i
      · have hltz : (j : Int) < (i : Int) := by omega
        have hcall := swapRange_any g cap n F dk (m - i) m j wr (unhide HS) (by omega) (by omega) hn
        rw [show ((m - i : Nat) : Int) = (m : Int) - (i : Int) by omega] at hcall
        have e3 : (i : Int) - (j : Int) = ((i - j : Nat) : Int) := by omega
        go_wp2_with fail
        refine hcall.mono ?_
        rintro e w2 ⟨rfl, m2, k2⟩
        have M2 := hide m2
        have K2 := hide ((unhide KS).trans k2 (Or.inl rfl))
        clear m2 k2 hcall
        go_wp2_with fail
        go_roundg (i - j + j)
        case measure => omega
        case rel => exact ⟨i - j, j, _, by first | rfl | rw [e3], rfl, by omega, hj, by omega, hbj, by omega, M2, hide (by rw [rot_left (by omega) hlt]; exact unhide HE), K2⟩
      · have hltz : ¬ (j : Int) < (i : Int) := by omega
        have hcall := swapRange_any g cap n F dk (m - i) (m + j - i) i wr (unhide HS) (by omega) (by omega) hn
        rw [show ((m - i : Nat) : Int) = (m : Int) - (i : Int) by omega, show ((m + j - i : Nat) : Int) = (m : Int) + (j : Int) - (i : Int) by omega] at hcall
        have e3 : (j : Int) - (i : Int) = ((j - i : Nat) : Int) := by omega
        go_wp2_with fail
        refine hcall.mono ?_
        rintro e w2 ⟨rfl, m2, k2⟩
        have M2 := hide m2
        have K2 := hide ((unhide KS).trans k2 (Or.inl rfl))
        clear m2 k2 hcall
        go_wp2_with fail
        go_roundg (i + (j - i))
        case measure => omega
        case rel => exact ⟨i, j - i, _, rfl, by first | rfl | rw [e3], hi, by omega, hai, by omega, by omega, M2, hide (by rw [rot_right (by omega) (by omega)]; exact unhide HE), K2⟩

end Go.Proofs.Ythjeedlhlkggkab
