/- slices.symMergeCmpFunc at parcels, where one of the two parts is but one. -/
import Derived.Test.YthjeedlhlkggkabStaIns
namespace Go.Proofs.Ythjeedlhlkggkab
open Go.RowKit

set_option maxHeartbeats 4000000 in
set_option maxRecDepth 1000000 in
theorem symOne_any (g cap n : Nat) (F : Nat → Lp) (d : Nat → Nat) (a m b : Nat) (w : World) (h : SoR w g cap n F d) (hm : Mg (TQ fun y => (F y).p) d a m b) (h1 : a < m) (h2 : m < b) (h3 : b ≤ n) (hn : n ≤ 2513169434843) (ha : m ≤ a + 1) :
    Calls Try.prog 33 #[.slice (some ⟨g, 0, none⟩) n cap, .int .i64 (a : Int), .int .i64 (m : Int), .int .i64 (b : Int), (.func (.func 26) #[] #[])] w fun e w' => e = .returned (.tuple #[]) ∧ ∃ e : Nat → Nat, Same a b d e ∧ SoT (TQ fun y => (F y).p) e a b ∧ SoR w' g cap n F e ∧ Kept g w w' := by
  have HH := hide h
  have HM := hide hm
  clear h hm
  have em : (m : Int) - (a : Int) = 1 := by omega
  go_enter Try.func33, Try.ntmps33
  go_wp2_with fail
  go_loopg [10, 11] (b - m) (fun r s10 s11 wr => ∃ (i j : Nat), s10 = .int .i64 (i : Int) ∧ s11 = .int .i64 (j : Int) ∧ m ≤ i ∧ i ≤ j ∧ j ≤ b ∧ j - i ≤ r ∧ Hid (SoR wr g cap n F d) ∧ Hid ((∀ x, m ≤ x → x < i → TQ (fun y => (F y).p) (d x) (d a)) ∧ ∀ x, j ≤ x → x < b → TQ (fun y => (F y).p) (d a) (d x)) ∧ Hid (Kept g w wr))
  case atStart => exact ⟨m, b, rfl, rfl, by omega, by omega, by omega, by omega, HH, hide ⟨fun x x1 x2 => by omega, fun x x1 x2 => by omega⟩, hide (Kept.of_below (Below.refl _ _))⟩
  case round =>
    obtain ⟨i, j, rfl, rfl, hi, hij, hj, hr, HS, HI, KS⟩ := hrel
    by_cases hlt : i < j
    · have hltz : (i : Int) < (j : Int) := by omega
      obtain ⟨h, hh1, hh2⟩ : ∃ h : Nat, 2 * h ≤ i + j ∧ i + j ≤ 2 * h + 1 := ⟨(i + j) / 2, by omega, by omega⟩
      have hh3 : ((i : Int) + (j : Int)) / 2 = (h : Int) := by omega
      by_cases hl : cmpP (F (d (h))).p (F (d (a))).p < 0
      · have HL := hide hl
        clear hl
        go_wp2_with fail
        refine wp_leaves (fun a0 a' w' => SoR w' g cap n F (d) ∧ Kept g wr w' ∧ a' = (((((((((((a0.put (some 40) (.func (.func 26) #[] #[])).put (some 41) (.slice (some ⟨g, 0, none⟩) n cap)).put (some 42) (.int .i64 ((h : Int)))).put (some 43) (.pointer (some ⟨g, (h) * 5, none⟩))).put (some 44) (lcV (F (d (h))))).put (some 45) (.slice (some ⟨g, 0, none⟩) n cap)).put (some 46) (.int .i64 ((a : Int)))).put (some 47) (.pointer (some ⟨g, (a) * 5, none⟩))).put (some 48) (lcV (F (d (a))))).put (some 49) (.int .i64 (cmpP (F (d (h))).p (F (d (a))).p))).put (some 50) (.bool true))) ?reg ?rest
        case reg =>
          intro A eA
          have b0 : A.eval (.tmp 0) = (.slice (some ⟨g, 0, none⟩) n cap) := by rw [eA]; rfl
          have b1 : A.eval (.tmp 1) = (.int .i64 ((a : Int))) := by rw [eA]; rfl
          have b4 : A.eval (.tmp 4) = (.func (.func 26) #[] #[]) := by rw [eA]; rfl
          have b12 : A.eval (.tmp 12) = (.int .i64 ((h : Int))) := by rw [eA]; rfl
          have hs : 220 ≤ A.tmps.size := by rw [eA]; exact of_decide_eq_true rfl
          clear eA
          have hS : SoR wr.drew g cap n F (d) := unhide HS
          refine region_J (S := fun W => SoR W g cap n F (d)) (.mv 0 (.mv 1 (.mv 2 (.mv 3 (.rd 4 (.mv 5 (.mv 6 (.mv 7 (.rd 8 (.go 9 (.mv 10 .fin))))))))))) [] (by kernel_rfl) (by kernel_rfl) ?_
          refine sJ_mv (v := (.func (.func 26) #[] #[])) rfl (fun _ _ _ h => absurd h.1 (fun e => nomatch e)) (wanted_rd rfl) (fun wx => run_move (.tmp 4) rfl b4 wx) ?_
          show SeqJ _ _ _ _ _ _ (Act.put _ (some 40) _) _
          refine sJ_mv (v := (.slice (some ⟨g, 0, none⟩) n cap)) rfl (fun _ _ _ h => absurd h.1 (fun e => nomatch e)) (wanted_rd rfl) (fun wx => run_move (.tmp 0) rfl ((ev_other _ _ (by decide)).trans b0) wx) ?_
          show SeqJ _ _ _ _ _ _ (Act.put _ (some 41) _) _
          refine sJ_mv (v := (.int .i64 ((h : Int)))) rfl (fun _ _ _ h => absurd h.1 (fun e => nomatch e)) (wanted_rd rfl) (fun wx => run_move (.tmp 12) rfl ((ev_other _ _ (by decide)).trans ((ev_other _ _ (by decide)).trans b12)) wx) ?_
          show SeqJ _ _ _ _ _ _ (Act.put _ (some 42) _) _
          refine sJ_mv (v := (.pointer (some ⟨g, (h) * 5, none⟩))) rfl (fun _ _ _ h => absurd h.1 (fun e => nomatch e)) (wanted_rd rfl) (fun wx => run_ixR (i := h) (.tmp 41) (.tmp 42) rfl ((ev_other _ _ (by decide)).trans (ev_same _ _ _ (by simp only [sz_put]; omega))) (ev_same _ _ _ (by simp only [sz_put]; omega)) (by omega) (by omega) wx) ?_
          show SeqJ _ _ _ _ _ _ (Act.put _ (some 43) _) _
          refine sJ_read (v := (lcV (F (d (h))))) rfl (fun _ _ _ h => absurd h.1 (fun e => nomatch e)) (wanted_rd rfl) hS (fun wx hx => run_lodR (.tmp 43) rfl (ev_same _ _ _ (by simp only [sz_put]; omega)) hx (by omega)) ?_
          show SeqJ _ _ _ _ _ _ (Act.put _ (some 44) _) _
          refine sJ_mv (v := (.slice (some ⟨g, 0, none⟩) n cap)) rfl (fun _ _ _ h => absurd h.1 (fun e => nomatch e)) (wanted_rd rfl) (fun wx => run_move (.tmp 0) rfl ((ev_other _ _ (by decide)).trans ((ev_other _ _ (by decide)).trans ((ev_other _ _ (by decide)).trans ((ev_other _ _ (by decide)).trans ((ev_other _ _ (by decide)).trans b0))))) wx) ?_
          show SeqJ _ _ _ _ _ _ (Act.put _ (some 45) _) _
          refine sJ_mv (v := (.int .i64 ((a : Int)))) rfl (fun _ _ _ h => absurd h.1 (fun e => nomatch e)) (wanted_rd rfl) (fun wx => run_move (.tmp 1) rfl ((ev_other _ _ (by decide)).trans ((ev_other _ _ (by decide)).trans ((ev_other _ _ (by decide)).trans ((ev_other _ _ (by decide)).trans ((ev_other _ _ (by decide)).trans ((ev_other _ _ (by decide)).trans b1)))))) wx) ?_
          show SeqJ _ _ _ _ _ _ (Act.put _ (some 46) _) _
          refine sJ_mv (v := (.pointer (some ⟨g, (a) * 5, none⟩))) rfl (fun _ _ _ h => absurd h.1 (fun e => nomatch e)) (wanted_rd rfl) (fun wx => run_ixR (i := a) (.tmp 45) (.tmp 46) rfl ((ev_other _ _ (by decide)).trans (ev_same _ _ _ (by simp only [sz_put]; omega))) (ev_same _ _ _ (by simp only [sz_put]; omega)) (by omega) (by omega) wx) ?_
          show SeqJ _ _ _ _ _ _ (Act.put _ (some 47) _) _
          refine sJ_read (v := (lcV (F (d (a))))) rfl (fun _ _ _ h => absurd h.1 (fun e => nomatch e)) (wanted_rd rfl) hS (fun wx hx => run_lodR (.tmp 47) rfl (ev_same _ _ _ (by simp only [sz_put]; omega)) hx (by omega)) ?_
          show SeqJ _ _ _ _ _ _ (Act.put _ (some 48) _) _
          refine sJ_do rfl (wanted_rd rfl) (fun K hK => ?_)
          refine wp_callV _ (.tmp 40) (.tmp 44) (.tmp 48) _ rfl ((ev_other _ _ (by decide)).trans ((ev_other _ _ (by decide)).trans ((ev_other _ _ (by decide)).trans ((ev_other _ _ (by decide)).trans ((ev_other _ _ (by decide)).trans ((ev_other _ _ (by decide)).trans ((ev_other _ _ (by decide)).trans ((ev_other _ _ (by decide)).trans (ev_same _ _ _ (by omega)))))))))) ((ev_other _ _ (by decide)).trans ((ev_other _ _ (by decide)).trans ((ev_other _ _ (by decide)).trans ((ev_other _ _ (by decide)).trans (ev_same _ _ _ (by simp only [sz_put]; omega)))))) (ev_same _ _ _ (by simp only [sz_put]; omega)) (busCmp_any (F (d (h))).p (F (d (a))).p _ _ _ _ _ _ _) ?_
          rintro e w1 ⟨rfl, k1⟩
          have h1 := hS.below k1
          refine ⟨_, rfl, ?_⟩
          refine hK _ _ (fun _ _ => h1) ?_
          clear hK K
          show SeqJ _ _ _ _ _ _ (Act.put _ (some 49) _) _
          refine sJ_mv (v := (.bool true)) rfl (fun _ _ _ h => absurd h.1 (fun e => nomatch e)) (wanted_rd rfl) (fun wx => run_ltP (.tmp 49) (.const (.int .i64 0)) rfl (ev_same _ _ _ (by simp only [sz_put]; omega)) rfl (decide_eq_true (unhide HL)) wx) ?_
          show SeqJ _ _ _ _ _ _ (Act.put _ (some 50) _) _
          exact sJ_end ⟨rfl, h1, Kept.of_below (show Below wr.heap.size wr w1 from (below_drew (Below.refl _ _)).trans k1), rfl⟩
        case rest =>
          rintro a' w2 ⟨m2, k2, rfl⟩
          have HS2 := hide m2
          have KS2 := hide ((unhide KS).trans k2 (Or.inl rfl))
          clear m2 k2
          go_frame
          go_wp2_with fail
          go_roundg (j - (h + 1))
          case measure => omega
          case rel => exact ⟨h + 1, j, by go_num, rfl, by omega, by omega, hj, by omega, HS2, hide ⟨fun x x1 x2 => (by
            have k := tq_yes (q := fun y => (F y).p) (unhide HL)
            by_cases e : x = h
            · subst e; exact k
            · exact (whole_TQ _).tr _ _ _ ((unhide HM).r x h x1 (by omega) (by omega)) k), (unhide HI).2⟩, KS2⟩
      · have HL := hide (Int.not_lt.1 hl)
        clear hl
        go_wp2_with fail
        refine wp_leaves (fun a0 a' w' => SoR w' g cap n F (d) ∧ Kept g wr w' ∧ a' = (((((((((((a0.put (some 40) (.func (.func 26) #[] #[])).put (some 41) (.slice (some ⟨g, 0, none⟩) n cap)).put (some 42) (.int .i64 ((h : Int)))).put (some 43) (.pointer (some ⟨g, (h) * 5, none⟩))).put (some 44) (lcV (F (d (h))))).put (some 45) (.slice (some ⟨g, 0, none⟩) n cap)).put (some 46) (.int .i64 ((a : Int)))).put (some 47) (.pointer (some ⟨g, (a) * 5, none⟩))).put (some 48) (lcV (F (d (a))))).put (some 49) (.int .i64 (cmpP (F (d (h))).p (F (d (a))).p))).put (some 50) (.bool false))) ?reg ?rest
        case reg =>
          intro A eA
          have b0 : A.eval (.tmp 0) = (.slice (some ⟨g, 0, none⟩) n cap) := by rw [eA]; rfl
          have b1 : A.eval (.tmp 1) = (.int .i64 ((a : Int))) := by rw [eA]; rfl
          have b4 : A.eval (.tmp 4) = (.func (.func 26) #[] #[]) := by rw [eA]; rfl
          have b12 : A.eval (.tmp 12) = (.int .i64 ((h : Int))) := by rw [eA]; rfl
          have hs : 220 ≤ A.tmps.size := by rw [eA]; exact of_decide_eq_true rfl
          clear eA
          have hS : SoR wr.drew g cap n F (d) := unhide HS
          refine region_J (S := fun W => SoR W g cap n F (d)) (.mv 0 (.mv 1 (.mv 2 (.mv 3 (.rd 4 (.mv 5 (.mv 6 (.mv 7 (.rd 8 (.go 9 (.mv 10 .fin))))))))))) [] (by kernel_rfl) (by kernel_rfl) ?_
          refine sJ_mv (v := (.func (.func 26) #[] #[])) rfl (fun _ _ _ h => absurd h.1 (fun e => nomatch e)) (wanted_rd rfl) (fun wx => run_move (.tmp 4) rfl b4 wx) ?_
          show SeqJ _ _ _ _ _ _ (Act.put _ (some 40) _) _
          refine sJ_mv (v := (.slice (some ⟨g, 0, none⟩) n cap)) rfl (fun _ _ _ h => absurd h.1 (fun e => nomatch e)) (wanted_rd rfl) (fun wx => run_move (.tmp 0) rfl ((ev_other _ _ (by decide)).trans b0) wx) ?_
          show SeqJ _ _ _ _ _ _ (Act.put _ (some 41) _) _
          refine sJ_mv (v := (.int .i64 ((h : Int)))) rfl (fun _ _ _ h => absurd h.1 (fun e => nomatch e)) (wanted_rd rfl) (fun wx => run_move (.tmp 12) rfl ((ev_other _ _ (by decide)).trans ((ev_other _ _ (by decide)).trans b12)) wx) ?_
          show SeqJ _ _ _ _ _ _ (Act.put _ (some 42) _) _
          refine sJ_mv (v := (.pointer (some ⟨g, (h) * 5, none⟩))) rfl (fun _ _ _ h => absurd h.1 (fun e => nomatch e)) (wanted_rd rfl) (fun wx => run_ixR (i := h) (.tmp 41) (.tmp 42) rfl ((ev_other _ _ (by decide)).trans (ev_same _ _ _ (by simp only [sz_put]; omega))) (ev_same _ _ _ (by simp only [sz_put]; omega)) (by omega) (by omega) wx) ?_
          show SeqJ _ _ _ _ _ _ (Act.put _ (some 43) _) _
          refine sJ_read (v := (lcV (F (d (h))))) rfl (fun _ _ _ h => absurd h.1 (fun e => nomatch e)) (wanted_rd rfl) hS (fun wx hx => run_lodR (.tmp 43) rfl (ev_same _ _ _ (by simp only [sz_put]; omega)) hx (by omega)) ?_
          show SeqJ _ _ _ _ _ _ (Act.put _ (some 44) _) _
          refine sJ_mv (v := (.slice (some ⟨g, 0, none⟩) n cap)) rfl (fun _ _ _ h => absurd h.1 (fun e => nomatch e)) (wanted_rd rfl) (fun wx => run_move (.tmp 0) rfl ((ev_other _ _ (by decide)).trans ((ev_other _ _ (by decide)).trans ((ev_other _ _ (by decide)).trans ((ev_other _ _ (by decide)).trans ((ev_other _ _ (by decide)).trans b0))))) wx) ?_
          show SeqJ _ _ _ _ _ _ (Act.put _ (some 45) _) _
          refine sJ_mv (v := (.int .i64 ((a : Int)))) rfl (fun _ _ _ h => absurd h.1 (fun e => nomatch e)) (wanted_rd rfl) (fun wx => run_move (.tmp 1) rfl ((ev_other _ _ (by decide)).trans ((ev_other _ _ (by decide)).trans ((ev_other _ _ (by decide)).trans ((ev_other _ _ (by decide)).trans ((ev_other _ _ (by decide)).trans ((ev_other _ _ (by decide)).trans b1)))))) wx) ?_
          show SeqJ _ _ _ _ _ _ (Act.put _ (some 46) _) _
          refine sJ_mv (v := (.pointer (some ⟨g, (a) * 5, none⟩))) rfl (fun _ _ _ h => absurd h.1 (fun e => nomatch e)) (wanted_rd rfl) (fun wx => run_ixR (i := a) (.tmp 45) (.tmp 46) rfl ((ev_other _ _ (by decide)).trans (ev_same _ _ _ (by simp only [sz_put]; omega))) (ev_same _ _ _ (by simp only [sz_put]; omega)) (by omega) (by omega) wx) ?_
          show SeqJ _ _ _ _ _ _ (Act.put _ (some 47) _) _
          refine sJ_read (v := (lcV (F (d (a))))) rfl (fun _ _ _ h => absurd h.1 (fun e => nomatch e)) (wanted_rd rfl) hS (fun wx hx => run_lodR (.tmp 47) rfl (ev_same _ _ _ (by simp only [sz_put]; omega)) hx (by omega)) ?_
          show SeqJ _ _ _ _ _ _ (Act.put _ (some 48) _) _
          refine sJ_do rfl (wanted_rd rfl) (fun K hK => ?_)
          refine wp_callV _ (.tmp 40) (.tmp 44) (.tmp 48) _ rfl ((ev_other _ _ (by decide)).trans ((ev_other _ _ (by decide)).trans ((ev_other _ _ (by decide)).trans ((ev_other _ _ (by decide)).trans ((ev_other _ _ (by decide)).trans ((ev_other _ _ (by decide)).trans ((ev_other _ _ (by decide)).trans ((ev_other _ _ (by decide)).trans (ev_same _ _ _ (by omega)))))))))) ((ev_other _ _ (by decide)).trans ((ev_other _ _ (by decide)).trans ((ev_other _ _ (by decide)).trans ((ev_other _ _ (by decide)).trans (ev_same _ _ _ (by simp only [sz_put]; omega)))))) (ev_same _ _ _ (by simp only [sz_put]; omega)) (busCmp_any (F (d (h))).p (F (d (a))).p _ _ _ _ _ _ _) ?_
          rintro e w1 ⟨rfl, k1⟩
          have h1 := hS.below k1
          refine ⟨_, rfl, ?_⟩
          refine hK _ _ (fun _ _ => h1) ?_
          clear hK K
          show SeqJ _ _ _ _ _ _ (Act.put _ (some 49) _) _
          refine sJ_mv (v := (.bool false)) rfl (fun _ _ _ h => absurd h.1 (fun e => nomatch e)) (wanted_rd rfl) (fun wx => run_ltP (.tmp 49) (.const (.int .i64 0)) rfl (ev_same _ _ _ (by simp only [sz_put]; omega)) rfl (decide_eq_false (Int.not_lt.2 (unhide HL))) wx) ?_
          show SeqJ _ _ _ _ _ _ (Act.put _ (some 50) _) _
          exact sJ_end ⟨rfl, h1, Kept.of_below (show Below wr.heap.size wr w1 from (below_drew (Below.refl _ _)).trans k1), rfl⟩
        case rest =>
          rintro a' w2 ⟨m2, k2, rfl⟩
          have HS2 := hide m2
          have KS2 := hide ((unhide KS).trans k2 (Or.inl rfl))
          clear m2 k2
          go_frame
          go_wp2_with fail
          go_roundg (h - i)
          case measure => omega
          case rel => exact ⟨i, h, rfl, rfl, hi, by omega, by omega, by omega, HS2, hide ⟨(unhide HI).1, fun x x1 x2 => (by
            have k := tq_no (q := fun y => (F y).p) ((unhide HM).x a h (by omega) h1 (by omega) (by omega)) (Int.not_lt.2 (unhide HL))
            by_cases e : x = h
            · subst e; exact k
            · exact (whole_TQ _).tr _ _ _ k ((unhide HM).r h x (by omega) (by omega) x2))⟩, KS2⟩
    · have hltz : ¬ (i : Int) < (j : Int) := by omega
      obtain ⟨i2, j2⟩ : i ≤ j ∧ j ≤ i := by omega
      go_wp2_with fail
      go_loopg [13] (i - 1 - a) (fun r s13 wr => ∃ k : Nat, s13 = .int .i64 (k : Int) ∧ a ≤ k ∧ k + 1 ≤ i ∧ i - 1 - k ≤ r ∧ Hid (SoR wr g cap n F (rotD d a (a + 1) (k + 1))) ∧ Hid (Kept g w wr))
      case atStart => exact ⟨a, rfl, by omega, by omega, by omega, hide (by rw [rotD_none (Or.inr rfl) (by omega) (by omega)]; exact unhide HS), KS⟩
      case round =>
        clear HS KS
        obtain ⟨k, rfl, hk1, hk2, hr2, HS, KS⟩ := hrel
        by_cases hkl : k + 1 < i
        · have hklz : (k : Int) < (i : Int) - 1 := by omega
          go_wp2_with fail
          refine wp_leaves (fun a0 a' w' => SoR w' g cap n F (swD (rotD d a (a + 1) (k + 1)) k (k + 1)) ∧ Kept g wr w' ∧ a' = ((((((((((((((((a0.put (some 61) (.slice (some ⟨g, 0, none⟩) n cap)).put (some 62) (.int .i64 ((k : Int)))).put (some 63) (.slice (some ⟨g, 0, none⟩) n cap)).put (some 64) (.int .i64 ((k : Int)))).put (some 65) (.int .i64 ((k : Int) + 1))).put (some 66) (.slice (some ⟨g, 0, none⟩) n cap)).put (some 67) (.int .i64 ((k : Int)))).put (some 68) (.int .i64 ((k : Int) + 1))).put (some 69) (.pointer (some ⟨g, (k + 1) * 5, none⟩))).put (some 70) (lcV (F ((rotD d a (a + 1) (k + 1)) (k + 1))))).put (some 71) (.slice (some ⟨g, 0, none⟩) n cap)).put (some 72) (.int .i64 ((k : Int)))).put (some 73) (.pointer (some ⟨g, (k) * 5, none⟩))).put (some 74) (lcV (F ((rotD d a (a + 1) (k + 1)) (k))))).put (some 75) (.pointer (some ⟨g, (k) * 5, none⟩))).put (some 76) (.pointer (some ⟨g, (k + 1) * 5, none⟩)))) ?reg ?rest
          case reg =>
            intro A eA
            have b0 : A.eval (.tmp 0) = (.slice (some ⟨g, 0, none⟩) n cap) := by rw [eA]; rfl
            have b13 : A.eval (.tmp 13) = (.int .i64 ((k : Int))) := by rw [eA]; rfl
            have hs : 220 ≤ A.tmps.size := by rw [eA]; exact of_decide_eq_true rfl
            clear eA
            have hS : SoR wr.drew g cap n F ((rotD d a (a + 1) (k + 1))) := unhide HS
            refine region_J (S := fun W => SoR W g cap n F ((rotD d a (a + 1) (k + 1)))) (.mv 0 (.mv 1 (.mv 2 (.mv 3 (.mv 4 (.mv 5 (.mv 6 (.mv 7 (.mv 8 (.rd 9 (.mv 10 (.mv 11 (.mv 12 (.rd 13 (.mv 14 (.go 15 (.mv 16 (.go 17 .fin)))))))))))))))))) [15, 17] (by kernel_rfl) (by kernel_rfl) ?_
            refine sJ_mv (v := (.slice (some ⟨g, 0, none⟩) n cap)) rfl (fun _ _ _ h => absurd h.1 (fun e => nomatch e)) (wanted_rd rfl) (fun wx => run_move (.tmp 0) rfl b0 wx) ?_
            show SeqJ _ _ _ _ _ _ (Act.put _ (some 61) _) _
            refine sJ_mv (v := (.int .i64 ((k : Int)))) rfl (fun _ _ _ h => absurd h.1 (fun e => nomatch e)) (wanted_rd rfl) (fun wx => run_move (.tmp 13) rfl ((ev_other _ _ (by decide)).trans b13) wx) ?_
            show SeqJ _ _ _ _ _ _ (Act.put _ (some 62) _) _
            refine sJ_mv (v := (.slice (some ⟨g, 0, none⟩) n cap)) rfl (fun _ _ _ h => absurd h.1 (fun e => nomatch e)) (wanted_rd rfl) (fun wx => run_move (.tmp 0) rfl ((ev_other _ _ (by decide)).trans ((ev_other _ _ (by decide)).trans b0)) wx) ?_
            show SeqJ _ _ _ _ _ _ (Act.put _ (some 63) _) _
            refine sJ_mv (v := (.int .i64 ((k : Int)))) rfl (fun _ _ _ h => absurd h.1 (fun e => nomatch e)) (wanted_rd rfl) (fun wx => run_move (.tmp 13) rfl ((ev_other _ _ (by decide)).trans ((ev_other _ _ (by decide)).trans ((ev_other _ _ (by decide)).trans b13))) wx) ?_
            show SeqJ _ _ _ _ _ _ (Act.put _ (some 64) _) _
            refine sJ_mv (v := (.int .i64 ((k : Int) + 1))) rfl (fun _ _ _ h => absurd h.1 (fun e => nomatch e)) (wanted_rd rfl) (fun wx => run_addP (.tmp 64) (.const (.int .i64 1)) rfl (ev_same _ _ _ (by simp only [sz_put]; omega)) rfl (by omega) (by omega) wx) ?_
            show SeqJ _ _ _ _ _ _ (Act.put _ (some 65) _) _
            refine sJ_mv (v := (.slice (some ⟨g, 0, none⟩) n cap)) rfl (fun _ _ _ h => absurd h.1 (fun e => nomatch e)) (wanted_rd rfl) (fun wx => run_move (.tmp 0) rfl ((ev_other _ _ (by decide)).trans ((ev_other _ _ (by decide)).trans ((ev_other _ _ (by decide)).trans ((ev_other _ _ (by decide)).trans ((ev_other _ _ (by decide)).trans b0))))) wx) ?_
            show SeqJ _ _ _ _ _ _ (Act.put _ (some 66) _) _
            refine sJ_mv (v := (.int .i64 ((k : Int)))) rfl (fun _ _ _ h => absurd h.1 (fun e => nomatch e)) (wanted_rd rfl) (fun wx => run_move (.tmp 13) rfl ((ev_other _ _ (by decide)).trans ((ev_other _ _ (by decide)).trans ((ev_other _ _ (by decide)).trans ((ev_other _ _ (by decide)).trans ((ev_other _ _ (by decide)).trans ((ev_other _ _ (by decide)).trans b13)))))) wx) ?_
            show SeqJ _ _ _ _ _ _ (Act.put _ (some 67) _) _
            refine sJ_mv (v := (.int .i64 ((k : Int) + 1))) rfl (fun _ _ _ h => absurd h.1 (fun e => nomatch e)) (wanted_rd rfl) (fun wx => run_addP (.tmp 67) (.const (.int .i64 1)) rfl (ev_same _ _ _ (by simp only [sz_put]; omega)) rfl (by omega) (by omega) wx) ?_
            show SeqJ _ _ _ _ _ _ (Act.put _ (some 68) _) _
            refine sJ_mv (v := (.pointer (some ⟨g, (k + 1) * 5, none⟩))) rfl (fun _ _ _ h => absurd h.1 (fun e => nomatch e)) (wanted_rd rfl) (fun wx => run_ixR (i := k + 1) (.tmp 66) (.tmp 68) rfl ((ev_other _ _ (by decide)).trans ((ev_other _ _ (by decide)).trans (ev_same _ _ _ (by simp only [sz_put]; omega)))) (ev_same _ _ _ (by simp only [sz_put]; omega)) (by omega) (by omega) wx) ?_
            show SeqJ _ _ _ _ _ _ (Act.put _ (some 69) _) _
            refine sJ_read (v := (lcV (F ((rotD d a (a + 1) (k + 1)) (k + 1))))) rfl (fun _ _ _ h => absurd h.1 (fun e => nomatch e)) (wanted_rd rfl) hS (fun wx hx => run_lodR (.tmp 69) rfl (ev_same _ _ _ (by simp only [sz_put]; omega)) hx (by omega)) ?_
            show SeqJ _ _ _ _ _ _ (Act.put _ (some 70) _) _
            refine sJ_mv (v := (.slice (some ⟨g, 0, none⟩) n cap)) rfl (fun _ _ _ h => absurd h.1 (fun e => nomatch e)) (wanted_rd rfl) (fun wx => run_move (.tmp 0) rfl ((ev_other _ _ (by decide)).trans ((ev_other _ _ (by decide)).trans ((ev_other _ _ (by decide)).trans ((ev_other _ _ (by decide)).trans ((ev_other _ _ (by decide)).trans ((ev_other _ _ (by decide)).trans ((ev_other _ _ (by decide)).trans ((ev_other _ _ (by decide)).trans ((ev_other _ _ (by decide)).trans ((ev_other _ _ (by decide)).trans b0)))))))))) wx) ?_
            show SeqJ _ _ _ _ _ _ (Act.put _ (some 71) _) _
            refine sJ_mv (v := (.int .i64 ((k : Int)))) rfl (fun _ _ _ h => absurd h.1 (fun e => nomatch e)) (wanted_rd rfl) (fun wx => run_move (.tmp 13) rfl ((ev_other _ _ (by decide)).trans ((ev_other _ _ (by decide)).trans ((ev_other _ _ (by decide)).trans ((ev_other _ _ (by decide)).trans ((ev_other _ _ (by decide)).trans ((ev_other _ _ (by decide)).trans ((ev_other _ _ (by decide)).trans ((ev_other _ _ (by decide)).trans ((ev_other _ _ (by decide)).trans ((ev_other _ _ (by decide)).trans ((ev_other _ _ (by decide)).trans b13))))))))))) wx) ?_
            show SeqJ _ _ _ _ _ _ (Act.put _ (some 72) _) _
            refine sJ_mv (v := (.pointer (some ⟨g, (k) * 5, none⟩))) rfl (fun _ _ _ h => absurd h.1 (fun e => nomatch e)) (wanted_rd rfl) (fun wx => run_ixR (i := k) (.tmp 71) (.tmp 72) rfl ((ev_other _ _ (by decide)).trans (ev_same _ _ _ (by simp only [sz_put]; omega))) (ev_same _ _ _ (by simp only [sz_put]; omega)) (by omega) (by omega) wx) ?_
            show SeqJ _ _ _ _ _ _ (Act.put _ (some 73) _) _
            refine sJ_read (v := (lcV (F ((rotD d a (a + 1) (k + 1)) (k))))) rfl (fun _ _ _ h => absurd h.1 (fun e => nomatch e)) (wanted_rd rfl) hS (fun wx hx => run_lodR (.tmp 73) rfl (ev_same _ _ _ (by simp only [sz_put]; omega)) hx (by omega)) ?_
            show SeqJ _ _ _ _ _ _ (Act.put _ (some 74) _) _
            refine sJ_mv (v := (.pointer (some ⟨g, (k) * 5, none⟩))) rfl (fun _ _ _ h => absurd h.1 (fun e => nomatch e)) (wanted_rd rfl) (fun wx => run_ixR (i := k) (.tmp 61) (.tmp 62) rfl ((ev_other _ _ (by decide)).trans ((ev_other _ _ (by decide)).trans ((ev_other _ _ (by decide)).trans ((ev_other _ _ (by decide)).trans ((ev_other _ _ (by decide)).trans ((ev_other _ _ (by decide)).trans ((ev_other _ _ (by decide)).trans ((ev_other _ _ (by decide)).trans ((ev_other _ _ (by decide)).trans ((ev_other _ _ (by decide)).trans ((ev_other _ _ (by decide)).trans ((ev_other _ _ (by decide)).trans ((ev_other _ _ (by decide)).trans (ev_same _ _ _ (by omega))))))))))))))) ((ev_other _ _ (by decide)).trans ((ev_other _ _ (by decide)).trans ((ev_other _ _ (by decide)).trans ((ev_other _ _ (by decide)).trans ((ev_other _ _ (by decide)).trans ((ev_other _ _ (by decide)).trans ((ev_other _ _ (by decide)).trans ((ev_other _ _ (by decide)).trans ((ev_other _ _ (by decide)).trans ((ev_other _ _ (by decide)).trans ((ev_other _ _ (by decide)).trans ((ev_other _ _ (by decide)).trans (ev_same _ _ _ (by simp only [sz_put]; omega)))))))))))))) (by omega) (by omega) wx) ?_
            show SeqJ _ _ _ _ _ _ (Act.put _ (some 75) _) _
            refine sJ_do rfl (wanted_rd rfl) (fun K hK => ?_)
            refine wp_storeR _ (.tmp 75) (.tmp 70) rfl (ev_same _ _ _ (by simp only [sz_put]; omega)) ((ev_other _ _ (by decide)).trans ((ev_other _ _ (by decide)).trans ((ev_other _ _ (by decide)).trans ((ev_other _ _ (by decide)).trans ((ev_other _ _ (by decide)).trans (ev_same _ _ _ (by simp only [sz_put]; omega))))))) hS (by omega) rfl ?_
            intro w1 m1 k1 z1
            refine hK _ _ (fun h => absurd h (by decide)) ?_
            clear hK K
            refine sJ_mv (v := (.pointer (some ⟨g, (k + 1) * 5, none⟩))) rfl (fun _ _ _ h => absurd h.1 (fun e => nomatch e)) (wanted_rd rfl) (fun wx => run_ixR (i := k + 1) (.tmp 63) (.tmp 65) rfl ((ev_other _ _ (by decide)).trans ((ev_other _ _ (by decide)).trans ((ev_other _ _ (by decide)).trans ((ev_other _ _ (by decide)).trans ((ev_other _ _ (by decide)).trans ((ev_other _ _ (by decide)).trans ((ev_other _ _ (by decide)).trans ((ev_other _ _ (by decide)).trans ((ev_other _ _ (by decide)).trans ((ev_other _ _ (by decide)).trans ((ev_other _ _ (by decide)).trans ((ev_other _ _ (by decide)).trans (ev_same _ _ _ (by simp only [sz_put]; omega)))))))))))))) ((ev_other _ _ (by decide)).trans ((ev_other _ _ (by decide)).trans ((ev_other _ _ (by decide)).trans ((ev_other _ _ (by decide)).trans ((ev_other _ _ (by decide)).trans ((ev_other _ _ (by decide)).trans ((ev_other _ _ (by decide)).trans ((ev_other _ _ (by decide)).trans ((ev_other _ _ (by decide)).trans ((ev_other _ _ (by decide)).trans (ev_same _ _ _ (by simp only [sz_put]; omega)))))))))))) (by omega) (by omega) wx) ?_
            show SeqJ _ _ _ _ _ _ (Act.put _ (some 76) _) _
            refine sJ_do rfl (wanted_rd rfl) (fun K hK => ?_)
            refine wp_storeR _ (.tmp 76) (.tmp 74) rfl (ev_same _ _ _ (by simp only [sz_put]; omega)) ((ev_other _ _ (by decide)).trans ((ev_other _ _ (by decide)).trans (ev_same _ _ _ (by simp only [sz_put]; omega)))) m1 (by omega) rfl ?_
            intro w2 m2 k2 z2
            refine hK _ _ (fun h => absurd h (by decide)) ?_
            clear hK K
            have m3 := m2
            rw [upD_two] at m3
            exact sJ_end ⟨rfl, m3, ((Kept.of_below (show Below wr.heap.size wr wr.drew from (below_drew (Below.refl _ _)))).trans k1 (Or.inl rfl)).trans k2 (Or.inl rfl), rfl⟩
          case rest =>
            rintro a' w2 ⟨m2, k2, rfl⟩
            have HS2 := hide m2
            have KS2 := hide ((unhide KS).trans k2 (Or.inl rfl))
            clear m2 k2
            go_frame
            go_wp2_with fail
            go_roundg (i - 1 - (k + 1))
            case measure => omega
            case rel => exact ⟨k + 1, by go_num, by omega, by omega, by omega, hide (by rw [← rot_one (by omega)]; exact unhide HS2), KS2⟩
        · have hklz : ¬ (k : Int) < (i : Int) - 1 := by omega
          go_wp2_with fail
          refine bodyPost_ret (results_none (fn := Try.f33) rfl _ _ _) rfl ?_
          have hmm : Mg (TQ fun y => (F y).p) d a (a + 1) b := by rw [show a + 1 = m by omega]; exact unhide HM
          have q := mg_first hmm (i := i) (by omega) (by omega) (fun x x1 x2 => (unhide HI).1 x (by omega) x2) (fun x x1 x2 => (unhide HI).2 x (by omega) x2)
          exact ⟨rfl, _, q.1, q.2, by rw [show i = k + 1 by omega]; exact unhide HS, unhide KS⟩
set_option maxHeartbeats 4000000 in
set_option maxRecDepth 1000000 in
theorem symLast_any (g cap n : Nat) (F : Nat → Lp) (d : Nat → Nat) (a m b : Nat) (w : World) (h : SoR w g cap n F d) (hm : Mg (TQ fun y => (F y).p) d a m b) (h2 : m < b) (h3 : b ≤ n) (hn : n ≤ 2513169434843) (ha : a + 1 < m) (hb : b ≤ m + 1) :
    Calls Try.prog 33 #[.slice (some ⟨g, 0, none⟩) n cap, .int .i64 (a : Int), .int .i64 (m : Int), .int .i64 (b : Int), (.func (.func 26) #[] #[])] w fun e w' => e = .returned (.tuple #[]) ∧ ∃ e : Nat → Nat, Same a b d e ∧ SoT (TQ fun y => (F y).p) e a b ∧ SoR w' g cap n F e ∧ Kept g w w' := by
  have HH := hide h
  have HM := hide hm
  clear h hm
  have em : ¬ (m : Int) - (a : Int) = 1 := by omega
  have emb : ((m : Int) - (a : Int) == 1) = false := beq_eq_false_iff_ne.2 em
  have eb : (b : Int) - (m : Int) = 1 := by omega
  go_enter Try.func33, Try.ntmps33
  go_wp2_with fail
  go_loopg [14, 15] (m - a) (fun r s10 s11 wr => ∃ (i j : Nat), s10 = .int .i64 (i : Int) ∧ s11 = .int .i64 (j : Int) ∧ a ≤ i ∧ i ≤ j ∧ j ≤ m ∧ j - i ≤ r ∧ Hid (SoR wr g cap n F d) ∧ Hid ((∀ x, a ≤ x → x < i → TQ (fun y => (F y).p) (d x) (d m)) ∧ ∀ x, j ≤ x → x < m → TQ (fun y => (F y).p) (d m) (d x)) ∧ Hid (Kept g w wr))
  case atStart => exact ⟨a, m, rfl, rfl, by omega, by omega, by omega, by omega, HH, hide ⟨fun x x1 x2 => by omega, fun x x1 x2 => by omega⟩, hide (Kept.of_below (Below.refl _ _))⟩
  case round =>
    obtain ⟨i, j, rfl, rfl, hi, hij, hj, hr, HS, HI, KS⟩ := hrel
    by_cases hlt : i < j
    · have hltz : (i : Int) < (j : Int) := by omega
      obtain ⟨h, hh1, hh2⟩ : ∃ h : Nat, 2 * h ≤ i + j ∧ i + j ≤ 2 * h + 1 := ⟨(i + j) / 2, by omega, by omega⟩
      have hh3 : ((i : Int) + (j : Int)) / 2 = (h : Int) := by omega
      by_cases hl : cmpP (F (d (m))).p (F (d (h))).p < 0
      · have HL := hide hl
        clear hl
        go_wp2_with fail
        refine wp_leaves (fun a0 a' w' => SoR w' g cap n F (d) ∧ Kept g wr w' ∧ a' = ((((((((((((a0.put (some 92) (.func (.func 26) #[] #[])).put (some 93) (.slice (some ⟨g, 0, none⟩) n cap)).put (some 94) (.int .i64 ((m : Int)))).put (some 95) (.pointer (some ⟨g, (m) * 5, none⟩))).put (some 96) (lcV (F (d (m))))).put (some 97) (.slice (some ⟨g, 0, none⟩) n cap)).put (some 98) (.int .i64 ((h : Int)))).put (some 99) (.pointer (some ⟨g, (h) * 5, none⟩))).put (some 100) (lcV (F (d (h))))).put (some 101) (.int .i64 (cmpP (F (d (m))).p (F (d (h))).p))).put (some 102) (.bool true)).put (some 103) (.bool false))) ?reg ?rest
        case reg =>
          intro A eA
          have b0 : A.eval (.tmp 0) = (.slice (some ⟨g, 0, none⟩) n cap) := by rw [eA]; rfl
          have b2 : A.eval (.tmp 2) = (.int .i64 ((m : Int))) := by rw [eA]; rfl
          have b4 : A.eval (.tmp 4) = (.func (.func 26) #[] #[]) := by rw [eA]; rfl
          have b16 : A.eval (.tmp 16) = (.int .i64 ((h : Int))) := by rw [eA]; rfl
          have hs : 220 ≤ A.tmps.size := by rw [eA]; exact of_decide_eq_true rfl
          clear eA
          have hS : SoR wr.drew g cap n F (d) := unhide HS
          refine region_J (S := fun W => SoR W g cap n F (d)) (.mv 0 (.mv 1 (.mv 2 (.mv 3 (.rd 4 (.mv 5 (.mv 6 (.mv 7 (.rd 8 (.go 9 (.mv 10 (.mv 11 .fin)))))))))))) [] (by kernel_rfl) (by kernel_rfl) ?_
          refine sJ_mv (v := (.func (.func 26) #[] #[])) rfl (fun _ _ _ h => absurd h.1 (fun e => nomatch e)) (wanted_rd rfl) (fun wx => run_move (.tmp 4) rfl b4 wx) ?_
          show SeqJ _ _ _ _ _ _ (Act.put _ (some 92) _) _
          refine sJ_mv (v := (.slice (some ⟨g, 0, none⟩) n cap)) rfl (fun _ _ _ h => absurd h.1 (fun e => nomatch e)) (wanted_rd rfl) (fun wx => run_move (.tmp 0) rfl ((ev_other _ _ (by decide)).trans b0) wx) ?_
          show SeqJ _ _ _ _ _ _ (Act.put _ (some 93) _) _
          refine sJ_mv (v := (.int .i64 ((m : Int)))) rfl (fun _ _ _ h => absurd h.1 (fun e => nomatch e)) (wanted_rd rfl) (fun wx => run_move (.tmp 2) rfl ((ev_other _ _ (by decide)).trans ((ev_other _ _ (by decide)).trans b2)) wx) ?_
          show SeqJ _ _ _ _ _ _ (Act.put _ (some 94) _) _
          refine sJ_mv (v := (.pointer (some ⟨g, (m) * 5, none⟩))) rfl (fun _ _ _ h => absurd h.1 (fun e => nomatch e)) (wanted_rd rfl) (fun wx => run_ixR (i := m) (.tmp 93) (.tmp 94) rfl ((ev_other _ _ (by decide)).trans (ev_same _ _ _ (by simp only [sz_put]; omega))) (ev_same _ _ _ (by simp only [sz_put]; omega)) (by omega) (by omega) wx) ?_
          show SeqJ _ _ _ _ _ _ (Act.put _ (some 95) _) _
          refine sJ_read (v := (lcV (F (d (m))))) rfl (fun _ _ _ h => absurd h.1 (fun e => nomatch e)) (wanted_rd rfl) hS (fun wx hx => run_lodR (.tmp 95) rfl (ev_same _ _ _ (by simp only [sz_put]; omega)) hx (by omega)) ?_
          show SeqJ _ _ _ _ _ _ (Act.put _ (some 96) _) _
          refine sJ_mv (v := (.slice (some ⟨g, 0, none⟩) n cap)) rfl (fun _ _ _ h => absurd h.1 (fun e => nomatch e)) (wanted_rd rfl) (fun wx => run_move (.tmp 0) rfl ((ev_other _ _ (by decide)).trans ((ev_other _ _ (by decide)).trans ((ev_other _ _ (by decide)).trans ((ev_other _ _ (by decide)).trans ((ev_other _ _ (by decide)).trans b0))))) wx) ?_
          show SeqJ _ _ _ _ _ _ (Act.put _ (some 97) _) _
          refine sJ_mv (v := (.int .i64 ((h : Int)))) rfl (fun _ _ _ h => absurd h.1 (fun e => nomatch e)) (wanted_rd rfl) (fun wx => run_move (.tmp 16) rfl ((ev_other _ _ (by decide)).trans ((ev_other _ _ (by decide)).trans ((ev_other _ _ (by decide)).trans ((ev_other _ _ (by decide)).trans ((ev_other _ _ (by decide)).trans ((ev_other _ _ (by decide)).trans b16)))))) wx) ?_
          show SeqJ _ _ _ _ _ _ (Act.put _ (some 98) _) _
          refine sJ_mv (v := (.pointer (some ⟨g, (h) * 5, none⟩))) rfl (fun _ _ _ h => absurd h.1 (fun e => nomatch e)) (wanted_rd rfl) (fun wx => run_ixR (i := h) (.tmp 97) (.tmp 98) rfl ((ev_other _ _ (by decide)).trans (ev_same _ _ _ (by simp only [sz_put]; omega))) (ev_same _ _ _ (by simp only [sz_put]; omega)) (by omega) (by omega) wx) ?_
          show SeqJ _ _ _ _ _ _ (Act.put _ (some 99) _) _
          refine sJ_read (v := (lcV (F (d (h))))) rfl (fun _ _ _ h => absurd h.1 (fun e => nomatch e)) (wanted_rd rfl) hS (fun wx hx => run_lodR (.tmp 99) rfl (ev_same _ _ _ (by simp only [sz_put]; omega)) hx (by omega)) ?_
          show SeqJ _ _ _ _ _ _ (Act.put _ (some 100) _) _
          refine sJ_do rfl (wanted_rd rfl) (fun K hK => ?_)
          refine wp_callV _ (.tmp 92) (.tmp 96) (.tmp 100) _ rfl ((ev_other _ _ (by decide)).trans ((ev_other _ _ (by decide)).trans ((ev_other _ _ (by decide)).trans ((ev_other _ _ (by decide)).trans ((ev_other _ _ (by decide)).trans ((ev_other _ _ (by decide)).trans ((ev_other _ _ (by decide)).trans ((ev_other _ _ (by decide)).trans (ev_same _ _ _ (by omega)))))))))) ((ev_other _ _ (by decide)).trans ((ev_other _ _ (by decide)).trans ((ev_other _ _ (by decide)).trans ((ev_other _ _ (by decide)).trans (ev_same _ _ _ (by simp only [sz_put]; omega)))))) (ev_same _ _ _ (by simp only [sz_put]; omega)) (busCmp_any (F (d (m))).p (F (d (h))).p _ _ _ _ _ _ _) ?_
          rintro e w1 ⟨rfl, k1⟩
          have h1 := hS.below k1
          refine ⟨_, rfl, ?_⟩
          refine hK _ _ (fun _ _ => h1) ?_
          clear hK K
          show SeqJ _ _ _ _ _ _ (Act.put _ (some 101) _) _
          refine sJ_mv (v := (.bool true)) rfl (fun _ _ _ h => absurd h.1 (fun e => nomatch e)) (wanted_rd rfl) (fun wx => run_ltP (.tmp 101) (.const (.int .i64 0)) rfl (ev_same _ _ _ (by simp only [sz_put]; omega)) rfl (decide_eq_true (unhide HL)) wx) ?_
          show SeqJ _ _ _ _ _ _ (Act.put _ (some 102) _) _
          refine sJ_mv (v := (.bool false)) rfl (fun _ _ _ h => absurd h.1 (fun e => nomatch e)) (wanted_rd rfl) (fun wx => run_notB (.tmp 102) _ rfl (ev_same _ _ _ (by simp only [sz_put]; omega)) wx) ?_
          show SeqJ _ _ _ _ _ _ (Act.put _ (some 103) _) _
          exact sJ_end ⟨rfl, h1, Kept.of_below (show Below wr.heap.size wr w1 from (below_drew (Below.refl _ _)).trans k1), rfl⟩
        case rest =>
          rintro a' w2 ⟨m2, k2, rfl⟩
          have HS2 := hide m2
          have KS2 := hide ((unhide KS).trans k2 (Or.inl rfl))
          clear m2 k2
          go_frame
          go_wp2_with fail
          go_roundg (h - i)
          case measure => omega
          case rel => exact ⟨i, h, rfl, rfl, hi, by omega, by omega, by omega, HS2, hide ⟨(unhide HI).1, fun x x1 x2 => (by
            have k := tq_yes (q := fun y => (F y).p) (unhide HL)
            by_cases e : x = h
            · subst e; exact k
            · exact (whole_TQ _).tr _ _ _ k ((unhide HM).l h x (by omega) (by omega) x2))⟩, KS2⟩
      · have HL := hide (Int.not_lt.1 hl)
        clear hl
        go_wp2_with fail
        refine wp_leaves (fun a0 a' w' => SoR w' g cap n F (d) ∧ Kept g wr w' ∧ a' = ((((((((((((a0.put (some 92) (.func (.func 26) #[] #[])).put (some 93) (.slice (some ⟨g, 0, none⟩) n cap)).put (some 94) (.int .i64 ((m : Int)))).put (some 95) (.pointer (some ⟨g, (m) * 5, none⟩))).put (some 96) (lcV (F (d (m))))).put (some 97) (.slice (some ⟨g, 0, none⟩) n cap)).put (some 98) (.int .i64 ((h : Int)))).put (some 99) (.pointer (some ⟨g, (h) * 5, none⟩))).put (some 100) (lcV (F (d (h))))).put (some 101) (.int .i64 (cmpP (F (d (m))).p (F (d (h))).p))).put (some 102) (.bool false)).put (some 103) (.bool true))) ?reg ?rest
        case reg =>
          intro A eA
          have b0 : A.eval (.tmp 0) = (.slice (some ⟨g, 0, none⟩) n cap) := by rw [eA]; rfl
          have b2 : A.eval (.tmp 2) = (.int .i64 ((m : Int))) := by rw [eA]; rfl
          have b4 : A.eval (.tmp 4) = (.func (.func 26) #[] #[]) := by rw [eA]; rfl
          have b16 : A.eval (.tmp 16) = (.int .i64 ((h : Int))) := by rw [eA]; rfl
          have hs : 220 ≤ A.tmps.size := by rw [eA]; exact of_decide_eq_true rfl
          clear eA
          have hS : SoR wr.drew g cap n F (d) := unhide HS
          refine region_J (S := fun W => SoR W g cap n F (d)) (.mv 0 (.mv 1 (.mv 2 (.mv 3 (.rd 4 (.mv 5 (.mv 6 (.mv 7 (.rd 8 (.go 9 (.mv 10 (.mv 11 .fin)))))))))))) [] (by kernel_rfl) (by kernel_rfl) ?_
          refine sJ_mv (v := (.func (.func 26) #[] #[])) rfl (fun _ _ _ h => absurd h.1 (fun e => nomatch e)) (wanted_rd rfl) (fun wx => run_move (.tmp 4) rfl b4 wx) ?_
          show SeqJ _ _ _ _ _ _ (Act.put _ (some 92) _) _
          refine sJ_mv (v := (.slice (some ⟨g, 0, none⟩) n cap)) rfl (fun _ _ _ h => absurd h.1 (fun e => nomatch e)) (wanted_rd rfl) (fun wx => run_move (.tmp 0) rfl ((ev_other _ _ (by decide)).trans b0) wx) ?_
          show SeqJ _ _ _ _ _ _ (Act.put _ (some 93) _) _
          refine sJ_mv (v := (.int .i64 ((m : Int)))) rfl (fun _ _ _ h => absurd h.1 (fun e => nomatch e)) (wanted_rd rfl) (fun wx => run_move (.tmp 2) rfl ((ev_other _ _ (by decide)).trans ((ev_other _ _ (by decide)).trans b2)) wx) ?_
          show SeqJ _ _ _ _ _ _ (Act.put _ (some 94) _) _
          refine sJ_mv (v := (.pointer (some ⟨g, (m) * 5, none⟩))) rfl (fun _ _ _ h => absurd h.1 (fun e => nomatch e)) (wanted_rd rfl) (fun wx => run_ixR (i := m) (.tmp 93) (.tmp 94) rfl ((ev_other _ _ (by decide)).trans (ev_same _ _ _ (by simp only [sz_put]; omega))) (ev_same _ _ _ (by simp only [sz_put]; omega)) (by omega) (by omega) wx) ?_
          show SeqJ _ _ _ _ _ _ (Act.put _ (some 95) _) _
          refine sJ_read (v := (lcV (F (d (m))))) rfl (fun _ _ _ h => absurd h.1 (fun e => nomatch e)) (wanted_rd rfl) hS (fun wx hx => run_lodR (.tmp 95) rfl (ev_same _ _ _ (by simp only [sz_put]; omega)) hx (by omega)) ?_
          show SeqJ _ _ _ _ _ _ (Act.put _ (some 96) _) _
          refine sJ_mv (v := (.slice (some ⟨g, 0, none⟩) n cap)) rfl (fun _ _ _ h => absurd h.1 (fun e => nomatch e)) (wanted_rd rfl) (fun wx => run_move (.tmp 0) rfl ((ev_other _ _ (by decide)).trans ((ev_other _ _ (by decide)).trans ((ev_other _ _ (by decide)).trans ((ev_other _ _ (by decide)).trans ((ev_other _ _ (by decide)).trans b0))))) wx) ?_
          show SeqJ _ _ _ _ _ _ (Act.put _ (some 97) _) _
          refine sJ_mv (v := (.int .i64 ((h : Int)))) rfl (fun _ _ _ h => absurd h.1 (fun e => nomatch e)) (wanted_rd rfl) (fun wx => run_move (.tmp 16) rfl ((ev_other _ _ (by decide)).trans ((ev_other _ _ (by decide)).trans ((ev_other _ _ (by decide)).trans ((ev_other _ _ (by decide)).trans ((ev_other _ _ (by decide)).trans ((ev_other _ _ (by decide)).trans b16)))))) wx) ?_
          show SeqJ _ _ _ _ _ _ (Act.put _ (some 98) _) _
          refine sJ_mv (v := (.pointer (some ⟨g, (h) * 5, none⟩))) rfl (fun _ _ _ h => absurd h.1 (fun e => nomatch e)) (wanted_rd rfl) (fun wx => run_ixR (i := h) (.tmp 97) (.tmp 98) rfl ((ev_other _ _ (by decide)).trans (ev_same _ _ _ (by simp only [sz_put]; omega))) (ev_same _ _ _ (by simp only [sz_put]; omega)) (by omega) (by omega) wx) ?_
          show SeqJ _ _ _ _ _ _ (Act.put _ (some 99) _) _
          refine sJ_read (v := (lcV (F (d (h))))) rfl (fun _ _ _ h => absurd h.1 (fun e => nomatch e)) (wanted_rd rfl) hS (fun wx hx => run_lodR (.tmp 99) rfl (ev_same _ _ _ (by simp only [sz_put]; omega)) hx (by omega)) ?_
          show SeqJ _ _ _ _ _ _ (Act.put _ (some 100) _) _
          refine sJ_do rfl (wanted_rd rfl) (fun K hK => ?_)
          refine wp_callV _ (.tmp 92) (.tmp 96) (.tmp 100) _ rfl ((ev_other _ _ (by decide)).trans ((ev_other _ _ (by decide)).trans ((ev_other _ _ (by decide)).trans ((ev_other _ _ (by decide)).trans ((ev_other _ _ (by decide)).trans ((ev_other _ _ (by decide)).trans ((ev_other _ _ (by decide)).trans ((ev_other _ _ (by decide)).trans (ev_same _ _ _ (by omega)))))))))) ((ev_other _ _ (by decide)).trans ((ev_other _ _ (by decide)).trans ((ev_other _ _ (by decide)).trans ((ev_other _ _ (by decide)).trans (ev_same _ _ _ (by simp only [sz_put]; omega)))))) (ev_same _ _ _ (by simp only [sz_put]; omega)) (busCmp_any (F (d (m))).p (F (d (h))).p _ _ _ _ _ _ _) ?_
          rintro e w1 ⟨rfl, k1⟩
          have h1 := hS.below k1
          refine ⟨_, rfl, ?_⟩
          refine hK _ _ (fun _ _ => h1) ?_
          clear hK K
          show SeqJ _ _ _ _ _ _ (Act.put _ (some 101) _) _
          refine sJ_mv (v := (.bool false)) rfl (fun _ _ _ h => absurd h.1 (fun e => nomatch e)) (wanted_rd rfl) (fun wx => run_ltP (.tmp 101) (.const (.int .i64 0)) rfl (ev_same _ _ _ (by simp only [sz_put]; omega)) rfl (decide_eq_false (Int.not_lt.2 (unhide HL))) wx) ?_
          show SeqJ _ _ _ _ _ _ (Act.put _ (some 102) _) _
          refine sJ_mv (v := (.bool true)) rfl (fun _ _ _ h => absurd h.1 (fun e => nomatch e)) (wanted_rd rfl) (fun wx => run_notB (.tmp 102) _ rfl (ev_same _ _ _ (by simp only [sz_put]; omega)) wx) ?_
          show SeqJ _ _ _ _ _ _ (Act.put _ (some 103) _) _
          exact sJ_end ⟨rfl, h1, Kept.of_below (show Below wr.heap.size wr w1 from (below_drew (Below.refl _ _)).trans k1), rfl⟩
        case rest =>
          rintro a' w2 ⟨m2, k2, rfl⟩
          have HS2 := hide m2
          have KS2 := hide ((unhide KS).trans k2 (Or.inl rfl))
          clear m2 k2
          go_frame
          go_wp2_with fail
          go_roundg (j - (h + 1))
          case measure => omega
          case rel => exact ⟨h + 1, j, by go_num, rfl, by omega, by omega, hj, by omega, HS2, hide ⟨fun x x1 x2 => (by
            have k := tq_no (q := fun y => (F y).p) ((unhide HM).x h m (by omega) (by omega) (by omega) h2) (Int.not_lt.2 (unhide HL))
            by_cases e : x = h
            · subst e; exact k
            · exact (whole_TQ _).tr _ _ _ ((unhide HM).l x h x1 (by omega) (by omega)) k), (unhide HI).2⟩, KS2⟩
    · have hltz : ¬ (i : Int) < (j : Int) := by omega
      obtain ⟨i2, j2⟩ : i ≤ j ∧ j ≤ i := by omega
      go_wp2_with fail
      go_loopg [17] (m - i) (fun r s13 wr => ∃ k : Nat, s13 = .int .i64 (k : Int) ∧ i ≤ k ∧ k ≤ m ∧ k - i ≤ r ∧ Hid (SoR wr g cap n F (rotD d k m (m + 1))) ∧ Hid (Kept g w wr))
      case atStart => exact ⟨m, rfl, by omega, by omega, by omega, hide (by rw [rotD_none (Or.inl rfl) (by omega) (by omega)]; exact unhide HS), KS⟩
      case round =>
        clear HS KS
        obtain ⟨k, rfl, hk1, hk2, hr2, HS, KS⟩ := hrel
        by_cases hkl : i < k
        · have hklz : (i : Int) < (k : Int) := by omega
          go_wp2_with fail
          refine wp_leaves (fun a0 a' w' => SoR w' g cap n F (swD (rotD d k m (m + 1)) k (k - 1)) ∧ Kept g wr w' ∧ a' = ((((((((((((((((a0.put (some 113) (.slice (some ⟨g, 0, none⟩) n cap)).put (some 114) (.int .i64 ((k : Int)))).put (some 115) (.slice (some ⟨g, 0, none⟩) n cap)).put (some 116) (.int .i64 ((k : Int)))).put (some 117) (.int .i64 ((k : Int) - 1))).put (some 118) (.slice (some ⟨g, 0, none⟩) n cap)).put (some 119) (.int .i64 ((k : Int)))).put (some 120) (.int .i64 ((k : Int) - 1))).put (some 121) (.pointer (some ⟨g, (k - 1) * 5, none⟩))).put (some 122) (lcV (F ((rotD d k m (m + 1)) (k - 1))))).put (some 123) (.slice (some ⟨g, 0, none⟩) n cap)).put (some 124) (.int .i64 ((k : Int)))).put (some 125) (.pointer (some ⟨g, (k) * 5, none⟩))).put (some 126) (lcV (F ((rotD d k m (m + 1)) (k))))).put (some 127) (.pointer (some ⟨g, (k) * 5, none⟩))).put (some 128) (.pointer (some ⟨g, (k - 1) * 5, none⟩)))) ?reg ?rest
          case reg =>
            intro A eA
            have b0 : A.eval (.tmp 0) = (.slice (some ⟨g, 0, none⟩) n cap) := by rw [eA]; rfl
            have b17 : A.eval (.tmp 17) = (.int .i64 ((k : Int))) := by rw [eA]; rfl
            have hs : 220 ≤ A.tmps.size := by rw [eA]; exact of_decide_eq_true rfl
            clear eA
            have hS : SoR wr.drew g cap n F ((rotD d k m (m + 1))) := unhide HS
            refine region_J (S := fun W => SoR W g cap n F ((rotD d k m (m + 1)))) (.mv 0 (.mv 1 (.mv 2 (.mv 3 (.mv 4 (.mv 5 (.mv 6 (.mv 7 (.mv 8 (.rd 9 (.mv 10 (.mv 11 (.mv 12 (.rd 13 (.mv 14 (.go 15 (.mv 16 (.go 17 .fin)))))))))))))))))) [15, 17] (by kernel_rfl) (by kernel_rfl) ?_
            refine sJ_mv (v := (.slice (some ⟨g, 0, none⟩) n cap)) rfl (fun _ _ _ h => absurd h.1 (fun e => nomatch e)) (wanted_rd rfl) (fun wx => run_move (.tmp 0) rfl b0 wx) ?_
            show SeqJ _ _ _ _ _ _ (Act.put _ (some 113) _) _
            refine sJ_mv (v := (.int .i64 ((k : Int)))) rfl (fun _ _ _ h => absurd h.1 (fun e => nomatch e)) (wanted_rd rfl) (fun wx => run_move (.tmp 17) rfl ((ev_other _ _ (by decide)).trans b17) wx) ?_
            show SeqJ _ _ _ _ _ _ (Act.put _ (some 114) _) _
            refine sJ_mv (v := (.slice (some ⟨g, 0, none⟩) n cap)) rfl (fun _ _ _ h => absurd h.1 (fun e => nomatch e)) (wanted_rd rfl) (fun wx => run_move (.tmp 0) rfl ((ev_other _ _ (by decide)).trans ((ev_other _ _ (by decide)).trans b0)) wx) ?_
            show SeqJ _ _ _ _ _ _ (Act.put _ (some 115) _) _
            refine sJ_mv (v := (.int .i64 ((k : Int)))) rfl (fun _ _ _ h => absurd h.1 (fun e => nomatch e)) (wanted_rd rfl) (fun wx => run_move (.tmp 17) rfl ((ev_other _ _ (by decide)).trans ((ev_other _ _ (by decide)).trans ((ev_other _ _ (by decide)).trans b17))) wx) ?_
            show SeqJ _ _ _ _ _ _ (Act.put _ (some 116) _) _
            refine sJ_mv (v := (.int .i64 ((k : Int) - 1))) rfl (fun _ _ _ h => absurd h.1 (fun e => nomatch e)) (wanted_rd rfl) (fun wx => run_subP (.tmp 116) (.const (.int .i64 1)) rfl (ev_same _ _ _ (by simp only [sz_put]; omega)) rfl (by omega) (by omega) wx) ?_
            show SeqJ _ _ _ _ _ _ (Act.put _ (some 117) _) _
            refine sJ_mv (v := (.slice (some ⟨g, 0, none⟩) n cap)) rfl (fun _ _ _ h => absurd h.1 (fun e => nomatch e)) (wanted_rd rfl) (fun wx => run_move (.tmp 0) rfl ((ev_other _ _ (by decide)).trans ((ev_other _ _ (by decide)).trans ((ev_other _ _ (by decide)).trans ((ev_other _ _ (by decide)).trans ((ev_other _ _ (by decide)).trans b0))))) wx) ?_
            show SeqJ _ _ _ _ _ _ (Act.put _ (some 118) _) _
            refine sJ_mv (v := (.int .i64 ((k : Int)))) rfl (fun _ _ _ h => absurd h.1 (fun e => nomatch e)) (wanted_rd rfl) (fun wx => run_move (.tmp 17) rfl ((ev_other _ _ (by decide)).trans ((ev_other _ _ (by decide)).trans ((ev_other _ _ (by decide)).trans ((ev_other _ _ (by decide)).trans ((ev_other _ _ (by decide)).trans ((ev_other _ _ (by decide)).trans b17)))))) wx) ?_
            show SeqJ _ _ _ _ _ _ (Act.put _ (some 119) _) _
            refine sJ_mv (v := (.int .i64 ((k : Int) - 1))) rfl (fun _ _ _ h => absurd h.1 (fun e => nomatch e)) (wanted_rd rfl) (fun wx => run_subP (.tmp 119) (.const (.int .i64 1)) rfl (ev_same _ _ _ (by simp only [sz_put]; omega)) rfl (by omega) (by omega) wx) ?_
            show SeqJ _ _ _ _ _ _ (Act.put _ (some 120) _) _
            refine sJ_mv (v := (.pointer (some ⟨g, (k - 1) * 5, none⟩))) rfl (fun _ _ _ h => absurd h.1 (fun e => nomatch e)) (wanted_rd rfl) (fun wx => run_ixR (i := k - 1) (.tmp 118) (.tmp 120) rfl ((ev_other _ _ (by decide)).trans ((ev_other _ _ (by decide)).trans (ev_same _ _ _ (by simp only [sz_put]; omega)))) (ev_same _ _ _ (by simp only [sz_put]; omega)) (by omega) (by omega) wx) ?_
            show SeqJ _ _ _ _ _ _ (Act.put _ (some 121) _) _
            refine sJ_read (v := (lcV (F ((rotD d k m (m + 1)) (k - 1))))) rfl (fun _ _ _ h => absurd h.1 (fun e => nomatch e)) (wanted_rd rfl) hS (fun wx hx => run_lodR (.tmp 121) rfl (ev_same _ _ _ (by simp only [sz_put]; omega)) hx (by omega)) ?_
            show SeqJ _ _ _ _ _ _ (Act.put _ (some 122) _) _
            refine sJ_mv (v := (.slice (some ⟨g, 0, none⟩) n cap)) rfl (fun _ _ _ h => absurd h.1 (fun e => nomatch e)) (wanted_rd rfl) (fun wx => run_move (.tmp 0) rfl ((ev_other _ _ (by decide)).trans ((ev_other _ _ (by decide)).trans ((ev_other _ _ (by decide)).trans ((ev_other _ _ (by decide)).trans ((ev_other _ _ (by decide)).trans ((ev_other _ _ (by decide)).trans ((ev_other _ _ (by decide)).trans ((ev_other _ _ (by decide)).trans ((ev_other _ _ (by decide)).trans ((ev_other _ _ (by decide)).trans b0)))))))))) wx) ?_
            show SeqJ _ _ _ _ _ _ (Act.put _ (some 123) _) _
            refine sJ_mv (v := (.int .i64 ((k : Int)))) rfl (fun _ _ _ h => absurd h.1 (fun e => nomatch e)) (wanted_rd rfl) (fun wx => run_move (.tmp 17) rfl ((ev_other _ _ (by decide)).trans ((ev_other _ _ (by decide)).trans ((ev_other _ _ (by decide)).trans ((ev_other _ _ (by decide)).trans ((ev_other _ _ (by decide)).trans ((ev_other _ _ (by decide)).trans ((ev_other _ _ (by decide)).trans ((ev_other _ _ (by decide)).trans ((ev_other _ _ (by decide)).trans ((ev_other _ _ (by decide)).trans ((ev_other _ _ (by decide)).trans b17))))))))))) wx) ?_
            show SeqJ _ _ _ _ _ _ (Act.put _ (some 124) _) _
            refine sJ_mv (v := (.pointer (some ⟨g, (k) * 5, none⟩))) rfl (fun _ _ _ h => absurd h.1 (fun e => nomatch e)) (wanted_rd rfl) (fun wx => run_ixR (i := k) (.tmp 123) (.tmp 124) rfl ((ev_other _ _ (by decide)).trans (ev_same _ _ _ (by simp only [sz_put]; omega))) (ev_same _ _ _ (by simp only [sz_put]; omega)) (by omega) (by omega) wx) ?_
            show SeqJ _ _ _ _ _ _ (Act.put _ (some 125) _) _
            refine sJ_read (v := (lcV (F ((rotD d k m (m + 1)) (k))))) rfl (fun _ _ _ h => absurd h.1 (fun e => nomatch e)) (wanted_rd rfl) hS (fun wx hx => run_lodR (.tmp 125) rfl (ev_same _ _ _ (by simp only [sz_put]; omega)) hx (by omega)) ?_
            show SeqJ _ _ _ _ _ _ (Act.put _ (some 126) _) _
            refine sJ_mv (v := (.pointer (some ⟨g, (k) * 5, none⟩))) rfl (fun _ _ _ h => absurd h.1 (fun e => nomatch e)) (wanted_rd rfl) (fun wx => run_ixR (i := k) (.tmp 113) (.tmp 114) rfl ((ev_other _ _ (by decide)).trans ((ev_other _ _ (by decide)).trans ((ev_other _ _ (by decide)).trans ((ev_other _ _ (by decide)).trans ((ev_other _ _ (by decide)).trans ((ev_other _ _ (by decide)).trans ((ev_other _ _ (by decide)).trans ((ev_other _ _ (by decide)).trans ((ev_other _ _ (by decide)).trans ((ev_other _ _ (by decide)).trans ((ev_other _ _ (by decide)).trans ((ev_other _ _ (by decide)).trans ((ev_other _ _ (by decide)).trans (ev_same _ _ _ (by omega))))))))))))))) ((ev_other _ _ (by decide)).trans ((ev_other _ _ (by decide)).trans ((ev_other _ _ (by decide)).trans ((ev_other _ _ (by decide)).trans ((ev_other _ _ (by decide)).trans ((ev_other _ _ (by decide)).trans ((ev_other _ _ (by decide)).trans ((ev_other _ _ (by decide)).trans ((ev_other _ _ (by decide)).trans ((ev_other _ _ (by decide)).trans ((ev_other _ _ (by decide)).trans ((ev_other _ _ (by decide)).trans (ev_same _ _ _ (by simp only [sz_put]; omega)))))))))))))) (by omega) (by omega) wx) ?_
            show SeqJ _ _ _ _ _ _ (Act.put _ (some 127) _) _
            refine sJ_do rfl (wanted_rd rfl) (fun K hK => ?_)
            refine wp_storeR _ (.tmp 127) (.tmp 122) rfl (ev_same _ _ _ (by simp only [sz_put]; omega)) ((ev_other _ _ (by decide)).trans ((ev_other _ _ (by decide)).trans ((ev_other _ _ (by decide)).trans ((ev_other _ _ (by decide)).trans ((ev_other _ _ (by decide)).trans (ev_same _ _ _ (by simp only [sz_put]; omega))))))) hS (by omega) rfl ?_
            intro w1 m1 k1 z1
            refine hK _ _ (fun h => absurd h (by decide)) ?_
            clear hK K
            refine sJ_mv (v := (.pointer (some ⟨g, (k - 1) * 5, none⟩))) rfl (fun _ _ _ h => absurd h.1 (fun e => nomatch e)) (wanted_rd rfl) (fun wx => run_ixR (i := k - 1) (.tmp 115) (.tmp 117) rfl ((ev_other _ _ (by decide)).trans ((ev_other _ _ (by decide)).trans ((ev_other _ _ (by decide)).trans ((ev_other _ _ (by decide)).trans ((ev_other _ _ (by decide)).trans ((ev_other _ _ (by decide)).trans ((ev_other _ _ (by decide)).trans ((ev_other _ _ (by decide)).trans ((ev_other _ _ (by decide)).trans ((ev_other _ _ (by decide)).trans ((ev_other _ _ (by decide)).trans ((ev_other _ _ (by decide)).trans (ev_same _ _ _ (by simp only [sz_put]; omega)))))))))))))) ((ev_other _ _ (by decide)).trans ((ev_other _ _ (by decide)).trans ((ev_other _ _ (by decide)).trans ((ev_other _ _ (by decide)).trans ((ev_other _ _ (by decide)).trans ((ev_other _ _ (by decide)).trans ((ev_other _ _ (by decide)).trans ((ev_other _ _ (by decide)).trans ((ev_other _ _ (by decide)).trans ((ev_other _ _ (by decide)).trans (ev_same _ _ _ (by simp only [sz_put]; omega)))))))))))) (by omega) (by omega) wx) ?_
            show SeqJ _ _ _ _ _ _ (Act.put _ (some 128) _) _
            refine sJ_do rfl (wanted_rd rfl) (fun K hK => ?_)
            refine wp_storeR _ (.tmp 128) (.tmp 126) rfl (ev_same _ _ _ (by simp only [sz_put]; omega)) ((ev_other _ _ (by decide)).trans ((ev_other _ _ (by decide)).trans (ev_same _ _ _ (by simp only [sz_put]; omega)))) m1 (by omega) rfl ?_
            intro w2 m2 k2 z2
            refine hK _ _ (fun h => absurd h (by decide)) ?_
            clear hK K
            have m3 := m2
            rw [upD_two] at m3
            exact sJ_end ⟨rfl, m3, ((Kept.of_below (show Below wr.heap.size wr wr.drew from (below_drew (Below.refl _ _)))).trans k1 (Or.inl rfl)).trans k2 (Or.inl rfl), rfl⟩
          case rest =>
            rintro a' w2 ⟨m2, k2, rfl⟩
            have HS2 := hide m2
            have KS2 := hide ((unhide KS).trans k2 (Or.inl rfl))
            clear m2 k2
            go_frame
            go_wp2_with fail
            go_roundg (k - 1 - i)
            case measure => omega
            case rel => exact ⟨k - 1, by first | rfl | (congr 1; omega), by omega, by omega, by omega, hide (by rw [← rot_one_j (by omega) (by omega)]; exact unhide HS2), KS2⟩
        · have hklz : ¬ (i : Int) < (k : Int) := by omega
          go_wp2_with fail
          refine bodyPost_ret (results_none (fn := Try.f33) rfl _ _ _) rfl ?_
          have hmm : Mg (TQ fun y => (F y).p) d a m (m + 1) := by rw [show m + 1 = b by omega]; exact unhide HM
          have q := mg_last hmm (i := i) (by omega) (by omega) (fun x x1 x2 => (unhide HI).1 x x1 x2) (fun x x1 x2 => (unhide HI).2 x (by omega) x2)
          rw [show m + 1 = b by omega] at q
          exact ⟨rfl, _, q.1, q.2, by rw [← show m + 1 = b by omega, show i = k by omega]; exact unhide HS, unhide KS⟩

end Go.Proofs.Ythjeedlhlkggkab
