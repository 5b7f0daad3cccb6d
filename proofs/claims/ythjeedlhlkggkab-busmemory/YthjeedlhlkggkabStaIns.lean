/- slices.insertionSortCmpFunc at parcels: those alike stay as they stood. -/
import Derived.Test.YthjeedlhlkggkabStaSwp
namespace Go.Proofs.Ythjeedlhlkggkab
open Go.RowKit

theorem rot_one_j {d : Nat → Nat} {j m : Nat} (h : 0 < j) (k : j ≤ m) : swD (rotD d j m (m + 1)) j (j - 1) = rotD d (j - 1) m (m + 1) := by
  have := rot_one' (d := d) (k := j - 1) (m := m) (by omega)
  rwa [show j - 1 + 1 = j by omega] at this
set_option maxHeartbeats 4000000 in
set_option maxRecDepth 100000 in
theorem insertion_any (g cap n : Nat) (F : Nat → Lp) (d : Nat → Nat) (a b : Nat) (w : World) (h : SoR w g cap n F d) (h1 : a ≤ b) (h2 : b ≤ n) (hn : n ≤ 2513169434843) (hd : ∀ x y, a ≤ x → x < y → y < b → d x < d y) :
    Calls Try.prog 32 #[.slice (some ⟨g, 0, none⟩) n cap, .int .i64 (a : Int), .int .i64 (b : Int), (.func (.func 26) #[] #[])] w fun e w' => e = .returned (.tuple #[]) ∧ ∃ e : Nat → Nat, Same a b d e ∧ SoT (TQ fun y => (F y).p) e a b ∧ SoR w' g cap n F e ∧ Kept g w w' := by
  have HH := hide h
  have HD := hide hd
  clear h hd
  go_enter Try.func32, Try.ntmps32
  go_wp2_with fail
  go_loopg [8] (b - a) (fun r s8 wr => ∃ (i : Nat) (dk : Nat → Nat), s8 = .int .i64 (i : Int) ∧ a < i ∧ i ≤ b + 1 ∧ (i ≤ b ∨ b ≤ a) ∧ b - i ≤ r ∧ Hid (SoR wr g cap n F dk) ∧ Hid ((b ≤ a → dk = d) ∧ (i ≤ b → Same a i d dk ∧ SoT (TQ fun y => (F y).p) dk a i)) ∧ Hid (Kept g w wr))
  case atStart => exact ⟨a + 1, d, by go_num, by omega, by omega, by omega, by omega, HH, hide ⟨fun _ => rfl, fun _ => ⟨Same.refl _ _ _, SoT.none (by omega)⟩⟩, hide (Kept.of_below (Below.refl _ _))⟩
  case round =>
    obtain ⟨i, dk, rfl, hai, hib, hib2, hr, HS, HI, KS⟩ := hrel
    by_cases hlt : i < b
    · have hltz : (i : Int) < (b : Int) := by omega
      have hsi : Same a i d dk ∧ SoT (TQ fun y => (F y).p) dk a i := (unhide HI).2 (by omega)
      have hdi : dk i = d i := hsi.1.out i (by omega)
      have hx : ∀ x, a ≤ x → x < i → dk x < dk i := fun x x1 x2 => by
        obtain ⟨y, y1, y2, ey⟩ := hsi.1.of x x1 x2
        rw [ey, hdi]
        exact unhide HD y i y1 y2 hlt
      have HM : Hid (Mg (TQ fun y => (F y).p) dk a i (i + 1)) := hide ⟨hsi.2, SoT.none (by omega), fun x y x1 x2 y1 y2 => by rw [show y = i by omega]; exact hx x x1 x2⟩
      have HSI := hide hsi; have HX := hide hx
      clear hsi hdi hx
      go_wp2_with fail
      go_loopg [9] i (fun r2 s9 wr => ∃ j : Nat, s9 = .int .i64 (j : Int) ∧ a ≤ j ∧ j ≤ i ∧ j ≤ r2 ∧ Hid (SoR wr g cap n F (rotD dk j i (i + 1))) ∧ Hid (∀ x, j ≤ x → x < i → TQ (fun y => (F y).p) (dk i) (dk x)) ∧ Hid (Kept g w wr))
      case atStart => exact ⟨i, rfl, by omega, by omega, by omega, hide (by rw [rotD_none (Or.inl rfl) (by omega) (by omega)]; exact unhide HS), hide (fun x x1 x2 => by omega), KS⟩
      case round =>
        clear HS KS
        obtain ⟨j, rfl, haj, hji, hr2, HS, HT, KS⟩ := hrel
        have EA : Hid (rotD dk j i (i + 1) j = dk i) := hide (by rw [rotD_l (by omega) (by omega)]; congr 1; omega)
        have OUT : Hid ((j ≤ a ∨ 0 ≤ cmpP (F (rotD dk j i (i + 1) j)).p (F (rotD dk j i (i + 1) (j - 1))).p) → (b ≤ a → rotD dk j i (i + 1) = d) ∧ (i + 1 ≤ b → Same a (i + 1) d (rotD dk j i (i + 1)) ∧ SoT (TQ fun y => (F y).p) (rotD dk j i (i + 1)) a (i + 1))) := hide (fun hs => ⟨fun hb => by omega, fun _ => by
          have q := mg_last (unhide HM) haj hji (fun x x1 x2 => ?_) (unhide HT)
          · exact ⟨((unhide HSI).1.wide (Nat.le_refl _) (by omega)).trans q.1, q.2⟩
          · rcases hs with hs | hs
            · omega
            · have eb : rotD dk j i (i + 1) (j - 1) = dk (j - 1) := rotD_o (by omega) (by omega) (by omega)
              rw [unhide EA, eb] at hs
              have k := tq_no (q := fun y => (F y).p) (unhide HX (j - 1) (by omega) (by omega)) (Int.not_lt.2 hs)
              by_cases e : x = j - 1
              · subst e; exact k
              · exact (whole_TQ _).tr _ _ _ ((unhide HSI).2 x (j - 1) x1 (by omega) (by omega)) k⟩)
        by_cases hja : a < j
        · have hjaz : (a : Int) < (j : Int) := by omega
          have EB : Hid (rotD dk j i (i + 1) (j - 1) = dk (j - 1)) := hide (rotD_o (by omega) (by omega) (by omega))
          by_cases hl : cmpP (F (rotD dk j i (i + 1) j)).p (F (rotD dk j i (i + 1) (j - 1))).p < 0
          · have HL := hide hl
            clear hl
            go_wp2_with fail
            refine wp_leaves (fun a0 a' w' => SoR w' g cap n F ((rotD dk j i (i + 1))) ∧ Kept g wr w' ∧ a' = (((((((((((((((((a0.put (some 18) (.int .i64 ((j : Int)))).put (some 19) (.int .i64 ((a : Int)))).put (some 20) (.bool true)).put (some 21) (.bool true)).put (some 22) (.func (.func 26) #[] #[])).put (some 23) (.slice (some ⟨g, 0, none⟩) n cap)).put (some 24) (.int .i64 ((j : Int)))).put (some 25) (.pointer (some ⟨g, (j) * 5, none⟩))).put (some 26) (lcV (F ((rotD dk j i (i + 1)) (j))))).put (some 27) (.slice (some ⟨g, 0, none⟩) n cap)).put (some 28) (.int .i64 ((j : Int)))).put (some 29) (.int .i64 ((j : Int) - 1))).put (some 30) (.pointer (some ⟨g, (j - 1) * 5, none⟩))).put (some 31) (lcV (F ((rotD dk j i (i + 1)) (j - 1))))).put (some 32) (.int .i64 (cmpP (F ((rotD dk j i (i + 1)) (j))).p (F ((rotD dk j i (i + 1)) (j - 1))).p))).put (some 33) (.bool true)).put (some 34) (.bool true))) ?reg ?rest
            case reg =>
              intro A eA
              have b0 : A.eval (.tmp 0) = (.slice (some ⟨g, 0, none⟩) n cap) := by rw [eA]; rfl
              have b1 : A.eval (.tmp 1) = (.int .i64 ((a : Int))) := by rw [eA]; rfl
              have b3 : A.eval (.tmp 3) = (.func (.func 26) #[] #[]) := by rw [eA]; rfl
              have b9 : A.eval (.tmp 9) = (.int .i64 ((j : Int))) := by rw [eA]; rfl
              have hs : 53 ≤ A.tmps.size := by rw [eA]; exact of_decide_eq_true rfl
              clear eA
              have hS : SoR wr.drew g cap n F ((rotD dk j i (i + 1))) := unhide HS
              refine region_J (S := fun W => SoR W g cap n F ((rotD dk j i (i + 1)))) (.mv 0 (.mv 1 (.mv 2 (.mv 3 (.mv 4 (.mv 5 (.mv 6 (.mv 7 (.rd 8 (.mv 9 (.mv 10 (.mv 11 (.mv 12 (.rd 13 (.go 14 (.mv 15 (.mv 16 .fin))))))))))))))))) [] (by kernel_rfl) (by kernel_rfl) ?_
              refine sJ_mv (v := (.int .i64 ((j : Int)))) rfl (fun _ _ _ h => absurd h.1 (fun e => nomatch e)) (wanted_rd rfl) (fun wx => run_move (.tmp 9) rfl b9 wx) ?_
              show SeqJ _ _ _ _ _ _ (Act.put _ (some 18) _) _
              refine sJ_mv (v := (.int .i64 ((a : Int)))) rfl (fun _ _ _ h => absurd h.1 (fun e => nomatch e)) (wanted_rd rfl) (fun wx => run_move (.tmp 1) rfl ((ev_other _ _ (by decide)).trans b1) wx) ?_
              show SeqJ _ _ _ _ _ _ (Act.put _ (some 19) _) _
              refine sJ_mv (v := (.bool true)) rfl (fun _ _ _ h => absurd h.1 (fun e => nomatch e)) (wanted_rd rfl) (fun wx => run_gtP (.tmp 18) (.tmp 19) rfl ((ev_other _ _ (by decide)).trans (ev_same _ _ _ (by omega))) (ev_same _ _ _ (by simp only [sz_put]; omega)) (decide_eq_true (by omega)) wx) ?_
              show SeqJ _ _ _ _ _ _ (Act.put _ (some 20) _) _
              refine sJ_mv (v := (.bool true)) rfl (fun _ _ _ h => absurd h.1 (fun e => nomatch e)) (wanted_rd rfl) (fun wx => run_move (.tmp 20) rfl (ev_same _ _ _ (by simp only [sz_put]; omega)) wx) ?_
              show SeqJ _ _ _ _ _ _ (Act.put _ (some 21) _) _
              refine sJ_mv (v := (.func (.func 26) #[] #[])) rfl (fun _ _ _ h => absurd h.1 (fun e => nomatch e)) (wanted_g (j := 3) rfl rfl rfl (ev_same _ _ _ (by simp only [sz_put]; omega))) (fun wx => run_move (.tmp 3) rfl ((ev_other _ _ (by decide)).trans ((ev_other _ _ (by decide)).trans ((ev_other _ _ (by decide)).trans ((ev_other _ _ (by decide)).trans b3)))) wx) ?_
              show SeqJ _ _ _ _ _ _ (Act.put _ (some 22) _) _
              refine sJ_mv (v := (.slice (some ⟨g, 0, none⟩) n cap)) rfl (fun _ _ _ h => absurd h.1 (fun e => nomatch e)) (wanted_g (j := 3) rfl rfl rfl ((ev_other _ _ (by decide)).trans (ev_same _ _ _ (by simp only [sz_put]; omega)))) (fun wx => run_move (.tmp 0) rfl ((ev_other _ _ (by decide)).trans ((ev_other _ _ (by decide)).trans ((ev_other _ _ (by decide)).trans ((ev_other _ _ (by decide)).trans ((ev_other _ _ (by decide)).trans b0))))) wx) ?_
              show SeqJ _ _ _ _ _ _ (Act.put _ (some 23) _) _
              refine sJ_mv (v := (.int .i64 ((j : Int)))) rfl (fun _ _ _ h => absurd h.1 (fun e => nomatch e)) (wanted_g (j := 3) rfl rfl rfl ((ev_other _ _ (by decide)).trans ((ev_other _ _ (by decide)).trans (ev_same _ _ _ (by simp only [sz_put]; omega))))) (fun wx => run_move (.tmp 9) rfl ((ev_other _ _ (by decide)).trans ((ev_other _ _ (by decide)).trans ((ev_other _ _ (by decide)).trans ((ev_other _ _ (by decide)).trans ((ev_other _ _ (by decide)).trans ((ev_other _ _ (by decide)).trans b9)))))) wx) ?_
              show SeqJ _ _ _ _ _ _ (Act.put _ (some 24) _) _
              refine sJ_mv (v := (.pointer (some ⟨g, (j) * 5, none⟩))) rfl (fun _ _ _ h => absurd h.1 (fun e => nomatch e)) (wanted_g (j := 3) rfl rfl rfl ((ev_other _ _ (by decide)).trans ((ev_other _ _ (by decide)).trans ((ev_other _ _ (by decide)).trans (ev_same _ _ _ (by simp only [sz_put]; omega)))))) (fun wx => run_ixR (i := j) (.tmp 23) (.tmp 24) rfl ((ev_other _ _ (by decide)).trans (ev_same _ _ _ (by simp only [sz_put]; omega))) (ev_same _ _ _ (by simp only [sz_put]; omega)) (by omega) (by omega) wx) ?_
              show SeqJ _ _ _ _ _ _ (Act.put _ (some 25) _) _
              refine sJ_read (v := (lcV (F ((rotD dk j i (i + 1)) (j))))) rfl (fun _ _ _ h => absurd h.1 (fun e => nomatch e)) (wanted_g (j := 3) rfl rfl rfl ((ev_other _ _ (by decide)).trans ((ev_other _ _ (by decide)).trans ((ev_other _ _ (by decide)).trans ((ev_other _ _ (by decide)).trans (ev_same _ _ _ (by simp only [sz_put]; omega))))))) hS (fun wx hx => run_lodR (.tmp 25) rfl (ev_same _ _ _ (by simp only [sz_put]; omega)) hx (by omega)) ?_
              show SeqJ _ _ _ _ _ _ (Act.put _ (some 26) _) _
              refine sJ_mv (v := (.slice (some ⟨g, 0, none⟩) n cap)) rfl (fun _ _ _ h => absurd h.1 (fun e => nomatch e)) (wanted_g (j := 3) rfl rfl rfl ((ev_other _ _ (by decide)).trans ((ev_other _ _ (by decide)).trans ((ev_other _ _ (by decide)).trans ((ev_other _ _ (by decide)).trans ((ev_other _ _ (by decide)).trans (ev_same _ _ _ (by simp only [sz_put]; omega)))))))) (fun wx => run_move (.tmp 0) rfl ((ev_other _ _ (by decide)).trans ((ev_other _ _ (by decide)).trans ((ev_other _ _ (by decide)).trans ((ev_other _ _ (by decide)).trans ((ev_other _ _ (by decide)).trans ((ev_other _ _ (by decide)).trans ((ev_other _ _ (by decide)).trans ((ev_other _ _ (by decide)).trans ((ev_other _ _ (by decide)).trans b0))))))))) wx) ?_
              show SeqJ _ _ _ _ _ _ (Act.put _ (some 27) _) _
              refine sJ_mv (v := (.int .i64 ((j : Int)))) rfl (fun _ _ _ h => absurd h.1 (fun e => nomatch e)) (wanted_g (j := 3) rfl rfl rfl ((ev_other _ _ (by decide)).trans ((ev_other _ _ (by decide)).trans ((ev_other _ _ (by decide)).trans ((ev_other _ _ (by decide)).trans ((ev_other _ _ (by decide)).trans ((ev_other _ _ (by decide)).trans (ev_same _ _ _ (by simp only [sz_put]; omega))))))))) (fun wx => run_move (.tmp 9) rfl ((ev_other _ _ (by decide)).trans ((ev_other _ _ (by decide)).trans ((ev_other _ _ (by decide)).trans ((ev_other _ _ (by decide)).trans ((ev_other _ _ (by decide)).trans ((ev_other _ _ (by decide)).trans ((ev_other _ _ (by decide)).trans ((ev_other _ _ (by decide)).trans ((ev_other _ _ (by decide)).trans ((ev_other _ _ (by decide)).trans b9)))))))))) wx) ?_
              show SeqJ _ _ _ _ _ _ (Act.put _ (some 28) _) _
              refine sJ_mv (v := (.int .i64 ((j : Int) - 1))) rfl (fun _ _ _ h => absurd h.1 (fun e => nomatch e)) (wanted_g (j := 3) rfl rfl rfl ((ev_other _ _ (by decide)).trans ((ev_other _ _ (by decide)).trans ((ev_other _ _ (by decide)).trans ((ev_other _ _ (by decide)).trans ((ev_other _ _ (by decide)).trans ((ev_other _ _ (by decide)).trans ((ev_other _ _ (by decide)).trans (ev_same _ _ _ (by simp only [sz_put]; omega)))))))))) (fun wx => run_subP (.tmp 28) (.const (.int .i64 1)) rfl (ev_same _ _ _ (by simp only [sz_put]; omega)) rfl (by omega) (by omega) wx) ?_
              show SeqJ _ _ _ _ _ _ (Act.put _ (some 29) _) _
              refine sJ_mv (v := (.pointer (some ⟨g, (j - 1) * 5, none⟩))) rfl (fun _ _ _ h => absurd h.1 (fun e => nomatch e)) (wanted_g (j := 3) rfl rfl rfl ((ev_other _ _ (by decide)).trans ((ev_other _ _ (by decide)).trans ((ev_other _ _ (by decide)).trans ((ev_other _ _ (by decide)).trans ((ev_other _ _ (by decide)).trans ((ev_other _ _ (by decide)).trans ((ev_other _ _ (by decide)).trans ((ev_other _ _ (by decide)).trans (ev_same _ _ _ (by simp only [sz_put]; omega))))))))))) (fun wx => run_ixR (i := j - 1) (.tmp 27) (.tmp 29) rfl ((ev_other _ _ (by decide)).trans ((ev_other _ _ (by decide)).trans (ev_same _ _ _ (by simp only [sz_put]; omega)))) (ev_same _ _ _ (by simp only [sz_put]; omega)) (by omega) (by omega) wx) ?_
              show SeqJ _ _ _ _ _ _ (Act.put _ (some 30) _) _
              refine sJ_read (v := (lcV (F ((rotD dk j i (i + 1)) (j - 1))))) rfl (fun _ _ _ h => absurd h.1 (fun e => nomatch e)) (wanted_g (j := 3) rfl rfl rfl ((ev_other _ _ (by decide)).trans ((ev_other _ _ (by decide)).trans ((ev_other _ _ (by decide)).trans ((ev_other _ _ (by decide)).trans ((ev_other _ _ (by decide)).trans ((ev_other _ _ (by decide)).trans ((ev_other _ _ (by decide)).trans ((ev_other _ _ (by decide)).trans ((ev_other _ _ (by decide)).trans (ev_same _ _ _ (by simp only [sz_put]; omega)))))))))))) hS (fun wx hx => run_lodR (.tmp 30) rfl (ev_same _ _ _ (by simp only [sz_put]; omega)) hx (by omega)) ?_
              show SeqJ _ _ _ _ _ _ (Act.put _ (some 31) _) _
              refine sJ_do rfl (wanted_g (j := 3) rfl rfl rfl ((ev_other _ _ (by decide)).trans ((ev_other _ _ (by decide)).trans ((ev_other _ _ (by decide)).trans ((ev_other _ _ (by decide)).trans ((ev_other _ _ (by decide)).trans ((ev_other _ _ (by decide)).trans ((ev_other _ _ (by decide)).trans ((ev_other _ _ (by decide)).trans ((ev_other _ _ (by decide)).trans ((ev_other _ _ (by decide)).trans (ev_same _ _ _ (by simp only [sz_put]; omega))))))))))))) (fun K hK => ?_)
              refine wp_callV _ (.tmp 22) (.tmp 26) (.tmp 31) _ rfl ((ev_other _ _ (by decide)).trans ((ev_other _ _ (by decide)).trans ((ev_other _ _ (by decide)).trans ((ev_other _ _ (by decide)).trans ((ev_other _ _ (by decide)).trans ((ev_other _ _ (by decide)).trans ((ev_other _ _ (by decide)).trans ((ev_other _ _ (by decide)).trans ((ev_other _ _ (by decide)).trans (ev_same _ _ _ (by simp only [sz_put]; omega))))))))))) ((ev_other _ _ (by decide)).trans ((ev_other _ _ (by decide)).trans ((ev_other _ _ (by decide)).trans ((ev_other _ _ (by decide)).trans ((ev_other _ _ (by decide)).trans (ev_same _ _ _ (by simp only [sz_put]; omega))))))) (ev_same _ _ _ (by simp only [sz_put]; omega)) (busCmp_any (F ((rotD dk j i (i + 1)) (j))).p (F ((rotD dk j i (i + 1)) (j - 1))).p _ _ _ _ _ _ _) ?_
              rintro e w1 ⟨rfl, k1⟩
              have h1 := hS.below k1
              refine ⟨_, rfl, ?_⟩
              refine hK _ _ (fun _ _ => h1) ?_
              clear hK K
              show SeqJ _ _ _ _ _ _ (Act.put _ (some 32) _) _
              refine sJ_mv (v := (.bool true)) rfl (fun _ _ _ h => absurd h.1 (fun e => nomatch e)) (wanted_g (j := 3) rfl rfl rfl ((ev_other _ _ (by decide)).trans ((ev_other _ _ (by decide)).trans ((ev_other _ _ (by decide)).trans ((ev_other _ _ (by decide)).trans ((ev_other _ _ (by decide)).trans ((ev_other _ _ (by decide)).trans ((ev_other _ _ (by decide)).trans ((ev_other _ _ (by decide)).trans ((ev_other _ _ (by decide)).trans ((ev_other _ _ (by decide)).trans ((ev_other _ _ (by decide)).trans (ev_same _ _ _ (by simp only [sz_put]; omega)))))))))))))) (fun wx => run_ltP (.tmp 32) (.const (.int .i64 0)) rfl (ev_same _ _ _ (by simp only [sz_put]; omega)) rfl (decide_eq_true (unhide HL)) wx) ?_
              show SeqJ _ _ _ _ _ _ (Act.put _ (some 33) _) _
              refine sJ_mv (v := (.bool true)) rfl (fun _ _ _ h => absurd h.1 (fun e => nomatch e)) (wanted_rd rfl) (fun wx => run_pickT' (.tmp 21) (.tmp 33) (.const (.bool false)) rfl ((ev_other _ _ (by decide)).trans ((ev_other _ _ (by decide)).trans ((ev_other _ _ (by decide)).trans ((ev_other _ _ (by decide)).trans ((ev_other _ _ (by decide)).trans ((ev_other _ _ (by decide)).trans ((ev_other _ _ (by decide)).trans ((ev_other _ _ (by decide)).trans ((ev_other _ _ (by decide)).trans ((ev_other _ _ (by decide)).trans ((ev_other _ _ (by decide)).trans ((ev_other _ _ (by decide)).trans (ev_same _ _ _ (by simp only [sz_put]; omega)))))))))))))) (ev_same _ _ _ (by simp only [sz_put]; omega)) wx) ?_
              show SeqJ _ _ _ _ _ _ (Act.put _ (some 34) _) _
              exact sJ_end ⟨rfl, h1, Kept.of_below (show Below wr.heap.size wr w1 from (below_drew (Below.refl _ _)).trans k1), rfl⟩
            case rest =>
              rintro a' w5 ⟨m2, k2, rfl⟩
              have HS5 := hide m2
              have KS5 := hide ((unhide KS).trans k2 (Or.inl rfl))
              clear m2 k2
              go_frame
              go_wp2_with fail
              refine wp_leaves (fun a0 a' w' => SoR w' g cap n F (swD (rotD dk j i (i + 1)) j (j - 1)) ∧ Kept g w5 w' ∧ a' = ((((((((((((((((a0.put (some 37) (.slice (some ⟨g, 0, none⟩) n cap)).put (some 38) (.int .i64 ((j : Int)))).put (some 39) (.slice (some ⟨g, 0, none⟩) n cap)).put (some 40) (.int .i64 ((j : Int)))).put (some 41) (.int .i64 ((j : Int) - 1))).put (some 42) (.slice (some ⟨g, 0, none⟩) n cap)).put (some 43) (.int .i64 ((j : Int)))).put (some 44) (.int .i64 ((j : Int) - 1))).put (some 45) (.pointer (some ⟨g, (j - 1) * 5, none⟩))).put (some 46) (lcV (F ((rotD dk j i (i + 1)) (j - 1))))).put (some 47) (.slice (some ⟨g, 0, none⟩) n cap)).put (some 48) (.int .i64 ((j : Int)))).put (some 49) (.pointer (some ⟨g, (j) * 5, none⟩))).put (some 50) (lcV (F ((rotD dk j i (i + 1)) (j))))).put (some 51) (.pointer (some ⟨g, (j) * 5, none⟩))).put (some 52) (.pointer (some ⟨g, (j - 1) * 5, none⟩)))) ?reg ?rest
              case reg =>
                intro A eA
                have b0 : A.eval (.tmp 0) = (.slice (some ⟨g, 0, none⟩) n cap) := by rw [eA]; rfl
                have b9 : A.eval (.tmp 9) = (.int .i64 ((j : Int))) := by rw [eA]; rfl
                have hs : 53 ≤ A.tmps.size := by rw [eA]; exact of_decide_eq_true rfl
                clear eA
                have hS : SoR w5.drew g cap n F ((rotD dk j i (i + 1))) := unhide HS5
                refine region_J (S := fun W => SoR W g cap n F ((rotD dk j i (i + 1)))) (.mv 0 (.mv 1 (.mv 2 (.mv 3 (.mv 4 (.mv 5 (.mv 6 (.mv 7 (.mv 8 (.rd 9 (.mv 10 (.mv 11 (.mv 12 (.rd 13 (.mv 14 (.go 15 (.mv 16 (.go 17 .fin)))))))))))))))))) [15, 17] (by kernel_rfl) (by kernel_rfl) ?_
                refine sJ_mv (v := (.slice (some ⟨g, 0, none⟩) n cap)) rfl (fun _ _ _ h => absurd h.1 (fun e => nomatch e)) (wanted_rd rfl) (fun wx => run_move (.tmp 0) rfl b0 wx) ?_
                show SeqJ _ _ _ _ _ _ (Act.put _ (some 37) _) _
                refine sJ_mv (v := (.int .i64 ((j : Int)))) rfl (fun _ _ _ h => absurd h.1 (fun e => nomatch e)) (wanted_rd rfl) (fun wx => run_move (.tmp 9) rfl ((ev_other _ _ (by decide)).trans b9) wx) ?_
                show SeqJ _ _ _ _ _ _ (Act.put _ (some 38) _) _
                refine sJ_mv (v := (.slice (some ⟨g, 0, none⟩) n cap)) rfl (fun _ _ _ h => absurd h.1 (fun e => nomatch e)) (wanted_rd rfl) (fun wx => run_move (.tmp 0) rfl ((ev_other _ _ (by decide)).trans ((ev_other _ _ (by decide)).trans b0)) wx) ?_
                show SeqJ _ _ _ _ _ _ (Act.put _ (some 39) _) _
                refine sJ_mv (v := (.int .i64 ((j : Int)))) rfl (fun _ _ _ h => absurd h.1 (fun e => nomatch e)) (wanted_rd rfl) (fun wx => run_move (.tmp 9) rfl ((ev_other _ _ (by decide)).trans ((ev_other _ _ (by decide)).trans ((ev_other _ _ (by decide)).trans b9))) wx) ?_
                show SeqJ _ _ _ _ _ _ (Act.put _ (some 40) _) _
                refine sJ_mv (v := (.int .i64 ((j : Int) - 1))) rfl (fun _ _ _ h => absurd h.1 (fun e => nomatch e)) (wanted_rd rfl) (fun wx => run_subP (.tmp 40) (.const (.int .i64 1)) rfl (ev_same _ _ _ (by simp only [sz_put]; omega)) rfl (by omega) (by omega) wx) ?_
                show SeqJ _ _ _ _ _ _ (Act.put _ (some 41) _) _
                refine sJ_mv (v := (.slice (some ⟨g, 0, none⟩) n cap)) rfl (fun _ _ _ h => absurd h.1 (fun e => nomatch e)) (wanted_rd rfl) (fun wx => run_move (.tmp 0) rfl ((ev_other _ _ (by decide)).trans ((ev_other _ _ (by decide)).trans ((ev_other _ _ (by decide)).trans ((ev_other _ _ (by decide)).trans ((ev_other _ _ (by decide)).trans b0))))) wx) ?_
                show SeqJ _ _ _ _ _ _ (Act.put _ (some 42) _) _
                refine sJ_mv (v := (.int .i64 ((j : Int)))) rfl (fun _ _ _ h => absurd h.1 (fun e => nomatch e)) (wanted_rd rfl) (fun wx => run_move (.tmp 9) rfl ((ev_other _ _ (by decide)).trans ((ev_other _ _ (by decide)).trans ((ev_other _ _ (by decide)).trans ((ev_other _ _ (by decide)).trans ((ev_other _ _ (by decide)).trans ((ev_other _ _ (by decide)).trans b9)))))) wx) ?_
                show SeqJ _ _ _ _ _ _ (Act.put _ (some 43) _) _
                refine sJ_mv (v := (.int .i64 ((j : Int) - 1))) rfl (fun _ _ _ h => absurd h.1 (fun e => nomatch e)) (wanted_rd rfl) (fun wx => run_subP (.tmp 43) (.const (.int .i64 1)) rfl (ev_same _ _ _ (by simp only [sz_put]; omega)) rfl (by omega) (by omega) wx) ?_
                show SeqJ _ _ _ _ _ _ (Act.put _ (some 44) _) _
                refine sJ_mv (v := (.pointer (some ⟨g, (j - 1) * 5, none⟩))) rfl (fun _ _ _ h => absurd h.1 (fun e => nomatch e)) (wanted_rd rfl) (fun wx => run_ixR (i := j - 1) (.tmp 42) (.tmp 44) rfl ((ev_other _ _ (by decide)).trans ((ev_other _ _ (by decide)).trans (ev_same _ _ _ (by simp only [sz_put]; omega)))) (ev_same _ _ _ (by simp only [sz_put]; omega)) (by omega) (by omega) wx) ?_
                show SeqJ _ _ _ _ _ _ (Act.put _ (some 45) _) _
                refine sJ_read (v := (lcV (F ((rotD dk j i (i + 1)) (j - 1))))) rfl (fun _ _ _ h => absurd h.1 (fun e => nomatch e)) (wanted_rd rfl) hS (fun wx hx => run_lodR (.tmp 45) rfl (ev_same _ _ _ (by simp only [sz_put]; omega)) hx (by omega)) ?_
                show SeqJ _ _ _ _ _ _ (Act.put _ (some 46) _) _
                refine sJ_mv (v := (.slice (some ⟨g, 0, none⟩) n cap)) rfl (fun _ _ _ h => absurd h.1 (fun e => nomatch e)) (wanted_rd rfl) (fun wx => run_move (.tmp 0) rfl ((ev_other _ _ (by decide)).trans ((ev_other _ _ (by decide)).trans ((ev_other _ _ (by decide)).trans ((ev_other _ _ (by decide)).trans ((ev_other _ _ (by decide)).trans ((ev_other _ _ (by decide)).trans ((ev_other _ _ (by decide)).trans ((ev_other _ _ (by decide)).trans ((ev_other _ _ (by decide)).trans ((ev_other _ _ (by decide)).trans b0)))))))))) wx) ?_
                show SeqJ _ _ _ _ _ _ (Act.put _ (some 47) _) _
                refine sJ_mv (v := (.int .i64 ((j : Int)))) rfl (fun _ _ _ h => absurd h.1 (fun e => nomatch e)) (wanted_rd rfl) (fun wx => run_move (.tmp 9) rfl ((ev_other _ _ (by decide)).trans ((ev_other _ _ (by decide)).trans ((ev_other _ _ (by decide)).trans ((ev_other _ _ (by decide)).trans ((ev_other _ _ (by decide)).trans ((ev_other _ _ (by decide)).trans ((ev_other _ _ (by decide)).trans ((ev_other _ _ (by decide)).trans ((ev_other _ _ (by decide)).trans ((ev_other _ _ (by decide)).trans ((ev_other _ _ (by decide)).trans b9))))))))))) wx) ?_
                show SeqJ _ _ _ _ _ _ (Act.put _ (some 48) _) _
                refine sJ_mv (v := (.pointer (some ⟨g, (j) * 5, none⟩))) rfl (fun _ _ _ h => absurd h.1 (fun e => nomatch e)) (wanted_rd rfl) (fun wx => run_ixR (i := j) (.tmp 47) (.tmp 48) rfl ((ev_other _ _ (by decide)).trans (ev_same _ _ _ (by simp only [sz_put]; omega))) (ev_same _ _ _ (by simp only [sz_put]; omega)) (by omega) (by omega) wx) ?_
                show SeqJ _ _ _ _ _ _ (Act.put _ (some 49) _) _
                refine sJ_read (v := (lcV (F ((rotD dk j i (i + 1)) (j))))) rfl (fun _ _ _ h => absurd h.1 (fun e => nomatch e)) (wanted_rd rfl) hS (fun wx hx => run_lodR (.tmp 49) rfl (ev_same _ _ _ (by simp only [sz_put]; omega)) hx (by omega)) ?_
                show SeqJ _ _ _ _ _ _ (Act.put _ (some 50) _) _
                refine sJ_mv (v := (.pointer (some ⟨g, (j) * 5, none⟩))) rfl (fun _ _ _ h => absurd h.1 (fun e => nomatch e)) (wanted_rd rfl) (fun wx => run_ixR (i := j) (.tmp 37) (.tmp 38) rfl ((ev_other _ _ (by decide)).trans ((ev_other _ _ (by decide)).trans ((ev_other _ _ (by decide)).trans ((ev_other _ _ (by decide)).trans ((ev_other _ _ (by decide)).trans ((ev_other _ _ (by decide)).trans ((ev_other _ _ (by decide)).trans ((ev_other _ _ (by decide)).trans ((ev_other _ _ (by decide)).trans ((ev_other _ _ (by decide)).trans ((ev_other _ _ (by decide)).trans ((ev_other _ _ (by decide)).trans ((ev_other _ _ (by decide)).trans (ev_same _ _ _ (by omega))))))))))))))) ((ev_other _ _ (by decide)).trans ((ev_other _ _ (by decide)).trans ((ev_other _ _ (by decide)).trans ((ev_other _ _ (by decide)).trans ((ev_other _ _ (by decide)).trans ((ev_other _ _ (by decide)).trans ((ev_other _ _ (by decide)).trans ((ev_other _ _ (by decide)).trans ((ev_other _ _ (by decide)).trans ((ev_other _ _ (by decide)).trans ((ev_other _ _ (by decide)).trans ((ev_other _ _ (by decide)).trans (ev_same _ _ _ (by simp only [sz_put]; omega)))))))))))))) (by omega) (by omega) wx) ?_
                show SeqJ _ _ _ _ _ _ (Act.put _ (some 51) _) _
                refine sJ_do rfl (wanted_rd rfl) (fun K hK => ?_)
                refine wp_storeR _ (.tmp 51) (.tmp 46) rfl (ev_same _ _ _ (by simp only [sz_put]; omega)) ((ev_other _ _ (by decide)).trans ((ev_other _ _ (by decide)).trans ((ev_other _ _ (by decide)).trans ((ev_other _ _ (by decide)).trans ((ev_other _ _ (by decide)).trans (ev_same _ _ _ (by simp only [sz_put]; omega))))))) hS (by omega) rfl ?_
                intro w1 m1 k1 z1
                refine hK _ _ (fun h => absurd h (by decide)) ?_
                clear hK K
                refine sJ_mv (v := (.pointer (some ⟨g, (j - 1) * 5, none⟩))) rfl (fun _ _ _ h => absurd h.1 (fun e => nomatch e)) (wanted_rd rfl) (fun wx => run_ixR (i := j - 1) (.tmp 39) (.tmp 41) rfl ((ev_other _ _ (by decide)).trans ((ev_other _ _ (by decide)).trans ((ev_other _ _ (by decide)).trans ((ev_other _ _ (by decide)).trans ((ev_other _ _ (by decide)).trans ((ev_other _ _ (by decide)).trans ((ev_other _ _ (by decide)).trans ((ev_other _ _ (by decide)).trans ((ev_other _ _ (by decide)).trans ((ev_other _ _ (by decide)).trans ((ev_other _ _ (by decide)).trans ((ev_other _ _ (by decide)).trans (ev_same _ _ _ (by simp only [sz_put]; omega)))))))))))))) ((ev_other _ _ (by decide)).trans ((ev_other _ _ (by decide)).trans ((ev_other _ _ (by decide)).trans ((ev_other _ _ (by decide)).trans ((ev_other _ _ (by decide)).trans ((ev_other _ _ (by decide)).trans ((ev_other _ _ (by decide)).trans ((ev_other _ _ (by decide)).trans ((ev_other _ _ (by decide)).trans ((ev_other _ _ (by decide)).trans (ev_same _ _ _ (by simp only [sz_put]; omega)))))))))))) (by omega) (by omega) wx) ?_
                show SeqJ _ _ _ _ _ _ (Act.put _ (some 52) _) _
                refine sJ_do rfl (wanted_rd rfl) (fun K hK => ?_)
                refine wp_storeR _ (.tmp 52) (.tmp 50) rfl (ev_same _ _ _ (by simp only [sz_put]; omega)) ((ev_other _ _ (by decide)).trans ((ev_other _ _ (by decide)).trans (ev_same _ _ _ (by simp only [sz_put]; omega)))) m1 (by omega) rfl ?_
                intro w2 m2 k2 z2
                refine hK _ _ (fun h => absurd h (by decide)) ?_
                clear hK K
                have m3 := m2
                rw [upD_two] at m3
                exact sJ_end ⟨rfl, m3, ((Kept.of_below (show Below w5.heap.size w5 w5.drew from (below_drew (Below.refl _ _)))).trans k1 (Or.inl rfl)).trans k2 (Or.inl rfl), rfl⟩
              case rest =>
                rintro a' w6 ⟨m2, k2, rfl⟩
                have HS6 := hide m2
                have KS6 := hide ((unhide KS5).trans k2 (Or.inl rfl))
                clear m2 k2
                go_frame
                go_wp2_with fail
                go_roundg (j - 1)
                case measure => omega
                case rel => exact ⟨j - 1, by first | rfl | (congr 1; omega), by omega, by omega, by omega, hide (by rw [← rot_one_j (by omega) (by omega)]; exact unhide HS6), hide (fun x x1 x2 => (by
                  by_cases e : x = j - 1
                  · subst e
                    have := tq_yes (q := fun y => (F y).p) (unhide HL)
                    rw [unhide EA, unhide EB] at this
                    exact this
                  · exact unhide HT x (by omega) x2)), KS6⟩
          · have HL := hide (Int.not_lt.1 hl)
            clear hl
            go_wp2_with fail
            refine wp_leaves (fun a0 a' w' => SoR w' g cap n F ((rotD dk j i (i + 1))) ∧ Kept g wr w' ∧ a' = (((((((((((((((((a0.put (some 18) (.int .i64 ((j : Int)))).put (some 19) (.int .i64 ((a : Int)))).put (some 20) (.bool true)).put (some 21) (.bool true)).put (some 22) (.func (.func 26) #[] #[])).put (some 23) (.slice (some ⟨g, 0, none⟩) n cap)).put (some 24) (.int .i64 ((j : Int)))).put (some 25) (.pointer (some ⟨g, (j) * 5, none⟩))).put (some 26) (lcV (F ((rotD dk j i (i + 1)) (j))))).put (some 27) (.slice (some ⟨g, 0, none⟩) n cap)).put (some 28) (.int .i64 ((j : Int)))).put (some 29) (.int .i64 ((j : Int) - 1))).put (some 30) (.pointer (some ⟨g, (j - 1) * 5, none⟩))).put (some 31) (lcV (F ((rotD dk j i (i + 1)) (j - 1))))).put (some 32) (.int .i64 (cmpP (F ((rotD dk j i (i + 1)) (j))).p (F ((rotD dk j i (i + 1)) (j - 1))).p))).put (some 33) (.bool false)).put (some 34) (.bool false))) ?reg ?rest
            case reg =>
              intro A eA
              have b0 : A.eval (.tmp 0) = (.slice (some ⟨g, 0, none⟩) n cap) := by rw [eA]; rfl
              have b1 : A.eval (.tmp 1) = (.int .i64 ((a : Int))) := by rw [eA]; rfl
              have b3 : A.eval (.tmp 3) = (.func (.func 26) #[] #[]) := by rw [eA]; rfl
              have b9 : A.eval (.tmp 9) = (.int .i64 ((j : Int))) := by rw [eA]; rfl
              have hs : 53 ≤ A.tmps.size := by rw [eA]; exact of_decide_eq_true rfl
              clear eA
              have hS : SoR wr.drew g cap n F ((rotD dk j i (i + 1))) := unhide HS
              refine region_J (S := fun W => SoR W g cap n F ((rotD dk j i (i + 1)))) (.mv 0 (.mv 1 (.mv 2 (.mv 3 (.mv 4 (.mv 5 (.mv 6 (.mv 7 (.rd 8 (.mv 9 (.mv 10 (.mv 11 (.mv 12 (.rd 13 (.go 14 (.mv 15 (.mv 16 .fin))))))))))))))))) [] (by kernel_rfl) (by kernel_rfl) ?_
              refine sJ_mv (v := (.int .i64 ((j : Int)))) rfl (fun _ _ _ h => absurd h.1 (fun e => nomatch e)) (wanted_rd rfl) (fun wx => run_move (.tmp 9) rfl b9 wx) ?_
              show SeqJ _ _ _ _ _ _ (Act.put _ (some 18) _) _
              refine sJ_mv (v := (.int .i64 ((a : Int)))) rfl (fun _ _ _ h => absurd h.1 (fun e => nomatch e)) (wanted_rd rfl) (fun wx => run_move (.tmp 1) rfl ((ev_other _ _ (by decide)).trans b1) wx) ?_
              show SeqJ _ _ _ _ _ _ (Act.put _ (some 19) _) _
              refine sJ_mv (v := (.bool true)) rfl (fun _ _ _ h => absurd h.1 (fun e => nomatch e)) (wanted_rd rfl) (fun wx => run_gtP (.tmp 18) (.tmp 19) rfl ((ev_other _ _ (by decide)).trans (ev_same _ _ _ (by omega))) (ev_same _ _ _ (by simp only [sz_put]; omega)) (decide_eq_true (by omega)) wx) ?_
              show SeqJ _ _ _ _ _ _ (Act.put _ (some 20) _) _
              refine sJ_mv (v := (.bool true)) rfl (fun _ _ _ h => absurd h.1 (fun e => nomatch e)) (wanted_rd rfl) (fun wx => run_move (.tmp 20) rfl (ev_same _ _ _ (by simp only [sz_put]; omega)) wx) ?_
              show SeqJ _ _ _ _ _ _ (Act.put _ (some 21) _) _
              refine sJ_mv (v := (.func (.func 26) #[] #[])) rfl (fun _ _ _ h => absurd h.1 (fun e => nomatch e)) (wanted_g (j := 3) rfl rfl rfl (ev_same _ _ _ (by simp only [sz_put]; omega))) (fun wx => run_move (.tmp 3) rfl ((ev_other _ _ (by decide)).trans ((ev_other _ _ (by decide)).trans ((ev_other _ _ (by decide)).trans ((ev_other _ _ (by decide)).trans b3)))) wx) ?_
              show SeqJ _ _ _ _ _ _ (Act.put _ (some 22) _) _
              refine sJ_mv (v := (.slice (some ⟨g, 0, none⟩) n cap)) rfl (fun _ _ _ h => absurd h.1 (fun e => nomatch e)) (wanted_g (j := 3) rfl rfl rfl ((ev_other _ _ (by decide)).trans (ev_same _ _ _ (by simp only [sz_put]; omega)))) (fun wx => run_move (.tmp 0) rfl ((ev_other _ _ (by decide)).trans ((ev_other _ _ (by decide)).trans ((ev_other _ _ (by decide)).trans ((ev_other _ _ (by decide)).trans ((ev_other _ _ (by decide)).trans b0))))) wx) ?_
              show SeqJ _ _ _ _ _ _ (Act.put _ (some 23) _) _
              refine sJ_mv (v := (.int .i64 ((j : Int)))) rfl (fun _ _ _ h => absurd h.1 (fun e => nomatch e)) (wanted_g (j := 3) rfl rfl rfl ((ev_other _ _ (by decide)).trans ((ev_other _ _ (by decide)).trans (ev_same _ _ _ (by simp only [sz_put]; omega))))) (fun wx => run_move (.tmp 9) rfl ((ev_other _ _ (by decide)).trans ((ev_other _ _ (by decide)).trans ((ev_other _ _ (by decide)).trans ((ev_other _ _ (by decide)).trans ((ev_other _ _ (by decide)).trans ((ev_other _ _ (by decide)).trans b9)))))) wx) ?_
              show SeqJ _ _ _ _ _ _ (Act.put _ (some 24) _) _
              refine sJ_mv (v := (.pointer (some ⟨g, (j) * 5, none⟩))) rfl (fun _ _ _ h => absurd h.1 (fun e => nomatch e)) (wanted_g (j := 3) rfl rfl rfl ((ev_other _ _ (by decide)).trans ((ev_other _ _ (by decide)).trans ((ev_other _ _ (by decide)).trans (ev_same _ _ _ (by simp only [sz_put]; omega)))))) (fun wx => run_ixR (i := j) (.tmp 23) (.tmp 24) rfl ((ev_other _ _ (by decide)).trans (ev_same _ _ _ (by simp only [sz_put]; omega))) (ev_same _ _ _ (by simp only [sz_put]; omega)) (by omega) (by omega) wx) ?_
              show SeqJ _ _ _ _ _ _ (Act.put _ (some 25) _) _
              refine sJ_read (v := (lcV (F ((rotD dk j i (i + 1)) (j))))) rfl (fun _ _ _ h => absurd h.1 (fun e => nomatch e)) (wanted_g (j := 3) rfl rfl rfl ((ev_other _ _ (by decide)).trans ((ev_other _ _ (by decide)).trans ((ev_other _ _ (by decide)).trans ((ev_other _ _ (by decide)).trans (ev_same _ _ _ (by simp only [sz_put]; omega))))))) hS (fun wx hx => run_lodR (.tmp 25) rfl (ev_same _ _ _ (by simp only [sz_put]; omega)) hx (by omega)) ?_
              show SeqJ _ _ _ _ _ _ (Act.put _ (some 26) _) _
              refine sJ_mv (v := (.slice (some ⟨g, 0, none⟩) n cap)) rfl (fun _ _ _ h => absurd h.1 (fun e => nomatch e)) (wanted_g (j := 3) rfl rfl rfl ((ev_other _ _ (by decide)).trans ((ev_other _ _ (by decide)).trans ((ev_other _ _ (by decide)).trans ((ev_other _ _ (by decide)).trans ((ev_other _ _ (by decide)).trans (ev_same _ _ _ (by simp only [sz_put]; omega)))))))) (fun wx => run_move (.tmp 0) rfl ((ev_other _ _ (by decide)).trans ((ev_other _ _ (by decide)).trans ((ev_other _ _ (by decide)).trans ((ev_other _ _ (by decide)).trans ((ev_other _ _ (by decide)).trans ((ev_other _ _ (by decide)).trans ((ev_other _ _ (by decide)).trans ((ev_other _ _ (by decide)).trans ((ev_other _ _ (by decide)).trans b0))))))))) wx) ?_
              show SeqJ _ _ _ _ _ _ (Act.put _ (some 27) _) _
              refine sJ_mv (v := (.int .i64 ((j : Int)))) rfl (fun _ _ _ h => absurd h.1 (fun e => nomatch e)) (wanted_g (j := 3) rfl rfl rfl ((ev_other _ _ (by decide)).trans ((ev_other _ _ (by decide)).trans ((ev_other _ _ (by decide)).trans ((ev_other _ _ (by decide)).trans ((ev_other _ _ (by decide)).trans ((ev_other _ _ (by decide)).trans (ev_same _ _ _ (by simp only [sz_put]; omega))))))))) (fun wx => run_move (.tmp 9) rfl ((ev_other _ _ (by decide)).trans ((ev_other _ _ (by decide)).trans ((ev_other _ _ (by decide)).trans ((ev_other _ _ (by decide)).trans ((ev_other _ _ (by decide)).trans ((ev_other _ _ (by decide)).trans ((ev_other _ _ (by decide)).trans ((ev_other _ _ (by decide)).trans ((ev_other _ _ (by decide)).trans ((ev_other _ _ (by decide)).trans b9)))))))))) wx) ?_
              show SeqJ _ _ _ _ _ _ (Act.put _ (some 28) _) _
              refine sJ_mv (v := (.int .i64 ((j : Int) - 1))) rfl (fun _ _ _ h => absurd h.1 (fun e => nomatch e)) (wanted_g (j := 3) rfl rfl rfl ((ev_other _ _ (by decide)).trans ((ev_other _ _ (by decide)).trans ((ev_other _ _ (by decide)).trans ((ev_other _ _ (by decide)).trans ((ev_other _ _ (by decide)).trans ((ev_other _ _ (by decide)).trans ((ev_other _ _ (by decide)).trans (ev_same _ _ _ (by simp only [sz_put]; omega)))))))))) (fun wx => run_subP (.tmp 28) (.const (.int .i64 1)) rfl (ev_same _ _ _ (by simp only [sz_put]; omega)) rfl (by omega) (by omega) wx) ?_
              show SeqJ _ _ _ _ _ _ (Act.put _ (some 29) _) _
              refine sJ_mv (v := (.pointer (some ⟨g, (j - 1) * 5, none⟩))) rfl (fun _ _ _ h => absurd h.1 (fun e => nomatch e)) (wanted_g (j := 3) rfl rfl rfl ((ev_other _ _ (by decide)).trans ((ev_other _ _ (by decide)).trans ((ev_other _ _ (by decide)).trans ((ev_other _ _ (by decide)).trans ((ev_other _ _ (by decide)).trans ((ev_other _ _ (by decide)).trans ((ev_other _ _ (by decide)).trans ((ev_other _ _ (by decide)).trans (ev_same _ _ _ (by simp only [sz_put]; omega))))))))))) (fun wx => run_ixR (i := j - 1) (.tmp 27) (.tmp 29) rfl ((ev_other _ _ (by decide)).trans ((ev_other _ _ (by decide)).trans (ev_same _ _ _ (by simp only [sz_put]; omega)))) (ev_same _ _ _ (by simp only [sz_put]; omega)) (by omega) (by omega) wx) ?_
              show SeqJ _ _ _ _ _ _ (Act.put _ (some 30) _) _
              refine sJ_read (v := (lcV (F ((rotD dk j i (i + 1)) (j - 1))))) rfl (fun _ _ _ h => absurd h.1 (fun e => nomatch e)) (wanted_g (j := 3) rfl rfl rfl ((ev_other _ _ (by decide)).trans ((ev_other _ _ (by decide)).trans ((ev_other _ _ (by decide)).trans ((ev_other _ _ (by decide)).trans ((ev_other _ _ (by decide)).trans ((ev_other _ _ (by decide)).trans ((ev_other _ _ (by decide)).trans ((ev_other _ _ (by decide)).trans ((ev_other _ _ (by decide)).trans (ev_same _ _ _ (by simp only [sz_put]; omega)))))))))))) hS (fun wx hx => run_lodR (.tmp 30) rfl (ev_same _ _ _ (by simp only [sz_put]; omega)) hx (by omega)) ?_
              show SeqJ _ _ _ _ _ _ (Act.put _ (some 31) _) _
              refine sJ_do rfl (wanted_g (j := 3) rfl rfl rfl ((ev_other _ _ (by decide)).trans ((ev_other _ _ (by decide)).trans ((ev_other _ _ (by decide)).trans ((ev_other _ _ (by decide)).trans ((ev_other _ _ (by decide)).trans ((ev_other _ _ (by decide)).trans ((ev_other _ _ (by decide)).trans ((ev_other _ _ (by decide)).trans ((ev_other _ _ (by decide)).trans ((ev_other _ _ (by decide)).trans (ev_same _ _ _ (by simp only [sz_put]; omega))))))))))))) (fun K hK => ?_)
              refine wp_callV _ (.tmp 22) (.tmp 26) (.tmp 31) _ rfl ((ev_other _ _ (by decide)).trans ((ev_other _ _ (by decide)).trans ((ev_other _ _ (by decide)).trans ((ev_other _ _ (by decide)).trans ((ev_other _ _ (by decide)).trans ((ev_other _ _ (by decide)).trans ((ev_other _ _ (by decide)).trans ((ev_other _ _ (by decide)).trans ((ev_other _ _ (by decide)).trans (ev_same _ _ _ (by simp only [sz_put]; omega))))))))))) ((ev_other _ _ (by decide)).trans ((ev_other _ _ (by decide)).trans ((ev_other _ _ (by decide)).trans ((ev_other _ _ (by decide)).trans ((ev_other _ _ (by decide)).trans (ev_same _ _ _ (by simp only [sz_put]; omega))))))) (ev_same _ _ _ (by simp only [sz_put]; omega)) (busCmp_any (F ((rotD dk j i (i + 1)) (j))).p (F ((rotD dk j i (i + 1)) (j - 1))).p _ _ _ _ _ _ _) ?_
              rintro e w1 ⟨rfl, k1⟩
              have h1 := hS.below k1
              refine ⟨_, rfl, ?_⟩
              refine hK _ _ (fun _ _ => h1) ?_
              clear hK K
              show SeqJ _ _ _ _ _ _ (Act.put _ (some 32) _) _
              refine sJ_mv (v := (.bool false)) rfl (fun _ _ _ h => absurd h.1 (fun e => nomatch e)) (wanted_g (j := 3) rfl rfl rfl ((ev_other _ _ (by decide)).trans ((ev_other _ _ (by decide)).trans ((ev_other _ _ (by decide)).trans ((ev_other _ _ (by decide)).trans ((ev_other _ _ (by decide)).trans ((ev_other _ _ (by decide)).trans ((ev_other _ _ (by decide)).trans ((ev_other _ _ (by decide)).trans ((ev_other _ _ (by decide)).trans ((ev_other _ _ (by decide)).trans ((ev_other _ _ (by decide)).trans (ev_same _ _ _ (by simp only [sz_put]; omega)))))))))))))) (fun wx => run_ltP (.tmp 32) (.const (.int .i64 0)) rfl (ev_same _ _ _ (by simp only [sz_put]; omega)) rfl (decide_eq_false (Int.not_lt.2 (unhide HL))) wx) ?_
              show SeqJ _ _ _ _ _ _ (Act.put _ (some 33) _) _
              refine sJ_mv (v := (.bool false)) rfl (fun _ _ _ h => absurd h.1 (fun e => nomatch e)) (wanted_rd rfl) (fun wx => run_pickT' (.tmp 21) (.tmp 33) (.const (.bool false)) rfl ((ev_other _ _ (by decide)).trans ((ev_other _ _ (by decide)).trans ((ev_other _ _ (by decide)).trans ((ev_other _ _ (by decide)).trans ((ev_other _ _ (by decide)).trans ((ev_other _ _ (by decide)).trans ((ev_other _ _ (by decide)).trans ((ev_other _ _ (by decide)).trans ((ev_other _ _ (by decide)).trans ((ev_other _ _ (by decide)).trans ((ev_other _ _ (by decide)).trans ((ev_other _ _ (by decide)).trans (ev_same _ _ _ (by simp only [sz_put]; omega)))))))))))))) (ev_same _ _ _ (by simp only [sz_put]; omega)) wx) ?_
              show SeqJ _ _ _ _ _ _ (Act.put _ (some 34) _) _
              exact sJ_end ⟨rfl, h1, Kept.of_below (show Below wr.heap.size wr w1 from (below_drew (Below.refl _ _)).trans k1), rfl⟩
            case rest =>
              rintro a' w2 ⟨m2, k2, rfl⟩
              have HS2 := hide m2
              have KS2 := hide ((unhide KS).trans k2 (Or.inl rfl))
              clear m2 k2
              go_frame
              go_wp2_with fail
              go_roundg (b - (i + 1))
              case measure => omega
              case rel => exact ⟨i + 1, _, by go_num, by omega, by omega, by omega, by omega, HS2, hide (unhide OUT (Or.inr (unhide HL))), KS2⟩
        · have hjaz : ¬ (a : Int) < (j : Int) := by omega
          go_wp2_with fail
          refine wp_leaves (fun a0 a' w' => SoR w' g cap n F ((rotD dk j i (i + 1))) ∧ Kept g wr w' ∧ a' = (((((((((((((((((a0.put (some 18) (.int .i64 ((j : Int)))).put (some 19) (.int .i64 ((a : Int)))).put (some 20) (.bool false)).put (some 21) (.bool false)).put (some 22) undef).put (some 23) undef).put (some 24) undef).put (some 25) undef).put (some 26) undef).put (some 27) undef).put (some 28) undef).put (some 29) undef).put (some 30) undef).put (some 31) undef).put (some 32) undef).put (some 33) undef).put (some 34) (.bool false))) ?reg ?rest
          case reg =>
            intro A eA
            have b1 : A.eval (.tmp 1) = (.int .i64 ((a : Int))) := by rw [eA]; rfl
            have b9 : A.eval (.tmp 9) = (.int .i64 ((j : Int))) := by rw [eA]; rfl
            have hs : 53 ≤ A.tmps.size := by rw [eA]; exact of_decide_eq_true rfl
            clear eA
            have hS : SoR wr.drew g cap n F ((rotD dk j i (i + 1))) := unhide HS
            refine region_J (S := fun W => SoR W g cap n F ((rotD dk j i (i + 1)))) (.mv 0 (.mv 1 (.mv 2 (.mv 3 (.mv 4 (.mv 5 (.mv 6 (.mv 7 (.mv 8 (.mv 9 (.mv 10 (.mv 11 (.mv 12 (.mv 13 (.mv 14 (.mv 15 (.mv 16 .fin))))))))))))))))) [] (by kernel_rfl) (by kernel_rfl) ?_
            refine sJ_mv (v := (.int .i64 ((j : Int)))) rfl (fun _ _ _ h => absurd h.1 (fun e => nomatch e)) (wanted_rd rfl) (fun wx => run_move (.tmp 9) rfl b9 wx) ?_
            show SeqJ _ _ _ _ _ _ (Act.put _ (some 18) _) _
            refine sJ_mv (v := (.int .i64 ((a : Int)))) rfl (fun _ _ _ h => absurd h.1 (fun e => nomatch e)) (wanted_rd rfl) (fun wx => run_move (.tmp 1) rfl ((ev_other _ _ (by decide)).trans b1) wx) ?_
            show SeqJ _ _ _ _ _ _ (Act.put _ (some 19) _) _
            refine sJ_mv (v := (.bool false)) rfl (fun _ _ _ h => absurd h.1 (fun e => nomatch e)) (wanted_rd rfl) (fun wx => run_gtP (.tmp 18) (.tmp 19) rfl ((ev_other _ _ (by decide)).trans (ev_same _ _ _ (by omega))) (ev_same _ _ _ (by simp only [sz_put]; omega)) (decide_eq_false (by omega)) wx) ?_
            show SeqJ _ _ _ _ _ _ (Act.put _ (some 20) _) _
            refine sJ_mv (v := (.bool false)) rfl (fun _ _ _ h => absurd h.1 (fun e => nomatch e)) (wanted_rd rfl) (fun wx => run_move (.tmp 20) rfl (ev_same _ _ _ (by simp only [sz_put]; omega)) wx) ?_
            show SeqJ _ _ _ _ _ _ (Act.put _ (some 21) _) _
            refine sJ_skip rfl (fun _ _ _ h => absurd h.1 (fun e => nomatch e)) (wanted_n (j := 3) rfl rfl rfl (ev_same _ _ _ (by simp only [sz_put]; omega)) (by decide)) ?_
            show SeqJ _ _ _ _ _ _ (Act.put _ (some 22) _) _
            refine sJ_skip rfl (fun _ _ _ h => absurd h.1 (fun e => nomatch e)) (wanted_n (j := 3) rfl rfl rfl ((ev_other _ _ (by decide)).trans (ev_same _ _ _ (by simp only [sz_put]; omega))) (by decide)) ?_
            show SeqJ _ _ _ _ _ _ (Act.put _ (some 23) _) _
            refine sJ_skip rfl (fun _ _ _ h => absurd h.1 (fun e => nomatch e)) (wanted_n (j := 3) rfl rfl rfl ((ev_other _ _ (by decide)).trans ((ev_other _ _ (by decide)).trans (ev_same _ _ _ (by simp only [sz_put]; omega)))) (by decide)) ?_
            show SeqJ _ _ _ _ _ _ (Act.put _ (some 24) _) _
            refine sJ_skip rfl (fun _ _ _ h => absurd h.1 (fun e => nomatch e)) (wanted_n (j := 3) rfl rfl rfl ((ev_other _ _ (by decide)).trans ((ev_other _ _ (by decide)).trans ((ev_other _ _ (by decide)).trans (ev_same _ _ _ (by simp only [sz_put]; omega))))) (by decide)) ?_
            show SeqJ _ _ _ _ _ _ (Act.put _ (some 25) _) _
            refine sJ_skip rfl (fun _ _ _ h => absurd h.1 (fun e => nomatch e)) (wanted_n (j := 3) rfl rfl rfl ((ev_other _ _ (by decide)).trans ((ev_other _ _ (by decide)).trans ((ev_other _ _ (by decide)).trans ((ev_other _ _ (by decide)).trans (ev_same _ _ _ (by simp only [sz_put]; omega)))))) (by decide)) ?_
            show SeqJ _ _ _ _ _ _ (Act.put _ (some 26) _) _
            refine sJ_skip rfl (fun _ _ _ h => absurd h.1 (fun e => nomatch e)) (wanted_n (j := 3) rfl rfl rfl ((ev_other _ _ (by decide)).trans ((ev_other _ _ (by decide)).trans ((ev_other _ _ (by decide)).trans ((ev_other _ _ (by decide)).trans ((ev_other _ _ (by decide)).trans (ev_same _ _ _ (by simp only [sz_put]; omega))))))) (by decide)) ?_
            show SeqJ _ _ _ _ _ _ (Act.put _ (some 27) _) _
            refine sJ_skip rfl (fun _ _ _ h => absurd h.1 (fun e => nomatch e)) (wanted_n (j := 3) rfl rfl rfl ((ev_other _ _ (by decide)).trans ((ev_other _ _ (by decide)).trans ((ev_other _ _ (by decide)).trans ((ev_other _ _ (by decide)).trans ((ev_other _ _ (by decide)).trans ((ev_other _ _ (by decide)).trans (ev_same _ _ _ (by simp only [sz_put]; omega)))))))) (by decide)) ?_
            show SeqJ _ _ _ _ _ _ (Act.put _ (some 28) _) _
            refine sJ_skip rfl (fun _ _ _ h => absurd h.1 (fun e => nomatch e)) (wanted_n (j := 3) rfl rfl rfl ((ev_other _ _ (by decide)).trans ((ev_other _ _ (by decide)).trans ((ev_other _ _ (by decide)).trans ((ev_other _ _ (by decide)).trans ((ev_other _ _ (by decide)).trans ((ev_other _ _ (by decide)).trans ((ev_other _ _ (by decide)).trans (ev_same _ _ _ (by simp only [sz_put]; omega))))))))) (by decide)) ?_
            show SeqJ _ _ _ _ _ _ (Act.put _ (some 29) _) _
            refine sJ_skip rfl (fun _ _ _ h => absurd h.1 (fun e => nomatch e)) (wanted_n (j := 3) rfl rfl rfl ((ev_other _ _ (by decide)).trans ((ev_other _ _ (by decide)).trans ((ev_other _ _ (by decide)).trans ((ev_other _ _ (by decide)).trans ((ev_other _ _ (by decide)).trans ((ev_other _ _ (by decide)).trans ((ev_other _ _ (by decide)).trans ((ev_other _ _ (by decide)).trans (ev_same _ _ _ (by simp only [sz_put]; omega)))))))))) (by decide)) ?_
            show SeqJ _ _ _ _ _ _ (Act.put _ (some 30) _) _
            refine sJ_skip rfl (fun _ _ _ h => absurd h.1 (fun e => nomatch e)) (wanted_n (j := 3) rfl rfl rfl ((ev_other _ _ (by decide)).trans ((ev_other _ _ (by decide)).trans ((ev_other _ _ (by decide)).trans ((ev_other _ _ (by decide)).trans ((ev_other _ _ (by decide)).trans ((ev_other _ _ (by decide)).trans ((ev_other _ _ (by decide)).trans ((ev_other _ _ (by decide)).trans ((ev_other _ _ (by decide)).trans (ev_same _ _ _ (by simp only [sz_put]; omega))))))))))) (by decide)) ?_
            show SeqJ _ _ _ _ _ _ (Act.put _ (some 31) _) _
            refine sJ_skip rfl (fun _ _ _ h => absurd h.1 (fun e => nomatch e)) (wanted_n (j := 3) rfl rfl rfl ((ev_other _ _ (by decide)).trans ((ev_other _ _ (by decide)).trans ((ev_other _ _ (by decide)).trans ((ev_other _ _ (by decide)).trans ((ev_other _ _ (by decide)).trans ((ev_other _ _ (by decide)).trans ((ev_other _ _ (by decide)).trans ((ev_other _ _ (by decide)).trans ((ev_other _ _ (by decide)).trans ((ev_other _ _ (by decide)).trans (ev_same _ _ _ (by simp only [sz_put]; omega)))))))))))) (by decide)) ?_
            show SeqJ _ _ _ _ _ _ (Act.put _ (some 32) _) _
            refine sJ_skip rfl (fun _ _ _ h => absurd h.1 (fun e => nomatch e)) (wanted_n (j := 3) rfl rfl rfl ((ev_other _ _ (by decide)).trans ((ev_other _ _ (by decide)).trans ((ev_other _ _ (by decide)).trans ((ev_other _ _ (by decide)).trans ((ev_other _ _ (by decide)).trans ((ev_other _ _ (by decide)).trans ((ev_other _ _ (by decide)).trans ((ev_other _ _ (by decide)).trans ((ev_other _ _ (by decide)).trans ((ev_other _ _ (by decide)).trans ((ev_other _ _ (by decide)).trans (ev_same _ _ _ (by simp only [sz_put]; omega))))))))))))) (by decide)) ?_
            show SeqJ _ _ _ _ _ _ (Act.put _ (some 33) _) _
            refine sJ_mv (v := (.bool false)) rfl (fun _ _ _ h => absurd h.1 (fun e => nomatch e)) (wanted_rd rfl) (fun wx => run_pickF (.tmp 21) (.tmp 33) (.const (.bool false)) rfl ((ev_other _ _ (by decide)).trans ((ev_other _ _ (by decide)).trans ((ev_other _ _ (by decide)).trans ((ev_other _ _ (by decide)).trans ((ev_other _ _ (by decide)).trans ((ev_other _ _ (by decide)).trans ((ev_other _ _ (by decide)).trans ((ev_other _ _ (by decide)).trans ((ev_other _ _ (by decide)).trans ((ev_other _ _ (by decide)).trans ((ev_other _ _ (by decide)).trans ((ev_other _ _ (by decide)).trans (ev_same _ _ _ (by simp only [sz_put]; omega)))))))))))))) rfl wx) ?_
            show SeqJ _ _ _ _ _ _ (Act.put _ (some 34) _) _
            exact sJ_end ⟨rfl, hS, Kept.of_below (show Below wr.heap.size wr wr.drew from (below_drew (Below.refl _ _))), rfl⟩
          case rest =>
            rintro a' w2 ⟨m2, k2, rfl⟩
            have HS2 := hide m2
            have KS2 := hide ((unhide KS).trans k2 (Or.inl rfl))
            clear m2 k2
            go_frame
            go_wp2_with fail
            go_roundg (b - (i + 1))
            case measure => omega
            case rel => exact ⟨i + 1, _, by go_num, by omega, by omega, by omega, by omega, HS2, hide (unhide OUT (Or.inl (by omega))), KS2⟩
    · have hltz : ¬ (i : Int) < (b : Int) := by omega
      go_wp2_with fail
      go_end0
      refine ⟨rfl, dk, ?_, ?_, unhide HS, unhide KS⟩
      · rcases Nat.lt_or_ge a b with hab | hab
        · obtain rfl : i = b := by omega
          exact ((unhide HI).2 (by omega)).1
        · rw [(unhide HI).1 hab]; exact Same.refl _ _ _
      · rcases Nat.lt_or_ge a b with hab | hab
        · obtain rfl : i = b := by omega
          exact ((unhide HI).2 (by omega)).2
        · exact SoT.none (by omega)

end Go.Proofs.Ythjeedlhlkggkab
