/- The walks of SumSeals and SumOpens. -/
import Derived.Test.YtgndilalhikmmaaRefSeal
import Derived.Test.YtgndilalhikmmaaSumBytes
import Derived.Test.YtgndilalhikmmaaOpenByte
namespace Go.Proofs.Ytgndilalhikmmaa
open Go.RowKit

theorem enter_bytesL (v : Value) (w : World) : (callFunc 10 #[v]).run Try.prog w = .ok (.enter 10 #[v]) w := by go_simp
theorem enter_seal (v : Value) (w : World) : (callFunc 14 #[v]).run Try.prog w = .ok (.enter 14 #[v]) w := by go_simp

set_option maxHeartbeats 1000000 in
theorem sumSeals_walk {w : World} (ao : Option Addr) (len cap : Nat) (g : Nat → Nat) (ha : ArgB w ao len cap g) :
    Calls Try.prog 5 #[.slice ao len cap] w fun e w' => e = .returned (.bool true) ∧ Below w.heap.size w w' := by
  obtain ⟨hr, hl, hg, hc⟩ := ha
  have HR := hide hr; have HG := hide hg
  clear hr hg hc
  go_enter Try.func5, Try.ntmps5
  go_wp2_with fail
  refine wp_leaves (fun a0 a' w' => Below w.heap.size w w' ∧ a'.defers = a0.defers ∧ a'.eval (.tmp 2) = .bool true) ?reg ?rest
  case reg =>
      intro A eA
      have b0 : A.eval (.tmp 0) = .slice ao len cap := by rw [eA]; rfl
      have hs : 11 ≤ A.tmps.size := by rw [eA]; exact of_decide_eq_true rfl
      clear eA
      refine region_I (S := fun _ => True) (.rd 0 (.rd 4 (.go 1 (.go 2 (.two 3 5 (.go 5 (.go 6 (.rd 7 (.rd 8 .fin)))) (.two 3 6 (.go 6 (.rd 7 (.rd 8 .fin))) (.go 3 (.rd 7 (.rd 8 .fin))))))))) [] (by kernel_rfl) (by kernel_rfl) ?_
      refine sI_read (v := (.slice ao len cap)) rfl (fun _ _ _ h => absurd h.1 (fun e => nomatch e)) (wanted_rd rfl) trivial (fun wx _ => run_move (.tmp 0) rfl b0 wx) ?_
      show SeqI _ _ _ _ _ _ (Act.put _ (some 3) _) _
      refine sI_read (v := (.slice ao len cap)) rfl (fun _ _ _ h => absurd h.1 (fun e => nomatch e)) (wanted_rd rfl) trivial (fun wx _ => run_move (.tmp 0) rfl ((ev_other _ _ (by decide)).trans b0) wx) ?_
      show SeqI _ _ _ _ _ _ (Act.put _ (some 7) _) _
      refine sI_do rfl (wanted_rd rfl) (fun K hK => ?_)
      refine wp_call1 _ 10 (.tmp 3) #[22] rfl ((ev_other _ _ (by decide)).trans (ev_same _ _ _ (by omega))) (enter_bytesL _ _) (bytesL_any ao len cap (bF g) _ (by omega) (bF_one g) (unhide HR)) ?_
      rintro e w1 ⟨v, rfl, o1, j1⟩
      obtain ⟨a1, c1, rfl, r1, n1⟩ := owns_sr o1
      refine ⟨_, rfl, hK _ _ (fun _ => trivial) ?_⟩
      clear hK K n1
      have k1 : Below w.heap.size w w1 := (below_drew (Below.refl _ _)).trans j1
      show SeqI _ _ _ _ _ _ (Act.put _ (some 4) _) _
      refine sI_do rfl (wanted_rd rfl) (fun K hK => ?_)
      refine wp_call1 _ 14 (.tmp 4) #[22] rfl (ev_same _ _ _ (by simp only [sz_put]; omega)) (enter_seal _ _) (seal_any a1 len c1 g _ (unhide HG) (by omega) r1.rd) ?_
      rintro e w2 ⟨v, rfl, o2, j2⟩
      obtain ⟨a2, c2, rfl, r2, n2⟩ := owns_sr o2
      refine ⟨_, rfl, hK _ _ (fun _ => trivial) ?_⟩
      clear hK K n2
      have k2 : Below w.heap.size w w2 := k1.trans (j2.mono k1.size)
      show SeqI _ _ _ _ _ _ (Act.put _ (some 5) _) _
      refine sI_two rfl rfl (wanted_rd rfl) (wanted_rd rfl) ?_ ?_
      · intro K hK
        refine wp_val (v := (.string (sB (slF g len) (len + 4)))) (run_convO (.tmp 5) rfl (ev_same _ _ _ (by simp only [sz_put]; omega)) r2.rd) ?_
        refine hK _ _ (fun _ => trivial) ?_
        clear hK K
        show SeqI _ _ _ _ _ _ (Act.put _ (some 6) _) _
        refine sI_do rfl (wanted_rd rfl) (fun K hK => ?_)
        refine wp_call1 _ 15 (.tmp 7) #[22] rfl ((ev_other _ _ (by decide)).trans ((ev_other _ _ (by decide)).trans ((ev_other _ _ (by decide)).trans (ev_same _ _ _ (by simp only [sz_put]; omega))))) (enter_rseal _ _) (refSeal_any ao len cap g _ (unhide HG) (by omega) ((unhide HR).below k2)) ?_
        rintro e w3 ⟨v, rfl, o3, j3⟩
        obtain ⟨a3, c3, rfl, r3, n3⟩ := owns_sr o3
        refine ⟨_, rfl, hK _ _ (fun _ => trivial) ?_⟩
        clear hK K n3
        have k3 : Below w.heap.size w w3 := k2.trans (j3.mono k2.size)
        show SeqI _ _ _ _ _ _ (Act.put _ (some 8) _) _
        refine sI_do rfl (wanted_rd rfl) (fun K hK => ?_)
        refine wp_val (v := (.string (sB (slF g len) (len + 4)))) (run_convO (.tmp 8) rfl (ev_same _ _ _ (by simp only [sz_put]; omega)) r3.rd) ?_
        refine hK _ _ (fun _ => trivial) ?_
        clear hK K
        show SeqI _ _ _ _ _ _ (Act.put _ (some 9) _) _
        refine sI_read (v := (.bool true)) rfl (fun _ _ _ h => absurd h.1 (fun e => nomatch e)) (wanted_rd rfl) trivial (fun wx _ => run_eqlS (.tmp 6) (.tmp 9) rfl ((ev_other _ _ (by decide)).trans ((ev_other _ _ (by decide)).trans (ev_same _ _ _ (by simp only [sz_put]; omega)))) (ev_same _ _ _ (by simp only [sz_put]; omega)) wx) ?_
        show SeqI _ _ _ _ _ _ (Act.put _ (some 10) _) _
        refine sI_read (v := (.bool true)) rfl (fun _ _ _ h => absurd h.1 (fun e => nomatch e)) (wanted_rd rfl) trivial (fun wx _ => run_assign (.tmp 10) rfl (ev_same _ _ _ (by simp only [sz_put]; omega)) wx) ?_
        show SeqI _ _ _ _ _ _ (Act.put _ (some 2) _) _
        refine sI_end ?_
        exact ⟨rfl, k3, by simp only [put_def], (ev_same _ _ _ (by simp only [sz_put]; omega))⟩
      · intro K hK
        refine wp_call1 _ 15 (.tmp 7) #[22] rfl ((ev_other _ _ (by decide)).trans ((ev_other _ _ (by decide)).trans (ev_same _ _ _ (by simp only [sz_put]; omega)))) (enter_rseal _ _) (refSeal_any ao len cap g _ (unhide HG) (by omega) ((unhide HR).below k2)) ?_
        rintro e w3 ⟨v, rfl, o3, j3⟩
        obtain ⟨a3, c3, rfl, r3, n3⟩ := owns_sr o3
        refine ⟨_, rfl, hK _ _ (fun _ => trivial) ?_⟩
        clear hK K n3
        have k3 : Below w.heap.size w w3 := k2.trans (j3.mono k2.size)
        show SeqI _ _ _ _ _ _ (Act.put _ (some 8) _) _
        refine sI_two rfl rfl (wanted_rd rfl) (wanted_rd rfl) ?_ ?_
        · intro K hK
          refine wp_val (v := (.string (sB (slF g len) (len + 4)))) (run_convO (.tmp 5) rfl ((ev_other _ _ (by decide)).trans (ev_same _ _ _ (by simp only [sz_put]; omega))) (r2.below j3).rd) ?_
          refine hK _ _ (fun _ => trivial) ?_
          clear hK K
          show SeqI _ _ _ _ _ _ (Act.put _ (some 6) _) _
          refine sI_do rfl (wanted_rd rfl) (fun K hK => ?_)
          refine wp_val (v := (.string (sB (slF g len) (len + 4)))) (run_convO (.tmp 8) rfl ((ev_other _ _ (by decide)).trans (ev_same _ _ _ (by simp only [sz_put]; omega))) r3.rd) ?_
          refine hK _ _ (fun _ => trivial) ?_
          clear hK K
          show SeqI _ _ _ _ _ _ (Act.put _ (some 9) _) _
          refine sI_read (v := (.bool true)) rfl (fun _ _ _ h => absurd h.1 (fun e => nomatch e)) (wanted_rd rfl) trivial (fun wx _ => run_eqlS (.tmp 6) (.tmp 9) rfl ((ev_other _ _ (by decide)).trans (ev_same _ _ _ (by simp only [sz_put]; omega))) (ev_same _ _ _ (by simp only [sz_put]; omega)) wx) ?_
          show SeqI _ _ _ _ _ _ (Act.put _ (some 10) _) _
          refine sI_read (v := (.bool true)) rfl (fun _ _ _ h => absurd h.1 (fun e => nomatch e)) (wanted_rd rfl) trivial (fun wx _ => run_assign (.tmp 10) rfl (ev_same _ _ _ (by simp only [sz_put]; omega)) wx) ?_
          show SeqI _ _ _ _ _ _ (Act.put _ (some 2) _) _
          refine sI_end ?_
          exact ⟨rfl, k3, by simp only [put_def], (ev_same _ _ _ (by simp only [sz_put]; omega))⟩
        · intro K hK
          refine wp_val (v := (.string (sB (slF g len) (len + 4)))) (run_convO (.tmp 8) rfl (ev_same _ _ _ (by simp only [sz_put]; omega)) r3.rd) ?_
          refine hK _ _ (fun _ => trivial) ?_
          clear hK K
          show SeqI _ _ _ _ _ _ (Act.put _ (some 9) _) _
          refine sI_do rfl (wanted_rd rfl) (fun K hK => ?_)
          refine wp_val (v := (.string (sB (slF g len) (len + 4)))) (run_convO (.tmp 5) rfl ((ev_other _ _ (by decide)).trans ((ev_other _ _ (by decide)).trans (ev_same _ _ _ (by simp only [sz_put]; omega)))) (r2.below j3).rd) ?_
          refine hK _ _ (fun _ => trivial) ?_
          clear hK K
          show SeqI _ _ _ _ _ _ (Act.put _ (some 6) _) _
          refine sI_read (v := (.bool true)) rfl (fun _ _ _ h => absurd h.1 (fun e => nomatch e)) (wanted_rd rfl) trivial (fun wx _ => run_eqlS (.tmp 6) (.tmp 9) rfl (ev_same _ _ _ (by simp only [sz_put]; omega)) ((ev_other _ _ (by decide)).trans (ev_same _ _ _ (by simp only [sz_put]; omega))) wx) ?_
          show SeqI _ _ _ _ _ _ (Act.put _ (some 10) _) _
          refine sI_read (v := (.bool true)) rfl (fun _ _ _ h => absurd h.1 (fun e => nomatch e)) (wanted_rd rfl) trivial (fun wx _ => run_assign (.tmp 10) rfl (ev_same _ _ _ (by simp only [sz_put]; omega)) wx) ?_
          show SeqI _ _ _ _ _ _ (Act.put _ (some 2) _) _
          refine sI_end ?_
          exact ⟨rfl, k3, by simp only [put_def], (ev_same _ _ _ (by simp only [sz_put]; omega))⟩
  case rest =>
    rintro a' w9 ⟨k9, hd, h4⟩
    obtain ⟨tm, df⟩ := a'
    have hd2 : df = [] := hd
    subst hd2
    have H4 := hide h4
    clear h4 hd
    go_wp2_with fail
    go_ret
    exact ⟨congrArg Ending.returned (unhide H4), k9⟩

theorem noughts_right : opG (fun _ => 0) 4 := ⟨by omega, fun i hi => by
  have e : moreN 0 (fun _ => 0) 0 = 0 := by decide
  show 0 = tlF (moreN 0 (fun _ => 0) 0) i
  rw [e]
  unfold tlF
  split
  · rfl
  · split
    · rfl
    · split <;> rfl⟩

set_option maxHeartbeats 1000000 in
theorem sumOpens_walk {w : World} (ao : Option Addr) (len cap : Nat) (g : Nat → Nat) (ha : ArgB w ao len cap g) :
    Calls Try.prog 6 #[.slice ao len cap] w fun e w' => e = .returned (.bool true) ∧ Below w.heap.size w w' := by
  obtain ⟨hr, hl, hg, hc⟩ := ha
  have HR := hide hr; have HG := hide hg; have HC := hide hc
  clear hr hg hc
  go_enter Try.func6, Try.ntmps6
  go_wp2_with fail
  refine (bytesL_any ao len cap (bF g) _ (by omega) (bF_one g) (unhide HR)).mono ?_
  rintro e w1 ⟨v, rfl, o1, k1⟩
  obtain ⟨a1, c1, rfl, r1, n1⟩ := owns_sr o1
  have R1 := hide r1; have N1 := hide n1; have K1 := hide k1
  clear o1 r1 n1 k1
  go_wp2_with fail
  refine (open_any a1 len c1 g _ (unhide HG) (by omega) (unhide N1) (unhide R1).rd).mono ?_
  rintro e w2 ⟨v2, ok2, rfl, i2, y2, m2, k2⟩
  have I2 := hide i2; have Y2 := hide y2; have M2 := hide m2; have K2 := hide ((unhide K1).trans (k2.mono (unhide K1).size))
  clear i2 y2 m2 k2 K1 R1 N1
  go_wp2_with fail
  refine (refOpen_any ao len cap g _ (unhide HG) (by omega) (unhide HC) ((unhide HR).rd.below (unhide K2))).mono ?_
  rintro e w3 ⟨v3, ok3, rfl, i3, y3, m3, k3⟩
  have hoo : ok3 = ok2 := by
    have h2 := unhide I2
    cases ok2 <;> cases ok3
    · rfl
    · exact absurd (h2.2 (i3.1 rfl)) (by decide)
    · exact absurd (i3.2 (h2.1 rfl)) (by decide)
    · rfl
  subst hoo
  -- both texts are one
  obtain ⟨S, n2, x2, d2, n3, x3, d3, e2, e3, q2, q3⟩ : ∃ (S : Nat → Nat) (n2 : Option Addr) (x2 : Nat) (d2 : Nat) (n3 : Option Addr) (x3 : Nat) (d3 : Nat), v2 = .slice n2 x2 d2 ∧ v3 = .slice n3 x3 d3 ∧ (x2 = x3 ∧ Rd w2 n2 x2 (bF S)) ∧ Rd w3 n3 x3 (bF S) := by
    cases ok3
    · exact ⟨fun _ => 0, none, 0, 0, none, 0, 0, unhide M2 rfl, m3 rfl, ⟨rfl, fun h => absurd h (by omega)⟩, fun h => absurd h (by omega)⟩
    · obtain ⟨p2, c2, f2, r2, _⟩ := owns_sr (unhide Y2 rfl)
      obtain ⟨p3, c3, f3, r3, _⟩ := owns_sr (y3 rfl)
      exact ⟨g, p2, len - 4, c2, p3, len - 4, c3, f2, f3, ⟨rfl, r2.rd⟩, r3.rd⟩
  subst e2
  subst e3
  obtain ⟨rfl, q2⟩ := q2
  have b3 := (unhide K2).trans (k3.mono (unhide K2).size)
  have Q2 := hide (q2.below k3); have Q3 := hide q3; have K3 := hide b3
  clear i3 y3 m3 k3 b3 q2 q3 K2 I2 Y2 M2
  have A4 := al_below w3 (.cells #[.int .u8 0, .int .u8 0, .int .u8 0, .int .u8 0] 5)
  have V4 := hide (show Rd (w3.alloc (.cells #[.int .u8 0, .int .u8 0, .int .u8 0, .int .u8 0] 5)) (some ⟨w3.heap.size, 0, none⟩) 4 (bF (fun _ => 0)) from (Vh.new w3 5 #[.int .u8 0, .int .u8 0, .int .u8 0, .int .u8 0] (bF (fun _ => 0)) (by decide) (fun i hi => by
    have : i = 0 ∨ i = 1 ∨ i = 2 ∨ i = 3 := by simp at hi; omega
    rcases this with rfl | rfl | rfl | rfl <;> rfl)).rd)
  have Q2b := hide ((unhide Q2).below A4); have Q3b := hide ((unhide Q3).below A4); have K4 := hide ((unhide K3).trans (A4.mono (unhide K3).size))
  clear A4 Q2 Q3 K3
  go_wp2_with fail
  refine (open_any (some ⟨w3.heap.size, 0, none⟩) 4 4 (fun _ => 0) _ (fun _ => by show 0 < 256; omega) (by omega) (by omega) (unhide V4)).mono ?_
  rintro e w5 ⟨v5, ok5, rfl, i5, y5, _, k5⟩
  have h5 : ok5 = true := i5.2 noughts_right
  subst h5
  obtain ⟨a5, c5, rfl, _, _⟩ := owns_sr (y5 rfl)
  obtain ⟨T, eT⟩ : ∃ T, T = sB S x2 := ⟨_, rfl⟩
  have cv1 := run_convB w5 n2 x2 d2 S ((unhide Q2b).below k5)
  have cv2 := run_convB w5 n3 x2 d3 S ((unhide Q3b).below k5)
  rw [← eT] at cv1 cv2
  have K5 := hide ((unhide K4).trans (k5.mono (unhide K4).size))
  clear i5 y5 k5 K4 Q2b Q3b V4 eT
  cases ok3
  · go_wp2_with fail
    go_ret
    exact ⟨rfl, unhide K5⟩
  · go_wp2_with fail
    go_ret
    exact ⟨rfl, unhide K5⟩

end Go.Proofs.Ytgndilalhikmmaa
