/- Contracts of the reference: Seal, Open. -/
import Derived.Test.YthimcecbgpamdaaGreatNear148
import Derived.Test.YthimcecbgpamdaaGreatSumOpen
import Derived.Test.YthimcecbgpamdaaGreatStrByte
namespace Go.Proofs.YthimcecbgpamdaaGreat
open Go.RowKit

set_option maxHeartbeats 1000000 in
theorem refSeal_any (ao : Option Addr) (len cap : Nat) (g : Nat → Nat) (w : World) (hg : ∀ i, g i < 256) (hl : len + 4 ≤ 140737488355328) (hr : Sr w ao len cap (bF g)) :
    Calls Tryz.prog 78 #[.slice ao len cap] w fun e w' => ∃ v, e = .returned v ∧ w'.ownsRow w.heap.size 5 1 v (len + 4) (rowV (bF (slF g len)) (len + 4)) ∧ Below w.heap.size w w' := by
  have HG := hide hg; have HR := hide hr
  clear hg hr
  go_enter Tryz.func78, Tryz.ntmps78
  go_wp2_with fail
  refine (refSum_any ao len cap g _ (unhide HG) (by omega) (unhide HR).rd).mono ?_
  rintro e w1 ⟨rfl, k1⟩
  have hm := moreN_lt 0 g len
  obtain ⟨s, es⟩ : ∃ s, s = moreN 0 g len := ⟨_, rfl⟩
  rw [← es] at hm ⊢
  have ES := hide es; have K1 := hide k1; have Z1 := hide k1.size
  clear es k1
  go_wp2_with (at_builtin; refine wpList_join _ rfl _ _ rfl w.heap.size (unhide Z1) (.slice none 0 0) 0 [] rfl (World.ownsRow_nil _ _ _ _) ao len cap (bF g) rfl ((unhide HR).below (unhide K1)) (fun i _ => bF_one g i) (by omega) ?_)
  intro v2 w2 h2 k2
  try rw [Nat.zero_add] at h2
  try rw [List.nil_append] at h2
  have A4 := al_below w2 (.cells #[.int .u8 ((s : Int) % 256), .int .u8 ((s : Int) / 256 % 256), .int .u8 ((s : Int) / 65536 % 256), .int .u8 ((s : Int) / 16777216)] 5)
  have k3 := (unhide K1).trans k2
  have H3 := hide (own_kept h2 A4); have K3 := hide (k3.trans (A4.mono k3.size)); have Z3 := hide (k3.trans (A4.mono k3.size)).size
  have S3 := hide (show Sr (w2.alloc (.cells #[.int .u8 ((s : Int) % 256), .int .u8 ((s : Int) / 256 % 256), .int .u8 ((s : Int) / 65536 % 256), .int .u8 ((s : Int) / 16777216)] 5)) (some ⟨w2.heap.size, 0, none⟩) 4 4 (bF (tlF s)) from
    Or.inr ⟨_, rfl, fun i hi => by
      rw [Addr.add_lit, Nat.zero_add]
      refine (Vh.new w2 5 _ (bF (tlF s)) (by show 4 ≤ maxLen; unfold maxLen; omega) (fun i hi => ?_)).cell (show i < 4 from hi)
      have : i = 0 ∨ i = 1 ∨ i = 2 ∨ i = 3 := by simp at hi; omega
      rcases this with rfl | rfl | rfl | rfl
      · rfl
      · rfl
      · rfl
      · show some (Value.int .u8 ((s : Int) / 16777216)) = some (Value.int .u8 ((s / 16777216 % 256 : Nat) : Int)); congr 2; omega⟩)
  clear h2 k2 A4 k3
  go_wp2_with (at_builtin; refine wpList_join _ rfl _ _ rfl w.heap.size (unhide Z3) v2 len (rowV (bF g) len) rfl (unhide H3) (some ⟨w2.heap.size, 0, none⟩) 4 4 (bF (tlF s)) rfl (unhide S3) (fun i _ => rfl) (by omega) ?_)
  intro v4 w4 h4 k4
  rw [unhide ES, slF_row] at h4
  have H4 := hide h4; have K4 := hide ((unhide K3).trans k4)
  clear h4 k4
  go_wp2_with fail
  go_ret
  exact ⟨_, rfl, unhide H4, unhide K4⟩

theorem enter_rseal (v : Value) (w : World) : (callFunc 78 #[v]).run Tryz.prog w = .ok (.enter 78 #[v]) w := by go_simp
theorem op_text {g : Nat → Nat} (hg : ∀ i, g i < 256) (m : Nat) : sB (slF g m) (m + 4) = sB g (m + 4) ↔ opG g (m + 4) := by
  constructor
  · intro h
    refine ⟨by omega, fun i hi => ?_⟩
    rw [show m + 4 - 4 = m by omega]
    have := sB_inj (slF_lt hg m) hg h (m + i) (by omega)
    unfold slF at this
    rw [if_neg (by omega), Nat.add_sub_cancel_left] at this
    exact this.symm
  · rintro ⟨_, h⟩
    rw [show m + 4 - 4 = m by omega] at h
    refine sB_congr (fun i hi => ?_)
    unfold slF
    split
    · rfl
    · have := h (i - m) (by omega)
      rw [show m + (i - m) = i by omega] at this
      exact this.symm

set_option maxHeartbeats 1000000 in
theorem refOpen_any (ao : Option Addr) (len cap : Nat) (g : Nat → Nat) (w : World) (hg : ∀ i, g i < 256) (hl : len ≤ 140737488355328) (hc : len ≤ cap) (hr : Rd w ao len (bF g)) :
    Calls Tryz.prog 79 #[.slice ao len cap] w fun e w' => ∃ v ok, e = .returned (.tuple #[v, .bool ok]) ∧ (ok = true ↔ opG g len) ∧ (ok = true → w'.ownsRow w.heap.size 5 1 v (len - 4) (rowV (bF g) (len - 4))) ∧ (ok = false → v = .slice none 0 0) ∧ Below w.heap.size w w' := by
  by_cases h4 : len < 4
  · clear hr
    go_enter Tryz.func79, Tryz.ntmps79
    go_wp2_with fail
    refine wp_leaves (fun a0 a' w' => w' = w.drew ∧ a' = (((((((((((((((a0.put (some 4) (.slice ao len cap)).put (some 5) (.int .i64 (len : Nat))).put (some 6) (.bool true)).put (some 7) (.bool true)).put (some 8) undef).put (some 9) undef).put (some 10) undef).put (some 11) undef).put (some 12) undef).put (some 13) undef).put (some 14) undef).put (some 15) undef).put (some 16) undef).put (some 17) undef).put (some 18) (.bool true))) ?reg ?rest
    case reg =>
      intro A eA
      have b0 : A.eval (.tmp 0) = .slice ao len cap := by rw [eA]; rfl
      have hs : 25 ≤ A.tmps.size := by rw [eA]; exact of_decide_eq_true rfl
      clear eA
      refine region_I (S := fun _ => True) (.rd 0 (.rd 1 (.rd 2 (.rd 3 (.rd 4 (.rd 5 (.rd 6 (.rd 7 (.rd 8 (.rd 9 (.rd 10 (.rd 11 (.rd 12 (.rd 13 (.rd 14 .fin))))))))))))))) [] (by kernel_rfl) (by kernel_rfl) ?_
      refine sI_read (v := (.slice ao len cap)) rfl (fun _ _ _ h => absurd h.1 (fun e => nomatch e)) (wanted_rd rfl) trivial (fun wx _ => run_move (.tmp 0) rfl b0 wx) ?_
      show SeqI _ _ _ _ _ _ (Act.put _ (some 4) _) _
      refine sI_read (v := (.int .i64 (len : Nat))) rfl (fun _ _ _ h => absurd h.1 (fun e => nomatch e)) (wanted_rd rfl) trivial (fun wx _ => run_lenB (.tmp 4) rfl (ev_same _ _ _ (by omega)) wx) ?_
      show SeqI _ _ _ _ _ _ (Act.put _ (some 5) _) _
      refine sI_read (v := (.bool true)) rfl (fun _ _ _ h => absurd h.1 (fun e => nomatch e)) (wanted_rd rfl) trivial (fun wx _ => run_lssT (.tmp 5) (.const (.int .i64 4)) rfl (ev_same _ _ _ (by simp only [sz_put]; omega)) rfl (by omega) wx) ?_
      show SeqI _ _ _ _ _ _ (Act.put _ (some 6) _) _
      refine sI_read (v := (.bool true)) rfl (fun _ _ _ h => absurd h.1 (fun e => nomatch e)) (wanted_rd rfl) trivial (fun wx _ => run_move (.tmp 6) rfl (ev_same _ _ _ (by simp only [sz_put]; omega)) wx) ?_
      show SeqI _ _ _ _ _ _ (Act.put _ (some 7) _) _
      refine sI_skip rfl (fun _ _ _ h => absurd h.1 (fun e => nomatch e)) (wanted_n rfl rfl rfl (ev_same _ _ _ (by simp only [sz_put]; omega)) (by decide)) trivial ?_
      show SeqI _ _ _ _ _ _ (Act.put _ (some 8) _) _
      refine sI_skip rfl (fun _ _ _ h => absurd h.1 (fun e => nomatch e)) (wanted_n rfl rfl rfl ((ev_other _ _ (by decide)).trans (ev_same _ _ _ (by simp only [sz_put]; omega))) (by decide)) trivial ?_
      show SeqI _ _ _ _ _ _ (Act.put _ (some 9) _) _
      refine sI_skip rfl (fun _ _ _ h => absurd h.1 (fun e => nomatch e)) (wanted_n rfl rfl rfl ((ev_other _ _ (by decide)).trans ((ev_other _ _ (by decide)).trans (ev_same _ _ _ (by simp only [sz_put]; omega)))) (by decide)) trivial ?_
      show SeqI _ _ _ _ _ _ (Act.put _ (some 10) _) _
      refine sI_skip rfl (fun _ _ _ h => absurd h.1 (fun e => nomatch e)) (wanted_n rfl rfl rfl ((ev_other _ _ (by decide)).trans ((ev_other _ _ (by decide)).trans ((ev_other _ _ (by decide)).trans (ev_same _ _ _ (by simp only [sz_put]; omega))))) (by decide)) trivial ?_
      show SeqI _ _ _ _ _ _ (Act.put _ (some 11) _) _
      refine sI_skip rfl (fun _ _ _ h => absurd h.1 (fun e => nomatch e)) (wanted_n rfl rfl rfl ((ev_other _ _ (by decide)).trans ((ev_other _ _ (by decide)).trans ((ev_other _ _ (by decide)).trans ((ev_other _ _ (by decide)).trans (ev_same _ _ _ (by simp only [sz_put]; omega)))))) (by decide)) trivial ?_
      show SeqI _ _ _ _ _ _ (Act.put _ (some 12) _) _
      refine sI_skip rfl (fun _ _ _ h => absurd h.1 (fun e => nomatch e)) (wanted_n rfl rfl rfl ((ev_other _ _ (by decide)).trans ((ev_other _ _ (by decide)).trans ((ev_other _ _ (by decide)).trans ((ev_other _ _ (by decide)).trans ((ev_other _ _ (by decide)).trans (ev_same _ _ _ (by simp only [sz_put]; omega))))))) (by decide)) trivial ?_
      show SeqI _ _ _ _ _ _ (Act.put _ (some 13) _) _
      refine sI_skip rfl (fun _ _ _ h => absurd h.1 (fun e => nomatch e)) (wanted_n rfl rfl rfl ((ev_other _ _ (by decide)).trans ((ev_other _ _ (by decide)).trans ((ev_other _ _ (by decide)).trans ((ev_other _ _ (by decide)).trans ((ev_other _ _ (by decide)).trans ((ev_other _ _ (by decide)).trans (ev_same _ _ _ (by simp only [sz_put]; omega)))))))) (by decide)) trivial ?_
      show SeqI _ _ _ _ _ _ (Act.put _ (some 14) _) _
      refine sI_skip rfl (fun _ _ _ h => absurd h.1 (fun e => nomatch e)) (wanted_n rfl rfl rfl ((ev_other _ _ (by decide)).trans ((ev_other _ _ (by decide)).trans ((ev_other _ _ (by decide)).trans ((ev_other _ _ (by decide)).trans ((ev_other _ _ (by decide)).trans ((ev_other _ _ (by decide)).trans ((ev_other _ _ (by decide)).trans (ev_same _ _ _ (by simp only [sz_put]; omega))))))))) (by decide)) trivial ?_
      show SeqI _ _ _ _ _ _ (Act.put _ (some 15) _) _
      refine sI_skip rfl (fun _ _ _ h => absurd h.1 (fun e => nomatch e)) (wanted_n rfl rfl rfl ((ev_other _ _ (by decide)).trans ((ev_other _ _ (by decide)).trans ((ev_other _ _ (by decide)).trans ((ev_other _ _ (by decide)).trans ((ev_other _ _ (by decide)).trans ((ev_other _ _ (by decide)).trans ((ev_other _ _ (by decide)).trans ((ev_other _ _ (by decide)).trans (ev_same _ _ _ (by simp only [sz_put]; omega)))))))))) (by decide)) trivial ?_
      show SeqI _ _ _ _ _ _ (Act.put _ (some 16) _) _
      refine sI_skip rfl (fun _ _ _ h => absurd h.1 (fun e => nomatch e)) (wanted_n rfl rfl rfl ((ev_other _ _ (by decide)).trans ((ev_other _ _ (by decide)).trans ((ev_other _ _ (by decide)).trans ((ev_other _ _ (by decide)).trans ((ev_other _ _ (by decide)).trans ((ev_other _ _ (by decide)).trans ((ev_other _ _ (by decide)).trans ((ev_other _ _ (by decide)).trans ((ev_other _ _ (by decide)).trans (ev_same _ _ _ (by simp only [sz_put]; omega))))))))))) (by decide)) trivial ?_
      show SeqI _ _ _ _ _ _ (Act.put _ (some 17) _) _
      refine sI_read (v := (.bool true)) rfl (fun _ _ _ h => absurd h.1 (fun e => nomatch e)) (wanted_rd rfl) trivial (fun wx _ => run_pickT' (.tmp 7) (.const (.bool true)) (.tmp 17) rfl ((ev_other _ _ (by decide)).trans ((ev_other _ _ (by decide)).trans ((ev_other _ _ (by decide)).trans ((ev_other _ _ (by decide)).trans ((ev_other _ _ (by decide)).trans ((ev_other _ _ (by decide)).trans ((ev_other _ _ (by decide)).trans ((ev_other _ _ (by decide)).trans ((ev_other _ _ (by decide)).trans ((ev_other _ _ (by decide)).trans (ev_same _ _ _ (by simp only [sz_put]; omega)))))))))))) rfl wx) ?_
      show SeqI _ _ _ _ _ _ (Act.put _ (some 18) _) _
      refine sI_end ?_
      exact ⟨rfl, rfl, rfl⟩
    case rest =>
      rintro a' w3 ⟨rfl, rfl⟩
      go_frame
      go_wp2_with fail
      go_ret2
      exact ⟨_, false, rfl, ⟨fun h => by (cases h), fun h => absurd h.1 (by omega)⟩, fun h => by (cases h), fun _ => rfl, below_drew (Below.refl _ _)⟩
  · obtain ⟨m, rfl⟩ : ∃ m, len = m + 4 := ⟨len - 4, by omega⟩
    obtain ⟨b, o, rfl, hcs⟩ := hr (by omega)
    have HR := hide hr; have HG := hide hg; have HC := hide hcs
    have RM := hide (show Rd w (some ⟨b, o, none⟩) m (bF g) from hr.less (by omega))
    clear hr hg hcs h4
    rw [show m + 4 - 4 = m by omega]
    go_enter Tryz.func79, Tryz.ntmps79
    go_wp2_with fail
    refine wp_leaves (fun a0 a' w' => ∃ (v : Bool) (a1 : Option Addr) (c1 : Nat), (v = false ↔ opG g (m + 4)) ∧ Below w.heap.size w w' ∧ a' = (((((((((((((((a0.put (some 4) (.slice (some ⟨b, o, none⟩) (m + 4) cap)).put (some 5) (.int .i64 ((m + 4 : Nat) : Int))).put (some 6) (.bool false)).put (some 7) (.bool false)).put (some 8) (.slice (some ⟨b, o, none⟩) (m + 4) cap)).put (some 9) (.slice (some ⟨b, o, none⟩) (m + 4) cap)).put (some 10) (.int .i64 ((m + 4 : Nat) : Int))).put (some 11) (.int .i64 (m : Nat))).put (some 12) (.slice (some ⟨b, o, none⟩) m cap)).put (some 15) (.slice (some ⟨b, o, none⟩) (m + 4) cap)).put (some 16) (.string (sB g (m + 4)))).put (some 13) (.slice a1 (m + 4) c1)).put (some 14) (.string (sB (slF g m) (m + 4)))).put (some 17) (.bool v)).put (some 18) (.bool v))) ?reg ?rest
    case reg =>
      intro A eA
      have b0 : A.eval (.tmp 0) = .slice (some ⟨b, o, none⟩) (m + 4) cap := by rw [eA]; rfl
      have hs : 25 ≤ A.tmps.size := by rw [eA]; exact of_decide_eq_true rfl
      have hcs := unhide HC
      have hS : Rd w.drew (some ⟨b, o, none⟩) (m + 4) (bF g) := (unhide HR).below (below_drew (Below.refl _ _))
      clear eA
      refine region_I (S := fun u => Rd u (some ⟨b, o, none⟩) (m + 4) (bF g)) (.rd 0 (.rd 1 (.rd 2 (.rd 3 (.rd 4 (.rd 5 (.rd 6 (.rd 7 (.rd 8 (.rd 11 (.rd 12 (.go 9 (.go 10 (.rd 13 (.rd 14 .fin))))))))))))))) [] (by kernel_rfl) (by kernel_rfl) ?_
      refine sI_read (v := (.slice (some ⟨b, o, none⟩) (m + 4) cap)) rfl (fun _ _ _ h => absurd h.1 (fun e => nomatch e)) (wanted_rd rfl) hS (fun wx _ => run_move (.tmp 0) rfl b0 wx) ?_
      show SeqI _ _ _ _ _ _ (Act.put _ (some 4) _) _
      refine sI_read (v := (.int .i64 ((m + 4) : Nat))) rfl (fun _ _ _ h => absurd h.1 (fun e => nomatch e)) (wanted_rd rfl) hS (fun wx _ => run_lenB (.tmp 4) rfl (ev_same _ _ _ (by omega)) wx) ?_
      show SeqI _ _ _ _ _ _ (Act.put _ (some 5) _) _
      refine sI_read (v := (.bool false)) rfl (fun _ _ _ h => absurd h.1 (fun e => nomatch e)) (wanted_rd rfl) hS (fun wx _ => run_lssF (.tmp 5) (.const (.int .i64 4)) rfl (ev_same _ _ _ (by simp only [sz_put]; omega)) rfl (by omega) wx) ?_
      show SeqI _ _ _ _ _ _ (Act.put _ (some 6) _) _
      refine sI_read (v := (.bool false)) rfl (fun _ _ _ h => absurd h.1 (fun e => nomatch e)) (wanted_rd rfl) hS (fun wx _ => run_move (.tmp 6) rfl (ev_same _ _ _ (by simp only [sz_put]; omega)) wx) ?_
      show SeqI _ _ _ _ _ _ (Act.put _ (some 7) _) _
      refine sI_read (v := (.slice (some ⟨b, o, none⟩) (m + 4) cap)) rfl (fun _ _ _ h => absurd h.1 (fun e => nomatch e)) (wanted_g rfl rfl rfl (ev_same _ _ _ (by simp only [sz_put]; omega))) hS (fun wx _ => run_move (.tmp 0) rfl ((ev_other _ _ (by decide)).trans ((ev_other _ _ (by decide)).trans ((ev_other _ _ (by decide)).trans ((ev_other _ _ (by decide)).trans b0)))) wx) ?_
      show SeqI _ _ _ _ _ _ (Act.put _ (some 8) _) _
      refine sI_read (v := (.slice (some ⟨b, o, none⟩) (m + 4) cap)) rfl (fun _ _ _ h => absurd h.1 (fun e => nomatch e)) (wanted_g rfl rfl rfl ((ev_other _ _ (by decide)).trans (ev_same _ _ _ (by simp only [sz_put]; omega)))) hS (fun wx _ => run_move (.tmp 0) rfl ((ev_other _ _ (by decide)).trans ((ev_other _ _ (by decide)).trans ((ev_other _ _ (by decide)).trans ((ev_other _ _ (by decide)).trans ((ev_other _ _ (by decide)).trans b0))))) wx) ?_
      show SeqI _ _ _ _ _ _ (Act.put _ (some 9) _) _
      refine sI_read (v := (.int .i64 ((m + 4 : Nat) : Int))) rfl (fun _ _ _ h => absurd h.1 (fun e => nomatch e)) (wanted_g rfl rfl rfl ((ev_other _ _ (by decide)).trans ((ev_other _ _ (by decide)).trans (ev_same _ _ _ (by simp only [sz_put]; omega))))) hS (fun wx _ => run_lenB (.tmp 9) rfl (ev_same _ _ _ (by simp only [sz_put]; omega)) wx) ?_
      show SeqI _ _ _ _ _ _ (Act.put _ (some 10) _) _
      refine sI_read (v := (.int .i64 (m : Nat))) rfl (fun _ _ _ h => absurd h.1 (fun e => nomatch e)) (wanted_g rfl rfl rfl ((ev_other _ _ (by decide)).trans ((ev_other _ _ (by decide)).trans ((ev_other _ _ (by decide)).trans (ev_same _ _ _ (by simp only [sz_put]; omega)))))) hS (fun wx _ => (run_subB (.tmp 10) (.const (.int .i64 4)) rfl (ev_same _ _ _ (by simp only [sz_put]; omega)) rfl (by omega) (by omega) wx).trans (by rw [show ((m + 4 : Nat) : Int) - 4 = (m : Int) by omega])) ?_
      show SeqI _ _ _ _ _ _ (Act.put _ (some 11) _) _
      refine sI_read (v := (.slice (some ⟨b, o, none⟩) m cap)) rfl (fun _ _ _ h => absurd h.1 (fun e => nomatch e)) (wanted_g rfl rfl rfl ((ev_other _ _ (by decide)).trans ((ev_other _ _ (by decide)).trans ((ev_other _ _ (by decide)).trans ((ev_other _ _ (by decide)).trans (ev_same _ _ _ (by simp only [sz_put]; omega))))))) hS (fun wx _ => run_topB (.tmp 8) (.tmp 11) rfl ((ev_other _ _ (by decide)).trans ((ev_other _ _ (by decide)).trans ((ev_other _ _ (by decide)).trans (ev_same _ _ _ (by simp only [sz_put]; omega))))) (ev_same _ _ _ (by simp only [sz_put]; omega)) (by omega) (by omega) wx) ?_
      show SeqI _ _ _ _ _ _ (Act.put _ (some 12) _) _
      refine sI_read (v := (.slice (some ⟨b, o, none⟩) (m + 4) cap)) rfl (fun _ _ _ h => absurd h.1 (fun e => nomatch e)) (wanted_g rfl rfl rfl ((ev_other _ _ (by decide)).trans ((ev_other _ _ (by decide)).trans ((ev_other _ _ (by decide)).trans ((ev_other _ _ (by decide)).trans ((ev_other _ _ (by decide)).trans (ev_same _ _ _ (by simp only [sz_put]; omega)))))))) hS (fun wx _ => run_move (.tmp 0) rfl ((ev_other _ _ (by decide)).trans ((ev_other _ _ (by decide)).trans ((ev_other _ _ (by decide)).trans ((ev_other _ _ (by decide)).trans ((ev_other _ _ (by decide)).trans ((ev_other _ _ (by decide)).trans ((ev_other _ _ (by decide)).trans ((ev_other _ _ (by decide)).trans ((ev_other _ _ (by decide)).trans b0))))))))) wx) ?_
      show SeqI _ _ _ _ _ _ (Act.put _ (some 15) _) _
      refine sI_read (v := (.string (sB g (m + 4)))) rfl (fun _ _ _ h => absurd h.1 (fun e => nomatch e)) (wanted_g rfl rfl rfl ((ev_other _ _ (by decide)).trans ((ev_other _ _ (by decide)).trans ((ev_other _ _ (by decide)).trans ((ev_other _ _ (by decide)).trans ((ev_other _ _ (by decide)).trans ((ev_other _ _ (by decide)).trans (ev_same _ _ _ (by simp only [sz_put]; omega))))))))) hS (fun wx hx => run_convO (.tmp 15) rfl (ev_same _ _ _ (by simp only [sz_put]; omega)) hx) ?_
      show SeqI _ _ _ _ _ _ (Act.put _ (some 16) _) _
      refine sI_do rfl (wanted_g rfl rfl rfl ((ev_other _ _ (by decide)).trans ((ev_other _ _ (by decide)).trans ((ev_other _ _ (by decide)).trans ((ev_other _ _ (by decide)).trans ((ev_other _ _ (by decide)).trans ((ev_other _ _ (by decide)).trans ((ev_other _ _ (by decide)).trans (ev_same _ _ _ (by simp only [sz_put]; omega)))))))))) (fun K hK => ?_)
      refine wp_call1 _ 78 (.tmp 12) #[76] rfl ((ev_other _ _ (by decide)).trans ((ev_other _ _ (by decide)).trans (ev_same _ _ _ (by simp only [sz_put]; omega)))) (enter_rseal _ _) (refSeal_any (some ⟨b, o, none⟩) m cap g _ (unhide HG) (by omega) (Or.inr ⟨_, rfl, fun i hi => by rw [Addr.add_lit]; exact hcs i (by omega)⟩)) ?_
      rintro e w1 ⟨v, rfl, o1, j1⟩
      obtain ⟨a1, c1, rfl, r1, n1⟩ := owns_sr o1
      have hS1 : Rd w1 (some ⟨b, o, none⟩) (m + 4) (bF g) := hS.below j1
      refine ⟨_, rfl, hK _ _ (fun _ => hS1) ?_⟩
      clear hK K
      show SeqI _ _ _ _ _ _ (Act.put _ (some 13) _) _
      refine sI_do rfl (wanted_g rfl rfl rfl ((ev_other _ _ (by decide)).trans ((ev_other _ _ (by decide)).trans ((ev_other _ _ (by decide)).trans ((ev_other _ _ (by decide)).trans ((ev_other _ _ (by decide)).trans ((ev_other _ _ (by decide)).trans ((ev_other _ _ (by decide)).trans ((ev_other _ _ (by decide)).trans (ev_same _ _ _ (by simp only [sz_put]; omega))))))))))) (fun K hK => ?_)
      refine wp_val (v := .string (sB (slF g m) (m + 4))) (run_convO (.tmp 13) rfl (ev_same _ _ _ (by simp only [sz_put]; omega)) r1.rd) ?_
      refine hK _ _ (fun _ => hS1) ?_
      clear hK K
      show SeqI _ _ _ _ _ _ (Act.put _ (some 14) _) _
      by_cases hq : sB (slF g m) (m + 4) = sB g (m + 4)
      · have hqq : (false = false ↔ opG g (m + 4)) := ⟨fun _ => (op_text (unhide HG) m).1 hq, fun _ => rfl⟩
        refine sI_read (v := (.bool false)) rfl (fun _ _ _ h => absurd h.1 (fun e => nomatch e)) (wanted_g rfl rfl rfl ((ev_other _ _ (by decide)).trans ((ev_other _ _ (by decide)).trans ((ev_other _ _ (by decide)).trans ((ev_other _ _ (by decide)).trans ((ev_other _ _ (by decide)).trans ((ev_other _ _ (by decide)).trans ((ev_other _ _ (by decide)).trans ((ev_other _ _ (by decide)).trans ((ev_other _ _ (by decide)).trans (ev_same _ _ _ (by simp only [sz_put]; omega)))))))))))) hS1 (fun wx _ => run_neqSF (.tmp 14) (.tmp 16) rfl (ev_same _ _ _ (by simp only [sz_put]; omega)) ((ev_other _ _ (by decide)).trans ((ev_other _ _ (by decide)).trans (ev_same _ _ _ (by simp only [sz_put]; omega)))) hq wx) ?_
        show SeqI _ _ _ _ _ _ (Act.put _ (some 17) _) _
        refine sI_read (v := (.bool false)) rfl (fun _ _ _ h => absurd h.1 (fun e => nomatch e)) (wanted_rd rfl) hS1 (fun wx _ => run_pickF (.tmp 7) (.const (.bool true)) (.tmp 17) rfl ((ev_other _ _ (by decide)).trans ((ev_other _ _ (by decide)).trans ((ev_other _ _ (by decide)).trans ((ev_other _ _ (by decide)).trans ((ev_other _ _ (by decide)).trans ((ev_other _ _ (by decide)).trans ((ev_other _ _ (by decide)).trans ((ev_other _ _ (by decide)).trans ((ev_other _ _ (by decide)).trans ((ev_other _ _ (by decide)).trans (ev_same _ _ _ (by simp only [sz_put]; omega)))))))))))) (ev_same _ _ _ (by simp only [sz_put]; omega)) wx) ?_
        show SeqI _ _ _ _ _ _ (Act.put _ (some 18) _) _
        refine sI_end ?_
        exact ⟨rfl, false, a1, c1, hqq, (below_drew (Below.refl _ _)).trans j1, rfl⟩
      · have hqq : (true = false ↔ opG g (m + 4)) := ⟨fun h => (nomatch h), fun h => absurd ((op_text (unhide HG) m).2 h) hq⟩
        refine sI_read (v := (.bool true)) rfl (fun _ _ _ h => absurd h.1 (fun e => nomatch e)) (wanted_g rfl rfl rfl ((ev_other _ _ (by decide)).trans ((ev_other _ _ (by decide)).trans ((ev_other _ _ (by decide)).trans ((ev_other _ _ (by decide)).trans ((ev_other _ _ (by decide)).trans ((ev_other _ _ (by decide)).trans ((ev_other _ _ (by decide)).trans ((ev_other _ _ (by decide)).trans ((ev_other _ _ (by decide)).trans (ev_same _ _ _ (by simp only [sz_put]; omega)))))))))))) hS1 (fun wx _ => run_neqST (.tmp 14) (.tmp 16) rfl (ev_same _ _ _ (by simp only [sz_put]; omega)) ((ev_other _ _ (by decide)).trans ((ev_other _ _ (by decide)).trans (ev_same _ _ _ (by simp only [sz_put]; omega)))) hq wx) ?_
        show SeqI _ _ _ _ _ _ (Act.put _ (some 17) _) _
        refine sI_read (v := (.bool true)) rfl (fun _ _ _ h => absurd h.1 (fun e => nomatch e)) (wanted_rd rfl) hS1 (fun wx _ => run_pickF (.tmp 7) (.const (.bool true)) (.tmp 17) rfl ((ev_other _ _ (by decide)).trans ((ev_other _ _ (by decide)).trans ((ev_other _ _ (by decide)).trans ((ev_other _ _ (by decide)).trans ((ev_other _ _ (by decide)).trans ((ev_other _ _ (by decide)).trans ((ev_other _ _ (by decide)).trans ((ev_other _ _ (by decide)).trans ((ev_other _ _ (by decide)).trans ((ev_other _ _ (by decide)).trans (ev_same _ _ _ (by simp only [sz_put]; omega)))))))))))) (ev_same _ _ _ (by simp only [sz_put]; omega)) wx) ?_
        show SeqI _ _ _ _ _ _ (Act.put _ (some 18) _) _
        refine sI_end ?_
        exact ⟨rfl, true, a1, c1, hqq, (below_drew (Below.refl _ _)).trans j1, rfl⟩
    case rest =>
      rintro a' w3 ⟨v, a1, c1, hv, k3, rfl⟩
      have HV := hide hv; have K3 := hide k3; have Z3 := hide k3.size
      clear hv k3
      cases v
      · have S3 := hide (show Sr w3 (some ⟨b, o, none⟩) m cap (bF g) from Or.inr ⟨_, rfl, fun i hi => by rw [Addr.add_lit]; exact at_below (unhide HC i (by omega)) (unhide K3)⟩)
        have hq := hide ((unhide HV).1 rfl)
        clear HV
        go_frame
        go_wp2_with (at_builtin; refine wpList_join _ rfl _ _ rfl w.heap.size (unhide Z3) (.slice none 0 0) 0 [] rfl (World.ownsRow_nil _ _ _ _) (some ⟨b, o, none⟩) m cap (bF g) rfl (unhide S3) (fun i _ => bF_one g i) (by omega) ?_)
        intro v4 w4 h4 k4
        try rw [Nat.zero_add] at h4
        try rw [List.nil_append] at h4
        have H4 := hide h4; have K4 := hide ((unhide K3).trans k4)
        clear h4 k4
        go_wp2_with fail
        go_ret2
        exact ⟨_, true, rfl, ⟨fun _ => unhide hq, fun _ => rfl⟩, fun _ => unhide H4, fun h => by (cases h), unhide K4⟩
      · have hq := hide (show ¬ opG g (m + 4) from fun h => by (have := (unhide HV).2 h; cases this))
        clear HV
        go_frame
        go_wp2_with fail
        go_ret2
        exact ⟨_, false, rfl, ⟨fun h => by (cases h), fun h => absurd h (unhide hq)⟩, fun h => by (cases h), fun _ => rfl, unhide K3⟩

end Go.Proofs.YthimcecbgpamdaaGreat
