/- Contracts: slices.Equal on bytes, package sum's Open. -/
import Derived.Test.YthimcecbgpamdaaGreatNear167
namespace Go.Proofs.YthimcecbgpamdaaGreat
open Go.RowKit

/-- What the round of Equal reads. -/
def ClE (b o b2 o2 : Nat) (x y : Nat) (u : World) : Prop := u.cell? ⟨b, o, none⟩ = some (bV x) ∧ u.cell? ⟨b2, o2, none⟩ = some (bV y)

set_option maxHeartbeats 1000000 in
theorem equal_any (ao bo : Option Addr) (n cap cap2 : Nat) (g f : Nat → Nat) (w : World) (hn : n ≤ 9223372036854775807) (ha : Rd w ao n (bF g)) (hb : Rd w bo n (bF f)) :
    Calls Tryz.prog 204 #[.slice ao n cap, .slice bo n cap2] w fun e w' => ∃ v, e = .returned (.bool v) ∧ (v = true ↔ ∀ i, i < n → g i = f i) ∧ Below w.heap.size w w' := by
  have HA := hide ha; have HB := hide hb
  clear ha hb
  go_enter Tryz.func204, Tryz.ntmps204
  go_wp2_with fail
  go_loopw [13] (fun is wr => ∃ i : Nat, is = .int .i64 i ∧ i ≤ n ∧ (∀ j, j < i → g j = f j) ∧ Below w.heap.size w wr) (fun is _ => n - (intOf is).toNat)
  case atStart => exact ⟨0, rfl, Nat.zero_le _, fun j hj => absurd hj (by omega), Below.refl _ _⟩
  case round =>
    obtain ⟨i, rfl, hi, he, hk⟩ := hrel
    have HE := hide he; have K1 := hide hk
    clear he hk
    by_cases hin : i < n
    · obtain ⟨b, o, rfl, ca⟩ := unhide HA (by omega)
      obtain ⟨b2, o2, rfl, cb⟩ := unhide HB (by omega)
      have hS := hide (show ClE b (o + i) b2 (o2 + i) (g i) (f i) _ from ⟨at_below (ca i hin) (unhide K1), at_below (cb i hin) (unhide K1)⟩)
      clear ca cb
      go_wp2_with fail
      rename World => wr
      have hS2 : ClE b (o + i) b2 (o2 + i) (g i) (f i) wr.drew := unhide hS
      by_cases hq : g i = f i
      · have _ := True.intro
        refine wp_leaves (fun a0 a' w' => w' = wr.drew ∧ a' = (((((((((a0.put (some 16) (.slice (some ⟨b, o, none⟩) n cap)).put (some 17) (.int .i64 (i : Nat))).put (some 18) (.pointer (some ⟨b, o + i, none⟩))).put (some 19) (bV (g i))).put (some 20) (.slice (some ⟨b2, o2, none⟩) n cap2)).put (some 21) (.int .i64 (i : Nat))).put (some 22) (.pointer (some ⟨b2, o2 + i, none⟩))).put (some 23) (bV (f i))).put (some 24) (.bool false))) ?reg ?rest
        case reg =>
          intro A eA
          have b0 : A.eval (.tmp 0) = .slice (some ⟨b, o, none⟩) n cap := by rw [eA]; rfl
          have b1 : A.eval (.tmp 1) = .slice (some ⟨b2, o2, none⟩) n cap2 := by rw [eA]; rfl
          have b5 : A.eval (.tmp 5) = .int .i64 (i : Nat) := by rw [eA]; rfl
          have hs : 26 ≤ A.tmps.size := by rw [eA]; exact of_decide_eq_true rfl
          clear eA
          refine region_I (S := ClE b (o + i) b2 (o2 + i) (g i) (f i)) (.rd 0 (.rd 1 (.rd 2 (.rd 3 (.rd 4 (.rd 5 (.rd 6 (.rd 7 (.rd 8 .fin))))))))) [] (by kernel_rfl) (by kernel_rfl) ?_
          refine sI_read (v := (.slice (some ⟨b, o, none⟩) n cap)) rfl (fun _ _ _ h => absurd h.1 (fun e => nomatch e)) (wanted_rd rfl) hS2 (fun wx _ => run_move (.tmp 0) rfl b0 wx) ?_
          show SeqI _ _ _ _ _ _ (Act.put _ (some 16) _) _
          refine sI_read (v := (.int .i64 (i : Nat))) rfl (fun _ _ _ h => absurd h.1 (fun e => nomatch e)) (wanted_rd rfl) hS2 (fun wx _ => run_move (.tmp 5) rfl ((ev_other _ _ (by decide)).trans b5) wx) ?_
          show SeqI _ _ _ _ _ _ (Act.put _ (some 17) _) _
          refine sI_read (v := (.pointer (some ⟨b, o + i, none⟩))) rfl (fun _ _ _ h => absurd h.1 (fun e => nomatch e)) (wanted_rd rfl) hS2 (fun wx _ => run_indexB (.tmp 16) (.tmp 17) rfl ((ev_other _ _ (by decide)).trans (ev_same _ _ _ (by omega))) (ev_same _ _ _ (by simp only [sz_put]; omega)) hin wx) ?_
          show SeqI _ _ _ _ _ _ (Act.put _ (some 18) _) _
          refine sI_read (v := (bV (g i))) rfl (fun _ _ _ h => absurd h.1 (fun e => nomatch e)) (wanted_rd rfl) hS2 (fun wx hx => run_loadB (.tmp 18) rfl (ev_same _ _ _ (by simp only [sz_put]; omega)) hx.1) ?_
          show SeqI _ _ _ _ _ _ (Act.put _ (some 19) _) _
          refine sI_read (v := (.slice (some ⟨b2, o2, none⟩) n cap2)) rfl (fun _ _ _ h => absurd h.1 (fun e => nomatch e)) (wanted_rd rfl) hS2 (fun wx _ => run_move (.tmp 1) rfl ((ev_other _ _ (by decide)).trans ((ev_other _ _ (by decide)).trans ((ev_other _ _ (by decide)).trans ((ev_other _ _ (by decide)).trans b1)))) wx) ?_
          show SeqI _ _ _ _ _ _ (Act.put _ (some 20) _) _
          refine sI_read (v := (.int .i64 (i : Nat))) rfl (fun _ _ _ h => absurd h.1 (fun e => nomatch e)) (wanted_rd rfl) hS2 (fun wx _ => run_move (.tmp 5) rfl ((ev_other _ _ (by decide)).trans ((ev_other _ _ (by decide)).trans ((ev_other _ _ (by decide)).trans ((ev_other _ _ (by decide)).trans ((ev_other _ _ (by decide)).trans b5))))) wx) ?_
          show SeqI _ _ _ _ _ _ (Act.put _ (some 21) _) _
          refine sI_read (v := (.pointer (some ⟨b2, o2 + i, none⟩))) rfl (fun _ _ _ h => absurd h.1 (fun e => nomatch e)) (wanted_rd rfl) hS2 (fun wx _ => run_indexB (.tmp 20) (.tmp 21) rfl ((ev_other _ _ (by decide)).trans (ev_same _ _ _ (by simp only [sz_put]; omega))) (ev_same _ _ _ (by simp only [sz_put]; omega)) hin wx) ?_
          show SeqI _ _ _ _ _ _ (Act.put _ (some 22) _) _
          refine sI_read (v := (bV (f i))) rfl (fun _ _ _ h => absurd h.1 (fun e => nomatch e)) (wanted_rd rfl) hS2 (fun wx hx => run_loadB (.tmp 22) rfl (ev_same _ _ _ (by simp only [sz_put]; omega)) hx.2) ?_
          show SeqI _ _ _ _ _ _ (Act.put _ (some 23) _) _
          refine sI_read (v := (.bool false)) rfl (fun _ _ _ h => absurd h.1 (fun e => nomatch e)) (wanted_rd rfl) hS2 (fun wx _ => run_neqF (.tmp 19) (.tmp 23) rfl ((ev_other _ _ (by decide)).trans ((ev_other _ _ (by decide)).trans ((ev_other _ _ (by decide)).trans ((ev_other _ _ (by decide)).trans (ev_same _ _ _ (by simp only [sz_put]; omega)))))) (ev_same _ _ _ (by simp only [sz_put]; omega)) hq wx) ?_
          show SeqI _ _ _ _ _ _ (Act.put _ (some 24) _) _
          refine sI_end ?_
          exact ⟨rfl, rfl, rfl⟩
        case rest =>
          rintro a' w3 ⟨rfl, rfl⟩
          have K2 := hide (below_drew (unhide K1))
          have HQ := hide hq
          clear hS hS2 hq
          go_frame
          go_wp2_with fail
          go_roundw
          case rel => exact ⟨i + 1, by go_num, by omega, fun j hj => by
            rcases Nat.lt_or_ge j i with h | h
            · exact unhide HE j h
            · obtain rfl : j = i := by omega
              exact unhide HQ, unhide K2⟩
          case measure => simp [intOf] <;> omega
      · have _ := True.intro
        refine wp_leaves (fun a0 a' w' => w' = wr.drew ∧ a' = (((((((((a0.put (some 16) (.slice (some ⟨b, o, none⟩) n cap)).put (some 17) (.int .i64 (i : Nat))).put (some 18) (.pointer (some ⟨b, o + i, none⟩))).put (some 19) (bV (g i))).put (some 20) (.slice (some ⟨b2, o2, none⟩) n cap2)).put (some 21) (.int .i64 (i : Nat))).put (some 22) (.pointer (some ⟨b2, o2 + i, none⟩))).put (some 23) (bV (f i))).put (some 24) (.bool true))) ?reg ?rest
        case reg =>
          intro A eA
          have b0 : A.eval (.tmp 0) = .slice (some ⟨b, o, none⟩) n cap := by rw [eA]; rfl
          have b1 : A.eval (.tmp 1) = .slice (some ⟨b2, o2, none⟩) n cap2 := by rw [eA]; rfl
          have b5 : A.eval (.tmp 5) = .int .i64 (i : Nat) := by rw [eA]; rfl
          have hs : 26 ≤ A.tmps.size := by rw [eA]; exact of_decide_eq_true rfl
          clear eA
          refine region_I (S := ClE b (o + i) b2 (o2 + i) (g i) (f i)) (.rd 0 (.rd 1 (.rd 2 (.rd 3 (.rd 4 (.rd 5 (.rd 6 (.rd 7 (.rd 8 .fin))))))))) [] (by kernel_rfl) (by kernel_rfl) ?_
          refine sI_read (v := (.slice (some ⟨b, o, none⟩) n cap)) rfl (fun _ _ _ h => absurd h.1 (fun e => nomatch e)) (wanted_rd rfl) hS2 (fun wx _ => run_move (.tmp 0) rfl b0 wx) ?_
          show SeqI _ _ _ _ _ _ (Act.put _ (some 16) _) _
          refine sI_read (v := (.int .i64 (i : Nat))) rfl (fun _ _ _ h => absurd h.1 (fun e => nomatch e)) (wanted_rd rfl) hS2 (fun wx _ => run_move (.tmp 5) rfl ((ev_other _ _ (by decide)).trans b5) wx) ?_
          show SeqI _ _ _ _ _ _ (Act.put _ (some 17) _) _
          refine sI_read (v := (.pointer (some ⟨b, o + i, none⟩))) rfl (fun _ _ _ h => absurd h.1 (fun e => nomatch e)) (wanted_rd rfl) hS2 (fun wx _ => run_indexB (.tmp 16) (.tmp 17) rfl ((ev_other _ _ (by decide)).trans (ev_same _ _ _ (by omega))) (ev_same _ _ _ (by simp only [sz_put]; omega)) hin wx) ?_
          show SeqI _ _ _ _ _ _ (Act.put _ (some 18) _) _
          refine sI_read (v := (bV (g i))) rfl (fun _ _ _ h => absurd h.1 (fun e => nomatch e)) (wanted_rd rfl) hS2 (fun wx hx => run_loadB (.tmp 18) rfl (ev_same _ _ _ (by simp only [sz_put]; omega)) hx.1) ?_
          show SeqI _ _ _ _ _ _ (Act.put _ (some 19) _) _
          refine sI_read (v := (.slice (some ⟨b2, o2, none⟩) n cap2)) rfl (fun _ _ _ h => absurd h.1 (fun e => nomatch e)) (wanted_rd rfl) hS2 (fun wx _ => run_move (.tmp 1) rfl ((ev_other _ _ (by decide)).trans ((ev_other _ _ (by decide)).trans ((ev_other _ _ (by decide)).trans ((ev_other _ _ (by decide)).trans b1)))) wx) ?_
          show SeqI _ _ _ _ _ _ (Act.put _ (some 20) _) _
          refine sI_read (v := (.int .i64 (i : Nat))) rfl (fun _ _ _ h => absurd h.1 (fun e => nomatch e)) (wanted_rd rfl) hS2 (fun wx _ => run_move (.tmp 5) rfl ((ev_other _ _ (by decide)).trans ((ev_other _ _ (by decide)).trans ((ev_other _ _ (by decide)).trans ((ev_other _ _ (by decide)).trans ((ev_other _ _ (by decide)).trans b5))))) wx) ?_
          show SeqI _ _ _ _ _ _ (Act.put _ (some 21) _) _
          refine sI_read (v := (.pointer (some ⟨b2, o2 + i, none⟩))) rfl (fun _ _ _ h => absurd h.1 (fun e => nomatch e)) (wanted_rd rfl) hS2 (fun wx _ => run_indexB (.tmp 20) (.tmp 21) rfl ((ev_other _ _ (by decide)).trans (ev_same _ _ _ (by simp only [sz_put]; omega))) (ev_same _ _ _ (by simp only [sz_put]; omega)) hin wx) ?_
          show SeqI _ _ _ _ _ _ (Act.put _ (some 22) _) _
          refine sI_read (v := (bV (f i))) rfl (fun _ _ _ h => absurd h.1 (fun e => nomatch e)) (wanted_rd rfl) hS2 (fun wx hx => run_loadB (.tmp 22) rfl (ev_same _ _ _ (by simp only [sz_put]; omega)) hx.2) ?_
          show SeqI _ _ _ _ _ _ (Act.put _ (some 23) _) _
          refine sI_read (v := (.bool true)) rfl (fun _ _ _ h => absurd h.1 (fun e => nomatch e)) (wanted_rd rfl) hS2 (fun wx _ => run_neqT (.tmp 19) (.tmp 23) rfl ((ev_other _ _ (by decide)).trans ((ev_other _ _ (by decide)).trans ((ev_other _ _ (by decide)).trans ((ev_other _ _ (by decide)).trans (ev_same _ _ _ (by simp only [sz_put]; omega)))))) (ev_same _ _ _ (by simp only [sz_put]; omega)) hq wx) ?_
          show SeqI _ _ _ _ _ _ (Act.put _ (some 24) _) _
          refine sI_end ?_
          exact ⟨rfl, rfl, rfl⟩
        case rest =>
          rintro a' w3 ⟨rfl, rfl⟩
          have K2 := hide (below_drew (unhide K1))
          have HQ := hide hq
          clear hS hS2 hq
          go_frame
          go_wp2_with fail
          go_ret
          exact ⟨false, rfl, ⟨fun h => by (cases h), fun h => absurd (h i hin) (unhide HQ)⟩, unhide K2⟩
    · have e6 : i = n := by omega
      subst e6
      go_wp2_with fail
      go_ret
      exact ⟨true, rfl, ⟨fun _ => unhide HE, fun _ => rfl⟩, unhide K1⟩

/-- Is the sum right? -/
def opG (g : Nat → Nat) (n : Nat) : Prop := 4 ≤ n ∧ ∀ i, i < 4 → g (n - 4 + i) = tlF (moreN 0 g (n - 4)) i

set_option maxHeartbeats 1000000 in
theorem open_any (ao : Option Addr) (len cap : Nat) (g : Nat → Nat) (w : World) (hg : ∀ i, g i < 256) (hl : len ≤ 140737488355328) (hc : len ≤ cap) (hr : Rd w ao len (bF g)) :
    Calls Tryz.prog 185 #[.slice ao len cap] w fun e w' => ∃ v ok, e = .returned (.tuple #[v, .bool ok]) ∧ (ok = true ↔ opG g len) ∧ (ok = true → w'.ownsRow w.heap.size 5 1 v (len - 4) (rowV (bF g) (len - 4))) ∧ (ok = false → v = .slice none 0 0) ∧ Below w.heap.size w w' := by
  by_cases h4 : len < 4
  · have h42 : (len : Int) < 4 := by omega
    clear hr
    go_enter Tryz.func185, Tryz.ntmps185
    go_wp2_with fail
    go_ret2
    exact ⟨_, false, rfl, ⟨fun h => by (cases h), fun h => absurd h.1 (by omega)⟩, fun h => by (cases h), fun _ => rfl, Below.refl _ _⟩
  · obtain ⟨m, rfl⟩ : ∃ m, len = m + 4 := ⟨len - 4, by omega⟩
    have h42 : ¬ ((m : Int) + 4 < 4) := by omega
    obtain ⟨b, o, rfl, hcs⟩ := hr (by omega)
    have HR := hide hr; have HG := hide hg
    have RT := hide (show Rd w (some ⟨b, o + m, none⟩) 4 (bF (fun i => g (m + i))) from fun _ => ⟨b, o + m, rfl, fun i hi => by rw [Nat.add_assoc]; exact hcs (m + i) (by omega)⟩)
    have RM := hide (show Rd w (some ⟨b, o, none⟩) m (bF g) from hr.less (by omega))
    clear hr hg hcs h4
    rw [show m + 4 - 4 = m by omega]
    go_enter Tryz.func185, Tryz.ntmps185
    go_wp2_with fail
    refine (tailOf_any (some ⟨b, o, none⟩) m cap g _ (unhide HG) (by omega) (unhide RM)).mono ?_
    rintro e w3 ⟨rfl, k3⟩
    obtain ⟨T, eT⟩ : ∃ T : Array Value, T = (rowV (bF (tlF (moreN 0 g m))) 4).toArray := ⟨_, rfl⟩
    rw [← eT]
    have st := store_all Tryz.prog w3.heap.size 211 #[.int .u8 0, .int .u8 0, .int .u8 0, .int .u8 0] T (w3.alloc (.cells #[.int .u8 0, .int .u8 0, .int .u8 0, .int .u8 0] 211)) (heap_alloc_new _ _) (by rw [eT]; rfl) (by rw [eT, Array.all_eq_true_iff_forall_mem]; intro u hu; exact rowV_one _ 4 (fun i _ => rfl) u (by simpa using hu))
    rw [World.setRow_alloc_new] at st
    have sT : T.size = 4 := by rw [eT]; rfl
    have k4 := k3.trans ((al_below w3 (.cells T 211)).mono k3.size)
    have s4 : Rd (w3.alloc (.cells T 211)) (some ⟨w3.heap.size, 0, none⟩) 4 (bF (tlF (moreN 0 g m))) :=
      (Vh.of_row (t := 211) (bF (tlF (moreN 0 g m))) 4 (by unfold maxLen; omega) (by rw [heap_alloc_new, eT]; rfl)).rd
    have K4 := hide k4; have S4 := hide s4
    clear k3 k4 s4 eT
    go_wp2_with fail
    obtain ⟨q, eq⟩ : ∃ q, q = w3.heap.size := ⟨_, rfl⟩
    obtain ⟨w4, e4⟩ : ∃ w4, w4 = w3.alloc (Obj.cells T 211) := ⟨_, rfl⟩
    rw [← eq] at S4 ⊢
    rw [← e4] at S4 K4 ⊢
    clear e4 eq st sT
    refine wp_leaves (fun a0 a' w' => ∃ v : Bool, (v = true ↔ ∀ i, i < 4 → g (m + i) = tlF (moreN 0 g m) i) ∧ Below w.heap.size w w' ∧ a' = (((((((a0.put (some 17) (.slice (some ⟨b, o, none⟩) (m + 4) cap)).put (some 18) (.slice (some ⟨b, o, none⟩) m cap)).put (some 19) (.int .i64 (m : Nat))).put (some 20) (.slice (some ⟨b, o + m, none⟩) 4 (cap - m))).put (some 21) (.slice (some ⟨q, 0, none⟩) 4 4)).put (some 22) (.bool v)).put (some 23) (.bool (!v)))) ?reg ?rest
    case reg =>
      intro A eA
      have b0 : A.eval (.tmp 0) = .slice (some ⟨b, o, none⟩) (m + 4) cap := by rw [eA]; rfl
      have b4 : A.eval (.tmp 4) = .slice (some ⟨b, o, none⟩) m cap := by rw [eA]; rfl
      have b5 : A.eval (.tmp 5) = .pointer (some ⟨q, 0, none⟩) := by rw [eA]; rfl
      have hs : 31 ≤ A.tmps.size := by rw [eA]; exact of_decide_eq_true rfl
      clear eA
      refine region_I (S := fun _ => True) (.rd 0 (.rd 1 (.rd 2 (.rd 3 (.rd 4 (.go 5 (.rd 6 .fin))))))) [] (by kernel_rfl) (by kernel_rfl) ?_
      refine sI_read (v := (.slice (some ⟨b, o, none⟩) (m + 4) cap)) rfl (fun _ _ _ h => absurd h.1 (fun e => nomatch e)) (wanted_rd rfl) trivial (fun wx _ => run_move (.tmp 0) rfl b0 wx) ?_
      show SeqI _ _ _ _ _ _ (Act.put _ (some 17) _) _
      refine sI_read (v := (.slice (some ⟨b, o, none⟩) m cap)) rfl (fun _ _ _ h => absurd h.1 (fun e => nomatch e)) (wanted_rd rfl) trivial (fun wx _ => run_move (.tmp 4) rfl ((ev_other _ _ (by decide)).trans b4) wx) ?_
      show SeqI _ _ _ _ _ _ (Act.put _ (some 18) _) _
      refine sI_read (v := (.int .i64 (m : Nat))) rfl (fun _ _ _ h => absurd h.1 (fun e => nomatch e)) (wanted_rd rfl) trivial (fun wx _ => run_lenB (.tmp 18) rfl (ev_same _ _ _ (by simp only [sz_put]; omega)) wx) ?_
      show SeqI _ _ _ _ _ _ (Act.put _ (some 19) _) _
      refine sI_read (v := (.slice (some ⟨b, o + m, none⟩) 4 (cap - m))) rfl (fun _ _ _ h => absurd h.1 (fun e => nomatch e)) (wanted_rd rfl) trivial (fun wx _ => (run_lowB (.tmp 17) (.tmp 19) rfl ((ev_other _ _ (by decide)).trans ((ev_other _ _ (by decide)).trans (ev_same _ _ _ (by omega)))) (ev_same _ _ _ (by simp only [sz_put]; omega)) (by omega) (by omega) wx).trans (by rw [Nat.add_sub_cancel_left])) ?_
      show SeqI _ _ _ _ _ _ (Act.put _ (some 20) _) _
      refine sI_read (v := (.slice (some ⟨q, 0, none⟩) 4 4)) rfl (fun _ _ _ h => absurd h.1 (fun e => nomatch e)) (wanted_rd rfl) trivial (fun wx _ => run_fourB (.tmp 5) rfl ((ev_other _ _ (by decide)).trans ((ev_other _ _ (by decide)).trans ((ev_other _ _ (by decide)).trans ((ev_other _ _ (by decide)).trans b5)))) wx) ?_
      show SeqI _ _ _ _ _ _ (Act.put _ (some 21) _) _
      refine sI_do rfl (wanted_rd rfl) (fun K hK => ?_)
      refine wp_call2 _ 204 (.tmp 20) (.tmp 21) #[76, 76] rfl ((ev_other _ _ (by decide)).trans (ev_same _ _ _ (by simp only [sz_put]; omega))) (ev_same _ _ _ (by simp only [sz_put]; omega)) (enter_equal _ _ _) (equal_any (some ⟨b, o + m, none⟩) (some ⟨q, 0, none⟩) 4 (cap - m) 4 (fun i => g (m + i)) (tlF (moreN 0 g m)) _ (by omega) (((unhide RT).below (unhide K4)).below (below_drew (Below.refl _ _))) ((unhide S4).below (below_drew (Below.refl _ _)))) ?_
      rintro e w5 ⟨v, rfl, hv, j5⟩
      refine ⟨_, rfl, hK _ _ (fun _ => trivial) ?_⟩
      clear hK K
      show SeqI _ _ _ _ _ _ (Act.put _ (some 22) _) _
      refine sI_read (v := (.bool (!v))) rfl (fun _ _ _ h => absurd h.1 (fun e => nomatch e)) (wanted_rd rfl) trivial (fun wx _ => run_notB (.tmp 22) _ rfl (ev_same _ _ _ (by simp only [sz_put]; omega)) wx) ?_
      show SeqI _ _ _ _ _ _ (Act.put _ (some 23) _) _
      refine sI_end ?_
      exact ⟨rfl, v, hv, (below_drew (unhide K4)).trans (j5.mono (unhide K4).size), rfl⟩
    case rest =>
      rintro a' w5 ⟨v, hv, k5, rfl⟩
      have HV := hide hv; have K5 := hide k5
      clear hv k5
      cases v
      · go_frame
        go_wp2_with fail
        go_ret2
        exact ⟨_, false, rfl, ⟨fun h => by (cases h), fun h => by have h2 := (unhide HV).2 (fun i hi => by have := h.2 i hi; rw [show m + 4 - 4 = m by omega] at this; exact this); cases h2⟩, fun h => by (cases h), fun _ => rfl, unhide K5⟩
      · go_frame
        go_wp2_with (at_make; refine wpList_makeC _ rfl _ _ rfl m m rfl rfl (by omega) (by omega) ?_)
        intro w6 z6 v6 j6
        have V6 := hide v6; have K6 := hide ((unhide K5).trans (j6.mono (unhide K5).size)); have J6 := hide j6
        clear v6 z6 j6
        go_wp2_with (show wpList _ _ _ ({ dst := _, op := Op.call { callee := Callee.builtin Builtin.copy, args := _, argTypes := _ }, type := _, pos := _, after := _, guard := _ } :: _) _ _; refine wpList_copyB _ rfl _ _ rfl w5.heap.size m m _ rfl (unhide V6) (some ⟨b, o, none⟩) cap (bF g) rfl ((unhide RM).below (unhide K6)) (bF_one g) ?_)
        intro w7 v7 k7
        have z5 := (unhide K5).size
        have V7 := hide v7; have K7 := hide (below_of_kept (unhide K6) k7 z5 (unhide K6).size)
        clear v7 k7
        go_wp2_with fail
        go_ret2
        exact ⟨_, true, rfl, ⟨fun _ => ⟨by omega, fun i hi => by rw [show m + 4 - 4 = m by omega]; exact (unhide HV).1 (by trivial) i hi⟩, fun _ => rfl⟩, fun _ => (unhide V7).owns z5, fun h => by (cases h), unhide K7⟩

end Go.Proofs.YthimcecbgpamdaaGreat
