/- The walk of MemberStays, whatever the functions of member are made of. (Written by tools/gen_memlaws.py.) -/
import Derived.Test.YtbgdjldmplkecaaLawsR3
import Derived.Test.YtbgdjldmplkecaaOpenMem
namespace Go.Proofs.Ytbgdjldmplkecaa
open Go.RowKit


set_option maxRecDepth 100000 in
set_option maxHeartbeats 8000000 in
theorem memberStays_by (hB : BgOK 8) (hC : CtOK 10) (hG : GrOK 12) (hS : StOK 14) {w : World} (ao : Option Addr) (n cap : Nat) (S : Nat → Nat → Bool) (who : Int) (aq : ArgQ w ao n S) (_ : n ≤ maxLen) :
    Calls Try.prog 5 #[.slice ao n cap, .int .i64 who] w fun e w' => e = .returned (.bool true) ∧ Below w.heap.size w w' := by
  have HB := hide hB; have HC := hide hC; have HG := hide hG; have HS := hide hS; have AQ := hide aq
  clear hB hC hG hS aq
  go_enter Try.func5, Try.ntmps5
  go_wp2_with fail
  refine (spotS_any who 4 (by omega) (by omega) _).mono ?_
  rintro e w1 ⟨j, hj', rfl, ew1⟩
  obtain rfl : w = w1 := ew1.symm
  have hj : j < 4 := by omega
  go_wp2_with fail
  refine (unhide HB _).mono ?_
  rintro e w2 ⟨rfl, k2⟩
  obtain ⟨br, ebr⟩ : ∃ br, w2.heap.size = br := ⟨_, rfl⟩
  have kA := al_below w2 (.cells #[.bool false, .bool false, .bool false, .bool false, .int .i64 0, .int .i64 0, .int .i64 0, .int .i64 0, .int .i64 0, .int .i64 0, .int .i64 0, .int .i64 0] 25)
  have mA := RAt.new w2 zeroR
  have zb : w.heap.size ≤ br := by have := k2.size; omega
  rw [ebr] at mA
  have MA := hide mA; have JA := hide (k2.trans (kA.mono k2.size))
  clear k2 kA mA
  go_wp2_with (refine wpList_storeRl _ rfl (.tmp 5) (.tmp 15) rfl (by rw [← ebr]; rfl) (r := beginR) rfl (unhide MA) rfl ?_)
  intro w3 m3 k3
  have R3 := hide m3; have J3 := hide (below_of_kept (unhide JA) k3 zb (unhide JA).size)
  clear m3 k3 MA JA ebr
  go_wp2_with fail
  go_loopw [6] (fun is wr => ∃ (i : Nat) (r : Rl), is = .int .i64 i ∧ i ≤ 60 ∧ gdA r = true ∧ r.I j = true ∧ r.M j = 0 ∧ RAt wr br r ∧ Below w.heap.size w wr) (fun is _ => 60 - (intOf is).toNat)
  case atStart => exact ⟨0, beginR, rfl, by omega, gdA_begin, rfl, rfl, unhide R3, unhide J3⟩
  case round =>
    obtain ⟨i, r, rfl, hi, hg, hI, hM, hR, hK⟩ := hrel
    rename World => wr
    have RX := hide hR; have KX := hide hK; have HI := hide hI; have HM := hide hM; have GG := hide hg
    clear hR hK R3 J3 hI hM hg
    by_cases hin : i < n ∧ i < 60
    · obtain ⟨hin, hi60⟩ := hin
      have hin' : (i : Int) < (n : Int) := by omega
      have hi60' : (i : Int) < 60 := by omega
      obtain ⟨b, o, rfl, hc⟩ := unhide AQ (by omega)
      have c0 : wr.cell? ⟨b, o + i * 4, none⟩ = some (.bool (S i 0)) := at_below (hc i 0 hin (by omega)) (unhide KX)
      have c1 : wr.cell? ⟨b, o + i * 4 + 1, none⟩ = some (.bool (S i 1)) := at_below (hc i 1 hin (by omega)) (unhide KX)
      have c2 : wr.cell? ⟨b, o + i * 4 + 2, none⟩ = some (.bool (S i 2)) := at_below (hc i 2 hin (by omega)) (unhide KX)
      have c3 : wr.cell? ⟨b, o + i * 4 + 3, none⟩ = some (.bool (S i 3)) := at_below (hc i 3 hin (by omega)) (unhide KX)
      obtain ⟨wb, eb, mb, kb, zb2⟩ := b4_alloc wr (S i)
      have gb := mb.cell hj; have fb := mb.free j
      have ms := mb.set j true
      have kk := kept_set wb wr.heap.size j (.bool true)
      have lr := (unhide RX).lt
      obtain ⟨ba, eba⟩ : ∃ ba, wr.heap.size = ba := ⟨_, rfl⟩
      rw [eba] at gb fb ms kk lr
      obtain ⟨wa, ewa⟩ : ∃ wa, wb.setCell ⟨ba, j, none⟩ (.bool true) = wa := ⟨_, rfl⟩
      rw [ewa] at ms kk
      have zba : w.heap.size ≤ ba := by have := (unhide KX).size; omega
      obtain ⟨A, eA⟩ : ∃ A : Nat → Bool, (fun k => if k = j then true else S i k) = A := ⟨_, rfl⟩
      have hAj : A j = true := by rw [← eA]; exact if_pos rfl
      have kj := (unhide KX).trans (kb.mono (unhide KX).size)
      have RR := hide (((unhide RX).below kb).kept kk (by omega)); have KW := hide (below_of_kept kj kk zba kj.size)
      have AA := hide (show B4 wa ba A by rw [← eA]; exact ms)
      have EB := eb.symm
      clear hc mb kb kk ms eA eb RX KX kj
      go_wp2_with fail
      clear c0 c1 c2 c3 gb fb EB ewa
      have hg := unhide GG
      obtain ⟨R, eR⟩ : ∃ R, (rnN A r 4).1 = R := ⟨_, rfl⟩
      obtain ⟨L, eL⟩ : ∃ L, (rnN A r 4).2 = L := ⟨_, rfl⟩
      have eRL : stR r true 4 A = (R, L, 0) := by rw [stR_strong hg, eR, eL]
      obtain ⟨s1, s2, s3⟩ := rn_stays (A := A) (unhide HI) (unhide HM) hAj 4
      have sg := rn_good (A := A) hg 4
      have sl := rn_len A r 4
      rw [eR] at s1 s2 sg
      rw [eL] at s3 sl
      have S3 := hide s3; have SG := hide sg; have S1 := hide s1; have S2 := hide s2
      clear eR eL s3 sg HI HM GG
      refine wp_leaves (fun a0 a' w' => ∃ (xv xs : Value) (al : Option Addr) (cl nb : Nat), (br < nb ∧ RAt w' nb R ∧ RAt w' br r ∧ B4 w' ba A ∧ ChRd 0 w' al L ∧ Below w.heap.size w w') ∧ a' = (((((((((((a0.put (some 8) (.pointer (some ⟨nb, 0, none⟩))).put (some 9) (.slice al L.length cl)).put (some 10) (.int .i64 0)).put (some 32) xs).put (some 33) (rollV r)).put (some 34) (boolV A)).put (some 35) xv).put (some 36) xs).put (some 37) (rollV R)).put (some 38) (.slice al L.length cl)).put (some 39) (.int .i64 0))) ?reg8 ?rest8
      case reg8 =>
        intro A0 eA
        have hb5 : A0.eval (.tmp 5) = .pointer (some ⟨br, 0, none⟩) := by rw [eA]; rfl
        have hb7 : A0.eval (.tmp 7) = .pointer (some ⟨ba, 0, none⟩) := by rw [eA]; rfl
        have hz : 69 ≤ A0.tmps.size := by rw [eA]; exact of_decide_eq_true rfl
        clear eA
        have RR0 : RAt wa.drew br r := unhide RR
        have AA0 : B4 wa.drew ba A := unhide AA
        have j0 : Below w.heap.size w wa.drew := below_drew (unhide KW)
        refine region_I (S := fun u => RAt u br r ∧ B4 u ba A) (.rd 0 (.rd 1 (.two 2 8 (.two 3 8 (.rd 4 (.rd 5 (.rd 6 (.rd 7 (.go 8 (.go 9 (.rd 10 (.rd 11 .fin)))))))) (.go 3 (.rd 4 (.rd 5 (.rd 6 (.rd 7 (.go 9 (.rd 10 (.rd 11 .fin))))))))) (.go 2 (.go 3 (.rd 4 (.rd 5 (.rd 6 (.rd 7 (.go 9 (.rd 10 (.rd 11 .fin)))))))))))) [] (by kernel_rfl) (by kernel_rfl) ?_
        refine sI_read (v := (rollV r)) rfl (fun _ _ _ h => absurd h.1 (fun e => nomatch e)) (wanted_rd rfl) ⟨RR0, AA0⟩ (fun wx hx => run_loadRl (.tmp 5) rfl hb5 hx.1) ?_
        show SeqI _ _ _ _ _ _ (Act.put _ (some 33) _) _
        refine sI_read (v := (boolV A)) rfl (fun _ _ _ h => absurd h.1 (fun e => nomatch e)) (wanted_rd rfl) ⟨RR0, AA0⟩ (fun wx hx => run_lodB4 (.tmp 7) rfl ((ev_other _ _ (by decide)).trans hb7) hx.2) ?_
        show SeqI _ _ _ _ _ _ (Act.put _ (some 34) _) _
        refine sI_two rfl rfl (wanted_rd rfl) (wanted_rd rfl) ?_ ?_
        · intro K hK
          refine wp_call1 _ 17 (.tmp 34) _ rfl (ev_same _ _ _ (by simp only [sz_put]; omega)) (enter_ver _ _) (verdict_any A _) ?_
          rintro e w31 ⟨a31, c31, rfl, s31, h31, k31⟩
          have RR31 := RR0.below k31
          have AA31 := AA0.below k31
          have j31 : Below w.heap.size w w31 := j0.trans (k31.mono j0.size)
          refine ⟨_, rfl, hK _ _ (fun _ => ⟨RR31, AA31⟩) ?_⟩
          clear hK K
          show SeqI _ _ _ _ _ _ (Act.put _ (some 35) _) _
          refine sI_two rfl rfl (wanted_rd rfl) (wanted_rd rfl) ?_ ?_
          · intro K hK
            refine wp_call2 _ 14 (.tmp 33) (.tmp 35) _ rfl ((ev_other _ _ (by decide)).trans ((ev_other _ _ (by decide)).trans (ev_same _ _ _ (by omega)))) (ev_same _ _ _ (by simp only [sz_put]; omega)) (enter_step _ _ _) ((unhide HS) r 0 true _ 4 _ A _ (gd_R hg) R64_nought (by omega) h31 s31) ?_
            rw [eRL]
            dsimp only
            rintro e w32 ⟨a32, c32, rfl, g32, k32⟩
            have RR32 := RR31.below k32
            have AA32 := AA31.below k32
            have SR32 := s31.below k32
            have j32 : Below w.heap.size w w32 := j31.trans (k32.mono j31.size)
            refine ⟨_, rfl, hK _ _ (fun _ => ⟨RR32, AA32⟩) ?_⟩
            clear hK K
            show SeqI _ _ _ _ _ _ (Act.put _ (some 36) _) _
            refine sI_read (v := (.tuple #[rollV R, .slice a32 L.length c32, .int .i64 0])) rfl (fun _ _ _ h => absurd h.1 (fun e => nomatch e)) (wanted_rd rfl) ⟨RR32, AA32⟩ (fun wx _ => run_move (.tmp 36) rfl (ev_same _ _ _ (by simp only [sz_put]; omega)) wx) ?_
            show SeqI _ _ _ _ _ _ (Act.put _ (some 32) _) _
            refine sI_read (v := (rollV R)) rfl (fun _ _ _ h => absurd h.1 (fun e => nomatch e)) (wanted_rd rfl) ⟨RR32, AA32⟩ (fun wx _ => run_get (.tmp 32) 0 rfl (ev_same _ _ _ (by simp only [sz_put]; omega)) rfl wx) ?_
            show SeqI _ _ _ _ _ _ (Act.put _ (some 37) _) _
            refine sI_read (v := (.slice a32 L.length c32)) rfl (fun _ _ _ h => absurd h.1 (fun e => nomatch e)) (wanted_rd rfl) ⟨RR32, AA32⟩ (fun wx _ => run_get (.tmp 32) 1 rfl ((ev_other _ _ (by decide)).trans (ev_same _ _ _ (by simp only [sz_put]; omega))) rfl wx) ?_
            show SeqI _ _ _ _ _ _ (Act.put _ (some 38) _) _
            refine sI_read (v := (.int .i64 0)) rfl (fun _ _ _ h => absurd h.1 (fun e => nomatch e)) (wanted_rd rfl) ⟨RR32, AA32⟩ (fun wx _ => run_get (.tmp 32) 2 rfl ((ev_other _ _ (by decide)).trans ((ev_other _ _ (by decide)).trans (ev_same _ _ _ (by simp only [sz_put]; omega)))) rfl wx) ?_
            show SeqI _ _ _ _ _ _ (Act.put _ (some 39) _) _
            refine sI_do rfl (wanted_rd rfl) (fun K hK => ?_)
            refine wp_allocRl _ rfl ?_
            intro w33 z33 k33
            have RR33 := RR32.below k33
            have AA33 := AA32.below k33
            have SR33 := SR32.below k33
            have CH33 := g32.below k33
            have j33 : Below w.heap.size w w33 := j32.trans (k33.mono j32.size)
            refine hK _ _ (fun _ => ⟨RR33, AA33⟩) ?_
            clear hK K
            show SeqI _ _ _ _ _ _ (Act.put _ (some 8) _) _
            refine sI_do rfl (wanted_rd rfl) (fun K hK => ?_)
            refine wp_storeRl _ (.tmp 8) (.tmp 37) rfl (ev_same _ _ _ (by simp only [sz_put]; omega)) ((ev_other _ _ (by decide)).trans ((ev_other _ _ (by decide)).trans ((ev_other _ _ (by decide)).trans (ev_same _ _ _ (by simp only [sz_put]; omega))))) z33 rfl ?_
            intro w34 m34 k34
            have jj : Below w.heap.size w w34 := below_of_kept j33 k34 j32.size j33.size
            have RRf := RR33.kept k34 (Nat.ne_of_lt RR32.lt)
            have AAf := AA33.kept k34 (Nat.ne_of_lt AA32.lt)
            have CHf : ChRd 0 w34 _ L := (ChRd.keep g32 CH33 k34 (Nat.le_refl _)).weak (Nat.zero_le _)
            refine hK _ _ (fun _ => ⟨RRf, AAf⟩) ?_
            clear hK K
            refine sI_read (v := (.slice a32 L.length c32)) rfl (fun _ _ _ h => absurd h.1 (fun e => nomatch e)) (wanted_rd rfl) ⟨RRf, AAf⟩ (fun wx _ => run_assign (.tmp 38) rfl ((ev_other _ _ (by decide)).trans ((ev_other _ _ (by decide)).trans (ev_same _ _ _ (by simp only [sz_put]; omega)))) wx) ?_
            show SeqI _ _ _ _ _ _ (Act.put _ (some 9) _) _
            refine sI_read (v := (.int .i64 0)) rfl (fun _ _ _ h => absurd h.1 (fun e => nomatch e)) (wanted_rd rfl) ⟨RRf, AAf⟩ (fun wx _ => run_assign (.tmp 39) rfl ((ev_other _ _ (by decide)).trans ((ev_other _ _ (by decide)).trans (ev_same _ _ _ (by simp only [sz_put]; omega)))) wx) ?_
            show SeqI _ _ _ _ _ _ (Act.put _ (some 10) _) _
            refine sI_end ?_
            exact ⟨rfl, (vdV 0 true (.slice a31 4 c31)), (.tuple #[rollV R, .slice a32 L.length c32, .int .i64 0]), _, _, w32.heap.size, ⟨RR32.lt, m34, RRf, AAf, CHf, jj⟩, by rw [put_swap _ 36 32 _ _ (by decide), put_swap _ 39 8 _ _ (by decide), put_swap _ 39 9 _ _ (by decide), put_swap _ 39 10 _ _ (by decide), put_swap _ 35 32 _ _ (by decide), put_swap _ 38 8 _ _ (by decide), put_swap _ 38 9 _ _ (by decide), put_swap _ 38 10 _ _ (by decide), put_swap _ 34 32 _ _ (by decide), put_swap _ 37 8 _ _ (by decide), put_swap _ 37 9 _ _ (by decide), put_swap _ 37 10 _ _ (by decide), put_swap _ 33 32 _ _ (by decide), put_swap _ 36 8 _ _ (by decide), put_swap _ 36 9 _ _ (by decide), put_swap _ 36 10 _ _ (by decide), put_swap _ 35 8 _ _ (by decide), put_swap _ 35 9 _ _ (by decide), put_swap _ 35 10 _ _ (by decide), put_swap _ 34 8 _ _ (by decide), put_swap _ 34 9 _ _ (by decide), put_swap _ 34 10 _ _ (by decide), put_swap _ 33 8 _ _ (by decide), put_swap _ 33 9 _ _ (by decide), put_swap _ 33 10 _ _ (by decide), put_swap _ 32 8 _ _ (by decide), put_swap _ 32 9 _ _ (by decide), put_swap _ 32 10 _ _ (by decide)]⟩
          · intro K hK
            refine wp_allocRl _ rfl ?_
            intro w32 z32 k32
            have RR32 := RR31.below k32
            have AA32 := AA31.below k32
            have SR32 := s31.below k32
            have j32 : Below w.heap.size w w32 := j31.trans (k32.mono j31.size)
            refine hK _ _ (fun _ => ⟨RR32, AA32⟩) ?_
            clear hK K
            show SeqI _ _ _ _ _ _ (Act.put _ (some 8) _) _
            refine sI_do rfl (wanted_rd rfl) (fun K hK => ?_)
            refine wp_call2 _ 14 (.tmp 33) (.tmp 35) _ rfl ((ev_other _ _ (by decide)).trans ((ev_other _ _ (by decide)).trans ((ev_other _ _ (by decide)).trans (ev_same _ _ _ (by omega))))) ((ev_other _ _ (by decide)).trans (ev_same _ _ _ (by simp only [sz_put]; omega))) (enter_step _ _ _) ((unhide HS) r 0 true _ 4 _ A _ (gd_R hg) R64_nought (by omega) h31 SR32) ?_
            rw [eRL]
            dsimp only
            rintro e w33 ⟨a33, c33, rfl, g33, k33⟩
            have RR33 := RR32.below k33
            have AA33 := AA32.below k33
            have SR33 := SR32.below k33
            have RZ33 := z32.below k33
            have j33 : Below w.heap.size w w33 := j32.trans (k33.mono j32.size)
            refine ⟨_, rfl, hK _ _ (fun _ => ⟨RR33, AA33⟩) ?_⟩
            clear hK K
            show SeqI _ _ _ _ _ _ (Act.put _ (some 36) _) _
            refine sI_read (v := (.tuple #[rollV R, .slice a33 L.length c33, .int .i64 0])) rfl (fun _ _ _ h => absurd h.1 (fun e => nomatch e)) (wanted_rd rfl) ⟨RR33, AA33⟩ (fun wx _ => run_move (.tmp 36) rfl (ev_same _ _ _ (by simp only [sz_put]; omega)) wx) ?_
            show SeqI _ _ _ _ _ _ (Act.put _ (some 32) _) _
            refine sI_read (v := (rollV R)) rfl (fun _ _ _ h => absurd h.1 (fun e => nomatch e)) (wanted_rd rfl) ⟨RR33, AA33⟩ (fun wx _ => run_get (.tmp 32) 0 rfl (ev_same _ _ _ (by simp only [sz_put]; omega)) rfl wx) ?_
            show SeqI _ _ _ _ _ _ (Act.put _ (some 37) _) _
            refine sI_read (v := (.slice a33 L.length c33)) rfl (fun _ _ _ h => absurd h.1 (fun e => nomatch e)) (wanted_rd rfl) ⟨RR33, AA33⟩ (fun wx _ => run_get (.tmp 32) 1 rfl ((ev_other _ _ (by decide)).trans (ev_same _ _ _ (by simp only [sz_put]; omega))) rfl wx) ?_
            show SeqI _ _ _ _ _ _ (Act.put _ (some 38) _) _
            refine sI_read (v := (.int .i64 0)) rfl (fun _ _ _ h => absurd h.1 (fun e => nomatch e)) (wanted_rd rfl) ⟨RR33, AA33⟩ (fun wx _ => run_get (.tmp 32) 2 rfl ((ev_other _ _ (by decide)).trans ((ev_other _ _ (by decide)).trans (ev_same _ _ _ (by simp only [sz_put]; omega)))) rfl wx) ?_
            show SeqI _ _ _ _ _ _ (Act.put _ (some 39) _) _
            refine sI_do rfl (wanted_rd rfl) (fun K hK => ?_)
            refine wp_storeRl _ (.tmp 8) (.tmp 37) rfl ((ev_other _ _ (by decide)).trans ((ev_other _ _ (by decide)).trans ((ev_other _ _ (by decide)).trans ((ev_other _ _ (by decide)).trans ((ev_other _ _ (by decide)).trans (ev_same _ _ _ (by simp only [sz_put]; omega))))))) ((ev_other _ _ (by decide)).trans ((ev_other _ _ (by decide)).trans (ev_same _ _ _ (by simp only [sz_put]; omega)))) RZ33 rfl ?_
            intro w34 m34 k34
            have jj : Below w.heap.size w w34 := below_of_kept j33 k34 j31.size j33.size
            have RRf := RR33.kept k34 (Nat.ne_of_lt RR31.lt)
            have AAf := AA33.kept k34 (Nat.ne_of_lt AA31.lt)
            have CHf : ChRd 0 w34 _ L := (g33.young k34 z32.lt).weak (Nat.zero_le _)
            refine hK _ _ (fun _ => ⟨RRf, AAf⟩) ?_
            clear hK K
            refine sI_read (v := (.slice a33 L.length c33)) rfl (fun _ _ _ h => absurd h.1 (fun e => nomatch e)) (wanted_rd rfl) ⟨RRf, AAf⟩ (fun wx _ => run_assign (.tmp 38) rfl ((ev_other _ _ (by decide)).trans (ev_same _ _ _ (by simp only [sz_put]; omega))) wx) ?_
            show SeqI _ _ _ _ _ _ (Act.put _ (some 9) _) _
            refine sI_read (v := (.int .i64 0)) rfl (fun _ _ _ h => absurd h.1 (fun e => nomatch e)) (wanted_rd rfl) ⟨RRf, AAf⟩ (fun wx _ => run_assign (.tmp 39) rfl ((ev_other _ _ (by decide)).trans (ev_same _ _ _ (by simp only [sz_put]; omega))) wx) ?_
            show SeqI _ _ _ _ _ _ (Act.put _ (some 10) _) _
            refine sI_end ?_
            exact ⟨rfl, (vdV 0 true (.slice a31 4 c31)), (.tuple #[rollV R, .slice a33 L.length c33, .int .i64 0]), _, _, w31.heap.size, ⟨RR31.lt, m34, RRf, AAf, CHf, jj⟩, by rw [put_swap _ 35 8 _ _ (by decide), put_swap _ 36 32 _ _ (by decide), put_swap _ 39 9 _ _ (by decide), put_swap _ 39 10 _ _ (by decide), put_swap _ 34 8 _ _ (by decide), put_swap _ 35 32 _ _ (by decide), put_swap _ 38 9 _ _ (by decide), put_swap _ 38 10 _ _ (by decide), put_swap _ 33 8 _ _ (by decide), put_swap _ 34 32 _ _ (by decide), put_swap _ 37 9 _ _ (by decide), put_swap _ 37 10 _ _ (by decide), put_swap _ 33 32 _ _ (by decide), put_swap _ 36 9 _ _ (by decide), put_swap _ 36 10 _ _ (by decide), put_swap _ 35 9 _ _ (by decide), put_swap _ 35 10 _ _ (by decide), put_swap _ 34 9 _ _ (by decide), put_swap _ 34 10 _ _ (by decide), put_swap _ 33 9 _ _ (by decide), put_swap _ 33 10 _ _ (by decide), put_swap _ 32 9 _ _ (by decide), put_swap _ 32 10 _ _ (by decide)]⟩
        · intro K hK
          refine wp_allocRl _ rfl ?_
          intro w31 z31 k31
          have RR31 := RR0.below k31
          have AA31 := AA0.below k31
          have j31 : Below w.heap.size w w31 := j0.trans (k31.mono j0.size)
          refine hK _ _ (fun _ => ⟨RR31, AA31⟩) ?_
          clear hK K
          show SeqI _ _ _ _ _ _ (Act.put _ (some 8) _) _
          refine sI_do rfl (wanted_rd rfl) (fun K hK => ?_)
          refine wp_call1 _ 17 (.tmp 34) _ rfl ((ev_other _ _ (by decide)).trans (ev_same _ _ _ (by simp only [sz_put]; omega))) (enter_ver _ _) (verdict_any A _) ?_
          rintro e w32 ⟨a32, c32, rfl, s32, h32, k32⟩
          have RR32 := RR31.below k32
          have AA32 := AA31.below k32
          have RZ32 := z31.below k32
          have j32 : Below w.heap.size w w32 := j31.trans (k32.mono j31.size)
          refine ⟨_, rfl, hK _ _ (fun _ => ⟨RR32, AA32⟩) ?_⟩
          clear hK K
          show SeqI _ _ _ _ _ _ (Act.put _ (some 35) _) _
          refine sI_do rfl (wanted_rd rfl) (fun K hK => ?_)
          refine wp_call2 _ 14 (.tmp 33) (.tmp 35) _ rfl ((ev_other _ _ (by decide)).trans ((ev_other _ _ (by decide)).trans ((ev_other _ _ (by decide)).trans (ev_same _ _ _ (by omega))))) (ev_same _ _ _ (by simp only [sz_put]; omega)) (enter_step _ _ _) ((unhide HS) r 0 true _ 4 _ A _ (gd_R hg) R64_nought (by omega) h32 s32) ?_
          rw [eRL]
          dsimp only
          rintro e w33 ⟨a33, c33, rfl, g33, k33⟩
          have RR33 := RR32.below k33
          have AA33 := AA32.below k33
          have RZ33 := RZ32.below k33
          have SR33 := s32.below k33
          have j33 : Below w.heap.size w w33 := j32.trans (k33.mono j32.size)
          refine ⟨_, rfl, hK _ _ (fun _ => ⟨RR33, AA33⟩) ?_⟩
          clear hK K
          show SeqI _ _ _ _ _ _ (Act.put _ (some 36) _) _
          refine sI_read (v := (.tuple #[rollV R, .slice a33 L.length c33, .int .i64 0])) rfl (fun _ _ _ h => absurd h.1 (fun e => nomatch e)) (wanted_rd rfl) ⟨RR33, AA33⟩ (fun wx _ => run_move (.tmp 36) rfl (ev_same _ _ _ (by simp only [sz_put]; omega)) wx) ?_
          show SeqI _ _ _ _ _ _ (Act.put _ (some 32) _) _
          refine sI_read (v := (rollV R)) rfl (fun _ _ _ h => absurd h.1 (fun e => nomatch e)) (wanted_rd rfl) ⟨RR33, AA33⟩ (fun wx _ => run_get (.tmp 32) 0 rfl (ev_same _ _ _ (by simp only [sz_put]; omega)) rfl wx) ?_
          show SeqI _ _ _ _ _ _ (Act.put _ (some 37) _) _
          refine sI_read (v := (.slice a33 L.length c33)) rfl (fun _ _ _ h => absurd h.1 (fun e => nomatch e)) (wanted_rd rfl) ⟨RR33, AA33⟩ (fun wx _ => run_get (.tmp 32) 1 rfl ((ev_other _ _ (by decide)).trans (ev_same _ _ _ (by simp only [sz_put]; omega))) rfl wx) ?_
          show SeqI _ _ _ _ _ _ (Act.put _ (some 38) _) _
          refine sI_read (v := (.int .i64 0)) rfl (fun _ _ _ h => absurd h.1 (fun e => nomatch e)) (wanted_rd rfl) ⟨RR33, AA33⟩ (fun wx _ => run_get (.tmp 32) 2 rfl ((ev_other _ _ (by decide)).trans ((ev_other _ _ (by decide)).trans (ev_same _ _ _ (by simp only [sz_put]; omega)))) rfl wx) ?_
          show SeqI _ _ _ _ _ _ (Act.put _ (some 39) _) _
          refine sI_do rfl (wanted_rd rfl) (fun K hK => ?_)
          refine wp_storeRl _ (.tmp 8) (.tmp 37) rfl ((ev_other _ _ (by decide)).trans ((ev_other _ _ (by decide)).trans ((ev_other _ _ (by decide)).trans ((ev_other _ _ (by decide)).trans ((ev_other _ _ (by decide)).trans ((ev_other _ _ (by decide)).trans (ev_same _ _ _ (by simp only [sz_put]; omega)))))))) ((ev_other _ _ (by decide)).trans ((ev_other _ _ (by decide)).trans (ev_same _ _ _ (by simp only [sz_put]; omega)))) RZ33 rfl ?_
          intro w34 m34 k34
          have jj : Below w.heap.size w w34 := below_of_kept j33 k34 j0.size j33.size
          have RRf := RR33.kept k34 (Nat.ne_of_lt RR0.lt)
          have AAf := AA33.kept k34 (Nat.ne_of_lt AA0.lt)
          have CHf : ChRd 0 w34 _ L := (g33.young k34 RZ32.lt).weak (Nat.zero_le _)
          refine hK _ _ (fun _ => ⟨RRf, AAf⟩) ?_
          clear hK K
          refine sI_read (v := (.slice a33 L.length c33)) rfl (fun _ _ _ h => absurd h.1 (fun e => nomatch e)) (wanted_rd rfl) ⟨RRf, AAf⟩ (fun wx _ => run_assign (.tmp 38) rfl ((ev_other _ _ (by decide)).trans (ev_same _ _ _ (by simp only [sz_put]; omega))) wx) ?_
          show SeqI _ _ _ _ _ _ (Act.put _ (some 9) _) _
          refine sI_read (v := (.int .i64 0)) rfl (fun _ _ _ h => absurd h.1 (fun e => nomatch e)) (wanted_rd rfl) ⟨RRf, AAf⟩ (fun wx _ => run_assign (.tmp 39) rfl ((ev_other _ _ (by decide)).trans (ev_same _ _ _ (by simp only [sz_put]; omega))) wx) ?_
          show SeqI _ _ _ _ _ _ (Act.put _ (some 10) _) _
          refine sI_end ?_
          exact ⟨rfl, (vdV 0 true (.slice a32 4 c32)), (.tuple #[rollV R, .slice a33 L.length c33, .int .i64 0]), _, _, wa.drew.heap.size, ⟨RR0.lt, m34, RRf, AAf, CHf, jj⟩, by rw [put_swap _ 34 8 _ _ (by decide), put_swap _ 36 32 _ _ (by decide), put_swap _ 39 9 _ _ (by decide), put_swap _ 39 10 _ _ (by decide), put_swap _ 33 8 _ _ (by decide), put_swap _ 35 32 _ _ (by decide), put_swap _ 38 9 _ _ (by decide), put_swap _ 38 10 _ _ (by decide), put_swap _ 34 32 _ _ (by decide), put_swap _ 37 9 _ _ (by decide), put_swap _ 37 10 _ _ (by decide), put_swap _ 33 32 _ _ (by decide), put_swap _ 36 9 _ _ (by decide), put_swap _ 36 10 _ _ (by decide), put_swap _ 35 9 _ _ (by decide), put_swap _ 35 10 _ _ (by decide), put_swap _ 34 9 _ _ (by decide), put_swap _ 34 10 _ _ (by decide), put_swap _ 33 9 _ _ (by decide), put_swap _ 33 10 _ _ (by decide), put_swap _ 32 9 _ _ (by decide), put_swap _ 32 10 _ _ (by decide)]⟩
      case rest8 =>
        rintro a' w7 ⟨xv, xs, al, cl, nb, ⟨hnb, r7, q7, a7, c7, k7⟩, rfl⟩
        have ci := r7.inn hj; have cm := r7.mis hj
        rw [s1] at ci
        rw [s2] at cm
        have N7 := hide r7; have Q7 := hide q7; have C7 := hide c7; have K7 := hide k7
        clear r7 q7 a7 c7 k7 RR AA KW eRL s1 s2 hg
        go_frame
        go_wp2_with fail
        clear ci cm
        go_loopw [58] (fun ts wx => ∃ t : Nat, ts = .int .i64 t ∧ t ≤ L.length ∧ RAt wx nb R ∧ RAt wx br r ∧ ChRd 0 wx al L ∧ Below w.heap.size w wx) (fun ts _ => L.length - (intOf ts).toNat)
        case atStart => exact ⟨0, rfl, Nat.zero_le _, unhide N7, unhide Q7, unhide C7, unhide K7⟩
        case round =>
          obtain ⟨t, rfl, ht, h1, h2, h3, h4⟩ := hrel
          rename World => wx
          have N8 := hide h1; have Q8 := hide h2; have C8 := hide h3; have K8 := hide h4
          clear h1 h2 h3 h4 N7 Q7 C7 K7
          by_cases htl : t < L.length
          · have htl' : (t : Int) < (L.length : Int) := by omega
            obtain ⟨bx, ox, rfl, _, gx⟩ := unhide C8 (by omega)
            have ec := List.getElem?_eq_getElem htl
            obtain ⟨d1, d2⟩ := gx t _ ec
            have dn : L[t].2 ≠ j := unhide S3 _ (List.getElem_mem htl)
            obtain ⟨p, ep⟩ : ∃ p, L[t].1 = p := ⟨_, rfl⟩
            obtain ⟨q, eq⟩ : ∃ q, L[t].2 = q := ⟨_, rfl⟩
            rw [ep] at d1
            rw [eq] at d2 dn
            have tq : ((q : Int) == (j : Int)) = false := by simp; omega
            have kA := al_below wx (.cells #[.int .i64 p, .int .i64 (q : Nat)] 37)
            have V := Vh.new wx 37 #[.int .i64 p, .int .i64 (q : Nat)] (fun t => if t = 0 then .int .i64 p else .int .i64 (q : Nat)) (by show 2 ≤ maxLen; decide) (fun t ht => by
              have : t = 0 ∨ t = 1 := by simp at ht; omega
              rcases this with rfl | rfl <;> rfl)
            have v1 : (wx.alloc (.cells #[.int .i64 p, .int .i64 (q : Nat)] 37)).cell? ⟨wx.heap.size, 1, none⟩ = some (.int .i64 (q : Nat)) := V.cell (i := 1) (by show 1 < 2; omega)
            have N9 := hide ((unhide N8).below kA); have Q9 := hide ((unhide Q8).below kA); have C9 := hide ((unhide C8).below kA); have K9 := hide ((unhide K8).trans (kA.mono (unhide K8).size))
            clear gx ec dn ep eq kA V N8 Q8 C8 K8
            go_wp2_with fail
            go_roundw
            case rel => exact ⟨t + 1, by go_num, by omega, unhide N9, unhide Q9, unhide C9, unhide K9⟩
            case measure => simp [intOf] <;> omega
          · have htl' : ¬ (t : Int) < (L.length : Int) := by omega
            go_wp2_with (first | refine wpList_loadRl _ rfl (.tmp 8) rfl rfl (unhide N8) ?_ | (refine wpList_storeRl _ rfl (.tmp 5) (.tmp 67) rfl rfl rfl (unhide Q8) rfl ?_; intro w9 m9 k9; have M9 := hide m9; have K9 := hide (below_of_kept (unhide K8) k9 zb (unhide K8).size); clear m9 k9 N8 Q8 C8 K8))
            go_roundw
            case rel => exact ⟨i + 1, R, by go_num, by omega, unhide SG, unhide S1, unhide S2, unhide M9, unhide K9⟩
            case measure => simp [intOf] <;> omega
    · have hx : ¬ (i : Int) < (n : Int) ∨ ¬ (i : Int) < 60 := by omega
      have fin : ∀ wz : World, Below w.heap.size w wz → Calls Try.prog 18 #[] wz fun e w' => e = .returned (.bool true) ∧ Below w.heap.size w w' := fun wz hz => (keeps_any (unhide HB) (unhide HC) (unhide HG) wz).mono fun e w' ⟨h1, h2⟩ => ⟨h1, hz.trans (h2.mono hz.size)⟩
      have FIN := hide fin
      clear fin
      by_cases hx1 : (i : Int) < (n : Int)
      · have hx2 : ¬ (i : Int) < 60 := by omega
        clear hin hx
        go_wp2_with fail
        refine (unhide FIN _ (unhide KX)).mono ?_
        rintro e w9 ⟨rfl, k9⟩
        have K9 := hide k9
        clear k9
        go_wp2_with fail
        go_ret
        exact ⟨rfl, unhide K9⟩
      · clear hin hx
        go_wp2_with fail
        refine (unhide FIN _ (unhide KX)).mono ?_
        rintro e w9 ⟨rfl, k9⟩
        have K9 := hide k9
        clear k9
        go_wp2_with fail
        go_ret
        exact ⟨rfl, unhide K9⟩

end Go.Proofs.Ytbgdjldmplkecaa
