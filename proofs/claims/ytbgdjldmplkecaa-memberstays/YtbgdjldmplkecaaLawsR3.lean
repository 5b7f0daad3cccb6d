/- The walk of MemberGoes, whatever the functions of member are made of. (Written by tools/gen_memlaws.py.) -/
import Derived.Test.YtbgdjldmplkecaaLawsR2
import Derived.Test.YtbgdjldmplkecaaMemVer
import Derived.Test.YtbgdjldmplkecaaMemGo
namespace Go.Proofs.Ytbgdjldmplkecaa
open Go.RowKit


theorem enter_ver (v : Value) (w : World) : (callFunc 17 #[v]).run Try.prog w = .ok (.enter 17 #[v]) w := by go_simp
theorem enter_keeps (w : World) : (callFunc 18 #[]).run Try.prog w = .ok (.enter 18 #[]) w := by go_simp

set_option maxRecDepth 100000 in
set_option maxHeartbeats 8000000 in
theorem memberGoes_by (hB : BgOK 8) (hC : CtOK 10) (hG : GrOK 12) (hS : StOK 14) {w : World} (who : Int) :
    Calls Try.prog 7 #[.int .i64 who] w fun e w' => e = .returned (.bool true) ∧ Below w.heap.size w w' := by
  have HB := hide hB; have HC := hide hC; have HG := hide hG; have HS := hide hS
  clear hB hC hG hS
  go_enter Try.func7, Try.ntmps7
  go_wp2_with fail
  refine (spotS_any who 4 (by omega) (by omega) _).mono ?_
  rintro e w1 ⟨j, hj', rfl, ew1⟩
  obtain rfl : w = w1 := ew1.symm
  have hj : j < 4 := by omega
  go_wp2_with fail
  refine (unhide HB _).mono ?_
  rintro e w2 ⟨rfl, k2⟩
  obtain ⟨br, ebr⟩ : ∃ br, w2.heap.size = br := ⟨_, rfl⟩
  have kA := al_below w2 (.cells #[.bool false, .bool false, .bool false, .bool false, .int .i64 0, .int .i64 0, .int .i64 0, .int .i64 0, .int .i64 0, .int .i64 0, .int .i64 0, .int .i64 0] 25)
  have mA := RAt.new w2 zeroR
  have zb : w.heap.size ≤ br := by have := k2.size; omega
  rw [ebr] at mA
  have MA := hide mA; have JA := hide (k2.trans (kA.mono k2.size))
  clear k2 kA mA
  go_wp2_with (refine wpList_storeRl _ rfl (.tmp 3) (.tmp 16) rfl (by rw [← ebr]; rfl) (r := beginR) rfl (unhide MA) rfl ?_)
  intro w3 m3 k3
  have j3 := below_of_kept (unhide JA) k3 zb (unhide JA).size
  obtain ⟨w4, e4, m4, k4, z4⟩ := b4_alloc w3 (fun _ => true)
  obtain ⟨w5, e5, m5, k5, z5⟩ := b4_alloc w4 (fun _ => true)
  rw [z4] at m5
  obtain ⟨b4, eb4⟩ : ∃ b4, w3.heap.size = b4 := ⟨_, rfl⟩
  have lb := m3.lt
  rw [eb4] at m4 m5 lb
  have q0 := m4.cell (show 0 < 4 by omega); have q1 := m4.cell (show 1 < 4 by omega); have q2 := m4.cell (show 2 < 4 by omega); have q3 := m4.cell (show 3 < 4 by omega)
  have g5 := m5.cell hj; have f5 := m5.free j
  have kk := kept_set w5 (b4 + 1) j (.bool false)
  have m6 := m5.set j false
  have R6 := hide (((m3.below k4).below k5).kept kk (by omega)); have A6 := hide ((m4.below k5).kept kk (by omega)); have O6 := hide (show B4 (w5.setCell ⟨b4 + 1, j, none⟩ (.bool false)) (b4 + 1) (oneB j) from m6)
  have J6 := hide (below_of_kept ((j3.trans (k4.mono j3.size)).trans (k5.mono (Nat.le_trans j3.size k4.size))) kk (by have := j3.size; omega) (Nat.le_trans j3.size (Nat.le_trans k4.size k5.size)))
  have E4 := e4.symm; have E5 := e5.symm
  clear m3 k3 j3 m4 m5 m6 k4 k5 kk e4 e5 MA JA ebr
  go_wp2_with fail
  clear q0 q1 q2 q3 g5 f5 E4 E5
  obtain ⟨w6, e6⟩ : ∃ w6, w5.setCell ⟨b4 + 1, j, none⟩ (.bool false) = w6 := ⟨_, rfl⟩
  rw [e6] at R6 A6 O6 J6 ⊢
  clear e6 eb4 z4 z5
  go_loopw [6] (fun is wr => ∃ i : Nat, is = .int .i64 i ∧ i ≤ 2 ∧ RAt wr br (dR j i) ∧ B4 wr b4 (fun _ => true) ∧ B4 wr (b4 + 1) (oneB j) ∧ Below w.heap.size w wr) (fun is _ => 2 - (intOf is).toNat)
  case atStart => exact ⟨0, rfl, by omega, unhide R6, unhide A6, unhide O6, unhide J6⟩
  case round =>
    obtain ⟨i, rfl, hi, hR, hA, hO, hK⟩ := hrel
    rename World => wr
    have RR := hide hR; have AL := hide hA; have AA := hide hO; have KW := hide hK
    clear hR hA hO hK R6 A6 O6 J6
    by_cases hi2 : i < 2
    · have hi2' : (i : Int) < 2 := by omega
      obtain ⟨R, eR⟩ : ∃ R, (rnN (oneB j) (dR j i) 4).1 = R := ⟨_, rfl⟩
      obtain ⟨L, eL⟩ : ∃ L, (rnN (oneB j) (dR j i) 4).2 = L := ⟨_, rfl⟩
      have eRL : stR (dR j i) true 4 (oneB j) = (R, L, 0) := by rw [stR_strong (dR_good j hj i hi2), eR, eL]
      have al9 : Alike R (dR j (i + 1)) := fun k hk => by rw [← eR]; exact dR_alike j hj i hi2 k hk
      have ll : L.length = i := by rw [← eL]; exact dR_told j hj i hi2
      have hat := dR_at j hj i hi2
      have AL9 := hide al9; have ERL := hide eRL; have HAT := hide hat
      clear eR eL al9 hat eRL
      go_wp2_with fail
      have eRL := unhide ERL
      refine wp_leaves (fun a0 a' w' => ∃ (xv xs : Value) (al : Option Addr) (cl nb : Nat), (br < nb ∧ RAt w' nb R ∧ RAt w' br (dR j i) ∧ B4 w' (b4 + 1) (oneB j) ∧ ChRd 0 w' al L ∧ B4 w' b4 (fun _ => true) ∧ Below w.heap.size w w') ∧ a' = (((((((((((a0.put (some 7) (.pointer (some ⟨nb, 0, none⟩))).put (some 8) (.slice al L.length cl)).put (some 9) (.int .i64 0)).put (some 25) xs).put (some 26) (rollV (dR j i))).put (some 27) (boolV (oneB j))).put (some 28) xv).put (some 29) xs).put (some 30) (rollV R)).put (some 31) (.slice al L.length cl)).put (some 32) (.int .i64 0))) ?reg9 ?rest9
      case reg9 =>
        intro A0 eA
        have hb3 : A0.eval (.tmp 3) = .pointer (some ⟨br, 0, none⟩) := by rw [eA]; rfl
        have hb5 : A0.eval (.tmp 5) = .pointer (some ⟨(b4 + 1), 0, none⟩) := by rw [eA]; rfl
        have hz : 95 ≤ A0.tmps.size := by rw [eA]; exact of_decide_eq_true rfl
        clear eA
        have RR0 : RAt wr.drew br (dR j i) := unhide RR
        have AA0 : B4 wr.drew (b4 + 1) (oneB j) := unhide AA
        have j0 : Below w.heap.size w wr.drew := below_drew (unhide KW)
        have AL0 : B4 wr.drew b4 (fun _ => true) := unhide AL
        refine region_I (S := fun u => RAt u br (dR j i) ∧ B4 u (b4 + 1) (oneB j)) (.rd 0 (.rd 1 (.two 2 8 (.two 3 8 (.rd 4 (.rd 5 (.rd 6 (.rd 7 (.go 8 (.go 9 (.rd 10 (.rd 11 .fin)))))))) (.go 3 (.rd 4 (.rd 5 (.rd 6 (.rd 7 (.go 9 (.rd 10 (.rd 11 .fin))))))))) (.go 2 (.go 3 (.rd 4 (.rd 5 (.rd 6 (.rd 7 (.go 9 (.rd 10 (.rd 11 .fin)))))))))))) [] (by kernel_rfl) (by kernel_rfl) ?_
        refine sI_read (v := (rollV (dR j i))) rfl (fun _ _ _ h => absurd h.1 (fun e => nomatch e)) (wanted_rd rfl) ⟨RR0, AA0⟩ (fun wx hx => run_loadRl (.tmp 3) rfl hb3 hx.1) ?_
        show SeqI _ _ _ _ _ _ (Act.put _ (some 26) _) _
        refine sI_read (v := (boolV (oneB j))) rfl (fun _ _ _ h => absurd h.1 (fun e => nomatch e)) (wanted_rd rfl) ⟨RR0, AA0⟩ (fun wx hx => run_lodB4 (.tmp 5) rfl ((ev_other _ _ (by decide)).trans hb5) hx.2) ?_
        show SeqI _ _ _ _ _ _ (Act.put _ (some 27) _) _
        refine sI_two rfl rfl (wanted_rd rfl) (wanted_rd rfl) ?_ ?_
        · intro K hK
          refine wp_call1 _ 17 (.tmp 27) _ rfl (ev_same _ _ _ (by simp only [sz_put]; omega)) (enter_ver _ _) (verdict_any (oneB j) _) ?_
          rintro e w31 ⟨a31, c31, rfl, s31, h31, k31⟩
          have RR31 := RR0.below k31
          have AA31 := AA0.below k31
          have AL31 := AL0.below k31
          have j31 : Below w.heap.size w w31 := j0.trans (k31.mono j0.size)
          refine ⟨_, rfl, hK _ _ (fun _ => ⟨RR31, AA31⟩) ?_⟩
          clear hK K
          show SeqI _ _ _ _ _ _ (Act.put _ (some 28) _) _
          refine sI_two rfl rfl (wanted_rd rfl) (wanted_rd rfl) ?_ ?_
          · intro K hK
            refine wp_call2 _ 14 (.tmp 26) (.tmp 28) _ rfl ((ev_other _ _ (by decide)).trans ((ev_other _ _ (by decide)).trans (ev_same _ _ _ (by omega)))) (ev_same _ _ _ (by simp only [sz_put]; omega)) (enter_step _ _ _) ((unhide HS) (dR j i) 0 true _ 4 _ (oneB j) _ (gd_R (dR_good j hj i hi2)) R64_nought (by omega) h31 s31) ?_
            rw [eRL]
            dsimp only
            rintro e w32 ⟨a32, c32, rfl, g32, k32⟩
            have RR32 := RR31.below k32
            have AA32 := AA31.below k32
            have AL32 := AL31.below k32
            have SR32 := s31.below k32
            have j32 : Below w.heap.size w w32 := j31.trans (k32.mono j31.size)
            refine ⟨_, rfl, hK _ _ (fun _ => ⟨RR32, AA32⟩) ?_⟩
            clear hK K
            show SeqI _ _ _ _ _ _ (Act.put _ (some 29) _) _
            refine sI_read (v := (.tuple #[rollV R, .slice a32 L.length c32, .int .i64 0])) rfl (fun _ _ _ h => absurd h.1 (fun e => nomatch e)) (wanted_rd rfl) ⟨RR32, AA32⟩ (fun wx _ => run_move (.tmp 29) rfl (ev_same _ _ _ (by simp only [sz_put]; omega)) wx) ?_
            show SeqI _ _ _ _ _ _ (Act.put _ (some 25) _) _
            refine sI_read (v := (rollV R)) rfl (fun _ _ _ h => absurd h.1 (fun e => nomatch e)) (wanted_rd rfl) ⟨RR32, AA32⟩ (fun wx _ => run_get (.tmp 25) 0 rfl (ev_same _ _ _ (by simp only [sz_put]; omega)) rfl wx) ?_
            show SeqI _ _ _ _ _ _ (Act.put _ (some 30) _) _
            refine sI_read (v := (.slice a32 L.length c32)) rfl (fun _ _ _ h => absurd h.1 (fun e => nomatch e)) (wanted_rd rfl) ⟨RR32, AA32⟩ (fun wx _ => run_get (.tmp 25) 1 rfl ((ev_other _ _ (by decide)).trans (ev_same _ _ _ (by simp only [sz_put]; omega))) rfl wx) ?_
            show SeqI _ _ _ _ _ _ (Act.put _ (some 31) _) _
            refine sI_read (v := (.int .i64 0)) rfl (fun _ _ _ h => absurd h.1 (fun e => nomatch e)) (wanted_rd rfl) ⟨RR32, AA32⟩ (fun wx _ => run_get (.tmp 25) 2 rfl ((ev_other _ _ (by decide)).trans ((ev_other _ _ (by decide)).trans (ev_same _ _ _ (by simp only [sz_put]; omega)))) rfl wx) ?_
            show SeqI _ _ _ _ _ _ (Act.put _ (some 32) _) _
            refine sI_do rfl (wanted_rd rfl) (fun K hK => ?_)
            refine wp_allocRl _ rfl ?_
            intro w33 z33 k33
            have RR33 := RR32.below k33
            have AA33 := AA32.below k33
            have AL33 := AL32.below k33
            have SR33 := SR32.below k33
            have CH33 := g32.below k33
            have j33 : Below w.heap.size w w33 := j32.trans (k33.mono j32.size)
            refine hK _ _ (fun _ => ⟨RR33, AA33⟩) ?_
            clear hK K
            show SeqI _ _ _ _ _ _ (Act.put _ (some 7) _) _
            refine sI_do rfl (wanted_rd rfl) (fun K hK => ?_)
            refine wp_storeRl _ (.tmp 7) (.tmp 30) rfl (ev_same _ _ _ (by simp only [sz_put]; omega)) ((ev_other _ _ (by decide)).trans ((ev_other _ _ (by decide)).trans ((ev_other _ _ (by decide)).trans (ev_same _ _ _ (by simp only [sz_put]; omega))))) z33 rfl ?_
            intro w34 m34 k34
            have jj : Below w.heap.size w w34 := below_of_kept j33 k34 j32.size j33.size
            have RRf := RR33.kept k34 (Nat.ne_of_lt RR32.lt)
            have AAf := AA33.kept k34 (Nat.ne_of_lt AA32.lt)
            have ALf := AL33.kept k34 (Nat.ne_of_lt AL32.lt)
            have CHf : ChRd 0 w34 _ L := (ChRd.keep g32 CH33 k34 (Nat.le_refl _)).weak (Nat.zero_le _)
            refine hK _ _ (fun _ => ⟨RRf, AAf⟩) ?_
            clear hK K
            refine sI_read (v := (.slice a32 L.length c32)) rfl (fun _ _ _ h => absurd h.1 (fun e => nomatch e)) (wanted_rd rfl) ⟨RRf, AAf⟩ (fun wx _ => run_assign (.tmp 31) rfl ((ev_other _ _ (by decide)).trans ((ev_other _ _ (by decide)).trans (ev_same _ _ _ (by simp only [sz_put]; omega)))) wx) ?_
            show SeqI _ _ _ _ _ _ (Act.put _ (some 8) _) _
            refine sI_read (v := (.int .i64 0)) rfl (fun _ _ _ h => absurd h.1 (fun e => nomatch e)) (wanted_rd rfl) ⟨RRf, AAf⟩ (fun wx _ => run_assign (.tmp 32) rfl ((ev_other _ _ (by decide)).trans ((ev_other _ _ (by decide)).trans (ev_same _ _ _ (by simp only [sz_put]; omega)))) wx) ?_
            show SeqI _ _ _ _ _ _ (Act.put _ (some 9) _) _
            refine sI_end ?_
            exact ⟨rfl, (vdV 0 true (.slice a31 4 c31)), (.tuple #[rollV R, .slice a32 L.length c32, .int .i64 0]), _, _, w32.heap.size, ⟨RR32.lt, m34, RRf, AAf, CHf, ALf, jj⟩, by rw [put_swap _ 29 25 _ _ (by decide), put_swap _ 32 7 _ _ (by decide), put_swap _ 32 8 _ _ (by decide), put_swap _ 32 9 _ _ (by decide), put_swap _ 28 25 _ _ (by decide), put_swap _ 31 7 _ _ (by decide), put_swap _ 31 8 _ _ (by decide), put_swap _ 31 9 _ _ (by decide), put_swap _ 27 25 _ _ (by decide), put_swap _ 30 7 _ _ (by decide), put_swap _ 30 8 _ _ (by decide), put_swap _ 30 9 _ _ (by decide), put_swap _ 26 25 _ _ (by decide), put_swap _ 29 7 _ _ (by decide), put_swap _ 29 8 _ _ (by decide), put_swap _ 29 9 _ _ (by decide), put_swap _ 28 7 _ _ (by decide), put_swap _ 28 8 _ _ (by decide), put_swap _ 28 9 _ _ (by decide), put_swap _ 27 7 _ _ (by decide), put_swap _ 27 8 _ _ (by decide), put_swap _ 27 9 _ _ (by decide), put_swap _ 26 7 _ _ (by decide), put_swap _ 26 8 _ _ (by decide), put_swap _ 26 9 _ _ (by decide), put_swap _ 25 7 _ _ (by decide), put_swap _ 25 8 _ _ (by decide), put_swap _ 25 9 _ _ (by decide)]⟩
          · intro K hK
            refine wp_allocRl _ rfl ?_
            intro w32 z32 k32
            have RR32 := RR31.below k32
            have AA32 := AA31.below k32
            have AL32 := AL31.below k32
            have SR32 := s31.below k32
            have j32 : Below w.heap.size w w32 := j31.trans (k32.mono j31.size)
            refine hK _ _ (fun _ => ⟨RR32, AA32⟩) ?_
            clear hK K
            show SeqI _ _ _ _ _ _ (Act.put _ (some 7) _) _
            refine sI_do rfl (wanted_rd rfl) (fun K hK => ?_)
            refine wp_call2 _ 14 (.tmp 26) (.tmp 28) _ rfl ((ev_other _ _ (by decide)).trans ((ev_other _ _ (by decide)).trans ((ev_other _ _ (by decide)).trans (ev_same _ _ _ (by omega))))) ((ev_other _ _ (by decide)).trans (ev_same _ _ _ (by simp only [sz_put]; omega))) (enter_step _ _ _) ((unhide HS) (dR j i) 0 true _ 4 _ (oneB j) _ (gd_R (dR_good j hj i hi2)) R64_nought (by omega) h31 SR32) ?_
            rw [eRL]
            dsimp only
            rintro e w33 ⟨a33, c33, rfl, g33, k33⟩
            have RR33 := RR32.below k33
            have AA33 := AA32.below k33
            have AL33 := AL32.below k33
            have SR33 := SR32.below k33
            have RZ33 := z32.below k33
            have j33 : Below w.heap.size w w33 := j32.trans (k33.mono j32.size)
            refine ⟨_, rfl, hK _ _ (fun _ => ⟨RR33, AA33⟩) ?_⟩
            clear hK K
            show SeqI _ _ _ _ _ _ (Act.put _ (some 29) _) _
            refine sI_read (v := (.tuple #[rollV R, .slice a33 L.length c33, .int .i64 0])) rfl (fun _ _ _ h => absurd h.1 (fun e => nomatch e)) (wanted_rd rfl) ⟨RR33, AA33⟩ (fun wx _ => run_move (.tmp 29) rfl (ev_same _ _ _ (by simp only [sz_put]; omega)) wx) ?_
            show SeqI _ _ _ _ _ _ (Act.put _ (some 25) _) _
            refine sI_read (v := (rollV R)) rfl (fun _ _ _ h => absurd h.1 (fun e => nomatch e)) (wanted_rd rfl) ⟨RR33, AA33⟩ (fun wx _ => run_get (.tmp 25) 0 rfl (ev_same _ _ _ (by simp only [sz_put]; omega)) rfl wx) ?_
            show SeqI _ _ _ _ _ _ (Act.put _ (some 30) _) _
            refine sI_read (v := (.slice a33 L.length c33)) rfl (fun _ _ _ h => absurd h.1 (fun e => nomatch e)) (wanted_rd rfl) ⟨RR33, AA33⟩ (fun wx _ => run_get (.tmp 25) 1 rfl ((ev_other _ _ (by decide)).trans (ev_same _ _ _ (by simp only [sz_put]; omega))) rfl wx) ?_
            show SeqI _ _ _ _ _ _ (Act.put _ (some 31) _) _
            refine sI_read (v := (.int .i64 0)) rfl (fun _ _ _ h => absurd h.1 (fun e => nomatch e)) (wanted_rd rfl) ⟨RR33, AA33⟩ (fun wx _ => run_get (.tmp 25) 2 rfl ((ev_other _ _ (by decide)).trans ((ev_other _ _ (by decide)).trans (ev_same _ _ _ (by simp only [sz_put]; omega)))) rfl wx) ?_
            show SeqI _ _ _ _ _ _ (Act.put _ (some 32) _) _
            refine sI_do rfl (wanted_rd rfl) (fun K hK => ?_)
            refine wp_storeRl _ (.tmp 7) (.tmp 30) rfl ((ev_other _ _ (by decide)).trans ((ev_other _ _ (by decide)).trans ((ev_other _ _ (by decide)).trans ((ev_other _ _ (by decide)).trans ((ev_other _ _ (by decide)).trans (ev_same _ _ _ (by simp only [sz_put]; omega))))))) ((ev_other _ _ (by decide)).trans ((ev_other _ _ (by decide)).trans (ev_same _ _ _ (by simp only [sz_put]; omega)))) RZ33 rfl ?_
            intro w34 m34 k34
            have jj : Below w.heap.size w w34 := below_of_kept j33 k34 j31.size j33.size
            have RRf := RR33.kept k34 (Nat.ne_of_lt RR31.lt)
            have AAf := AA33.kept k34 (Nat.ne_of_lt AA31.lt)
            have ALf := AL33.kept k34 (Nat.ne_of_lt AL31.lt)
            have CHf : ChRd 0 w34 _ L := (g33.young k34 z32.lt).weak (Nat.zero_le _)
            refine hK _ _ (fun _ => ⟨RRf, AAf⟩) ?_
            clear hK K
            refine sI_read (v := (.slice a33 L.length c33)) rfl (fun _ _ _ h => absurd h.1 (fun e => nomatch e)) (wanted_rd rfl) ⟨RRf, AAf⟩ (fun wx _ => run_assign (.tmp 31) rfl ((ev_other _ _ (by decide)).trans (ev_same _ _ _ (by simp only [sz_put]; omega))) wx) ?_
            show SeqI _ _ _ _ _ _ (Act.put _ (some 8) _) _
            refine sI_read (v := (.int .i64 0)) rfl (fun _ _ _ h => absurd h.1 (fun e => nomatch e)) (wanted_rd rfl) ⟨RRf, AAf⟩ (fun wx _ => run_assign (.tmp 32) rfl ((ev_other _ _ (by decide)).trans (ev_same _ _ _ (by simp only [sz_put]; omega))) wx) ?_
            show SeqI _ _ _ _ _ _ (Act.put _ (some 9) _) _
            refine sI_end ?_
            exact ⟨rfl, (vdV 0 true (.slice a31 4 c31)), (.tuple #[rollV R, .slice a33 L.length c33, .int .i64 0]), _, _, w31.heap.size, ⟨RR31.lt, m34, RRf, AAf, CHf, ALf, jj⟩, by rw [put_swap _ 28 7 _ _ (by decide), put_swap _ 29 25 _ _ (by decide), put_swap _ 32 8 _ _ (by decide), put_swap _ 32 9 _ _ (by decide), put_swap _ 27 7 _ _ (by decide), put_swap _ 28 25 _ _ (by decide), put_swap _ 31 8 _ _ (by decide), put_swap _ 31 9 _ _ (by decide), put_swap _ 26 7 _ _ (by decide), put_swap _ 27 25 _ _ (by decide), put_swap _ 30 8 _ _ (by decide), put_swap _ 30 9 _ _ (by decide), put_swap _ 26 25 _ _ (by decide), put_swap _ 29 8 _ _ (by decide), put_swap _ 29 9 _ _ (by decide), put_swap _ 28 8 _ _ (by decide), put_swap _ 28 9 _ _ (by decide), put_swap _ 27 8 _ _ (by decide), put_swap _ 27 9 _ _ (by decide), put_swap _ 26 8 _ _ (by decide), put_swap _ 26 9 _ _ (by decide), put_swap _ 25 8 _ _ (by decide), put_swap _ 25 9 _ _ (by decide)]⟩
        · intro K hK
          refine wp_allocRl _ rfl ?_
          intro w31 z31 k31
          have RR31 := RR0.below k31
          have AA31 := AA0.below k31
          have AL31 := AL0.below k31
          have j31 : Below w.heap.size w w31 := j0.trans (k31.mono j0.size)
          refine hK _ _ (fun _ => ⟨RR31, AA31⟩) ?_
          clear hK K
          show SeqI _ _ _ _ _ _ (Act.put _ (some 7) _) _
          refine sI_do rfl (wanted_rd rfl) (fun K hK => ?_)
          refine wp_call1 _ 17 (.tmp 27) _ rfl ((ev_other _ _ (by decide)).trans (ev_same _ _ _ (by simp only [sz_put]; omega))) (enter_ver _ _) (verdict_any (oneB j) _) ?_
          rintro e w32 ⟨a32, c32, rfl, s32, h32, k32⟩
          have RR32 := RR31.below k32
          have AA32 := AA31.below k32
          have AL32 := AL31.below k32
          have RZ32 := z31.below k32
          have j32 : Below w.heap.size w w32 := j31.trans (k32.mono j31.size)
          refine ⟨_, rfl, hK _ _ (fun _ => ⟨RR32, AA32⟩) ?_⟩
          clear hK K
          show SeqI _ _ _ _ _ _ (Act.put _ (some 28) _) _
          refine sI_do rfl (wanted_rd rfl) (fun K hK => ?_)
          refine wp_call2 _ 14 (.tmp 26) (.tmp 28) _ rfl ((ev_other _ _ (by decide)).trans ((ev_other _ _ (by decide)).trans ((ev_other _ _ (by decide)).trans (ev_same _ _ _ (by omega))))) (ev_same _ _ _ (by simp only [sz_put]; omega)) (enter_step _ _ _) ((unhide HS) (dR j i) 0 true _ 4 _ (oneB j) _ (gd_R (dR_good j hj i hi2)) R64_nought (by omega) h32 s32) ?_
          rw [eRL]
          dsimp only
          rintro e w33 ⟨a33, c33, rfl, g33, k33⟩
          have RR33 := RR32.below k33
          have AA33 := AA32.below k33
          have AL33 := AL32.below k33
          have RZ33 := RZ32.below k33
          have SR33 := s32.below k33
          have j33 : Below w.heap.size w w33 := j32.trans (k33.mono j32.size)
          refine ⟨_, rfl, hK _ _ (fun _ => ⟨RR33, AA33⟩) ?_⟩
          clear hK K
          show SeqI _ _ _ _ _ _ (Act.put _ (some 29) _) _
          refine sI_read (v := (.tuple #[rollV R, .slice a33 L.length c33, .int .i64 0])) rfl (fun _ _ _ h => absurd h.1 (fun e => nomatch e)) (wanted_rd rfl) ⟨RR33, AA33⟩ (fun wx _ => run_move (.tmp 29) rfl (ev_same _ _ _ (by simp only [sz_put]; omega)) wx) ?_
          show SeqI _ _ _ _ _ _ (Act.put _ (some 25) _) _
          refine sI_read (v := (rollV R)) rfl (fun _ _ _ h => absurd h.1 (fun e => nomatch e)) (wanted_rd rfl) ⟨RR33, AA33⟩ (fun wx _ => run_get (.tmp 25) 0 rfl (ev_same _ _ _ (by simp only [sz_put]; omega)) rfl wx) ?_
          show SeqI _ _ _ _ _ _ (Act.put _ (some 30) _) _
          refine sI_read (v := (.slice a33 L.length c33)) rfl (fun _ _ _ h => absurd h.1 (fun e => nomatch e)) (wanted_rd rfl) ⟨RR33, AA33⟩ (fun wx _ => run_get (.tmp 25) 1 rfl ((ev_other _ _ (by decide)).trans (ev_same _ _ _ (by simp only [sz_put]; omega))) rfl wx) ?_
          show SeqI _ _ _ _ _ _ (Act.put _ (some 31) _) _
          refine sI_read (v := (.int .i64 0)) rfl (fun _ _ _ h => absurd h.1 (fun e => nomatch e)) (wanted_rd rfl) ⟨RR33, AA33⟩ (fun wx _ => run_get (.tmp 25) 2 rfl ((ev_other _ _ (by decide)).trans ((ev_other _ _ (by decide)).trans (ev_same _ _ _ (by simp only [sz_put]; omega)))) rfl wx) ?_
          show SeqI _ _ _ _ _ _ (Act.put _ (some 32) _) _
          refine sI_do rfl (wanted_rd rfl) (fun K hK => ?_)
          refine wp_storeRl _ (.tmp 7) (.tmp 30) rfl ((ev_other _ _ (by decide)).trans ((ev_other _ _ (by decide)).trans ((ev_other _ _ (by decide)).trans ((ev_other _ _ (by decide)).trans ((ev_other _ _ (by decide)).trans ((ev_other _ _ (by decide)).trans (ev_same _ _ _ (by simp only [sz_put]; omega)))))))) ((ev_other _ _ (by decide)).trans ((ev_other _ _ (by decide)).trans (ev_same _ _ _ (by simp only [sz_put]; omega)))) RZ33 rfl ?_
          intro w34 m34 k34
          have jj : Below w.heap.size w w34 := below_of_kept j33 k34 j0.size j33.size
          have RRf := RR33.kept k34 (Nat.ne_of_lt RR0.lt)
          have AAf := AA33.kept k34 (Nat.ne_of_lt AA0.lt)
          have ALf := AL33.kept k34 (Nat.ne_of_lt AL0.lt)
          have CHf : ChRd 0 w34 _ L := (g33.young k34 RZ32.lt).weak (Nat.zero_le _)
          refine hK _ _ (fun _ => ⟨RRf, AAf⟩) ?_
          clear hK K
          refine sI_read (v := (.slice a33 L.length c33)) rfl (fun _ _ _ h => absurd h.1 (fun e => nomatch e)) (wanted_rd rfl) ⟨RRf, AAf⟩ (fun wx _ => run_assign (.tmp 31) rfl ((ev_other _ _ (by decide)).trans (ev_same _ _ _ (by simp only [sz_put]; omega))) wx) ?_
          show SeqI _ _ _ _ _ _ (Act.put _ (some 8) _) _
          refine sI_read (v := (.int .i64 0)) rfl (fun _ _ _ h => absurd h.1 (fun e => nomatch e)) (wanted_rd rfl) ⟨RRf, AAf⟩ (fun wx _ => run_assign (.tmp 32) rfl ((ev_other _ _ (by decide)).trans (ev_same _ _ _ (by simp only [sz_put]; omega))) wx) ?_
          show SeqI _ _ _ _ _ _ (Act.put _ (some 9) _) _
          refine sI_end ?_
          exact ⟨rfl, (vdV 0 true (.slice a32 4 c32)), (.tuple #[rollV R, .slice a33 L.length c33, .int .i64 0]), _, _, wr.drew.heap.size, ⟨RR0.lt, m34, RRf, AAf, CHf, ALf, jj⟩, by rw [put_swap _ 27 7 _ _ (by decide), put_swap _ 29 25 _ _ (by decide), put_swap _ 32 8 _ _ (by decide), put_swap _ 32 9 _ _ (by decide), put_swap _ 26 7 _ _ (by decide), put_swap _ 28 25 _ _ (by decide), put_swap _ 31 8 _ _ (by decide), put_swap _ 31 9 _ _ (by decide), put_swap _ 27 25 _ _ (by decide), put_swap _ 30 8 _ _ (by decide), put_swap _ 30 9 _ _ (by decide), put_swap _ 26 25 _ _ (by decide), put_swap _ 29 8 _ _ (by decide), put_swap _ 29 9 _ _ (by decide), put_swap _ 28 8 _ _ (by decide), put_swap _ 28 9 _ _ (by decide), put_swap _ 27 8 _ _ (by decide), put_swap _ 27 9 _ _ (by decide), put_swap _ 26 8 _ _ (by decide), put_swap _ 26 9 _ _ (by decide), put_swap _ 25 8 _ _ (by decide), put_swap _ 25 9 _ _ (by decide)]⟩
      case rest9 =>
        rintro a' w7 ⟨xv, xs, al, cl, nb, ⟨hnb, r7, q7, o7, c7, a7, k7⟩, rfl⟩
        have r8 := r7.alike (unhide AL9)
        have cw := r8.inn hj
        rw [unhide HAT] at cw
        have N7 := hide r8; have Q7 := hide q7; have O7 := hide o7; have A7 := hide a7; have K7 := hide k7
        clear r7 r8 q7 o7 c7 a7 k7 RR AL AA KW eRL ERL
        go_frame
        have hi3 : i = 0 ∨ i = 1 := by omega
        rcases hi3 with rfl | rfl
        · rw [show ((0 : Nat) : Int) = 0 from rfl, ll]
          rw [show decide ((0 : Nat) = 0) = true from rfl] at cw
          go_wp2_with (first | refine wpList_loadRl _ rfl (.tmp 7) rfl rfl (unhide N7) ?_ | (refine wpList_storeRl _ rfl (.tmp 3) (.tmp 54) rfl rfl rfl (unhide Q7) rfl ?_; intro w8 m8 k8; have M8 := hide m8; have A8 := hide ((unhide A7).kept k8 (by omega)); have O8 := hide ((unhide O7).kept k8 (by omega)); have K8 := hide (below_of_kept (unhide K7) k8 zb (unhide K7).size); clear m8 k8 cw N7 Q7 O7 A7 K7))
          go_roundw
          case rel => exact ⟨1, rfl, by omega, unhide M8, unhide A8, unhide O8, unhide K8⟩
          case measure => simp [intOf]
        · rw [show ((1 : Nat) : Int) = 1 from rfl, ll]
          rw [show decide ((1 : Nat) = 0) = false from rfl] at cw
          go_wp2_with (first | refine wpList_loadRl _ rfl (.tmp 7) rfl rfl (unhide N7) ?_ | (refine wpList_storeRl _ rfl (.tmp 3) (.tmp 54) rfl rfl rfl (unhide Q7) rfl ?_; intro w8 m8 k8; have M8 := hide m8; have A8 := hide ((unhide A7).kept k8 (by omega)); have O8 := hide ((unhide O7).kept k8 (by omega)); have K8 := hide (below_of_kept (unhide K7) k8 zb (unhide K7).size); clear m8 k8 cw N7 Q7 O7 A7 K7))
          go_roundw
          case rel => exact ⟨2, rfl, by omega, unhide M8, unhide A8, unhide O8, unhide K8⟩
          case measure => simp [intOf]
    · have e9 : i = 2 := by omega
      subst e9
      rw [show ((2 : Nat) : Int) = 2 from rfl]
      go_wp2_with fail
      have R6 := RR; have A6 := AL; have J6 := KW
      clear RR AL KW AA
      go_loopw [10] (fun is wr => ∃ q : Nat, is = .int .i64 q ∧ q ≤ 3 ∧ RAt wr br (aR j q) ∧ B4 wr b4 (fun _ => true) ∧ Below w.heap.size w wr) (fun is _ => 3 - (intOf is).toNat)
      case atStart => exact ⟨0, rfl, by omega, unhide R6, unhide A6, unhide J6⟩
      case round =>
        obtain ⟨q, rfl, hq, hR, hA, hK⟩ := hrel
        rename World => wr
        have RR := hide hR; have AA := hide hA; have KW := hide hK
        clear hR hA hK R6 A6 J6
        by_cases hq3 : q < 3
        · have hq3' : (q : Int) < 3 := by omega
          obtain ⟨R, eR⟩ : ∃ R, (rnN (fun _ => true) (aR j q) 4).1 = R := ⟨_, rfl⟩
          obtain ⟨L, eL⟩ : ∃ L, (rnN (fun _ => true) (aR j q) 4).2 = L := ⟨_, rfl⟩
          have eRL : stR (aR j q) true 4 (fun _ => true) = (R, L, 0) := by rw [stR_strong (aR_good j hj q hq3), eR, eL]
          have al9 : Alike R (aR j (q + 1)) := fun k hk => by rw [← eR]; exact aR_alike j hj q hq3 k hk
          have ll : L.length = (if q = 2 then 1 else 0) := by rw [← eL]; exact aR_told j hj q hq3
          have hat := aR_at j hj q hq3
          have AL9 := hide al9; have ERL := hide eRL; have HAT := hide hat
          clear eR eL al9 hat eRL
          go_wp2_with fail
          have eRL := unhide ERL
          refine wp_leaves (fun a0 a' w' => ∃ (xv xs : Value) (al : Option Addr) (cl nb : Nat), (br < nb ∧ RAt w' nb R ∧ RAt w' br (aR j q) ∧ B4 w' b4 (fun _ => true) ∧ ChRd 0 w' al L ∧ Below w.heap.size w w') ∧ a' = (((((((((((a0.put (some 11) (.pointer (some ⟨nb, 0, none⟩))).put (some 12) (.slice al L.length cl)).put (some 13) (.int .i64 0)).put (some 59) xs).put (some 60) (rollV (aR j q))).put (some 61) (boolV (fun _ => true))).put (some 62) xv).put (some 63) xs).put (some 64) (rollV R)).put (some 65) (.slice al L.length cl)).put (some 66) (.int .i64 0))) ?reg16 ?rest16
          case reg16 =>
            intro A0 eA
            have hb3 : A0.eval (.tmp 3) = .pointer (some ⟨br, 0, none⟩) := by rw [eA]; rfl
            have hb4 : A0.eval (.tmp 4) = .pointer (some ⟨b4, 0, none⟩) := by rw [eA]; rfl
            have hz : 95 ≤ A0.tmps.size := by rw [eA]; exact of_decide_eq_true rfl
            clear eA
            have RR0 : RAt wr.drew br (aR j q) := unhide RR
            have AA0 : B4 wr.drew b4 (fun _ => true) := unhide AA
            have j0 : Below w.heap.size w wr.drew := below_drew (unhide KW)
            refine region_I (S := fun u => RAt u br (aR j q) ∧ B4 u b4 (fun _ => true)) (.rd 0 (.rd 1 (.two 2 8 (.two 3 8 (.rd 4 (.rd 5 (.rd 6 (.rd 7 (.go 8 (.go 9 (.rd 10 (.rd 11 .fin)))))))) (.go 3 (.rd 4 (.rd 5 (.rd 6 (.rd 7 (.go 9 (.rd 10 (.rd 11 .fin))))))))) (.go 2 (.go 3 (.rd 4 (.rd 5 (.rd 6 (.rd 7 (.go 9 (.rd 10 (.rd 11 .fin)))))))))))) [] (by kernel_rfl) (by kernel_rfl) ?_
            refine sI_read (v := (rollV (aR j q))) rfl (fun _ _ _ h => absurd h.1 (fun e => nomatch e)) (wanted_rd rfl) ⟨RR0, AA0⟩ (fun wx hx => run_loadRl (.tmp 3) rfl hb3 hx.1) ?_
            show SeqI _ _ _ _ _ _ (Act.put _ (some 60) _) _
            refine sI_read (v := (boolV (fun _ => true))) rfl (fun _ _ _ h => absurd h.1 (fun e => nomatch e)) (wanted_rd rfl) ⟨RR0, AA0⟩ (fun wx hx => run_lodB4 (.tmp 4) rfl ((ev_other _ _ (by decide)).trans hb4) hx.2) ?_
            show SeqI _ _ _ _ _ _ (Act.put _ (some 61) _) _
            refine sI_two rfl rfl (wanted_rd rfl) (wanted_rd rfl) ?_ ?_
            · intro K hK
              refine wp_call1 _ 17 (.tmp 61) _ rfl (ev_same _ _ _ (by simp only [sz_put]; omega)) (enter_ver _ _) (verdict_any (fun _ => true) _) ?_
              rintro e w31 ⟨a31, c31, rfl, s31, h31, k31⟩
              have RR31 := RR0.below k31
              have AA31 := AA0.below k31
              have j31 : Below w.heap.size w w31 := j0.trans (k31.mono j0.size)
              refine ⟨_, rfl, hK _ _ (fun _ => ⟨RR31, AA31⟩) ?_⟩
              clear hK K
              show SeqI _ _ _ _ _ _ (Act.put _ (some 62) _) _
              refine sI_two rfl rfl (wanted_rd rfl) (wanted_rd rfl) ?_ ?_
              · intro K hK
                refine wp_call2 _ 14 (.tmp 60) (.tmp 62) _ rfl ((ev_other _ _ (by decide)).trans ((ev_other _ _ (by decide)).trans (ev_same _ _ _ (by omega)))) (ev_same _ _ _ (by simp only [sz_put]; omega)) (enter_step _ _ _) ((unhide HS) (aR j q) 0 true _ 4 _ (fun _ => true) _ (gd_R (aR_good j hj q hq3)) R64_nought (by omega) h31 s31) ?_
                rw [eRL]
                dsimp only
                rintro e w32 ⟨a32, c32, rfl, g32, k32⟩
                have RR32 := RR31.below k32
                have AA32 := AA31.below k32
                have SR32 := s31.below k32
                have j32 : Below w.heap.size w w32 := j31.trans (k32.mono j31.size)
                refine ⟨_, rfl, hK _ _ (fun _ => ⟨RR32, AA32⟩) ?_⟩
                clear hK K
                show SeqI _ _ _ _ _ _ (Act.put _ (some 63) _) _
                refine sI_read (v := (.tuple #[rollV R, .slice a32 L.length c32, .int .i64 0])) rfl (fun _ _ _ h => absurd h.1 (fun e => nomatch e)) (wanted_rd rfl) ⟨RR32, AA32⟩ (fun wx _ => run_move (.tmp 63) rfl (ev_same _ _ _ (by simp only [sz_put]; omega)) wx) ?_
                show SeqI _ _ _ _ _ _ (Act.put _ (some 59) _) _
                refine sI_read (v := (rollV R)) rfl (fun _ _ _ h => absurd h.1 (fun e => nomatch e)) (wanted_rd rfl) ⟨RR32, AA32⟩ (fun wx _ => run_get (.tmp 59) 0 rfl (ev_same _ _ _ (by simp only [sz_put]; omega)) rfl wx) ?_
                show SeqI _ _ _ _ _ _ (Act.put _ (some 64) _) _
                refine sI_read (v := (.slice a32 L.length c32)) rfl (fun _ _ _ h => absurd h.1 (fun e => nomatch e)) (wanted_rd rfl) ⟨RR32, AA32⟩ (fun wx _ => run_get (.tmp 59) 1 rfl ((ev_other _ _ (by decide)).trans (ev_same _ _ _ (by simp only [sz_put]; omega))) rfl wx) ?_
                show SeqI _ _ _ _ _ _ (Act.put _ (some 65) _) _
                refine sI_read (v := (.int .i64 0)) rfl (fun _ _ _ h => absurd h.1 (fun e => nomatch e)) (wanted_rd rfl) ⟨RR32, AA32⟩ (fun wx _ => run_get (.tmp 59) 2 rfl ((ev_other _ _ (by decide)).trans ((ev_other _ _ (by decide)).trans (ev_same _ _ _ (by simp only [sz_put]; omega)))) rfl wx) ?_
                show SeqI _ _ _ _ _ _ (Act.put _ (some 66) _) _
                refine sI_do rfl (wanted_rd rfl) (fun K hK => ?_)
                refine wp_allocRl _ rfl ?_
                intro w33 z33 k33
                have RR33 := RR32.below k33
                have AA33 := AA32.below k33
                have SR33 := SR32.below k33
                have CH33 := g32.below k33
                have j33 : Below w.heap.size w w33 := j32.trans (k33.mono j32.size)
                refine hK _ _ (fun _ => ⟨RR33, AA33⟩) ?_
                clear hK K
                show SeqI _ _ _ _ _ _ (Act.put _ (some 11) _) _
                refine sI_do rfl (wanted_rd rfl) (fun K hK => ?_)
                refine wp_storeRl _ (.tmp 11) (.tmp 64) rfl (ev_same _ _ _ (by simp only [sz_put]; omega)) ((ev_other _ _ (by decide)).trans ((ev_other _ _ (by decide)).trans ((ev_other _ _ (by decide)).trans (ev_same _ _ _ (by simp only [sz_put]; omega))))) z33 rfl ?_
                intro w34 m34 k34
                have jj : Below w.heap.size w w34 := below_of_kept j33 k34 j32.size j33.size
                have RRf := RR33.kept k34 (Nat.ne_of_lt RR32.lt)
                have AAf := AA33.kept k34 (Nat.ne_of_lt AA32.lt)
                have CHf : ChRd 0 w34 _ L := (ChRd.keep g32 CH33 k34 (Nat.le_refl _)).weak (Nat.zero_le _)
                refine hK _ _ (fun _ => ⟨RRf, AAf⟩) ?_
                clear hK K
                refine sI_read (v := (.slice a32 L.length c32)) rfl (fun _ _ _ h => absurd h.1 (fun e => nomatch e)) (wanted_rd rfl) ⟨RRf, AAf⟩ (fun wx _ => run_assign (.tmp 65) rfl ((ev_other _ _ (by decide)).trans ((ev_other _ _ (by decide)).trans (ev_same _ _ _ (by simp only [sz_put]; omega)))) wx) ?_
                show SeqI _ _ _ _ _ _ (Act.put _ (some 12) _) _
                refine sI_read (v := (.int .i64 0)) rfl (fun _ _ _ h => absurd h.1 (fun e => nomatch e)) (wanted_rd rfl) ⟨RRf, AAf⟩ (fun wx _ => run_assign (.tmp 66) rfl ((ev_other _ _ (by decide)).trans ((ev_other _ _ (by decide)).trans (ev_same _ _ _ (by simp only [sz_put]; omega)))) wx) ?_
                show SeqI _ _ _ _ _ _ (Act.put _ (some 13) _) _
                refine sI_end ?_
                exact ⟨rfl, (vdV 0 true (.slice a31 4 c31)), (.tuple #[rollV R, .slice a32 L.length c32, .int .i64 0]), _, _, w32.heap.size, ⟨RR32.lt, m34, RRf, AAf, CHf, jj⟩, by rw [put_swap _ 63 59 _ _ (by decide), put_swap _ 66 11 _ _ (by decide), put_swap _ 66 12 _ _ (by decide), put_swap _ 66 13 _ _ (by decide), put_swap _ 62 59 _ _ (by decide), put_swap _ 65 11 _ _ (by decide), put_swap _ 65 12 _ _ (by decide), put_swap _ 65 13 _ _ (by decide), put_swap _ 61 59 _ _ (by decide), put_swap _ 64 11 _ _ (by decide), put_swap _ 64 12 _ _ (by decide), put_swap _ 64 13 _ _ (by decide), put_swap _ 60 59 _ _ (by decide), put_swap _ 63 11 _ _ (by decide), put_swap _ 63 12 _ _ (by decide), put_swap _ 63 13 _ _ (by decide), put_swap _ 62 11 _ _ (by decide), put_swap _ 62 12 _ _ (by decide), put_swap _ 62 13 _ _ (by decide), put_swap _ 61 11 _ _ (by decide), put_swap _ 61 12 _ _ (by decide), put_swap _ 61 13 _ _ (by decide), put_swap _ 60 11 _ _ (by decide), put_swap _ 60 12 _ _ (by decide), put_swap _ 60 13 _ _ (by decide), put_swap _ 59 11 _ _ (by decide), put_swap _ 59 12 _ _ (by decide), put_swap _ 59 13 _ _ (by decide)]⟩
              · intro K hK
                refine wp_allocRl _ rfl ?_
                intro w32 z32 k32
                have RR32 := RR31.below k32
                have AA32 := AA31.below k32
                have SR32 := s31.below k32
                have j32 : Below w.heap.size w w32 := j31.trans (k32.mono j31.size)
                refine hK _ _ (fun _ => ⟨RR32, AA32⟩) ?_
                clear hK K
                show SeqI _ _ _ _ _ _ (Act.put _ (some 11) _) _
                refine sI_do rfl (wanted_rd rfl) (fun K hK => ?_)
                refine wp_call2 _ 14 (.tmp 60) (.tmp 62) _ rfl ((ev_other _ _ (by decide)).trans ((ev_other _ _ (by decide)).trans ((ev_other _ _ (by decide)).trans (ev_same _ _ _ (by omega))))) ((ev_other _ _ (by decide)).trans (ev_same _ _ _ (by simp only [sz_put]; omega))) (enter_step _ _ _) ((unhide HS) (aR j q) 0 true _ 4 _ (fun _ => true) _ (gd_R (aR_good j hj q hq3)) R64_nought (by omega) h31 SR32) ?_
                rw [eRL]
                dsimp only
                rintro e w33 ⟨a33, c33, rfl, g33, k33⟩
                have RR33 := RR32.below k33
                have AA33 := AA32.below k33
                have SR33 := SR32.below k33
                have RZ33 := z32.below k33
                have j33 : Below w.heap.size w w33 := j32.trans (k33.mono j32.size)
                refine ⟨_, rfl, hK _ _ (fun _ => ⟨RR33, AA33⟩) ?_⟩
                clear hK K
                show SeqI _ _ _ _ _ _ (Act.put _ (some 63) _) _
                refine sI_read (v := (.tuple #[rollV R, .slice a33 L.length c33, .int .i64 0])) rfl (fun _ _ _ h => absurd h.1 (fun e => nomatch e)) (wanted_rd rfl) ⟨RR33, AA33⟩ (fun wx _ => run_move (.tmp 63) rfl (ev_same _ _ _ (by simp only [sz_put]; omega)) wx) ?_
                show SeqI _ _ _ _ _ _ (Act.put _ (some 59) _) _
                refine sI_read (v := (rollV R)) rfl (fun _ _ _ h => absurd h.1 (fun e => nomatch e)) (wanted_rd rfl) ⟨RR33, AA33⟩ (fun wx _ => run_get (.tmp 59) 0 rfl (ev_same _ _ _ (by simp only [sz_put]; omega)) rfl wx) ?_
                show SeqI _ _ _ _ _ _ (Act.put _ (some 64) _) _
                refine sI_read (v := (.slice a33 L.length c33)) rfl (fun _ _ _ h => absurd h.1 (fun e => nomatch e)) (wanted_rd rfl) ⟨RR33, AA33⟩ (fun wx _ => run_get (.tmp 59) 1 rfl ((ev_other _ _ (by decide)).trans (ev_same _ _ _ (by simp only [sz_put]; omega))) rfl wx) ?_
                show SeqI _ _ _ _ _ _ (Act.put _ (some 65) _) _
                refine sI_read (v := (.int .i64 0)) rfl (fun _ _ _ h => absurd h.1 (fun e => nomatch e)) (wanted_rd rfl) ⟨RR33, AA33⟩ (fun wx _ => run_get (.tmp 59) 2 rfl ((ev_other _ _ (by decide)).trans ((ev_other _ _ (by decide)).trans (ev_same _ _ _ (by simp only [sz_put]; omega)))) rfl wx) ?_
                show SeqI _ _ _ _ _ _ (Act.put _ (some 66) _) _
                refine sI_do rfl (wanted_rd rfl) (fun K hK => ?_)
                refine wp_storeRl _ (.tmp 11) (.tmp 64) rfl ((ev_other _ _ (by decide)).trans ((ev_other _ _ (by decide)).trans ((ev_other _ _ (by decide)).trans ((ev_other _ _ (by decide)).trans ((ev_other _ _ (by decide)).trans (ev_same _ _ _ (by simp only [sz_put]; omega))))))) ((ev_other _ _ (by decide)).trans ((ev_other _ _ (by decide)).trans (ev_same _ _ _ (by simp only [sz_put]; omega)))) RZ33 rfl ?_
                intro w34 m34 k34
                have jj : Below w.heap.size w w34 := below_of_kept j33 k34 j31.size j33.size
                have RRf := RR33.kept k34 (Nat.ne_of_lt RR31.lt)
                have AAf := AA33.kept k34 (Nat.ne_of_lt AA31.lt)
                have CHf : ChRd 0 w34 _ L := (g33.young k34 z32.lt).weak (Nat.zero_le _)
                refine hK _ _ (fun _ => ⟨RRf, AAf⟩) ?_
                clear hK K
                refine sI_read (v := (.slice a33 L.length c33)) rfl (fun _ _ _ h => absurd h.1 (fun e => nomatch e)) (wanted_rd rfl) ⟨RRf, AAf⟩ (fun wx _ => run_assign (.tmp 65) rfl ((ev_other _ _ (by decide)).trans (ev_same _ _ _ (by simp only [sz_put]; omega))) wx) ?_
                show SeqI _ _ _ _ _ _ (Act.put _ (some 12) _) _
                refine sI_read (v := (.int .i64 0)) rfl (fun _ _ _ h => absurd h.1 (fun e => nomatch e)) (wanted_rd rfl) ⟨RRf, AAf⟩ (fun wx _ => run_assign (.tmp 66) rfl ((ev_other _ _ (by decide)).trans (ev_same _ _ _ (by simp only [sz_put]; omega))) wx) ?_
                show SeqI _ _ _ _ _ _ (Act.put _ (some 13) _) _
                refine sI_end ?_
                exact ⟨rfl, (vdV 0 true (.slice a31 4 c31)), (.tuple #[rollV R, .slice a33 L.length c33, .int .i64 0]), _, _, w31.heap.size, ⟨RR31.lt, m34, RRf, AAf, CHf, jj⟩, by rw [put_swap _ 62 11 _ _ (by decide), put_swap _ 63 59 _ _ (by decide), put_swap _ 66 12 _ _ (by decide), put_swap _ 66 13 _ _ (by decide), put_swap _ 61 11 _ _ (by decide), put_swap _ 62 59 _ _ (by decide), put_swap _ 65 12 _ _ (by decide), put_swap _ 65 13 _ _ (by decide), put_swap _ 60 11 _ _ (by decide), put_swap _ 61 59 _ _ (by decide), put_swap _ 64 12 _ _ (by decide), put_swap _ 64 13 _ _ (by decide), put_swap _ 60 59 _ _ (by decide), put_swap _ 63 12 _ _ (by decide), put_swap _ 63 13 _ _ (by decide), put_swap _ 62 12 _ _ (by decide), put_swap _ 62 13 _ _ (by decide), put_swap _ 61 12 _ _ (by decide), put_swap _ 61 13 _ _ (by decide), put_swap _ 60 12 _ _ (by decide), put_swap _ 60 13 _ _ (by decide), put_swap _ 59 12 _ _ (by decide), put_swap _ 59 13 _ _ (by decide)]⟩
            · intro K hK
              refine wp_allocRl _ rfl ?_
              intro w31 z31 k31
              have RR31 := RR0.below k31
              have AA31 := AA0.below k31
              have j31 : Below w.heap.size w w31 := j0.trans (k31.mono j0.size)
              refine hK _ _ (fun _ => ⟨RR31, AA31⟩) ?_
              clear hK K
              show SeqI _ _ _ _ _ _ (Act.put _ (some 11) _) _
              refine sI_do rfl (wanted_rd rfl) (fun K hK => ?_)
              refine wp_call1 _ 17 (.tmp 61) _ rfl ((ev_other _ _ (by decide)).trans (ev_same _ _ _ (by simp only [sz_put]; omega))) (enter_ver _ _) (verdict_any (fun _ => true) _) ?_
              rintro e w32 ⟨a32, c32, rfl, s32, h32, k32⟩
              have RR32 := RR31.below k32
              have AA32 := AA31.below k32
              have RZ32 := z31.below k32
              have j32 : Below w.heap.size w w32 := j31.trans (k32.mono j31.size)
              refine ⟨_, rfl, hK _ _ (fun _ => ⟨RR32, AA32⟩) ?_⟩
              clear hK K
              show SeqI _ _ _ _ _ _ (Act.put _ (some 62) _) _
              refine sI_do rfl (wanted_rd rfl) (fun K hK => ?_)
              refine wp_call2 _ 14 (.tmp 60) (.tmp 62) _ rfl ((ev_other _ _ (by decide)).trans ((ev_other _ _ (by decide)).trans ((ev_other _ _ (by decide)).trans (ev_same _ _ _ (by omega))))) (ev_same _ _ _ (by simp only [sz_put]; omega)) (enter_step _ _ _) ((unhide HS) (aR j q) 0 true _ 4 _ (fun _ => true) _ (gd_R (aR_good j hj q hq3)) R64_nought (by omega) h32 s32) ?_
              rw [eRL]
              dsimp only
              rintro e w33 ⟨a33, c33, rfl, g33, k33⟩
              have RR33 := RR32.below k33
              have AA33 := AA32.below k33
              have RZ33 := RZ32.below k33
              have SR33 := s32.below k33
              have j33 : Below w.heap.size w w33 := j32.trans (k33.mono j32.size)
              refine ⟨_, rfl, hK _ _ (fun _ => ⟨RR33, AA33⟩) ?_⟩
              clear hK K
              show SeqI _ _ _ _ _ _ (Act.put _ (some 63) _) _
              refine sI_read (v := (.tuple #[rollV R, .slice a33 L.length c33, .int .i64 0])) rfl (fun _ _ _ h => absurd h.1 (fun e => nomatch e)) (wanted_rd rfl) ⟨RR33, AA33⟩ (fun wx _ => run_move (.tmp 63) rfl (ev_same _ _ _ (by simp only [sz_put]; omega)) wx) ?_
              show SeqI _ _ _ _ _ _ (Act.put _ (some 59) _) _
              refine sI_read (v := (rollV R)) rfl (fun _ _ _ h => absurd h.1 (fun e => nomatch e)) (wanted_rd rfl) ⟨RR33, AA33⟩ (fun wx _ => run_get (.tmp 59) 0 rfl (ev_same _ _ _ (by simp only [sz_put]; omega)) rfl wx) ?_
              show SeqI _ _ _ _ _ _ (Act.put _ (some 64) _) _
              refine sI_read (v := (.slice a33 L.length c33)) rfl (fun _ _ _ h => absurd h.1 (fun e => nomatch e)) (wanted_rd rfl) ⟨RR33, AA33⟩ (fun wx _ => run_get (.tmp 59) 1 rfl ((ev_other _ _ (by decide)).trans (ev_same _ _ _ (by simp only [sz_put]; omega))) rfl wx) ?_
              show SeqI _ _ _ _ _ _ (Act.put _ (some 65) _) _
              refine sI_read (v := (.int .i64 0)) rfl (fun _ _ _ h => absurd h.1 (fun e => nomatch e)) (wanted_rd rfl) ⟨RR33, AA33⟩ (fun wx _ => run_get (.tmp 59) 2 rfl ((ev_other _ _ (by decide)).trans ((ev_other _ _ (by decide)).trans (ev_same _ _ _ (by simp only [sz_put]; omega)))) rfl wx) ?_
              show SeqI _ _ _ _ _ _ (Act.put _ (some 66) _) _
              refine sI_do rfl (wanted_rd rfl) (fun K hK => ?_)
              refine wp_storeRl _ (.tmp 11) (.tmp 64) rfl ((ev_other _ _ (by decide)).trans ((ev_other _ _ (by decide)).trans ((ev_other _ _ (by decide)).trans ((ev_other _ _ (by decide)).trans ((ev_other _ _ (by decide)).trans ((ev_other _ _ (by decide)).trans (ev_same _ _ _ (by simp only [sz_put]; omega)))))))) ((ev_other _ _ (by decide)).trans ((ev_other _ _ (by decide)).trans (ev_same _ _ _ (by simp only [sz_put]; omega)))) RZ33 rfl ?_
              intro w34 m34 k34
              have jj : Below w.heap.size w w34 := below_of_kept j33 k34 j0.size j33.size
              have RRf := RR33.kept k34 (Nat.ne_of_lt RR0.lt)
              have AAf := AA33.kept k34 (Nat.ne_of_lt AA0.lt)
              have CHf : ChRd 0 w34 _ L := (g33.young k34 RZ32.lt).weak (Nat.zero_le _)
              refine hK _ _ (fun _ => ⟨RRf, AAf⟩) ?_
              clear hK K
              refine sI_read (v := (.slice a33 L.length c33)) rfl (fun _ _ _ h => absurd h.1 (fun e => nomatch e)) (wanted_rd rfl) ⟨RRf, AAf⟩ (fun wx _ => run_assign (.tmp 65) rfl ((ev_other _ _ (by decide)).trans (ev_same _ _ _ (by simp only [sz_put]; omega))) wx) ?_
              show SeqI _ _ _ _ _ _ (Act.put _ (some 12) _) _
              refine sI_read (v := (.int .i64 0)) rfl (fun _ _ _ h => absurd h.1 (fun e => nomatch e)) (wanted_rd rfl) ⟨RRf, AAf⟩ (fun wx _ => run_assign (.tmp 66) rfl ((ev_other _ _ (by decide)).trans (ev_same _ _ _ (by simp only [sz_put]; omega))) wx) ?_
              show SeqI _ _ _ _ _ _ (Act.put _ (some 13) _) _
              refine sI_end ?_
              exact ⟨rfl, (vdV 0 true (.slice a32 4 c32)), (.tuple #[rollV R, .slice a33 L.length c33, .int .i64 0]), _, _, wr.drew.heap.size, ⟨RR0.lt, m34, RRf, AAf, CHf, jj⟩, by rw [put_swap _ 61 11 _ _ (by decide), put_swap _ 63 59 _ _ (by decide), put_swap _ 66 12 _ _ (by decide), put_swap _ 66 13 _ _ (by decide), put_swap _ 60 11 _ _ (by decide), put_swap _ 62 59 _ _ (by decide), put_swap _ 65 12 _ _ (by decide), put_swap _ 65 13 _ _ (by decide), put_swap _ 61 59 _ _ (by decide), put_swap _ 64 12 _ _ (by decide), put_swap _ 64 13 _ _ (by decide), put_swap _ 60 59 _ _ (by decide), put_swap _ 63 12 _ _ (by decide), put_swap _ 63 13 _ _ (by decide), put_swap _ 62 12 _ _ (by decide), put_swap _ 62 13 _ _ (by decide), put_swap _ 61 12 _ _ (by decide), put_swap _ 61 13 _ _ (by decide), put_swap _ 60 12 _ _ (by decide), put_swap _ 60 13 _ _ (by decide), put_swap _ 59 12 _ _ (by decide), put_swap _ 59 13 _ _ (by decide)]⟩
          case rest16 =>
            rintro a' w7 ⟨xv, xs, al, cl, nb, ⟨hnb, r7, q7, a7, c7, k7⟩, rfl⟩
            have r8 := r7.alike (unhide AL9)
            have cw := r8.inn hj
            rw [unhide HAT] at cw
            have N7 := hide r8; have Q7 := hide q7; have A7 := hide a7; have K7 := hide k7
            clear r7 r8 q7 c7 a7 k7 RR AA KW eRL ERL
            go_frame
            have hq4 : q = 0 ∨ q = 1 ∨ q = 2 := by omega
            rcases hq4 with rfl | rfl | rfl
            · rw [show ((0 : Nat) : Int) = 0 from rfl]
              rw [ll, if_neg (by decide)]
              rw [show decide ((0 : Nat) = 2) = false from rfl] at cw
              go_wp2_with (first | refine wpList_loadRl _ rfl (.tmp 11) rfl rfl (unhide N7) ?_ | (refine wpList_storeRl _ rfl (.tmp 3) (.tmp 88) rfl rfl rfl (unhide Q7) rfl ?_; intro w8 m8 k8; have M8 := hide m8; have A8 := hide ((unhide A7).kept k8 (by omega)); have K8 := hide (below_of_kept (unhide K7) k8 zb (unhide K7).size); clear m8 k8 cw N7 Q7 A7 K7))
              go_roundw
              case rel => exact ⟨1, rfl, by omega, unhide M8, unhide A8, unhide K8⟩
              case measure => simp [intOf]
            · rw [show ((1 : Nat) : Int) = 1 from rfl]
              rw [ll, if_neg (by decide)]
              rw [show decide ((1 : Nat) = 2) = false from rfl] at cw
              go_wp2_with (first | refine wpList_loadRl _ rfl (.tmp 11) rfl rfl (unhide N7) ?_ | (refine wpList_storeRl _ rfl (.tmp 3) (.tmp 88) rfl rfl rfl (unhide Q7) rfl ?_; intro w8 m8 k8; have M8 := hide m8; have A8 := hide ((unhide A7).kept k8 (by omega)); have K8 := hide (below_of_kept (unhide K7) k8 zb (unhide K7).size); clear m8 k8 cw N7 Q7 A7 K7))
              go_roundw
              case rel => exact ⟨2, rfl, by omega, unhide M8, unhide A8, unhide K8⟩
              case measure => simp [intOf]
            · rw [show ((2 : Nat) : Int) = 2 from rfl]
              rw [ll, if_pos (by decide)]
              rw [show decide ((2 : Nat) = 2) = true from rfl] at cw
              go_wp2_with (first | refine wpList_loadRl _ rfl (.tmp 11) rfl rfl (unhide N7) ?_ | (refine wpList_storeRl _ rfl (.tmp 3) (.tmp 88) rfl rfl rfl (unhide Q7) rfl ?_; intro w8 m8 k8; have M8 := hide m8; have A8 := hide ((unhide A7).kept k8 (by omega)); have K8 := hide (below_of_kept (unhide K7) k8 zb (unhide K7).size); clear m8 k8 cw N7 Q7 A7 K7))
              go_roundw
              case rel => exact ⟨3, rfl, by omega, unhide M8, unhide A8, unhide K8⟩
              case measure => simp [intOf]
        · have e9 : q = 3 := by omega
          subst e9
          rw [show ((3 : Nat) : Int) = 3 from rfl]
          have RX := hide (show RAt wr br beginR from unhide RR); have KX := KW
          clear RR AA KW
          go_wp2_with fail
          refine wp_leaves (fun a0 a' w' => Below w.heap.size w w' ∧ a' = (((((((a0.put (some 89) (.bool true)).put (some 90) (.bool true)).put (some 91) (rollV beginR)).put (some 92) (rollV beginR)).put (some 93) (.bool true)).put (some 94) (.bool true)).put (some 2) (.bool true))) ?reg20 ?rest20
          case reg20 =>
            intro A0 eA
            have b3 : A0.eval (.tmp 3) = .pointer (some ⟨br, 0, none⟩) := by rw [eA]; rfl
            have hz : 95 ≤ A0.tmps.size := by rw [eA]; exact of_decide_eq_true rfl
            clear eA
            have hS : RAt wr.drew br beginR := unhide RX
            have k0 : Below w.heap.size w wr.drew := below_drew (unhide KX)
            refine region_I (S := fun u => RAt u br beginR) (.go 0 (.rd 1 (.rd 2 (.go 3 (.rd 4 (.rd 5 (.rd 6 .fin))))))) [] (by kernel_rfl) (by kernel_rfl) ?_
            refine sI_do rfl (wanted_rd rfl) (fun K hK => ?_)
            refine wp_call0 _ 18 #[] rfl (enter_keeps _) (keeps_any (unhide HB) (unhide HC) (unhide HG) _) ?_
            rintro e w40 ⟨rfl, k40⟩
            have hS40 := hS.below k40
            have k40' := k0.trans (k40.mono k0.size)
            refine ⟨_, rfl, hK _ _ (fun _ => hS40) ?_⟩
            clear hK K
            show SeqI _ _ _ _ _ _ (Act.put _ (some 89) _) _
            refine sI_read (v := (.bool true)) rfl (fun _ _ _ h => absurd h.1 (fun e => nomatch e)) (wanted_rd rfl) hS40 (fun wx _ => run_move (.tmp 89) rfl (ev_same _ _ _ (by omega)) wx) ?_
            show SeqI _ _ _ _ _ _ (Act.put _ (some 90) _) _
            refine sI_read (v := (rollV beginR)) rfl (fun _ _ _ h => absurd h.1 (fun e => nomatch e)) (wanted_g rfl rfl rfl (ev_same _ _ _ (by simp only [sz_put]; omega))) hS40 (fun wx hx => run_loadRl (.tmp 3) rfl ((ev_other _ _ (by decide)).trans ((ev_other _ _ (by decide)).trans b3)) hx) ?_
            show SeqI _ _ _ _ _ _ (Act.put _ (some 91) _) _
            refine sI_do rfl (wanted_g rfl rfl rfl ((ev_other _ _ (by decide)).trans (ev_same _ _ _ (by simp only [sz_put]; omega)))) (fun K hK => ?_)
            refine wp_call0 _ 8 #[] rfl (enter_beg _) (unhide HB _) ?_
            rintro e w41 ⟨rfl, k41⟩
            have hS41 := hS40.below k41
            have k41' := k40'.trans (k41.mono k40'.size)
            refine ⟨_, rfl, hK _ _ (fun _ => hS41) ?_⟩
            clear hK K
            show SeqI _ _ _ _ _ _ (Act.put _ (some 92) _) _
            refine sI_read (v := (.bool true)) rfl (fun _ _ _ h => absurd h.1 (fun e => nomatch e)) (wanted_g rfl rfl rfl ((ev_other _ _ (by decide)).trans ((ev_other _ _ (by decide)).trans (ev_same _ _ _ (by simp only [sz_put]; omega))))) hS41 (fun wx _ => run_eqlRl (.tmp 91) (.tmp 92) rfl ((ev_other _ _ (by decide)).trans (ev_same _ _ _ (by simp only [sz_put]; omega))) (ev_same _ _ _ (by simp only [sz_put]; omega)) wx) ?_
            show SeqI _ _ _ _ _ _ (Act.put _ (some 93) _) _
            refine sI_read (v := (.bool true)) rfl (fun _ _ _ h => absurd h.1 (fun e => nomatch e)) (wanted_rd rfl) hS41 (fun wx _ => run_pickT' (.tmp 90) (.tmp 93) (.const (.bool false)) rfl ((ev_other _ _ (by decide)).trans ((ev_other _ _ (by decide)).trans ((ev_other _ _ (by decide)).trans (ev_same _ _ _ (by simp only [sz_put]; omega))))) (ev_same _ _ _ (by simp only [sz_put]; omega)) wx) ?_
            show SeqI _ _ _ _ _ _ (Act.put _ (some 94) _) _
            refine sI_read (v := (.bool true)) rfl (fun _ _ _ h => absurd h.1 (fun e => nomatch e)) (wanted_rd rfl) hS41 (fun wx _ => run_assign (.tmp 94) rfl (ev_same _ _ _ (by simp only [sz_put]; omega)) wx) ?_
            show SeqI _ _ _ _ _ _ (Act.put _ (some 2) _) _
            refine sI_end ?_
            exact ⟨rfl, k41', rfl⟩
          case rest20 =>
            rintro a' w7 ⟨k7, rfl⟩
            have K7 := hide k7
            clear k7
            go_frame
            go_wp2_with fail
            go_ret
            exact ⟨rfl, unhide K7⟩

end Go.Proofs.Ytbgdjldmplkecaa
