/- Contracts: factor of a matrix at work. -/
import Derived.Test.YtnfejfdekedmhabMatRest
namespace Go.Proofs.Ytnfejfdekedmhab
open Go.RowKit

theorem Nh.push {w' : World} {base b j cap : Nat} {D : Nat → Int} {p : Int} (h : w'.ownsRow base 3 1 (.slice (some ⟨b, 0, none⟩) (j + 1) cap) (j + 1) (rowL D j ++ [.int .i64 p])) : Nh w' b (j + 1) cap (stF D j p) := by
  obtain ⟨r, c, e, _, hn⟩ := Nh.of_owns (f := stF D j p) (by omega) h (fun i hi => by
    rcases Nat.lt_or_ge i j with h1 | h1
    · rw [List.getElem?_append_left (by have := rowL_len D j; omega), rowL_at D h1, stF_other _ _ (by omega)]
    · have : i = j := by omega
      subst this
      rw [List.getElem?_append_right (by have := rowL_len D i; omega), stF_same]
      have := rowL_len D i
      simp [show (rowL D i).length = i by omega])
  cases e
  exact hn

theorem one_cells (w : World) (p : Int) : ∀ (j : Nat) (u : Value), [Value.int .i64 p][j]? = some u → (w.alloc (.cells #[.int .i64 p] 3)).cell? ((⟨w.heap.size, 0, none⟩ : Addr).add j) = some u := by
  intro j u hj
  have hb : (w.alloc (.cells #[.int .i64 p] 3)).heap[w.heap.size]? = some (.cells #[.int .i64 p] 3 (0, 0)) := by show (w.heap.push _)[w.heap.size]? = _; rw [Array.getElem?_push_size]
  rw [Addr.add_lit]
  cases j with
  | zero => cases hj; unfold World.cell?; rw [hb]; rfl
  | succ j => simp at hj
theorem one_one (p : Int) : ∀ u ∈ [Value.int .i64 p], u.oneCell' = true := by
  intro u hu
  simp at hu
  subst hu; rfl

set_option maxRecDepth 100000 in
set_option maxHeartbeats 4000000 in
theorem wkFactor_any (b n r cap : Nat) (g : Nat → Int) (x : Bool) (w : World) (h : MW w b n r cap g x) :
    Calls Try.prog 26 #[.pointer (some ⟨b, 0, none⟩)] w fun e w' =>
      (facOK n g n ∧ e = .returned (.tuple #[.slice (some ⟨w.heap.size, 0, none⟩) n n, .int .i64 0]) ∧ (∃ f, MW w' b n r cap f (x || facB n g n) ∧ IsM n g n f) ∧ Nh w' w.heap.size n n (fac n g n).2 ∧ Kp2 b r w w') ∨
      (¬ facOK n g n ∧ e = .returned (.tuple #[.slice none 0 0, .int .i64 9]) ∧ Kp2 b r w w') := by
  obtain ⟨i0, hi0, hz0, hz1, hz2⟩ := info_parts infoInt
  have c0 := h.wk.cell0
  have hn6 := h.n6
  have hmk := makeRoom n (by omega)
  have HB := hide h.wk.lt
  have HRL := hide h.row.lt
  have HG := hide h.rng
  have H := hide h
  clear h
  have C1 := hide (((unhide H).below (al_below w (.cells (madeCells #[.int .i64 0] n) 3))).wk.cell0)
  have c1 := unhide C1
  go_enter Try.func26, Try.ntmps26
  go_wp2_with fail
  clear c0 c1 hmk
  go_loopw [4, 5, 6, 7, 19] (fun ds _ _ _ js wr => ∃ (j : Nat) (f : Nat → Int), js = .int .i64 j ∧ j ≤ n ∧ ds = .slice (some ⟨w.heap.size, 0, none⟩) j n ∧ facOK n g j ∧ MW wr b n r cap f (x || facB n g j) ∧ IsM n g j f ∧ Nh wr w.heap.size j n (fac n g j).2 ∧ w.heap.size < wr.heap.size ∧ Kp2 b r w wr)
    (fun _ _ _ _ js _ => n - (intOf js).toNat)
  case atStart =>
    refine ⟨0, g, rfl, Nat.zero_le _, rfl, fun _ h => absurd h (by omega), ?_, isM_start n g, (Nh.made w n (by unfold maxLen; omega)).less (Nat.zero_le _), by rw [al_size]; omega, Kp2.of_below (al_below w _)⟩
    show MW _ b n r cap g (x || false)
    rw [Bool.or_false]; exact (unhide H).below (al_below w _)
  case round =>
    obtain ⟨j, f, rfl, hj, rfl, hok, hM, hT, hN, hsz, hK⟩ := hrel
    have HM := hide hM; have HT := hide hT; have HK := hide hK; have HN := hide hN; have HOK := hide hok; have HS := hide hsz
    clear hM hT hK hN hok hsz
    by_cases hjn : j < n
    · obtain ⟨EP, EB⟩ := isM_P (unhide HT) hjn (D := (fac n g j).2) (fun _ _ => rfl)
      have EP := hide EP; have EB := hide EB
      go_wp2_with fail
      refine (wkRest_any b n r cap w.heap.size j n j j f (fac n g j).2 _ _ (facD_R (unhide HG) j) (Nat.ne_of_gt (unhide HB)) hj hjn hjn (fun i hi => (unhide HN).cell hi) (unhide HM)).mono ?_
      rintro e w1 ⟨rfl, h1, k1⟩
      rw [unhide EP]
      rw [unhide EB] at h1
      have HP := hide (facP_R (n := n) (unhide HG) j)
      obtain ⟨p, ep⟩ : ∃ p, p = facP n g j := ⟨_, rfl⟩
      rw [← ep] at HP ⊢
      have E := hide ep
      have N1 := hide ((unhide HN).kept k1 (Nat.ne_of_gt (unhide HB)))
      have H1 := hide h1; have K1 := hide (show Kp2 b r w w1 from (unhide HK).trans (Kp2.of_kept k1 (Or.inl rfl)))
      have S1 := hide (show w.heap.size < w1.heap.size from Nat.lt_of_lt_of_le (unhide HS) k1.size)
      clear h1 k1 ep
      by_cases hp : p ≤ 0
      · go_wp2_with fail
        go_ret2
        refine Or.inr ⟨fun hh => ?_, rfl, unhide K1⟩
        have := hh j hjn
        rw [← unhide E] at this
        omega
      · go_wp2_with fail
        refine (wkPut_any b n r cap j j f _ _ _ hjn hjn (by unfold R64; omega) (unhide H1)).mono ?_
        rintro e w2 ⟨rfl, h2, k2⟩
        have N2 := hide ((unhide N1).kept k2 (Nat.ne_of_gt (unhide HRL)))
        have T2 := hide (inM_start (unhide HT) hjn)
        have H2 := hide h2; have K2 := hide (show Kp2 b r w w2 from (unhide K1).trans (Kp2.of_kept k2 (Or.inr (Or.inl rfl))))
        have S2 := hide (show w.heap.size < w2.heap.size from Nat.lt_of_lt_of_le (unhide S1) k2.size)
        clear h2 k2
        go_wp2_with fail
        go_loopw [7] (fun is wr => ∃ (t : Nat) (f : Nat → Int), is = .int .i64 ((j + 1 + t : Nat) : Int) ∧ j + 1 + t ≤ n ∧ MW wr b n r cap f (x || facB n g j || facPB n g j || anyB (fun t => facRB n g j (j + 1 + t)) t) ∧ InM n g j (j + 1 + t) f ∧ Nh wr w.heap.size j n (fac n g j).2 ∧ w.heap.size < wr.heap.size ∧ Kp2 b r w wr)
          (fun is _ => n - (intOf is).toNat)
        case atStart =>
          refine ⟨0, _, by go_num, by omega, ?_, unhide T2, unhide N2, unhide S2, unhide K2⟩
          show MW _ b n r cap _ (_ || false)
          rw [Bool.or_false]; exact unhide H2
        case round =>
          obtain ⟨t, f2, rfl, ht, hM, hT, hN, hsz, hK⟩ := hrel
          have c0 := hM.wk.cell0
          have HM2 := hide hM; have HT2 := hide hT; have HK2 := hide hK; have HN2 := hide hN; have HS2 := hide hsz
          clear hM hT hK hN hsz
          obtain ⟨i, ei⟩ : ∃ i, j + 1 + t = i := ⟨_, rfl⟩
          rw [ei] at HT2 ht ⊢
          by_cases hin : i < n
          · obtain ⟨ER, ERB⟩ := inM_R (unhide HT2) hin (by omega) (D := (fac n g j).2) (fun _ _ => rfl)
            have ER := hide ER; have ERB := hide ERB
            go_wp2_with fail
            clear c0
            refine (wkRest_any b n r cap w.heap.size j n i j f2 (fac n g j).2 _ _ (facD_R (unhide HG) j) (Nat.ne_of_gt (unhide HB)) hj hin hjn (fun i hi => (unhide HN2).cell hi) (unhide HM2)).mono ?_
            rintro e w3 ⟨rfl, h3, k3⟩
            rw [unhide ER]
            rw [unhide ERB] at h3
            have N3 := hide ((unhide HN2).kept k3 (Nat.ne_of_gt (unhide HB)))
            have H3 := hide h3; have K3 := hide (show Kp2 b r w w3 from (unhide HK2).trans (Kp2.of_kept k3 (Or.inl rfl)))
            have S3 := hide (show w.heap.size < w3.heap.size from Nat.lt_of_lt_of_le (unhide HS2) k3.size)
            clear h3 k3
            go_wp2_with fail
            refine (wkDiv_any b n r cap f2 _ _ _ _ (rsV_R _ _ _ (unhide HG _) _) (unhide HP) (unhide H3)).mono ?_
            rintro e w4 ⟨rfl, h3, k3⟩
            have N4 := hide ((unhide N3).kept k3 (Nat.ne_of_gt (unhide HB)))
            have H4 := hide h3; have K4 := hide (show Kp2 b r w w4 from (unhide K3).trans (Kp2.of_kept k3 (Or.inl rfl)))
            have S4 := hide (show w.heap.size < w4.heap.size from Nat.lt_of_lt_of_le (unhide S3) k3.size)
            clear h3 k3
            go_wp2_with fail
            refine (wkPut_any b n r cap i j f2 _ _ _ hin hjn (quot_R _ _) (unhide H4)).mono ?_
            rintro e w5 ⟨rfl, h3, k3⟩
            have N5 := hide ((unhide N4).kept k3 (Nat.ne_of_gt (unhide HRL)))
            have H5 := hide h3; have K5 := hide (show Kp2 b r w w5 from (unhide K4).trans (Kp2.of_kept k3 (Or.inr (Or.inl rfl))))
            have S5 := hide (show w.heap.size < w5.heap.size from Nat.lt_of_lt_of_le (unhide S4) k3.size)
            clear h3 k3
            go_wp2_with fail
            refine (wkPut_any b n r cap j i _ _ _ _ hjn hin R64_nought (unhide H5)).mono ?_
            rintro e w6 ⟨rfl, h3, k3⟩
            have N6 := hide ((unhide N5).kept k3 (Nat.ne_of_gt (unhide HRL)))
            have H6 := hide h3; have K6 := hide (show Kp2 b r w w6 from (unhide K5).trans (Kp2.of_kept k3 (Or.inr (Or.inl rfl))))
            have S6 := hide (show w.heap.size < w6.heap.size from Nat.lt_of_lt_of_le (unhide S5) k3.size)
            clear h3 k3
            go_wp2_with fail
            go_roundw
            case rel =>
              refine ⟨t + 1, stF (stF f2 (i * n + j) (divV (facR n g j i) p)) (j * n + i) 0, by subst ei; go_num, by omega, ?_, ?_, unhide N6, unhide S6, unhide K6⟩
              · have hm : MW w6 b n r cap (stF (stF f2 (i * n + j) (divV (facR n g j i) p)) (j * n + i) 0) (x || facB n g j || facPB n g j || anyB (fun t => facRB n g j (j + 1 + t)) t || rsB (g (i * n + j)) ((fac n g j).1 i) ((fac n g j).1 j) (fac n g j).2 j || divB (facR n g j i) p) := unhide H6
                have e : (x || facB n g j || facPB n g j || anyB (fun t => facRB n g j (j + 1 + t)) (t + 1)) = (x || facB n g j || facPB n g j || anyB (fun t => facRB n g j (j + 1 + t)) t || rsB (g (i * n + j)) ((fac n g j).1 i) ((fac n g j).1 j) (fac n g j).2 j || divB (facR n g j i) p) := by
                  show (_ || (anyB _ t || facRB n g j (j + 1 + t))) = _
                  rw [ei, unhide E]; unfold facRB; simp only [Bool.or_assoc]
                rw [e]; exact hm
              · rw [← Nat.add_assoc, ei, unhide E]; exact inM_step (unhide HT2) (by omega) hin
            case measure => simp [intOf]; omega
          · have hin2 : i = n := by omega
            subst hin2
            rename_i wr _ _ _ _ _ _ _ _ _ _ _ _ _ _ _ _ _ _ _ _ _ _ _ _ _
            have HO := hide ((unhide HN2).owns (base := w.heap.size) (Nat.le_refl _))
            go_wp2_with (at_builtin; refine wpList_append_fits _ rfl _ _ 22 rfl w.heap.size 3 i0 1 Try.underlying22 hi0 hz1 w.heap.size j i (rowL (fac i g j).2 j) rfl ((unhide HO).alloc _) ⟨wr.heap.size, 0, none⟩ 1 1 [.int .i64 p] rfl rfl (one_cells wr p) (one_one p) (by omega) ?_)
            intro w7 hown hgr
            have hsz := al_size wr (.cells #[.int .i64 p] 3)
            have F := hide (show facOK i g (j + 1) ∧ MW w7 b i r cap f2 (x || facB i g (j + 1)) ∧ IsM i g (j + 1) f2 ∧ Nh w7 w.heap.size (j + 1) i (fac i g (j + 1)).2 ∧ w.heap.size < w7.heap.size ∧ Kp2 b r w w7 from by
              have hb := unhide HB; have hrl := unhide HRL; have hs := unhide HS2
              have k7 : Kept w.heap.size wr w7 := ⟨hgr.os, hgr.tape, hgr.output, by have := hgr.size; omega, fun k hk hne => (hgr.block k (by omega) (by simp [hne])).trans ((al_kept (z := wr.heap.size + 1) wr _).block k hk (by omega))⟩
              refine ⟨fun t ht => ?_, ?_, inM_end (unhide HT2), ?_, Nat.lt_of_lt_of_le hs k7.size, ?_⟩
              · rcases Nat.lt_or_ge t j with h1 | h1
                · exact unhide HOK t h1
                · have : t = j := by omega
                  subst this
                  rw [← unhide E]; omega
              · have hm := (unhide HM2).kept k7 (by omega) (by omega)
                have e : t = i - (j + 1) := by omega
                rw [e] at hm
                show MW w7 b i r cap f2 (x || (facB i g j || facPB i g j || _))
                simp only [Bool.or_assoc] at hm ⊢
                exact hm
              · rw [facD_new, ← unhide E]; exact Nh.push hown
              · have := unhide HK2
                exact ⟨k7.os.trans this.os, k7.tape.trans this.tape, k7.output.trans this.output, Nat.le_trans this.size k7.size, fun k hk h1 h2 => (k7.block k (Nat.lt_of_lt_of_le hk this.size) (by omega)).trans (this.block k hk h1 h2)⟩)
            clear hown hgr hsz
            go_wp2_with fail
            go_roundw
            case rel => exact ⟨j + 1, f2, by go_num, by omega, rfl, (unhide F).1, (unhide F).2.1, (unhide F).2.2.1, (unhide F).2.2.2.1, (unhide F).2.2.2.2.1, (unhide F).2.2.2.2.2⟩
            case measure => simp [intOf]; omega
    · have hjn2 : j = n := by omega
      subst hjn2
      go_wp2_with fail
      go_ret2
      exact Or.inl ⟨unhide HOK, rfl, ⟨f, unhide HM, unhide HT⟩, unhide HN, unhide HK⟩

end Go.Proofs.Ytnfejfdekedmhab
