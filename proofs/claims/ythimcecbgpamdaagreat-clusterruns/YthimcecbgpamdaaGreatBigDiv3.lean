/- Contracts of the reference's whole numbers of any size: the long division, word by word from above: the walk. -/
import Derived.Test.YthimcecbgpamdaaGreatNear66
import Derived.Deep.LoopGhost
import Derived.Deep.CutBlock
import Derived.Deep.DeepCutAuto
namespace Go.Proofs.YthimcecbgpamdaaGreat
open Go.RowKit

set_option maxHeartbeats 4000000 in
set_option maxRecDepth 100000 in
theorem div_long (X Y : Int) (h0 : 4294967296 ≤ Y) (h : Y ≤ X) (h1 : 18446744073709551616 ≤ X) : DivOK X Y := by
  intro n m fa fb va vb w ha hb wa wb na nb hn hm hX hY
  have m2 : 2 ≤ m := by
    rcases Nat.lt_or_ge m 2 with h2 | h2
    · have := (val_bd wb).2
      have h3 : (4294967296 : Int) ^ m ≤ 4294967296 ^ 1 := by rw [pow32, pow32]; exact pow_le_two (by omega)
      have h4 : (4294967296 : Int) ^ 1 = 4294967296 := by decide
      omega
    · exact h2
  have n3 : 3 ≤ n := by
    rcases Nat.lt_or_ge n 3 with h2 | h2
    · have := (val_bd wa).2
      have h3 : (4294967296 : Int) ^ n ≤ 4294967296 ^ 2 := by rw [pow32, pow32]; exact pow_le_two (by omega)
      have h4 : (4294967296 : Int) ^ 2 = 18446744073709551616 := by decide
      omega
    · exact h2
  have c0 : 0 ≤ cmpZ (val fa n) (val fb m) := by unfold cmpZ; rw [if_neg (by omega)]; split <;> decide
  have HA := hide ha; have HB := hide hb; have WA := hide wa; have WB := hide wb; have NA := hide na; have NB := hide nb; have HX := hide hX; have HY := hide hY
  obtain ⟨ao, capa, rfl, -, -, -⟩ := ha.view
  obtain ⟨bo, capb, rfl, -, -, -⟩ := hb.view
  have t1 : ((m : Int) == 0) = false := by simp; omega
  have t2 : ((m : Int) == 1) = false := by simp; omega
  clear ha hb wa wb na nb hX hY
  go_enter Tryz.func189, Tryz.ntmps189
  go_wp2_with fail
  refine (cmp_words _ _ n m fa fb (by omega) (by omega) _ (unhide HA) (unhide HB) (unhide WA) (unhide WB) (unhide NA) (unhide NB)).mono ?_
  rintro e w1 ⟨rfl, hd⟩
  have HD := hide (hd.below w.heap.size)
  clear hd
  go_wp2_with fail
  refine (length_words _ m fb (by omega) _ ((unhide HB).below (unhide HD)) (unhide WB) (unhide NB)).mono ?_
  rintro e w2 ⟨L, rfl, -, l1, l2, rfl⟩
  rw [unhide HY] at l1 l2
  have l2' := l2 (by omega)
  have hL1 : 1 ≤ L := by
    rcases Nat.eq_zero_or_pos L with h2 | h2
    · subst h2; have : Y < 1 := l1; omega
    · exact h2
  have hL2 : L ≤ 32 * n := by
    have a := (val_bd (unhide WA)).2
    rw [unhide HX, pow32] at a
    have hK : (2 : Int) ^ L < 2 ^ (32 * n + 1) := by rw [Int.pow_succ]; omega
    exact Nat.le_of_lt_succ (exp_lt hK)
  have LL := hide (show Y < 2 ^ L ∧ 2 ^ L ≤ 2 * Y from ⟨l1, l2'⟩)
  obtain ⟨s, es⟩ : ∃ s, 31 - (L - 1) % 32 = s := ⟨_, rfl⟩
  have hs : s < 32 := by omega
  have es2 : 31 - ((L : Int) - 1) % 32 = (s : Int) := by omega
  clear l1 l2 l2'
  go_wp2_with fail
  rw [show (32 - ((L : Int) - 1) % 32 - 1) = (s : Int) by omega]
  refine (left_words _ m s fb (by omega) (by omega) _ ((unhide HB).below (unhide HD)) (unhide WB)).mono ?_
  rintro e w3 ⟨vv, l, fv, rfl, v2, v3, v4, v5, v6⟩
  rw [unhide HY] at v5
  obtain ⟨hl, hDr, hbig⟩ := norm_top hL1 (unhide LL).1 (unhide LL).2 h0 v3 v4 (by rw [es]; exact v5)
  have l2 := hDr.m2
  have l3 : l ≤ n := by omega
  clear hl es es2 hL1 hL2
  obtain ⟨p, rfl⟩ : ∃ p, l = p + 2 := ⟨l - 2, by omega⟩
  obtain ⟨N, rfl⟩ : ∃ N, n = p + N := ⟨n - p, by omega⟩
  have N2 : 2 ≤ N := by omega
  have HDr := hide hDr; have HBig := hide hbig; have HV := hide v5
  have HB3 := hide (below_two (unhide HD) v6 (unhide HD).size)
  obtain ⟨vo, capv, rfl, -, -, -⟩ := v2.view
  have HVS := hide v2
  have HAS := hide ((((unhide HA).below (unhide HD)).below v6).below (below_new w3 (.cells (madeCells #[.int .u32 0] (p + N + 2)) 200)))
  have hmk := fun wx => run_make_row' (P := Tryz.prog) 168 200 (.int .u32 0) 4 Tryz.underlying168 Tryz.infoU32 rfl .i64 .i64 (p + N + 2) (by omega) (by omega) wx
  rw [show ((p + N + 2 : Nat) : Int) = (p : Int) + (N : Int) + 2 by omega] at hmk
  clear v2 v3 v4 v5 v6 hDr hbig
  go_wp2_with fail
  refine (left_words _ (p + N) s fa (by omega) (by omega) _ (unhide HAS) (unhide WA)).mono ?_
  rintro e w4 ⟨va, la, fu, rfl, u2, u3, u4, u5, u6⟩
  rw [unhide HX] at u5
  obtain ⟨uo, capu, rfl, -, -, -⟩ := u2.view
  have hla : la ≤ p + N + 1 := by
    refine len_le u3 u4 ?_
    have a := (val_bd (unhide WA)).2
    rw [unhide HX] at a
    rw [u5, Int.pow_succ]
    have b := pow_le_two (show s ≤ 32 by omega)
    have c : (2 : Int) ^ 32 = 4294967296 := by decide
    have d1 := Int.mul_lt_mul_of_pos_right a (two_pos s)
    have d2 := Int.mul_le_mul_of_nonneg_left (show (2 : Int) ^ s ≤ 4294967296 by omega) (Int.le_of_lt (pow_pos (p + N)))
    omega
  have hg4 : w4.heap[w3.heap.size]? = some (.cells (madeCells #[.int .u32 0] (p + N + 2)) 200 (0, 0)) := by
    rw [u6.block w3.heap.size (by simp)]
    show (w3.heap.push _)[w3.heap.size]? = _
    rw [Array.getElem?_push_size]
  obtain ⟨w5, hcp, ho5, hk5⟩ := run_copy_to (p + N + 2) la capu w3.heap.size uo fu (by omega) w4 hg4 u2
  have HO5 := hide ho5
  have HVS5 := hide (show Sl w5 (.slice vo (p + 2) capv) (p + 2) fv from by
    have a := ((unhide HVS).below (below_new w3 _)).below u6
    exact a.kept hk5 (fun b cap hb => by
      have c := unhide HVS
      rcases c with ⟨-, c⟩ | ⟨b', cap', hv', -, -, hlt, -⟩
      · omega
      · rw [hv'] at hb; cases hb; omega))
  have HB5 := hide (show Below w.heap.size w w5 from by
    have a := below_two (unhide HB3) (below_new w3 (.cells (madeCells #[.int .u32 0] (p + N + 2)) 200)) (unhide HB3).size
    have b := below_two a u6 a.size
    exact below_kept b hk5 (unhide HB3).size)
  have HS5 := hide (show w3.heap.size < w5.heap.size from ho5.lt)
  have UV := hide (show val (padF la fu) (p + N + 2) = X * 2 ^ s from by rw [val_pad fu (by omega)]; exact u5)
  have UW := hide (show ∀ i, 0 ≤ padF la fu i ∧ padF la fu i < 4294967296 from fun i => by
    show 0 ≤ (if i < la then fu i else 0) ∧ (if i < la then fu i else 0) < 4294967296
    split
    · rename_i h; exact u3 i h
    · exact ⟨Int.le_refl _, by decide⟩)
  have hmk2 := fun wx => run_make_row' (P := Tryz.prog) 168 200 (.int .u32 0) 4 Tryz.underlying168 Tryz.infoU32 rfl .i64 .i64 N (by omega) (by omega) wx
  obtain ⟨bv, rfl, hbv, hrv⟩ : ∃ bv, vo = some ⟨bv, 0, none⟩ ∧ bv < w3.heap.size ∧ Row w5 bv (p + 2) fv := by
    rcases unhide HVS5 with ⟨-, c⟩ | ⟨b', cap', hv', -, -, -, hr⟩
    · omega
    · rcases unhide HVS with ⟨-, c⟩ | ⟨b2, cap2, hv2, -, -, hlt, -⟩
      · omega
      · cases hv'; cases hv2
        exact ⟨b', rfl, hlt, hr⟩
  have cv1 := hrv (p + 1) (by omega)
  have cv2 := hrv p (by omega)
  have HRV := hide hrv
  clear hrv
  have eN : (p : Int) + (N : Int) + 2 - ((p : Int) + 2) = (N : Int) := by omega
  clear u2 u3 u4 u5 u6 hg4 ho5 hk5 hmk
  go_wp2_with fail
  have HI := hide (show Dv (X * 2 ^ s) (p + 2) (p + N + 2) N fv (padF la fu) (fun _ => 0) N from by
    refine ⟨unhide UW, fun _ => ⟨Int.le_refl _, by decide⟩, fun _ _ => rfl, fun i h1 h2 => by omega, ?_, ?_⟩
    · rw [show N + (p + 2) = p + N + 2 by omega, unhide UV]
      have a := (val_bd (unhide WA)).2
      rw [unhide HX] at a
      have b := pow_le_two (show s ≤ 31 by omega)
      have c : (2 : Int) ^ 31 = 2147483648 := by decide
      have d1 := Int.mul_lt_mul_of_pos_right a (two_pos s)
      have d2 := Int.mul_le_mul_of_nonneg_left (show (2 : Int) ^ s ≤ 2147483648 by omega) (Int.le_of_lt (pow_pos (p + N)))
      have d3 := Int.mul_le_mul_of_nonneg_right (show (4294967296 : Int) ^ (p + 2) ≤ 2 * val fv (p + 2) from unhide HBig) (Int.le_of_lt (pow_pos N))
      rw [← Int.pow_add, show p + 2 + N = p + N + 2 by omega, Int.pow_add, show (4294967296 : Int) ^ 2 = 18446744073709551616 by decide, Int.mul_assoc 2] at d3
      have := pow_pos (p + N)
      omega
    · rw [show N + (p + 2) = p + N + 2 by omega, unhide UV, val_noughts (m := 0) (Nat.zero_le _) (fun _ _ _ => rfl)]
      show _ = _ + val fv (p + 2) * 0
      omega)
  have cw1 := cell_below cv1 (below_new w5 (.cells (madeCells #[.int .u32 0] N) 200))
  have cw2 := cell_below cv2 (below_new w5 (.cells (madeCells #[.int .u32 0] N) 200))
  clear hmk2 hcp cv1 cv2
  have hv1 := (unhide HDr).w (p + 1) (by omega)
  have hv0 := (unhide HDr).w p (by omega)
  have htop : 2147483648 ≤ fv (p + 1) := (unhide HDr).top
  obtain ⟨v10, v11⟩ := hv1
  obtain ⟨v00, v01⟩ := hv0
  have HO6 := hide (show Own (w5.alloc (.cells (madeCells #[.int .u32 0] N) 200)) w3.heap.size (p + N + 2) (padF la fu) from (unhide HO5).same (by
    show (w5.heap.push _)[w3.heap.size]? = _
    rw [Array.getElem?_push, if_neg (by have := unhide HS5; omega)]))
  have HQ6 := hide (own_made w5 N)
  have hne : w3.heap.size ≠ w5.heap.size := by have := unhide HS5; omega
  have HB6 := hide (show Below w3.heap.size w5 (w5.alloc (.cells (madeCells #[.int .u32 0] N) 200)) from (below_new w5 _).mono (by have := unhide HS5; omega))
  go_region
  go_wp2_with fail
  clear cw1 cw2
  go_loopg [18, 19, 20, 21, 22, 23, 24, 25, 26, 27] N (fun gk js _ _ _ _ _ _ _ _ _ wr => ∃ (F q : Nat → Int), js = .int .i64 ((gk : Int) - 1) ∧ gk ≤ N ∧ Own wr w3.heap.size (p + N + 2) F ∧ Own wr w5.heap.size N q ∧ Dv (X * 2 ^ s) (p + 2) (p + N + 2) N fv F q gk ∧ Below w3.heap.size w5 wr)
  case atStart => exact ⟨_, _, rfl, Nat.le_refl _, unhide HO6, unhide HQ6, unhide HI, (unhide HB6).drew⟩
  case round =>
    obtain ⟨F, q, rfl, hgk, hO, hQ, hDv, hBw⟩ := hrel
    have HO := hide hO; have HQ := hide hQ; have HDv := hide hDv; have HBw := hide hBw
    clear hO hQ hDv hBw
    rcases Nat.eq_zero_or_pos gk with hz | hz
    · subst hz
      have hdone := unhide HDv
      have eQ : val q N = X / Y ∧ val F (p + N + 2) = X % Y * 2 ^ s := by
        have e1 := hdone.e
        have e2 := hdone.lt
        have e3 : val F (p + N + 2) = val F (0 + (p + 2)) := by
          rw [Nat.zero_add]
          exact val_noughts (by omega) (fun i a b => hdone.z i (by omega) b)
        have e4 := (val_bd (n := 0 + (p + 2)) (fun i _ => hdone.f i)).1
        have hV := unhide HV
        have hp := two_pos s
        rw [← e3] at e1 e2 e4
        rw [Int.pow_zero, Int.mul_one] at e2
        have hpos : 0 < val fv (p + 2) := (unhide HDr).pos
        have d1 : X * 2 ^ s / val fv (p + 2) = val q N := by
          rw [e1, Int.add_mul_ediv_left _ _ (by omega), Int.ediv_eq_zero_of_lt e4 e2, Int.zero_add]
        have d2 : X * 2 ^ s % val fv (p + 2) = val F (p + N + 2) := by
          rw [e1, Int.add_mul_emod_self_left, Int.emod_eq_of_lt e4 e2]
        rw [hV] at d1 d2
        rw [Int.mul_ediv_mul_of_pos_left _ _ hp] at d1
        rw [Int.mul_comm X, Int.mul_comm Y, Int.mul_emod_mul_of_pos _ _ hp] at d2
        exact ⟨d1.symm, by rw [← d2, Int.mul_comm]⟩
      have EQ := hide eQ
      clear eQ hdone
      have HBA := hide ((unhide HB5).trans ((unhide HBw).mono (unhide HB3).size))
      go_wp2_with fail
      refine (trim_core w5.heap.size N N q (Nat.le_refl _) (by omega) _ (unhide HQ).row).mono ?_
      rintro e w6 ⟨l1, rfl, k1, z1, nm1, rfl⟩
      have Z1 := hide z1; have NM1 := hide nm1
      clear z1 nm1
      go_wp2_with fail
      refine (trim_core w3.heap.size (p + N + 2) (p + N + 2) F (Nat.le_refl _) (by omega) _ (unhide HO).row).mono ?_
      rintro e w7 ⟨l2', rfl, k2, z2, nm2, rfl⟩
      have Z2 := hide z2
      clear z2 nm2
      go_wp2_with fail
      refine (right_words _ l2' s F (by omega) (by omega) _ (Or.inr ⟨_, _, rfl, k2, by omega, (unhide HO).lt, (unhide HO).row.less k2⟩) (fun i _ => (unhide HDv).f i)).mono ?_
      rintro e w8 ⟨v2, l3', f2, rfl, s2, d2, n2, e2, b2⟩
      have FF := hide (show Sl w8 (.slice (some ⟨w5.heap.size, 0, none⟩) l1 N) l1 q ∧ Wd l1 q ∧ Nm l1 q ∧ Sl w8 v2 l3' f2 ∧ Wd l3' f2 ∧ Nm l3' f2 ∧ val q l1 = X / Y ∧ val f2 l3' = X % Y ∧ Below w.heap.size w w8 from by
        refine ⟨Sl.below (Or.inr ⟨_, _, rfl, k1, by omega, (unhide HQ).lt, (unhide HQ).row.less k1⟩) b2, fun i _ => (unhide HDv).g i, unhide NM1, s2, d2, n2, ?_, ?_, below_two (unhide HBA) b2 (unhide HBA).size⟩
        · rw [← val_noughts k1 (unhide Z1)]; exact (unhide EQ).1
        · rw [e2, ← val_noughts k2 (unhide Z2), (unhide EQ).2]
          exact Int.mul_ediv_cancel _ (by have := two_pos s; omega))
      clear s2 d2 n2 e2 b2
      go_wp2_with fail
      go_ret2
      exact ⟨_, _, l1, l3', q, f2, rfl, unhide FF⟩
    · obtain ⟨j, rfl⟩ : ∃ j, gk = j + 1 := ⟨gk - 1, by omega⟩
      rw [show (((j + 1 : Nat) : Int) - 1) = (j : Int) by omega]
      have co2 := (unhide HO).cell (show j + (p + 2) < p + N + 2 by omega)
      have co1 := (unhide HO).cell (show j + (p + 1) < p + N + 2 by omega)
      have co0 := (unhide HO).cell (show j + p < p + N + 2 by omega)
      obtain ⟨f20, f21⟩ := (unhide HDv).f (j + (p + 2))
      obtain ⟨f10, f11⟩ := (unhide HDv).f (j + (p + 1))
      obtain ⟨f00, f01⟩ := (unhide HDv).f (j + p)
      have eo := or_join32 (F (j + (p + 2))) (F (j + (p + 1))) f20 f21 f10 f11
      obtain ⟨hh, ehh⟩ : ∃ hh, F (j + (p + 2)) * 4294967296 + F (j + (p + 1)) = hh := ⟨_, rfl⟩
      have hh0 : 0 ≤ hh := by omega
      have hh1 : hh < 18446744073709551616 := by omega
      rw [ehh] at eo
      go_wp2_with fail
      have co1b : wr.cell? ⟨w3.heap.size, j + (p + 2) - 1, none⟩ = some (.int .u32 (F (j + (p + 1)))) := by rw [show j + (p + 2) - 1 = j + (p + 1) by omega]; exact co1
      have co1c : wr.cell? ⟨w3.heap.size, j + p + 1, none⟩ = some (.int .u32 (F (j + (p + 1)))) := co1
      go_region
      go_wp2_with fail
      -- the guess
      obtain ⟨tq, etq⟩ : ∃ tq, val (sh F j) (p + 2 + 1) / val fv (p + 2) = tq := ⟨_, rfl⟩
      obtain ⟨b0, b1, b2, b3, b4⟩ := dv_guess (unhide HDr) (fun i => (unhide HDv).f (j + i)) (dv_part (unhide HDv)).2.2
      have hle : hh ≤ fv (p + 1) * 4294967296 + 4294967295 := by rw [← ehh]; exact b2
      have HT : ∀ q, hh * 4294967296 + F (j + p) < q * (fv (p + 1) * 4294967296 + fv p) → tq < q := by rw [← ehh, ← etq]; exact b3
      have HW : ∀ g, GsEnd hh (F (j + p)) (fv (p + 1)) (fv p) tq g → g * val fv (p + 2) < val (sh F j) (p + 2 + 1) + val fv (p + 2) := by rw [← ehh, ← etq]; exact b4
      have HGu := hide HT
      have HGw := hide HW
      have t0 : 0 ≤ tq := by rw [← etq]; exact b0
      have t1' : tq ≤ 4294967295 := by rw [← etq]; exact b1
      have HTQ := hide (And.intro t0 t1')
      have HLE := hide hle
      have gst := gs_start htop v00 hh0 hle f01 HT
      have td : hh.tdiv (fv (p + 1)) = hh / fv (p + 1) := Int.tdiv_eq_ediv_of_nonneg hh0
      have tm : hh.tmod (fv (p + 1)) = hh % fv (p + 1) := Int.tmod_eq_emod_of_nonneg hh0
      obtain ⟨g0, eg0⟩ : ∃ g0, hh / fv (p + 1) = g0 := ⟨_, rfl⟩
      obtain ⟨r0, er0⟩ : ∃ r0, hh % fv (p + 1) = r0 := ⟨_, rfl⟩
      rw [eg0] at td; rw [er0] at tm
      rw [eg0, er0] at gst
      have GST := hide gst
      obtain ⟨⟨ga, gb, gc, -⟩, gd⟩ := gst
      have g0p : 0 ≤ g0 := by omega
      have hnz : fv (p + 1) ≠ 0 := by omega
      have EHH := hide ehh; have ETQ := hide etq
      clear b0 b1 b2 b3 b4 ehh etq HT HW hle t0 t1' eg0 er0 co1 co1b co1c co2 eo ga
      go_region
      go_upto_block 2 with fail
      clear td tm
      go_cut [20, 21] (fun gs rs wx => ∃ (g r : Int), gs = .int .u64 g ∧ rs = .int .u64 r ∧ GsEnd hh (F (j + p)) (fv (p + 1)) (fv p) tq g ∧ Own wx w3.heap.size (p + N + 2) F ∧ Own wx w5.heap.size N q ∧ Below w3.heap.size w5 wx)
      case first =>
        clear hz hh1 hnz f10 f11 f20 f21
        go_wp2_with fail
        go_loopg [20, 21] g0.toNat (fun gk gs rs wx => ∃ (g r : Int), gs = .int .u64 g ∧ rs = .int .u64 r ∧ gk = g.toNat ∧ r < 4294967296 ∧ Gs hh (fv (p + 1)) tq g r ∧ Own wx w3.heap.size (p + N + 2) F ∧ Own wx w5.heap.size N q ∧ Below w3.heap.size w5 wx)
        case atStart => exact ⟨_, _, rfl, rfl, rfl, by omega, (unhide GST).1, (unhide HO).same rfl, (unhide HQ).same rfl, (unhide HBw).drew.drew⟩
        case round =>
          obtain ⟨g, r, rfl, rfl, rfl, hr1, hG, hOx, hQx, hBx⟩ := hrel
          have cx0 := hOx.cell (show j + p < p + N + 2 by omega)
          have cx0b : wr.cell? ⟨w3.heap.size, j + (p + 2) - 2, none⟩ = some (.int .u32 (F (j + p))) := by rw [show j + (p + 2) - 2 = j + p by omega]; exact cx0
          have HOx := hide hOx; have HQx := hide hQx; have HBx := hide hBx
          have HW := gs_ways hG (unhide HTQ).1 (unhide HTQ).2 htop v00 v01 (unhide HLE) f00 (unhide HGu)
          obtain ⟨hq0, hq1, hr0, -⟩ := hG
          have hg0 : 0 ≤ g := by have := (unhide HTQ).1; omega
          clear hOx hQx hBx gb gc gd g0p
          have eo := or_join32 r (F (j + p)) hr0 hr1 f00 f01
          obtain ⟨y, ey⟩ : ∃ y, r * 4294967296 + F (j + p) = y := ⟨_, rfl⟩
          have hy : 4294967296 * r + F (j + p) = y := by omega
          rw [ey] at eo
          rw [hy] at HW
          have y0 : 0 ≤ y := by omega
          have y1 : y < 18446744073709551616 := by omega
          have gp0 : 0 ≤ g * fv p := Int.mul_nonneg hg0 v00
          have gp1 : g ≤ 4294967295 → g * fv p < 18446744073709551616 := fun hg => by
            have := Int.mul_le_mul hg (show fv p ≤ 4294967295 by omega) v00 (by omega)
            omega
          have GP1 := hide gp1
          clear gp1
          clear ey hy
          have rv : 0 ≤ r + fv (p + 1) ∧ r + fv (p + 1) < 18446744073709551616 := by omega
          rcases HW with ⟨h1, h2, h3⟩ | ⟨h1, h2, h3, h4, h5⟩ | ⟨h1, h2, h3⟩ | ⟨h1, h2, h3, h4, h5⟩ | ⟨h1, h2, h3⟩
          · have H3 := hide h3; clear h3
            have g1 : 1 ≤ g := by omega
            go_wp2_with fail
            go_roundg (g - 1).toNat
            case measure => omega
            case rel => exact ⟨_, _, rfl, rfl, rfl, h2, unhide H3, unhide HOx, unhide HQx, unhide HBx⟩
          · have H3 := hide h5; clear h5
            have gp2 := unhide GP1 (by omega)
            go_wp2_with fail
            go_roundg (g - 1).toNat
            case measure => omega
            case rel => exact ⟨_, _, rfl, rfl, rfl, h4, unhide H3, unhide HOx, unhide HQx, unhide HBx⟩
          · have H3 := hide h3; clear h3
            have g1 : 1 ≤ g := by omega
            go_wp2_with fail
            go_meet
            exact ⟨_, _, rfl, rfl, unhide H3, unhide HOx, unhide HQx, unhide HBx⟩
          · have H3 := hide h5; clear h5
            have gp2 := unhide GP1 (by omega)
            go_wp2_with fail
            go_meet
            exact ⟨_, _, rfl, rfl, unhide H3, unhide HOx, unhide HQx, unhide HBx⟩
          · have H3 := hide h3; clear h3
            have gp2 := unhide GP1 (by omega)
            go_wp2_with fail
            go_meet
            exact ⟨_, _, rfl, rfl, unhide H3, unhide HOx, unhide HQx, unhide HBx⟩
      case rest =>
        obtain ⟨g, r, rfl, rfl, hge, hO2, hQ2, hB2⟩ := hcut
        have HGE := hide hge; have HO2 := hide hO2; have HQ2 := hide hQ2; have HB2 := hide hB2
        obtain ⟨-, ge0, ge1, -⟩ := hge
        clear hO2 hQ2 hB2 HO HQ HBw gd gb gc g0p hnz hz hh0 hh1 co0 f00 f01 f10 f11
        go_wp2_with fail
        go_loopg [22, 23, 24, 25] (p + 2) (fun gk cs ds is _ wx => ∃ (i : Nat) (c d : Int) (G : Nat → Int), cs = .int .u64 c ∧ ds = .int .u64 d ∧ is = .int .i64 i ∧ i ≤ p + 2 ∧ gk = p + 2 - i ∧ 0 ≤ c ∧ c < 4294967296 ∧ 0 ≤ d ∧ d ≤ 1 ∧ (∀ k, 0 ≤ G k ∧ G k < 4294967296) ∧ (∀ k, k < j ∨ j + i ≤ k → G k = F k) ∧ val (sh G j) i = val (sh F j) i - g * val fv i + (c + d) * 4294967296 ^ i ∧ Own wx w3.heap.size (p + N + 2) G ∧ Own wx w5.heap.size N q ∧ Below w3.heap.size w5 wx)
        case atStart => exact ⟨0, 0, 0, F, rfl, rfl, rfl, Nat.zero_le _, rfl, Int.le_refl _, by decide, Int.le_refl _, by decide, (unhide HDv).f, fun _ _ => rfl, by show 0 = 0 - g * 0 + (0 + 0) * _; simp, unhide HO2, unhide HQ2, unhide HB2⟩
        case round =>
          obtain ⟨i, c, d, G, rfl, rfl, rfl, hi, rfl, c0', c1, d0, d1, hG, hs', hv, hOx, hQx, hBx⟩ := hrel
          have HG := hide hG; have HS := hide hs'; have HVV := hide hv; have HOx := hide hOx; have HQx := hide hQx; have HBx := hide hBx
          clear hG hs' hv hOx hQx hBx
          by_cases hip : i < p + 2
          · obtain ⟨b0, b1⟩ := (unhide HDr).w i hip
            obtain ⟨a0, a1⟩ := unhide HG (j + i)
            obtain ⟨p0, p1⟩ := word_prod ge0 (by omega) b0 b1
            obtain ⟨pr, epr⟩ : ∃ pr, g * fv i = pr := ⟨_, rfl⟩
            rw [epr] at p0 p1
            obtain ⟨t, et⟩ : ∃ t, c + pr = t := ⟨_, rfl⟩
            have t0 : 0 ≤ t := by omega
            have t9 : t < 18446744073709551616 := by omega
            have wp : IntKind.u64.wrap pr = pr := by rw [IntKind.wrap_u64]; omega
            have wt : IntKind.u64.wrap t = t := by rw [IntKind.wrap_u64]; omega
            have cv := (unhide HBx).cell (p := ⟨bv, i, none⟩) hbv
            rw [unhide HRV i hip] at cv
            obtain ⟨U, eU⟩ : ∃ U, G (i + j) = U := ⟨_, rfl⟩
            have co := (unhide HOx).cell (show i + j < p + N + 2 by omega)
            rw [eU] at co
            rw [Nat.add_comm j i, eU] at a0 a1
            have fo := (unhide HOx).free (i + j)
            obtain ⟨D, eD⟩ : ∃ D, IntKind.u64.wrap (IntKind.u64.wrap (U - t % 4294967296) - d) = D := ⟨_, rfl⟩
            have hD : D = (U - t % 4294967296 - d) % 18446744073709551616 := by rw [← eD]; simp only [IntKind.wrap_u64]; omega
            have D0 : 0 ≤ D := by omega
            have D1 : D < 18446744073709551616 := by omega
            have D2 : 0 ≤ D / 9223372036854775808 ∧ D / 9223372036854775808 ≤ 1 := by omega
            have HST := hide (show val (sh (upd G (i + j) (D % 4294967296)) j) (i + 1) = val (sh F j) (i + 1) - g * val fv (i + 1) + (t / 4294967296 + D / 9223372036854775808) * 4294967296 ^ (i + 1) from by
              rw [Nat.add_comm i j, sh_upd]
              refine ms_step (t := U - t % 4294967296 - d) (unhide HVV) (c1 := t) (by rw [epr]; omega) ?_ (by omega)
              show _ = F (j + i) - _ - _
              rw [← unhide HS (j + i) (Or.inr (Nat.le_refl _)), Nat.add_comm j i, eU])
            have EU := hide eU
            clear hD eU
            go_wp2_with fail
            go_roundg (p + 2 - (i + 1))
            case measure => omega
            case rel => exact ⟨i + 1, _, _, _, rfl, rfl, by go_num, by omega, rfl, by omega, by omega, D2.1, D2.2, rng_upd (unhide HG) (by omega) (by omega), fun k hk => by rw [upd_other _ _ (by omega)]; exact unhide HS k (by omega), unhide HST, (unhide HOx).set (i + j) _, (unhide HQx).other (fun e => hne e.symm) _ _, (unhide HBx).setCell (Nat.le_refl _) _⟩
          · obtain rfl : i = p + 2 := by omega
            clear hip hi
            obtain ⟨U, eU⟩ : ∃ U, F (j + (p + 2)) = U := ⟨_, rfl⟩
            rw [eU] at f20 f21
            have eG : G (j + (p + 2)) = U := by rw [unhide HS (j + (p + 2)) (Or.inr (Nat.le_refl _)), eU]
            have co := (unhide HOx).cell (show j + (p + 2) < p + N + 2 by omega)
            rw [eG] at co
            have fo := (unhide HOx).free (j + (p + 2))
            have cq := (unhide HQx).cell (show j < N by omega)
            have fq := (unhide HQx).free j
            have cq2 := fun x => ((unhide HQx).other (b := w5.heap.size) (c := w3.heap.size) (fun e => hne e.symm) (j + (p + 2)) (.int .u32 x)).cell (show j < N by omega)
            have fq2 := fun x => ((unhide HQx).other (b := w5.heap.size) (c := w3.heap.size) (fun e => hne e.symm) (j + (p + 2)) (.int .u32 x)).free j
            have EU := hide eU; have EG := hide eG
            clear eU eG
            obtain ⟨D, eD⟩ : ∃ D, IntKind.u64.wrap (IntKind.u64.wrap (U - c) - d) = D := ⟨_, rfl⟩
            have hD : D = (U - c - d) % 18446744073709551616 := by rw [← eD]; simp only [IntKind.wrap_u64]; omega
            by_cases hx : 0 ≤ U - c - d
            · have D3 : D = U - c - d := by omega
              have D0 : 0 ≤ D := by omega
              have D1 : D < 4294967296 := by omega
              have D2 : D / 9223372036854775808 = 0 := by omega
              have HD3 := hide D3
              clear D3 hD hx
              have HFin := hide (show Dv (X * 2 ^ s) (p + 2) (p + N + 2) N fv (upd G (j + (p + 2)) D) (upd q j g) j from by
                have r := dv_right (m := p + 2) (v := fv) (f := sh F j) (g := sh G j) (q := g) (c := c) (d := d) (x := D) (unhide HDr) (fun i => unhide HG (j + i)) (by rw [unhide ETQ]; exact (unhide HGE).1) (unhide HVV) (by show D = F (j + (p + 2)) - c - d; rw [unhide EU]; exact unhide HD3) D0 D1
                rw [← sh_upd] at r
                exact dv_done (unhide HDr) (unhide HDv) (by omega) (rng_upd (unhide HG) D0 D1) (fun i hi => by rw [upd_other _ _ (by omega)]; exact unhide HS i (by omega)) ⟨ge0, by omega⟩ r.1 r.2)
              go_wp2_with fail
              go_roundg j
              case measure => omega
              case rel => exact ⟨_, _, rfl, by omega, ((unhide HOx).set (j + (p + 2)) D).other hne _ _, ((unhide HQx).other (fun e => hne e.symm) _ _).set j g, unhide HFin, ((unhide HBx).setCell (Nat.le_refl _) _).setCell (Nat.le_of_lt (unhide HS5)) _⟩
            · have D3 : D = U - c - d + 18446744073709551616 := by omega
              have D0 : 0 ≤ D := by omega
              have D1 : D < 18446744073709551616 := by omega
              have D2 : D / 9223372036854775808 = 1 := by omega
              have HD3 := hide D3
              have HX := hide hx
              have g1 : 1 ≤ g := ms_pos (sh_wd (unhide HDv).f) (sh_wd (unhide HG)) (unhide HVV) f20 (by omega) ge0
              obtain ⟨z, ez⟩ : ∃ z, D % 4294967296 = z := ⟨_, rfl⟩
              have z0 : 0 ≤ z := by omega
              have z1 : z < 4294967296 := by omega
              have EZ := hide ez
              clear D3 hD hx cq fq
              have HO3 := hide ((unhide HOx).set (j + (p + 2)) z)
              have HQ3 := hide ((unhide HQx).other (c := w3.heap.size) (fun e => hne e.symm) (j + (p + 2)) (.int .u32 z))
              have HB4 := hide ((unhide HBx).setCell (p := ⟨w3.heap.size, j + (p + 2), none⟩) (Nat.le_refl _) (.int .u32 z))
              go_wp2_with fail
              clear cq2 fq2 co fo
              go_loopg [22, 27] (p + 2) (fun gk cs is wx => ∃ (i : Nat) (c2 : Int) (G2 : Nat → Int), cs = .int .u64 c2 ∧ is = .int .i64 i ∧ i ≤ p + 2 ∧ gk = p + 2 - i ∧ 0 ≤ c2 ∧ c2 ≤ 1 ∧ (∀ k, 0 ≤ G2 k ∧ G2 k < 4294967296) ∧ (∀ k, k < j ∨ j + i ≤ k → G2 k = upd G (j + (p + 2)) z k) ∧ val (sh G2 j) i + c2 * 4294967296 ^ i = val (sh G j) i + val fv i ∧ Own wx w3.heap.size (p + N + 2) G2 ∧ Own wx w5.heap.size N q ∧ Below w3.heap.size w5 wx)
              case atStart => exact ⟨0, 0, _, rfl, rfl, Nat.zero_le _, rfl, Int.le_refl _, by decide, rng_upd (unhide HG) z0 z1, fun _ _ => rfl, by show 0 + 0 * _ = 0 + 0; simp, unhide HO3, unhide HQ3, unhide HB4⟩
              case round =>
                obtain ⟨i, c2, G2, rfl, rfl, hi, rfl, e0, e1, hG2, hs2, hv2, hO4, hQ4, hB4⟩ := hrel
                have HG2 := hide hG2; have HS2 := hide hs2; have HV2 := hide hv2; have HO4 := hide hO4; have HQ4 := hide hQ4; have HB4 := hide hB4
                clear hG2 hs2 hv2 hO4 hQ4 hB4
                by_cases hip : i < p + 2
                · obtain ⟨b0, b1⟩ := (unhide HDr).w i hip
                  obtain ⟨a0, a1⟩ := unhide HG2 (i + j)
                  obtain ⟨V, eV⟩ : ∃ V, G2 (i + j) = V := ⟨_, rfl⟩
                  rw [eV] at a0 a1
                  have cv := (unhide HB4).cell (p := ⟨bv, i, none⟩) hbv
                  rw [unhide HRV i hip] at cv
                  have co := (unhide HO4).cell (show i + j < p + N + 2 by omega)
                  rw [eV] at co
                  have fo := (unhide HO4).free (i + j)
                  obtain ⟨t, et⟩ : ∃ t, c2 + (V + fv i) = t := ⟨_, rfl⟩
                  have t0 : 0 ≤ t := by omega
                  have t9 : t < 8589934592 := by omega
                  have HST := hide (show val (sh (upd G2 (i + j) (t % 4294967296)) j) (i + 1) + t / 4294967296 * 4294967296 ^ (i + 1) = val (sh G j) (i + 1) + val fv (i + 1) from by
                    rw [Nat.add_comm i j, sh_upd]
                    refine ab_step (unhide HV2) ?_
                    show _ = c2 + (G (j + i) + fv i)
                    have e1 := unhide HS2 (j + i) (Or.inr (Nat.le_refl _))
                    rw [upd_other _ _ (by omega)] at e1
                    rw [← e1, Nat.add_comm j i, eV, et])
                  clear eV
                  go_wp2_with fail
                  go_region
                  go_wp2_with fail
                  go_roundg (p + 2 - (i + 1))
                  case measure => omega
                  case rel => exact ⟨i + 1, _, _, rfl, by go_num, by omega, rfl, by omega, by omega, rng_upd (unhide HG2) (by omega) (by omega), fun k hk => by rw [upd_other _ _ (by omega)]; exact unhide HS2 k (by omega), unhide HST, (unhide HO4).set (i + j) _, (unhide HQ4).other (fun e => hne e.symm) _ _, ((unhide HB4).setCell (Nat.le_refl _) _).drew⟩
                · obtain rfl : i = p + 2 := by omega
                  clear hip hi
                  have eG2 : G2 (j + (p + 2)) = z := by rw [unhide HS2 (j + (p + 2)) (Or.inr (Nat.le_refl _)), upd_same]
                  have co := (unhide HO4).cell (show j + (p + 2) < p + N + 2 by omega)
                  rw [eG2] at co
                  have fo := (unhide HO4).free (j + (p + 2))
                  have cq2 := fun x => ((unhide HQ4).other (b := w5.heap.size) (c := w3.heap.size) (fun e => hne e.symm) (j + (p + 2)) (.int .u32 x)).cell (show j < N by omega)
                  have fq2 := fun x => ((unhide HQ4).other (b := w5.heap.size) (c := w3.heap.size) (fun e => hne e.symm) (j + (p + 2)) (.int .u32 x)).free j
                  obtain ⟨r1, r2, r3⟩ := dv_mend (m := p + 2) (v := fv) (f := sh F j) (g := sh G j) (g2 := sh G2 j) (q := g) (c := c) (d := d) (x := U - c - d) (c2 := c2) (unhide HDr) (fun i => unhide HG (j + i)) (fun i => unhide HG2 (j + i)) (unhide HGw g (unhide HGE)) (unhide HVV) (by show _ = F (j + (p + 2)) - c - d; rw [unhide EU]) (by have := unhide HX; omega) (by omega) (unhide HV2)
                  rw [← sh_upd] at r2 r3
                  have HFin := hide (show Dv (X * 2 ^ s) (p + 2) (p + N + 2) N fv (upd G2 (j + (p + 2)) 0) (upd q j (g - 1)) j from
                    dv_done (unhide HDr) (unhide HDv) (by omega) (rng_upd (unhide HG2) (Int.le_refl _) (by decide)) (fun i hi => by rw [upd_other _ _ (by omega), unhide HS2 i (by omega), upd_other _ _ (by omega)]; exact unhide HS i (by omega)) ⟨by omega, by omega⟩ r2 r3)
                  have wz : IntKind.u32.wrap (z + c2) = 0 := by
                    have a := unhide EZ; have b := unhide HD3
                    rw [IntKind.wrap_u32]; omega
                  clear r1 r2 r3 eG2
                  go_wp2_with fail
                  go_roundg j
                  case measure => omega
                  case rel => exact ⟨_, _, rfl, by omega, ((unhide HO4).set (j + (p + 2)) 0).other hne _ _, ((unhide HQ4).other (fun e => hne e.symm) _ _).set j (g - 1), unhide HFin, ((unhide HB4).setCell (Nat.le_refl _) _).setCell (Nat.le_of_lt (unhide HS5)) _⟩

end Go.Proofs.YthimcecbgpamdaaGreat
