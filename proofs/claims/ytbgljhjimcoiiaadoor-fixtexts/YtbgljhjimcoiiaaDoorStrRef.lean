/- Contract of the reference's Text: the exact decimal text. -/
import Derived.Test.YtbgljhjimcoiiaaDoorStrBig
namespace Go.Proofs.YtbgljhjimcoiiaaDoor
open Go.RowKit Go.Lib

/-- The number whose digits are the text's, without its point. -/
theorem text_num (m : Nat) : m * 10 ^ 32 / 4294967296 = m / 4294967296 * 10 ^ 32 + fNum (m % 4294967296) 32 ∧ fNum (m % 4294967296) 32 < 10 ^ 32 := by
  unfold fNum
  obtain ⟨T, eT⟩ : ∃ T : Nat, T = 10 ^ 32 := ⟨_, rfl⟩
  rw [← eT]
  have hT : 0 < T := by rw [eT]; exact Nat.pow_pos (by decide)
  have h1 : m = m / 4294967296 * 4294967296 + m % 4294967296 := by omega
  have h2 : m * T = 4294967296 * (m / 4294967296 * T) + m % 4294967296 * T := by
    have : m * T = (m / 4294967296 * 4294967296 + m % 4294967296) * T := by rw [← h1]
    rw [this, Nat.add_mul, Nat.mul_right_comm, Nat.mul_comm (m / 4294967296 * T)]
  refine ⟨?_, ?_⟩
  · rw [h2, Nat.mul_add_div (by decide)]
  · rw [Nat.div_lt_iff_lt_mul (by decide), Nat.mul_comm T]
    exact Nat.mul_lt_mul_of_pos_right (Nat.mod_lt _ (by decide)) hT

/-- Parts of a string. -/
theorem extract_head (l r : List UInt8) : (⟨(l ++ r).toArray⟩ : ByteArray).extract 0 l.length = ⟨l.toArray⟩ := by
  apply ByteArray.ext
  simp
theorem extract_tail (l r : List UInt8) (n : Nat) (hn : n = l.length + r.length) : (⟨(l ++ r).toArray⟩ : ByteArray).extract l.length n = ⟨r.toArray⟩ := by
  subst hn
  apply ByteArray.ext
  simp
theorem run_head (l r : List UInt8) (i : Int) (hi : i = (l.length : Int)) (w : World) : (Instr.slice 9 (.string ⟨(l ++ r).toArray⟩) none (some (.int .i64 i)) none).run Tryd.prog w = .ok (.string ⟨l.toArray⟩) w := by
  subst hi
  have hsz : (⟨(l ++ r).toArray⟩ : ByteArray).size = l.length + r.length := by
    show (l ++ r).toArray.size = _
    rw [List.size_toArray, List.length_append]
  rw [run_slice_string_to_if _ _ _ _ _ Tryd.underlying9, if_pos (by rw [hsz]; omega), Int.toNat_natCast, extract_head]
theorem run_tail (l r : List UInt8) (i : Int) (hi : i = (l.length : Int)) (w : World) : (Instr.slice 9 (.string ⟨(l ++ r).toArray⟩) (some (.int .i64 i)) none none).run Tryd.prog w = .ok (.string ⟨r.toArray⟩) w := by
  subst hi
  have hsz : (⟨(l ++ r).toArray⟩ : ByteArray).size = l.length + r.length := by
    show (l ++ r).toArray.size = _
    rw [List.size_toArray, List.length_append]
  rw [run_slice_string_from_if _ _ _ _ _ Tryd.underlying9, if_pos (by rw [hsz]; omega), Int.toNat_natCast, extract_tail _ _ _ hsz]
theorem run_last (l : List UInt8) (c : UInt8) (i : Int) (hi : i = (l.length : Int)) (w : World) : (Instr.index 9 (.string ⟨(l ++ [c]).toArray⟩) (.int .i64 i)).run Tryd.prog w = .ok (.int .u8 (c.toNat : Int)) w := by
  subst hi
  have hsz : (⟨(l ++ [c]).toArray⟩ : ByteArray).size = l.length + 1 := by
    show (l ++ [c]).toArray.size = _
    rw [List.size_toArray, List.length_append]; rfl
  rw [run_index_string _ _ _ _ _ Tryd.underlying9, dif_pos (by rw [hsz]; omega)]
  have e : (⟨(l ++ [c]).toArray⟩ : ByteArray)[((l.length : Int)).toNat]'(by rw [hsz]; omega) = c := by
    show (l ++ [c]).toArray[((l.length : Int)).toNat]'_ = c
    simp
  rw [e]

/-- The digits behind the point, and the noughts behind them. -/
theorem frac_end (R : Nat) (hR : R < 4294967296) : ∃ (Q : List UInt8) (r : Nat), padD 32 (fNum R 32) = Q ++ List.replicate r 48 ∧ r ≤ 32 ∧
    ((R = 0 ∧ Q = []) ∨ ∃ (Q' : List UInt8) (c : UInt8) (i : Nat), Q = Q' ++ [c] ∧ c ≠ 48 ∧ i ≤ 31 ∧ fRest R i ≠ 0 ∧ fRest R (i + 1) = 0 ∧ Q = padD (i + 1) (fNum R (i + 1))) := by
  have e0 : fRest R 0 = R := by unfold fRest; rw [Nat.pow_zero, Nat.mul_one]; exact Nat.mod_eq_of_lt hR
  rcases Nat.eq_zero_or_pos R with h | h
  · refine ⟨[], 32, ?_, Nat.le_refl _, Or.inl ⟨h, rfl⟩⟩
    have h2 := (padD_end R 0 (by rw [e0]; exact h) 32).2
    rw [Nat.zero_add] at h2
    exact h2
  · obtain ⟨i, hi, h1, h2⟩ : ∃ i, i ≤ 31 ∧ fRest R i ≠ 0 ∧ fRest R (i + 1) = 0 := by
      rcases Classical.em (∃ i, i ≤ 31 ∧ fRest R i ≠ 0 ∧ fRest R (i + 1) = 0) with h3 | h3
      · exact h3
      · exfalso
        have hall : ∀ i, i ≤ 32 → fRest R i ≠ 0 := by
          intro i
          induction i with
          | zero => intro _; rw [e0]; omega
          | succ i ih =>
            intro hi h4
            exact h3 ⟨i, by omega, ih (by omega), h4⟩
        exact hall 32 (Nat.le_refl _) (fRest_32 R)
    refine ⟨padD (i + 1) (fNum R (i + 1)), 31 - i, ?_, by omega, Or.inr ⟨padD i (fNum R i), dgt (fRest R i * 10 / 4294967296), i, padD_fNum R i, fLast R i h1 h2, hi, h1, h2, rfl⟩⟩
    have h3 := (padD_end R (i + 1) h2 (31 - i)).2
    rw [show i + 1 + (31 - i) = 32 by omega] at h3
    exact h3

set_option maxHeartbeats 4000000 in
set_option maxRecDepth 100000 in
theorem refText_any (a : Int) (ha : R64 a) (w : World) :
    Calls Tryd.prog 5 #[.int .i64 a] w fun e w' => ∃ l, TextOf (absZ a).toNat l ∧ e = .returned (.string ⟨(minus a ++ l).toArray⟩) ∧ Below w.heap.size w w' := by
  have HA := hide ha
  have hab := absZ_bd ha
  obtain ⟨m, em⟩ : ∃ m : Nat, absZ a = m := ⟨(absZ a).toNat, by omega⟩
  rw [em] at hab
  rw [show (absZ a).toNat = m by rw [em]; rfl]
  have EM := hide em
  have AB := hide hab
  have e5 : (10 : Int) ^ 32 < 4294967296 ^ 4 := by decide
  have E5 := hide e5
  have DT := hide (show Bd ((10 : Int) ^ 32) from bd_of (k := 4) (by decide) (by decide))
  have DM := hide (show Bd (m : Int) from bd_of (k := 2) (by rw [show absZ (m : Int) = m from if_neg (by omega)]; show (m : Int) < 18446744073709551616; omega) (by decide))
  obtain ⟨T, eT⟩ : ∃ T : Int, (10 : Int) ^ 32 = T := ⟨_, rfl⟩
  have DP := hide (show Bd ((m : Int) * T) from bd_of (k := 6) (by
    have t1 : 1 ≤ T := by rw [← eT]; decide
    have t2 : T < 4294967296 ^ 4 := by rw [← eT]; exact e5
    have p1 : 0 ≤ (m : Int) * T := Int.mul_nonneg (by omega) (by omega)
    rw [show absZ ((m : Int) * T) = m * T from if_neg (by omega)]
    have p2 : (m : Int) * T ≤ 18446744073709551616 * T := Int.mul_le_mul_of_nonneg_right (by omega) (by omega)
    have e6 : (4294967296 : Int) ^ 6 = 18446744073709551616 * 4294967296 ^ 4 := by decide
    omega) (by decide))
  clear ha em hab e5
  go_enter Tryd.func5, Tryd.ntmps5
  go_wp2_with fail
  refine (whole_any a (unhide HA) _).mono ?_
  rintro e w1 ⟨b1, rfl, hb1, n1, k1⟩
  have N1 := hide n1; have K1 := hide k1
  clear n1 k1 hb1
  go_wp2_with fail
  refine (abs_any w.heap.size b1 a _ _ _ ((intAt_new w).below (unhide K1)) (unhide N1) (bd64 (unhide HA))).mono ?_
  rintro e w2 ⟨rfl, n2, k2⟩
  have N2 := hide (show Num w2 w.heap.size (m : Int) from by rw [← unhide EM]; exact n2)
  have B2 := hide (below_kept (below_two (below_new w _) (unhide K1) (by simp)) k2 (Nat.le_refl _))
  clear n2 k2
  go_wp2_with fail
  refine (newInt_any 10 (by unfold R64; omega) _).mono ?_
  rintro e w3 ⟨b3, rfl, hb3, n3, k3⟩
  have N3 := hide n3; have K3 := hide k3
  clear n3 k3 hb3
  go_wp2_with fail
  refine (newInt_any 32 (by unfold R64; omega) _).mono ?_
  rintro e w4 ⟨b4, rfl, hb4, n4, k4⟩
  have N4 := hide (show Num w4 b4 ((32 : Nat) : Int) from n4); have K4 := hide k4
  clear n4 k4 hb4
  go_wp2_with fail
  refine (exp_any w2.heap.size b3 b4 10 32 (by decide) (by decide) (by decide) _ _ _ (((intAt_new w2).below (unhide K3)).below (unhide K4)) ((unhide N3).below (unhide K4)) (unhide N4) (bd64 (by unfold R64; omega))).mono ?_
  rintro e w5 ⟨rfl, n5, k5⟩
  rw [eT] at n5
  have N5 := hide n5
  have B4 := hide (show Below w.heap.size w w4 from by
    have h1 := below_two (unhide B2) (below_new w2 (.cells #[.bool false, .slice none 0 0] 32)) (unhide B2).size
    have h2 := below_two h1 (unhide K3) h1.size
    exact below_two h2 (unhide K4) h2.size)
  have B5 := hide (below_kept (unhide B4) k5 (unhide B2).size)
  have N2' := hide (show Num w5 w.heap.size (m : Int) from by
    have h1 := (((unhide N2).below (below_new w2 _)).below (unhide K3)).below (unhide K4)
    exact h1.other k5 (by have := (unhide N2).lt; omega) (((intAt_new w2).below (unhide K3)).below (unhide K4)))
  clear n5 k5
  obtain ⟨sz, vz, iz⟩ := num_intAt (unhide N2')
  have IZ := hide iz
  have DT' := hide (show Bd T from by rw [← eT]; exact unhide DT)
  have ET := hide eT
  clear iz eT
  go_wp2_with fail
  refine (intMul_any w.heap.size w.heap.size w2.heap.size _ T _ _ _ (unhide IZ) (unhide N2') (unhide N5) (unhide DM) (unhide DT')).mono ?_
  rintro e w6 ⟨rfl, n6, k6⟩
  have N6 := hide n6
  have B6 := hide (below_kept (unhide B5) k6 (Nat.le_refl _))
  clear n6 k6
  obtain ⟨sy, vy, iy⟩ := num_intAt (unhide N6)
  have IY := hide iy
  clear iy
  have hnn : 0 ≤ (m : Int) * T := Int.mul_nonneg (by omega) (by rw [← unhide ET]; decide)
  go_wp2_with fail
  refine (rsh_any w.heap.size w.heap.size 32 _ hnn (by decide) _ _ _ (unhide IY) (unhide N6) (unhide DP)).mono ?_
  rintro e w7 ⟨rfl, n7, k7⟩
  obtain ⟨X, eX⟩ : ∃ X : Nat, m * 10 ^ 32 / 4294967296 = X := ⟨_, rfl⟩
  have eX' : (m : Int) * T / 2 ^ 32 = (X : Int) := by
    rw [← eX, ← unhide ET, Int.natCast_ediv, Int.natCast_mul, Int.natCast_pow]
    rfl
  rw [eX'] at n7
  have N7 := hide n7
  have B7 := hide (below_kept (unhide B6) k7 (Nat.le_refl _))
  have DX := hide (show Bd (X : Int) from by
    rw [← eX']
    have h1 := unhide DP
    unfold Bd at *
    have h2 : absZ ((m : Int) * T) = m * T := if_neg (by omega)
    rw [h2] at h1
    obtain ⟨z, ez⟩ : ∃ z, (m : Int) * T = z := ⟨_, rfl⟩
    rw [ez] at hnn h1 ⊢
    have h3 : (0 : Int) ≤ z / 2 ^ 32 := Int.ediv_nonneg hnn (by decide)
    have h4 : z / 2 ^ 32 ≤ z := Int.ediv_le_self _ hnn
    rw [show absZ (z / 2 ^ 32) = z / 2 ^ 32 from if_neg (by omega)]
    omega)
  have EX := hide eX
  clear n7 k7 eX eX' hnn
  have HSTR := hide (show ∀ wx, wx = w7 → Calls Tryd.prog 15 #[.pointer (some ⟨w.heap.size, 0, none⟩)] wx fun e w' => e = .returned (.string ⟨(decDigits X).toArray⟩) ∧ Below wx.heap.size wx w' from by
    rintro wx rfl
    rcases Nat.eq_zero_or_pos X with h | h
    · subst h
      exact (string_zero _ _ (unhide N7)).mono fun e w' h => ⟨h.1, by rw [h.2]; exact Below.refl _ _⟩
    · have := string_any w.heap.size (X : Int) (by omega) wx (unhide N7) (unhide DX)
      rw [Int.toNat_natCast] at this
      exact this)
  go_wp2_with fail
  refine (unhide HSTR _ rfl).mono ?_
  rintro e w8 ⟨rfl, k8⟩
  have B8 := hide (below_two (unhide B7) k8 (unhide B7).size)
  clear k8
  obtain ⟨tn1, tn2⟩ := text_num m
  rw [unhide EX] at tn1
  have hnd : nDigits X ≤ 60 := nDigits_le (by decide) (by
    have := unhide AB
    rw [← unhide EX]
    have e1 : (10 : Nat) ^ 60 = 10 ^ 28 * 10 ^ 32 := by decide
    have h1 : m * 10 ^ 32 ≤ 10 ^ 28 * 10 ^ 32 - 1 * 10 ^ 32 := by
      rw [← Nat.sub_mul]
      exact Nat.mul_le_mul_right _ (by have e2 : (10 : Nat) ^ 28 = 10000000000000000000000000000 := by decide
                                       omega)
    have h2 := Nat.div_le_self (m * 10 ^ 32) 4294967296
    have e3 : 0 < (10 : Nat) ^ 32 := by decide
    omega)
  have HTD := hide (show List.replicate (33 - nDigits X) 48 ++ decDigits X = decDigits (m / 4294967296) ++ padD 32 (fNum (m % 4294967296) 32) from by
    have := text_digits 32 (m / 4294967296) _ (by decide) tn2
    rw [← tn1] at this
    exact this)
  clear tn1 tn2
  have hD : (decDigits X).length = nDigits X := decDigits_length X
  have szs : ∀ d, (⟨(List.replicate d 48 ++ decDigits X).toArray⟩ : ByteArray).size = d + nDigits X := fun d => by
    show (List.replicate d 48 ++ decDigits X).toArray.size = _
    rw [List.size_toArray, List.length_append, List.length_replicate, hD]
  have SZS := hide szs
  have HX := hide hnd
  obtain ⟨nd, end_⟩ : ∃ nd, nDigits X = nd := ⟨_, rfl⟩
  have END := hide end_
  have hnd' : nd ≤ 60 := by omega
  clear szs hD hnd end_
  go_wp2_with fail
  go_loopg [5] (33 - nd) (fun gk sv wx => ∃ d, 33 - (d + nd) = gk ∧ sv = .string ⟨(List.replicate d 48 ++ decDigits X).toArray⟩ ∧ d ≤ 33 - nd ∧ w8 = wx)
  case atStart => exact ⟨0, by rw [Nat.zero_add], rfl, Nat.zero_le _, rfl⟩
  case round =>
    obtain ⟨d, rfl, rfl, hd, rfl⟩ := hrel
    obtain ⟨S, eS⟩ : ∃ S : ByteArray, (⟨(List.replicate d 48 ++ decDigits X).toArray⟩ : ByteArray) = S := ⟨_, rfl⟩
    have hS : S.size = d + nd := by rw [← eS, unhide SZS d, unhide END]
    rw [eS]
    have ES := hide eS
    clear eS
    by_cases hc : d + nd < 33
    · have hci : (d : Int) + (nd : Int) < 33 := by omega
      have hcat := fun wx => run_string_add_sum (P := Tryd.prog) (w := wx) ⟨#[48]⟩ S (by show 1 + S.size ≤ _; omega)
      obtain ⟨S2, eS2⟩ : ∃ S2 : ByteArray, (⟨#[48]⟩ : ByteArray) ++ S = S2 := ⟨_, rfl⟩
      rw [eS2] at hcat
      have ES2 := hide eS2
      clear eS2
      go_wp2_with fail
      go_roundg (33 - (d + 1 + nd))
      case measure => omega
      case rel =>
        refine ⟨d + 1, rfl, ?_, by omega, rfl⟩
        rw [← unhide ES2, ← unhide ES, ByteArray.mk_append_mk [48]]
        rfl
    · have hci : (33 : Int) ≤ (d : Int) + (nd : Int) := by omega
      obtain ⟨q, eq⟩ : ∃ q, d + nd = q + 32 := ⟨d + nd - 32, by omega⟩
      have hS' : S.size = q + 32 := by omega
      have hq : 1 ≤ q := by omega
      have hq1 : q ≤ 60 := by omega
      have hqb : decide ((q : Int) + 32 < 33) = false := decide_eq_false (by omega)
      have EQ := hide eq
      clear hci hS eq hc
      have hWl : (decDigits (m / 4294967296)).length = q := by
        have h1 := congrArg List.length (unhide HTD)
        rw [List.length_append, List.length_append, List.length_replicate, decDigits_length, padD_length, unhide END] at h1
        have := unhide EQ
        omega
      have hSl : S = ⟨(decDigits (m / 4294967296) ++ padD 32 (fNum (m % 4294967296) 32)).toArray⟩ := by
        rw [← unhide ES, ← unhide HTD]
        have := unhide EQ
        rw [show d = 33 - nDigits X by rw [unhide END]; omega]
      obtain ⟨Q, r0, hQ, hr0, hQc⟩ := frac_end (m % 4294967296) (Nat.mod_lt _ (by decide))
      have hs1 := fun wx => run_head (decDigits (m / 4294967296)) (padD 32 (fNum (m % 4294967296) 32)) (q : Int) (by rw [hWl]) wx
      have hs2 := fun wx => run_tail (decDigits (m / 4294967296)) (padD 32 (fNum (m % 4294967296) 32)) (q : Int) (by rw [hWl]) wx
      rw [← hSl] at hs1 hs2
      rw [hQ] at hs2
      obtain ⟨V, eV⟩ : ∃ V : ByteArray, (⟨(decDigits (m / 4294967296)).toArray⟩ : ByteArray) = V := ⟨_, rfl⟩
      have hV : V.size = q := by rw [← eV]; show (decDigits (m / 4294967296)).toArray.size = q; rw [List.size_toArray, hWl]
      rw [eV] at hs1
      have EV := hide eV; have HQC := hide hQc; have HQ := hide hQ
      have hQl : Q.length ≤ 32 := by
        have := congrArg List.length hQ
        rw [padD_length, List.length_append] at this
        omega
      clear eV hWl hSl hQ hQc
      go_wp2_with fail
      go_region
      go_wp2_with fail
      clear hs1 hs2
      go_loopg [8] r0 (fun gk sv wx => sv = .string ⟨(Q ++ List.replicate gk 48).toArray⟩ ∧ gk ≤ r0 ∧ w8.drew = wx)
      case atStart => exact ⟨rfl, Nat.le_refl _, rfl⟩
      case round =>
        obtain ⟨rfl, hgk, rfl⟩ := hrel
        rcases Nat.eq_zero_or_pos gk with hg0 | hg0
        · subst hg0
          rw [show Q ++ List.replicate 0 48 = Q from List.append_nil Q]
          have hcat := fun wx => run_string_add_sum (P := Tryd.prog) (w := wx) ⟨#[45]⟩ V (by show 1 + V.size ≤ _; omega)
          obtain ⟨V2, eV2⟩ : ∃ V2 : ByteArray, (⟨#[45]⟩ : ByteArray) ++ V = V2 := ⟨_, rfl⟩
          rw [eV2] at hcat
          have EV2 := hide eV2
          clear eV2
          rcases unhide HQC with ⟨hR0, rfl⟩ | ⟨Q', c, i, eQ, hc, hi, f1, f2, eQ2⟩
          · have TO := hide (show TextOf m (decDigits (m / 4294967296)) from Or.inl ⟨hR0, rfl⟩)
            clear hR0
            rcases Int.lt_or_le a 0 with h | h
            · have MN := hide (show minus a = [45] from if_pos h)
              go_wp2_with fail
              go_ret
              refine ⟨_, unhide TO, ?_, (unhide B8).drew⟩
              show Ending.returned (Value.string V2) = _
              rw [← unhide EV2, ← unhide EV, unhide MN, ByteArray.mk_append_mk [45]]
            · have hnd2 : decide (a < 0) = false := decide_eq_false (by omega)
              have MN := hide (show minus a = [] from if_neg (by omega))
              go_wp2_with fail
              go_ret
              refine ⟨_, unhide TO, ?_, (unhide B8).drew⟩
              show Ending.returned (Value.string V) = _
              rw [← unhide EV, unhide MN]
              rfl
          · have TO := hide (show TextOf m (decDigits (m / 4294967296) ++ 46 :: Q) from Or.inr ⟨i, hi, f1, f2, by rw [eQ2]⟩)
            have hix := fun wx => run_last Q' c (Q'.length : Int) rfl wx
            have hcn : ((c.toNat : Int) == 48) = false := by
              simp only [beq_eq_false_iff_ne]
              intro e
              apply hc
              have e2 : (48 : UInt8).toNat = 48 := rfl
              exact UInt8.toNat_inj.1 (by omega)
            have hP : (⟨(Q' ++ [c]).toArray⟩ : ByteArray).size = Q'.length + 1 := by
              show (Q' ++ [c]).toArray.size = _
              rw [List.size_toArray, List.length_append]; rfl
            have hQl' : Q'.length ≤ 32 := by rw [eQ, List.length_append] at hQl; omega
            rw [eQ] at TO ⊢
            obtain ⟨L, eL⟩ : ∃ L, Q'.length = L := ⟨_, rfl⟩
            rw [eL] at hix hP hQl'
            obtain ⟨P, eP⟩ : ∃ P : ByteArray, (⟨(Q' ++ [c]).toArray⟩ : ByteArray) = P := ⟨_, rfl⟩
            rw [eP] at hix hP ⊢
            have EP := hide eP
            obtain ⟨cn, ecn⟩ : ∃ cn : Int, (c.toNat : Int) = cn := ⟨_, rfl⟩
            rw [ecn] at hix hcn
            clear eP eL hc f1 f2 eQ2 eQ ecn
            have hdot := fun wx => run_string_add_sum (P := Tryd.prog) (w := wx) ⟨#[46]⟩ P (by show 1 + P.size ≤ _; omega)
            obtain ⟨P2, eP2⟩ : ∃ P2 : ByteArray, (⟨#[46]⟩ : ByteArray) ++ P = P2 := ⟨_, rfl⟩
            rw [eP2] at hdot
            have hP2 : P2.size ≤ 40 := by rw [← eP2, ByteArray.size_append]; show 1 + P.size ≤ 40; omega
            have EP2 := hide eP2
            clear eP2
            have hwhole := fun wx => run_string_add_sum (P := Tryd.prog) (w := wx) V P2 (by omega)
            obtain ⟨V3, eV3⟩ : ∃ V3 : ByteArray, V ++ P2 = V3 := ⟨_, rfl⟩
            rw [eV3] at hwhole
            have hV3 : V3.size ≤ 100 := by rw [← eV3, ByteArray.size_append]; omega
            have EV3 := hide eV3
            clear eV3
            have hmin := fun wx => run_string_add_sum (P := Tryd.prog) (w := wx) ⟨#[45]⟩ V3 (by show 1 + V3.size ≤ _; omega)
            obtain ⟨V4, eV4⟩ : ∃ V4 : ByteArray, (⟨#[45]⟩ : ByteArray) ++ V3 = V4 := ⟨_, rfl⟩
            rw [eV4] at hmin
            have EV4 := hide eV4
            clear eV4 hcat
            have FIN := hide (show V3 = ⟨(decDigits (m / 4294967296) ++ 46 :: (Q' ++ [c])).toArray⟩ from by
              rw [← unhide EV3, ← unhide EP2, ← unhide EP, ← unhide EV, ByteArray.mk_append_mk [46], ByteArray.mk_append_mk]
              rfl)
            rcases Int.lt_or_le a 0 with h | h
            · have MN := hide (show minus a = [45] from if_pos h)
              go_wp2_with fail
              go_ret
              refine ⟨_, unhide TO, ?_, (unhide B8).drew⟩
              show Ending.returned (Value.string V4) = _
              rw [← unhide EV4, unhide FIN, unhide MN, ByteArray.mk_append_mk [45]]
            · have hnd2 : decide (a < 0) = false := decide_eq_false (by omega)
              have MN := hide (show minus a = [] from if_neg (by omega))
              go_wp2_with fail
              go_ret
              refine ⟨_, unhide TO, ?_, (unhide B8).drew⟩
              show Ending.returned (Value.string V3) = _
              rw [unhide FIN, unhide MN]
              rfl
        · obtain ⟨r, rfl⟩ : ∃ r, gk = r + 1 := ⟨gk - 1, by omega⟩
          obtain ⟨M, eM⟩ : ∃ M, Q ++ List.replicate r 48 = M := ⟨_, rfl⟩
          have eQ1 : Q ++ List.replicate (r + 1) 48 = M ++ [48] := by rw [List.replicate_succ', ← List.append_assoc, eM]
          rw [eQ1]
          have hix := fun wx => run_last M 48 (M.length : Int) rfl wx
          have hsl := fun wx => run_head M [48] (M.length : Int) rfl wx
          have hP : (⟨(M ++ [48]).toArray⟩ : ByteArray).size = M.length + 1 := by
            show (M ++ [48]).toArray.size = _
            rw [List.size_toArray, List.length_append]; rfl
          have hM : M.length ≤ 64 := by rw [← eM, List.length_append, List.length_replicate]; omega
          obtain ⟨L, eL⟩ : ∃ L, M.length = L := ⟨_, rfl⟩
          rw [eL] at hix hsl hP hM
          obtain ⟨P, eP⟩ : ∃ P : ByteArray, (⟨(M ++ [48]).toArray⟩ : ByteArray) = P := ⟨_, rfl⟩
          rw [eP] at hix hsl hP ⊢
          have h48 : ((UInt8.toNat 48 : Nat) : Int) = 48 := rfl
          rw [h48] at hix
          have EM2 := hide eM
          clear eP eL eQ1 eM h48
          go_wp2_with fail
          go_roundg r
          case measure => omega
          case rel => exact ⟨by rw [unhide EM2], by omega, rfl⟩

end Go.Proofs.YtbgljhjimcoiiaaDoor
