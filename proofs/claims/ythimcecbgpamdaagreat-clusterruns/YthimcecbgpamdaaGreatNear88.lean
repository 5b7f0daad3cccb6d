/- Joined: RefEnc, WireChk, WireTll, WireEnc. -/
import Derived.Test.YthimcecbgpamdaaGreatNear148
import Derived.Test.YthimcecbgpamdaaGreatRefSeal
import Derived.Test.YthimcecbgpamdaaGreatNear29
import Derived.Test.YthimcecbgpamdaaGreatNear91
import Derived.Test.YthimcecbgpamdaaGreatNear167
namespace Go.Proofs.YthimcecbgpamdaaGreat
open Go.RowKit

theorem en_three (K F R : Int) (n : Nat) (f : Nat → Int) (i : Nat) (hi : i < 3) : #[Value.int .u8 87, .int .u8 (K % 256), .int .u8 (F % 256)][i]? = some (bF (enF K F R n f) i) := by
  have : i = 0 ∨ i = 1 ∨ i = 2 := by omega
  rcases this with rfl | rfl | rfl
  · rfl
  · show some (Value.int .u8 (K % 256)) = some (Value.int .u8 (((K % 256).toNat : Nat) : Int)); congr 2; omega
  · show some (Value.int .u8 (F % 256)) = some (Value.int .u8 (((F % 256).toNat : Nat) : Int)); congr 2; omega
theorem en_seven (K F R : Int) (n : Nat) (f : Nat → Int) : rowV (bF (enF K F R n f)) 3 ++ rowV (bF (bt R 4)) 4 = rowV (bF (enF K F R n f)) 7 := rfl
theorem en_eight (K F R : Int) (n : Nat) (f : Nat → Int) (u : Nat → Value) (hu : u 0 = .int .u8 (n : Int)) (hn : n ≤ 24) : rowV (bF (enF K F R n f)) 7 ++ rowV u 1 = rowV (bF (enF K F R n f)) 8 := by
  rw [rowV_append]
  refine rowV_congr (fun i hi => ?_)
  by_cases h : i < 7
  · rw [if_pos h]
  · rw [if_neg h]
    have : i = 7 := by omega
    subst this
    show u 0 = Value.int .u8 ((n % 256 : Nat) : Int)
    rw [hu]; congr 1; omega
theorem en_more (K F R : Int) (n : Nat) (f : Nat → Int) (j : Nat) : rowV (bF (enF K F R n f)) (8 + 8 * j) ++ rowV (bF (bt (f j) 8)) 8 = rowV (bF (enF K F R n f)) (8 + 8 * (j + 1)) := by
  rw [rowV_append]
  refine rowV_congr (fun i hi => ?_)
  by_cases h : i < 8 + 8 * j
  · rw [if_pos h]
  · rw [if_neg h]
    unfold bF
    congr 1
    have := enF_val K F R n f j (i - (8 + 8 * j)) (by omega)
    rw [show 8 + 8 * j + (i - (8 + 8 * j)) = i by omega] at this
    exact this.symm

set_option maxHeartbeats 1000000 in
theorem refEncode_wrong (K F R : Int) (ao : Option Addr) (n cap : Nat) (w : World) (hw : wrongM K F R n ≠ 0) :
    Calls Tryz.prog 41 #[msV K F R (.slice ao n cap)] w fun e w' => e = .returned (.tuple #[.slice none 0 0, .int .i64 (wrongM K F R n)]) ∧ Below w.heap.size w w' := by
  obtain ⟨w1, e1, m1, k1, s1⟩ := mg_alloc w K F R (.slice ao n cap)
  have c0 := m1.cell0; have c1 := m1.cell1; have c2 := m1.cell2; have c3 := m1.cell3
  have E1 := hide e1; have K1 := hide k1; have S1 := hide s1
  clear e1 m1 k1 s1
  unfold msV
  go_enter Tryz.func41, Tryz.ntmps41
  go_wp2_with fail
  rw [← unhide E1]
  go_wp2_with fail
  refine (refWrong_any K F R ao n cap _).mono ?_
  rintro e w2 ⟨rfl, k2⟩
  obtain ⟨x, ex⟩ : ∃ x, x = wrongM K F R n := ⟨_, rfl⟩
  rw [← ex] at hw ⊢
  have tw : (x != 0) = true := by simp [hw]
  have K2 := hide (show Below w.heap.size w w2 from (unhide K1).trans (k2.mono (unhide K1).size))
  have EX := hide ex
  clear k2 ex
  go_wp2_with fail
  go_ret2
  exact ⟨by rw [← unhide EX]; rfl, unhide K2⟩

set_option maxHeartbeats 2000000 in
theorem refEncode_right (K F R : Int) (ao : Option Addr) (n cap : Nat) (f : Nat → Int) (w : World) (hR : R64 R) (hf : ∀ i, R64 (f i)) (hr : Rd w ao n (iF f)) (hw : wrongM K F R n = 0) :
    Calls Tryz.prog 41 #[msV K F R (.slice ao n cap)] w fun e w' => ∃ v, e = .returned (.tuple #[v, .int .i64 0]) ∧ w'.ownsRow w.heap.size 5 1 v (12 + 8 * n) (rowV (bF (enS K F R n f)) (12 + 8 * n)) ∧ Below w.heap.size w w' := by
  have hn := (wrongM_right hw).2.2.2.2.2.2
  obtain ⟨w1, e1, m1, k1, s1⟩ := mg_alloc w K F R (.slice ao n cap)
  have c0 := m1.cell0; have c1 := m1.cell1; have c2 := m1.cell2; have c3 := m1.cell3
  have E1 := hide e1; have M1 := hide m1; have K1 := hide k1; have S1 := hide s1; have HW := hide hw; have HF := hide hf; have HR := hide hr; have H64 := hide hR
  clear e1 m1 k1 s1 hw hf hr hR
  unfold msV
  go_enter Tryz.func41, Tryz.ntmps41
  go_wp2_with fail
  rw [← unhide E1]
  go_wp2_with fail
  refine (refWrong_any K F R ao n cap _).mono ?_
  rintro e w2 ⟨rfl, k2⟩
  rw [unhide HW]
  have S2 := hide (show w.heap.size + 1 ≤ w2.heap.size by have := unhide S1; have := k2.size; omega)
  have K2 := hide (show Below w.heap.size w w2 from (unhide K1).trans (k2.mono (unhide K1).size))
  have m2 := (unhide M1).below k2
  clear k2 c0 c1 c2 c3 K1 M1 S1
  -- the first three bytes
  have A3 := al_below w2 (.cells #[.int .u8 87, .int .u8 (K % 256), .int .u8 (F % 256)] 5)
  have V3 := Vh.new w2 5 #[.int .u8 87, .int .u8 (K % 256), .int .u8 (F % 256)] (bF (enF K F R n f)) (by show 3 ≤ maxLen; decide) (fun i hi => en_three K F R n f i (by simpa using hi))
  have O3 := hide (V3.owns (base := w.heap.size + 1) (unhide S2))
  obtain ⟨w3, e3⟩ : ∃ w3, w3 = w2.alloc (.cells #[.int .u8 87, .int .u8 (K % 256), .int .u8 (F % 256)] 5) := ⟨_, rfl⟩
  have d2 := (m2.below A3).cell2
  rw [← e3] at A3 O3
  have c0 := m2.cell0; have c1 := m2.cell1
  have m3 := m2.below A3
  have E3 := hide e3; have M3 := hide m3; have K3 := hide (show Below w.heap.size w w3 from (unhide K2).trans (A3.mono (unhide K2).size)); have S3 := hide (show w.heap.size + 1 ≤ w3.heap.size by have := unhide S2; have := A3.size; omega)
  clear A3 V3 e3 m2 m3 K2 S2
  go_wp2_with fail
  rw [← unhide E3]
  clear c0 c1 d2
  refine (bytesOf_any R 4 _ (unhide H64) (by omega)).mono ?_
  rintro e w4 ⟨v4, rfl, o4, k4⟩
  obtain ⟨a4, l4, rfl, r4, _⟩ := owns_sr o4
  have m4 := (unhide M3).below k4
  have O4 := hide (own_kept (unhide O3) k4); have R4 := hide r4; have M4 := hide m4; have K4 := hide (show Below w.heap.size w w4 from (unhide K3).trans (k4.mono (unhide K3).size)); have S4 := hide (show w.heap.size + 1 ≤ w4.heap.size by have := unhide S3; have := k4.size; omega)
  clear o4 r4 k4 m4 O3 M3 K3 S3
  go_wp2_with (at_builtin; refine wpList_join _ rfl _ _ rfl (w.heap.size + 1) (unhide S4) _ 3 (rowV (bF (enF K F R n f)) 3) rfl (unhide O4) a4 4 l4 (bF (bt R 4)) rfl (unhide R4) (fun i _ => rfl) (by omega) ?_)
  intro v5 w5 o5 k5
  rw [en_seven] at o5
  obtain ⟨a5, l5, rfl⟩ := owns_slice o5
  have m5 := (unhide M4).under k5 (by omega)
  have A6 := al_below w5 (.cells #[.int .u8 (n : Int)] 5)
  have V6 := Vh.new w5 5 #[.int .u8 (n : Int)] (fun _ => .int .u8 (n : Int)) (by show 1 ≤ maxLen; decide) (fun i hi => by
    have : i = 0 := by simp at hi; omega
    subst this; rfl)
  have S5 : w.heap.size + 1 ≤ w5.heap.size := by have := unhide S4; have := k5.size; omega
  have c3 := m5.cell3
  have O6 := hide (own_kept o5 A6); have R6 := hide (show Sr (w5.alloc (.cells #[.int .u8 (n : Int)] 5)) (some ⟨w5.heap.size, 0, none⟩) 1 1 (fun _ => .int .u8 (n : Int)) from Or.inr ⟨_, rfl, fun i hi => by rw [Addr.add_lit, Nat.zero_add]; exact V6.cell hi⟩)
  have M6 := hide (m5.below A6); have K6 := hide (show Below w.heap.size w (w5.alloc (.cells #[.int .u8 (n : Int)] 5)) from ((unhide K4).trans (k5.mono (by omega))).trans (A6.mono (by omega))); have S6 := hide (show w.heap.size + 1 ≤ (w5.alloc (.cells #[.int .u8 (n : Int)] 5)).heap.size by have := A6.size; omega)
  clear o5 k5 m5 A6 V6 S5 O4 R4 M4 K4 S4
  go_wp2_with (at_builtin; refine wpList_join _ rfl _ _ rfl (w.heap.size + 1) (unhide S6) _ 7 (rowV (bF (enF K F R n f)) 7) rfl (unhide O6) (some ⟨w5.heap.size, 0, none⟩) 1 1 (fun _ => .int .u8 (n : Int)) rfl (unhide R6) (fun i _ => rfl) (by omega) ?_)
  intro v7 w7 o7 k7
  rw [en_eight K F R n f _ rfl hn] at o7
  obtain ⟨a7, l7, rfl⟩ := owns_slice o7
  have m7 := (unhide M6).under k7 (by omega)
  clear c3
  have c3 := m7.cell3
  have O7 := hide o7; have K7 := hide (show Below w.heap.size w w7 from (unhide K6).trans (k7.mono (by omega))); have S7 := hide (show w.heap.size + 1 ≤ w7.heap.size by have := unhide S6; have := k7.size; omega)
  clear o7 k7 m7 O6 R6 M6 K6 S6
  go_wp2_with fail
  go_loopw [5, 7, 35] (fun bs _ is wr => ∃ (j c : Nat) (at_ : Option Addr), is = .int .i64 j ∧ j ≤ n ∧ bs = .slice at_ (8 + 8 * j) c ∧ wr.ownsRow (w.heap.size + 1) 5 1 (.slice at_ (8 + 8 * j) c) (8 + 8 * j) (rowV (bF (enF K F R n f)) (8 + 8 * j)) ∧ w.heap.size + 1 ≤ wr.heap.size ∧ Below w.heap.size w wr)
    (fun _ _ is _ => n - (intOf is).toNat)
  case atStart => exact ⟨0, l7, a7, rfl, Nat.zero_le _, rfl, unhide O7, unhide S7, unhide K7⟩
  case round =>
    obtain ⟨j, c, at_, rfl, hj, rfl, ho, hs, hK⟩ := hrel
    rename World => wr
    by_cases hin : j < n
    · obtain ⟨b, o, rfl, hc⟩ := unhide HR (by omega)
      have cj : wr.cell? ⟨b, o + j, none⟩ = some (.int .i64 (f j)) := at_below (hc j hin) hK
      have HO := hide ho; have HS := hide hs; have HK := hide hK
      clear ho hs hK hc
      go_wp2_with fail
      refine (bytesOf_any (f j) 8 _ (unhide HF j) (by omega)).mono ?_
      rintro e w8 ⟨v8, rfl, o8, k8⟩
      obtain ⟨a8, l8, rfl, r8, _⟩ := owns_sr o8
      have O8 := hide (own_kept (unhide HO) k8); have R8 := hide r8; have K8 := hide (show Below w.heap.size w w8 from (unhide HK).trans (k8.mono (unhide HK).size)); have S8 := hide (show w.heap.size + 1 ≤ w8.heap.size by have := unhide HS; have := k8.size; omega)
      clear o8 r8 k8 HO HS HK cj
      go_wp2_with (at_builtin; refine wpList_join _ rfl _ _ rfl (w.heap.size + 1) (unhide S8) _ (8 + 8 * j) (rowV (bF (enF K F R n f)) (8 + 8 * j)) rfl (unhide O8) a8 8 l8 (bF (bt (f j) 8)) rfl (unhide R8) (fun i _ => rfl) (by omega) ?_)
      intro v9 w9 o9 k9
      rw [en_more, show 8 + 8 * j + 8 = 8 + 8 * (j + 1) by omega] at o9
      obtain ⟨a9, l9, rfl⟩ := owns_slice o9
      have O9 := hide o9; have K9 := hide (show Below w.heap.size w w9 from (unhide K8).trans (k9.mono (by omega))); have S9 := hide (show w.heap.size + 1 ≤ w9.heap.size by have := unhide S8; have := k9.size; omega)
      clear o9 k9 O8 R8 K8 S8
      go_wp2_with fail
      go_roundw
      case rel => exact ⟨j + 1, l9, a9, by go_num, by omega, rfl, unhide O9, unhide S9, unhide K9⟩
      case measure => simp [intOf] <;> omega
    · have : j = n := by omega
      subst this
      obtain ⟨a8, l8, e8, r8, _⟩ := owns_sr ho
      cases e8
      have HO := hide r8; have HK := hide hK
      clear ho hs hK r8
      go_wp2_with fail
      refine (refSeal_any at_ (8 + 8 * j) c (enF K F R j f) _ (enF_lt K F R j f) (by omega) (unhide HO)).mono ?_
      rintro e w9 ⟨v9, rfl, o9, k9⟩
      rw [show 8 + 8 * j + 4 = 12 + 8 * j by omega] at o9
      have O9 := hide o9; have K9 := hide (show Below w.heap.size w w9 from (unhide HK).trans (k9.mono (unhide HK).size)); have Z9 := hide (unhide HK).size
      clear o9 k9
      go_wp2_with fail
      go_ret2
      exact ⟨_, rfl, own_base (unhide O9) (unhide Z9), unhide K9⟩

theorem refEncode_ok : EnOK 41 := by
  intro K F R ao n cap f w _ _ hR hf _ _ hr
  by_cases h : wrongM K F R n = 0
  · refine (refEncode_right K F R ao n cap f w hR hf hr.rd h).mono ?_
    rintro e w' ⟨v, rfl, o, k⟩
    refine ⟨v, by rw [h], ?_, k⟩
    unfold enL
    rw [if_pos h]
    exact o
  · refine (refEncode_wrong K F R ao n cap w h).mono ?_
    rintro e w' ⟨rfl, k⟩
    refine ⟨_, rfl, ?_, k⟩
    unfold enL
    rw [if_neg h]
    exact World.ownsRow_nil _ _ _ _

end Go.Proofs.YthimcecbgpamdaaGreat

namespace Go.Proofs.YthimcecbgpamdaaGreat
open Go.RowKit

set_option maxHeartbeats 1000000 in
theorem check_any (K F R : Int) (ao : Option Addr) (n cap : Nat) (w : World) :
    Calls Tryz.prog 130 #[msV K F R (.slice ao n cap)] w fun e w' => e = .returned (.int .i64 (wrongM K F R n)) ∧ Below w.heap.size w w' := by
  obtain ⟨w1, e1, m1, k1, _⟩ := mg_alloc w K F R (.slice ao n cap)
  have c0 := m1.cell0; have c1 := m1.cell1; have c2 := m1.cell2; have c3 := m1.cell3
  have E1 := hide e1; have K1 := hide k1
  clear e1 m1 k1
  unfold msV
  by_cases h1 : K < 1
  · have G := hide (show wrongM K F R n = 4 by unfold wrongM; rw [if_pos (by omega)])
    go_enter Tryz.func130, Tryz.ntmps130
    go_wp2_with fail
    rw [← unhide E1]
    go_wp2_with fail
    go_ret
    exact ⟨by rw [unhide G]; rfl, unhide K1⟩
  · skip
    by_cases h2 : 5 < K
    · have G := hide (show wrongM K F R n = 4 by unfold wrongM; rw [if_pos (by omega)])
      go_enter Tryz.func130, Tryz.ntmps130
      go_wp2_with fail
      rw [← unhide E1]
      go_wp2_with fail
      go_ret
      exact ⟨by rw [unhide G]; rfl, unhide K1⟩
    · skip
      by_cases h3 : F < 0
      · have G := hide (show wrongM K F R n = 3 by unfold wrongM; rw [if_neg (by omega), if_pos (by omega)])
        go_enter Tryz.func130, Tryz.ntmps130
        go_wp2_with fail
        rw [← unhide E1]
        go_wp2_with fail
        go_ret
        exact ⟨by rw [unhide G]; rfl, unhide K1⟩
      · skip
        by_cases h4 : 4 ≤ F
        · have G := hide (show wrongM K F R n = 3 by unfold wrongM; rw [if_neg (by omega), if_pos (by omega)])
          go_enter Tryz.func130, Tryz.ntmps130
          go_wp2_with fail
          rw [← unhide E1]
          go_wp2_with fail
          go_ret
          exact ⟨by rw [unhide G]; rfl, unhide K1⟩
        · skip
          by_cases h5 : R < 0
          · have G := hide (show wrongM K F R n = 3 by unfold wrongM; rw [if_neg (by omega), if_pos (by omega)])
            go_enter Tryz.func130, Tryz.ntmps130
            go_wp2_with fail
            rw [← unhide E1]
            go_wp2_with fail
            go_ret
            exact ⟨by rw [unhide G]; rfl, unhide K1⟩
          · skip
            by_cases h6 : 2147483647 < R
            · have G := hide (show wrongM K F R n = 3 by unfold wrongM; rw [if_neg (by omega), if_pos (by omega)])
              go_enter Tryz.func130, Tryz.ntmps130
              go_wp2_with fail
              rw [← unhide E1]
              go_wp2_with fail
              go_ret
              exact ⟨by rw [unhide G]; rfl, unhide K1⟩
            · skip
              by_cases h7 : (24 : Int) < (n : Int)
              · have G := hide (show wrongM K F R n = 6 by unfold wrongM; rw [if_neg (by omega), if_neg (by omega), if_pos (by omega)])
                go_enter Tryz.func130, Tryz.ntmps130
                go_wp2_with fail
                rw [← unhide E1]
                go_wp2_with fail
                go_ret
                exact ⟨by rw [unhide G]; rfl, unhide K1⟩
              · have G := hide (show wrongM K F R n = 0 by unfold wrongM; rw [if_neg (by omega), if_neg (by omega), if_neg (by omega)])
                go_enter Tryz.func130, Tryz.ntmps130
                go_wp2_with fail
                rw [← unhide E1]
                go_wp2_with fail
                go_ret
                exact ⟨by rw [unhide G]; rfl, unhide K1⟩

theorem sizeOf_any (n : Nat) (w : World) (h : n ≤ 255) :
    Calls Tryz.prog 131 #[.int .i64 (n : Int)] w fun e w' => e = .returned (.int .i64 ((8 + 8 * n : Nat) : Int)) ∧ w' = w := by
  go_enter Tryz.func131, Tryz.ntmps131
  go_wp2_with fail
  go_ret
  exact ⟨by go_num, rfl⟩

end Go.Proofs.YthimcecbgpamdaaGreat

namespace Go.Proofs.YthimcecbgpamdaaGreat
open Go.RowKit

theorem u64_byte (V : Int) (j : Nat) (hj : j < 8) : IntKind.u64.wrap V / 2 ^ (8 * j) % 256 = V / 256 ^ j % 256 := by
  have e : IntKind.u64.wrap V = V % 18446744073709551616 := rfl
  rw [e]
  clear e
  have : j = 0 ∨ j = 1 ∨ j = 2 ∨ j = 3 ∨ j = 4 ∨ j = 5 ∨ j = 6 ∨ j = 7 := by omega
  rcases this with e | e | e | e | e | e | e | e <;> subst e <;> simp <;> omega
theorem tell_row (V : Int) (N k : Nat) (hk : k < N) (y : Int) (hy : y = V / 256 ^ (N - 1 - k) % 256) : rowV (bF (bt V N)) k ++ rowV (fun _ => Value.int .u8 y) 1 = rowV (bF (bt V N)) (k + 1) := by
  rw [rowV_append]
  refine rowV_congr (fun i hi => ?_)
  by_cases h : i < k
  · rw [if_pos h]
  · rw [if_neg h]
    have : i = k := by omega
    subst this
    show Value.int .u8 y = Value.int .u8 ((bt V N i : Nat) : Int)
    rw [bt_int, hy]

set_option maxHeartbeats 1000000 in
theorem wtell_any (B : Nat) (ao : Option Addr) (n cap : Nat) (xs : List Value) (V : Int) (N : Nat) (w : World) (hv : R64 V) (hN : N ≤ 8) (hB : B ≤ w.heap.size) (hn : n ≤ 1000) (ho : w.ownsRow B 5 1 (.slice ao n cap) n xs) :
    Calls Tryz.prog 132 #[.slice ao n cap, .int .i64 V, .int .i64 (N : Int)] w fun e w' => ∃ v, e = .returned v ∧ w'.ownsRow B 5 1 v (n + N) (xs ++ rowV (bF (bt V N)) N) ∧ Below B w w' := by
  have HV := hide hv; have HO := hide ho; have HB := hide hB
  clear hv ho hB
  go_enter Tryz.func132, Tryz.ntmps132
  go_wp2_with fail
  go_loopw [0, 7] (fun bs is wr => ∃ (k c : Nat) (ao : Option Addr), k ≤ N ∧ is = .int .i64 ((N : Int) - 1 - k) ∧ bs = .slice ao (n + k) c ∧ wr.ownsRow B 5 1 (.slice ao (n + k) c) (n + k) (xs ++ rowV (bF (bt V N)) k) ∧ Below B w wr)
    (fun _ is _ => (intOf is + 1).toNat)
  case atStart => exact ⟨0, cap, ao, Nat.zero_le _, by go_num, rfl, by simpa [rowV] using unhide HO, Below.refl _ _⟩
  case round =>
    obtain ⟨k, c, ai, hk, rfl, rfl, ho, hK⟩ := hrel
    rename World => wr
    by_cases hin : k < N
    · obtain ⟨j, ej⟩ : ∃ j : Nat, (N : Int) - 1 - k = j := ⟨N - 1 - k, by omega⟩
      rw [ej]
      obtain ⟨x, ex⟩ : ∃ x, x = IntKind.u64.wrap V / 2 ^ (8 * j) % 256 := ⟨_, rfl⟩
      have ey : x = V / 256 ^ (N - 1 - k) % 256 := by rw [ex, u64_byte V j (by omega), show N - 1 - k = j by omega]
      have BR := hide (tell_row V N k hin x ey)
      have A := al_below wr (.cells #[.int .u8 x] 5)
      have hv : Vh 5 (wr.alloc (.cells #[.int .u8 x] 5)) wr.heap.size 1 1 (fun _ => .int .u8 x) := Vh.new wr 5 #[.int .u8 x] _ (by show 1 ≤ maxLen; decide) (fun i hi => by
        have : i = 0 := by simp at hi; omega
        subst this; rfl)
      have kB := hK.trans (A.mono (Nat.le_trans (unhide HB) hK.size))
      have O1 := hide (own_kept ho A); have KB := hide kB; have ZB := hide (Nat.le_trans (unhide HB) kB.size)
      have R1 := hide (show Sr (wr.alloc (.cells #[.int .u8 x] 5)) (some ⟨wr.heap.size, 0, none⟩) 1 1 (fun _ => .int .u8 x) from Or.inr ⟨_, rfl, fun i hi => by rw [Addr.add_lit, Nat.zero_add]; exact hv.cell hi⟩)
      have EJ := hide ej
      obtain ⟨w1, e1⟩ : ∃ w1, w1 = wr.alloc (.cells #[.int .u8 x] 5) := ⟨_, rfl⟩
      rw [← e1] at O1 KB ZB R1
      rw [ex] at e1
      have E1 := hide e1
      have j1 : (j : Int) < 8 := by omega
      clear ho hK hv kB A ex ey e1
      have EK := hide (show (N : Int) - 1 - ((k + 1 : Nat) : Int) = (j : Int) - 1 by have := unhide EJ; omega)
      clear ej
      go_wp2_with (at_builtin; rw [← unhide E1]; refine wpList_join _ rfl _ _ rfl B (unhide ZB) _ (n + k) (xs ++ rowV (bF (bt V N)) k) rfl (unhide O1) (some ⟨wr.heap.size, 0, none⟩) 1 1 (fun _ => .int .u8 x) rfl (unhide R1) (fun i _ => rfl) (by omega) ?_)
      intro v2 w2 h2 k2
      have h3 : w2.ownsRow B 5 1 v2 (n + (k + 1)) (xs ++ rowV (bF (bt V N)) (k + 1)) := by rw [← unhide BR]; exact h2
      clear h2
      rename w2.ownsRow B 5 1 v2 (n + (k + 1)) (xs ++ rowV (bF (bt V N)) (k + 1)) => h2
      obtain ⟨a2, c2, rfl⟩ := owns_slice h2
      have H2 := hide h2; have K2 := hide ((unhide KB).trans k2)
      clear h2 k2
      go_wp2_with fail
      go_roundw
      case rel => exact ⟨k + 1, c2, a2, by omega, by rw [unhide EK], rfl, unhide H2, unhide K2⟩
      case measure => simp [intOf] <;> omega
    · have : k = N := by omega
      subst this
      have HO1 := hide ho; have HK := hide hK
      clear ho hK
      go_wp2_with fail
      go_ret
      exact ⟨_, rfl, unhide HO1, unhide HK⟩

end Go.Proofs.YthimcecbgpamdaaGreat

namespace Go.Proofs.YthimcecbgpamdaaGreat
open Go.RowKit

set_option maxHeartbeats 1000000 in
theorem wireEncode_wrong (K F R : Int) (ao : Option Addr) (n cap : Nat) (w : World) (hw : wrongM K F R n ≠ 0) :
    Calls Tryz.prog 107 #[msV K F R (.slice ao n cap)] w fun e w' => e = .returned (.tuple #[.slice none 0 0, .int .i64 (wrongM K F R n)]) ∧ Below w.heap.size w w' := by
  obtain ⟨w1, e1, m1, k1, s1⟩ := mg_alloc w K F R (.slice ao n cap)
  have c0 := m1.cell0; have c1 := m1.cell1; have c2 := m1.cell2; have c3 := m1.cell3
  have E1 := hide e1; have K1 := hide k1; have S1 := hide s1
  clear e1 m1 k1 s1
  unfold msV
  go_enter Tryz.func107, Tryz.ntmps107
  go_wp2_with fail
  rw [← unhide E1]
  go_wp2_with fail
  refine (check_any K F R ao n cap _).mono ?_
  rintro e w2 ⟨rfl, k2⟩
  obtain ⟨x, ex⟩ : ∃ x, x = wrongM K F R n := ⟨_, rfl⟩
  rw [← ex] at hw ⊢
  have tw : (x != 0) = true := by simp [hw]
  have K2 := hide (show Below w.heap.size w w2 from (unhide K1).trans (k2.mono (unhide K1).size))
  have EX := hide ex
  clear k2 ex
  go_wp2_with fail
  go_ret2
  exact ⟨by rw [← unhide EX]; rfl, unhide K2⟩

set_option maxHeartbeats 2000000 in
theorem wireEncode_right (K F R : Int) (ao : Option Addr) (n cap : Nat) (f : Nat → Int) (w : World) (hR : R64 R) (hf : ∀ i, R64 (f i)) (hr : Rd w ao n (iF f)) (hw : wrongM K F R n = 0) :
    Calls Tryz.prog 107 #[msV K F R (.slice ao n cap)] w fun e w' => ∃ v, e = .returned (.tuple #[v, .int .i64 0]) ∧ w'.ownsRow w.heap.size 5 1 v (12 + 8 * n) (rowV (bF (enS K F R n f)) (12 + 8 * n)) ∧ Below w.heap.size w w' := by
  have hn := (wrongM_right hw).2.2.2.2.2.2
  obtain ⟨w1, e1, m1, k1, s1⟩ := mg_alloc w K F R (.slice ao n cap)
  have c0 := m1.cell0; have c1 := m1.cell1; have c2 := m1.cell2; have c3 := m1.cell3
  have E1 := hide e1; have M1 := hide m1; have K1 := hide k1; have S1 := hide s1; have HW := hide hw; have HF := hide hf; have HR := hide hr; have H64 := hide hR
  clear e1 m1 k1 s1 hw hf hr hR
  unfold msV
  go_enter Tryz.func107, Tryz.ntmps107
  go_wp2_with fail
  rw [← unhide E1]
  go_wp2_with fail
  refine (check_any K F R ao n cap _).mono ?_
  rintro e w2 ⟨rfl, k2⟩
  rw [unhide HW]
  have S2 := hide (show w.heap.size + 1 ≤ w2.heap.size by have := unhide S1; have := k2.size; omega)
  have K2 := hide (show Below w.heap.size w w2 from (unhide K1).trans (k2.mono (unhide K1).size))
  have m2 := (unhide M1).below k2
  have M2 := hide m2
  clear k2 c0 c1 c2 c3 K1 M1 S1
  have c3 := m2.cell3
  clear m2
  go_wp2_with fail
  refine (sizeOf_any n _ (by omega)).mono ?_
  rintro e w2' ⟨rfl, rfl⟩
  clear c3
  go_wp2_with (at_make; refine wpList_makeC _ rfl _ _ rfl 0 (8 + 8 * n) rfl rfl (by omega) (by omega) ?_)
  intro w3 z3 v3 k3
  have O3 := hide (v3.owns (base := w.heap.size + 1) (unhide S2)); have K3 := hide (show Below w.heap.size w w3 from (unhide K2).trans (k3.mono (unhide K2).size)); have m3 := (unhide M2).below k3; have S3 := hide (show w.heap.size + 1 ≤ w3.heap.size by have := unhide S2; omega)
  clear v3 k3 z3 M2 K2 S2
  -- the first three bytes
  have A4 := al_below w3 (.cells #[.int .u8 87, .int .u8 (K % 256), .int .u8 (F % 256)] 5)
  have V4 := Vh.new w3 5 #[.int .u8 87, .int .u8 (K % 256), .int .u8 (F % 256)] (bF (enF K F R n f)) (by show 3 ≤ maxLen; decide) (fun i hi => en_three K F R n f i (by simpa using hi))
  have O4 := hide (own_kept (unhide O3) A4)
  have R4 := hide (show Sr (w3.alloc (.cells #[.int .u8 87, .int .u8 (K % 256), .int .u8 (F % 256)] 5)) (some ⟨w3.heap.size, 0, none⟩) 3 3 (bF (enF K F R n f)) from Or.inr ⟨_, rfl, fun i hi => by rw [Addr.add_lit, Nat.zero_add]; exact V4.cell hi⟩)
  have K4 := hide (show Below w.heap.size w (w3.alloc (.cells #[.int .u8 87, .int .u8 (K % 256), .int .u8 (F % 256)] 5)) from (unhide K3).trans (A4.mono (unhide K3).size)); have S4 := hide (show w.heap.size + 1 ≤ (w3.alloc (.cells #[.int .u8 87, .int .u8 (K % 256), .int .u8 (F % 256)] 5)).heap.size by have := unhide S3; have := A4.size; omega)
  have M4 := hide (m3.below A4)
  have c0 := m3.cell0; have c1 := m3.cell1
  clear A4 V4 m3 O3 K3 S3
  go_wp2_with (at_builtin; refine wpList_join _ rfl _ _ rfl (w.heap.size + 1) (unhide S4) _ 0 (rowV (bF (fun _ => 0)) 0) rfl (unhide O4) (some ⟨w3.heap.size, 0, none⟩) 3 3 (bF (enF K F R n f)) rfl (unhide R4) (fun i _ => rfl) (by omega) ?_)
  intro v5 w5 o5 k5
  have o5' : w5.ownsRow (w.heap.size + 1) 5 1 v5 3 (rowV (bF (enF K F R n f)) 3) := o5
  clear o5 c0 c1
  obtain ⟨a5, l5, rfl⟩ := owns_slice o5'
  have m5 := (unhide M4).under k5 (by omega)
  have c2 := m5.cell2
  have O5 := hide o5'; have K5 := hide (show Below w.heap.size w w5 from (unhide K4).trans (k5.mono (by omega))); have S5 := hide (show w.heap.size + 1 ≤ w5.heap.size by have := unhide S4; have := k5.size; omega); have M5 := hide m5
  clear o5' k5 m5 O4 R4 M4 K4 S4
  go_wp2_with fail
  clear c2
  refine (wtell_any (w.heap.size + 1) a5 3 l5 _ R 4 _ (unhide H64) (by omega) (unhide S5) (by omega) (unhide O5)).mono ?_
  rintro e w6 ⟨v6, rfl, o6, k6⟩
  rw [en_seven] at o6
  obtain ⟨a6, l6, rfl⟩ := owns_slice o6
  have m6 := (unhide M5).under k6 (by omega)
  -- how many there are
  have A7 := al_below w6 (.cells #[.int .u8 (n : Int)] 5)
  have V7 := Vh.new w6 5 #[.int .u8 (n : Int)] (fun _ => .int .u8 (n : Int)) (by show 1 ≤ maxLen; decide) (fun i hi => by
    have : i = 0 := by simp at hi; omega
    subst this; rfl)
  have S6 : w.heap.size + 1 ≤ w6.heap.size := by have := unhide S5; have := k6.size; omega
  have c3 := m6.cell3
  have O7 := hide (own_kept o6 A7); have R7 := hide (show Sr (w6.alloc (.cells #[.int .u8 (n : Int)] 5)) (some ⟨w6.heap.size, 0, none⟩) 1 1 (fun _ => .int .u8 (n : Int)) from Or.inr ⟨_, rfl, fun i hi => by rw [Addr.add_lit, Nat.zero_add]; exact V7.cell hi⟩)
  have M7 := hide (m6.below A7); have K7 := hide (show Below w.heap.size w (w6.alloc (.cells #[.int .u8 (n : Int)] 5)) from ((unhide K5).trans (k6.mono (by omega))).trans (A7.mono (by omega))); have S7 := hide (show w.heap.size + 1 ≤ (w6.alloc (.cells #[.int .u8 (n : Int)] 5)).heap.size by have := A7.size; omega)
  clear o6 k6 m6 A7 V7 S6 O5 M5 K5 S5
  go_wp2_with (at_builtin; refine wpList_join _ rfl _ _ rfl (w.heap.size + 1) (unhide S7) _ 7 (rowV (bF (enF K F R n f)) 7) rfl (unhide O7) (some ⟨w6.heap.size, 0, none⟩) 1 1 (fun _ => .int .u8 (n : Int)) rfl (unhide R7) (fun i _ => rfl) (by omega) ?_)
  intro v8 w8 o8 k8
  rw [en_eight K F R n f _ rfl hn] at o8
  obtain ⟨a8, l8, rfl⟩ := owns_slice o8
  have m8 := (unhide M7).under k8 (by omega)
  clear c3
  have c3 := m8.cell3
  have O8 := hide o8; have K8 := hide (show Below w.heap.size w w8 from (unhide K7).trans (k8.mono (by omega))); have S8 := hide (show w.heap.size + 1 ≤ w8.heap.size by have := unhide S7; have := k8.size; omega)
  clear o8 k8 m8 O7 R7 M7 K7 S7
  go_wp2_with fail
  go_loopw [5, 7, 41] (fun bs _ is wr => ∃ (j c : Nat) (at_ : Option Addr), is = .int .i64 j ∧ j ≤ n ∧ bs = .slice at_ (8 + 8 * j) c ∧ wr.ownsRow (w.heap.size + 1) 5 1 (.slice at_ (8 + 8 * j) c) (8 + 8 * j) (rowV (bF (enF K F R n f)) (8 + 8 * j)) ∧ w.heap.size + 1 ≤ wr.heap.size ∧ Below w.heap.size w wr)
    (fun _ _ is _ => n - (intOf is).toNat)
  case atStart => exact ⟨0, l8, a8, rfl, Nat.zero_le _, rfl, unhide O8, unhide S8, unhide K8⟩
  case round =>
    obtain ⟨j, c, at_, rfl, hj, rfl, ho, hs, hK⟩ := hrel
    rename World => wr
    by_cases hin : j < n
    · obtain ⟨b, o, rfl, hc⟩ := unhide HR (by omega)
      have cj : wr.cell? ⟨b, o + j, none⟩ = some (.int .i64 (f j)) := at_below (hc j hin) hK
      have HO := hide ho; have HS := hide hs; have HK := hide hK
      clear ho hs hK hc
      go_wp2_with fail
      refine (wtell_any (w.heap.size + 1) at_ (8 + 8 * j) c _ (f j) 8 _ (unhide HF j) (by omega) (unhide HS) (by omega) (unhide HO)).mono ?_
      rintro e w9 ⟨v9, rfl, o9, k9⟩
      rw [en_more, show 8 + 8 * j + 8 = 8 + 8 * (j + 1) by omega] at o9
      obtain ⟨a9, l9, rfl⟩ := owns_slice o9
      have O9 := hide o9; have K9 := hide (show Below w.heap.size w w9 from (unhide HK).trans (k9.mono (by omega))); have S9 := hide (show w.heap.size + 1 ≤ w9.heap.size by have := unhide HS; have := k9.size; omega)
      clear o9 k9 HO HS HK cj
      go_wp2_with fail
      go_roundw
      case rel => exact ⟨j + 1, l9, a9, by go_num, by omega, rfl, unhide O9, unhide S9, unhide K9⟩
      case measure => simp [intOf] <;> omega
    · have : j = n := by omega
      subst this
      have rd := owns_rd ho
      have HO := hide rd; have HK := hide hK
      clear ho hs hK rd
      go_wp2_with fail
      refine (seal_any at_ (8 + 8 * j) c (enF K F R j f) _ (enF_lt K F R j f) (by omega) (unhide HO)).mono ?_
      rintro e w9 ⟨v9, rfl, o9, k9⟩
      rw [show 8 + 8 * j + 4 = 12 + 8 * j by omega] at o9
      have O9 := hide o9; have K9 := hide (show Below w.heap.size w w9 from (unhide HK).trans (k9.mono (unhide HK).size)); have Z9 := hide (unhide HK).size
      clear o9 k9
      go_wp2_with fail
      go_ret2
      exact ⟨_, rfl, own_base (unhide O9) (unhide Z9), unhide K9⟩

theorem wireEncode_ok : EnOK 107 := by
  intro K F R ao n cap f w _ _ hR hf _ _ hr
  by_cases h : wrongM K F R n = 0
  · refine (wireEncode_right K F R ao n cap f w hR hf hr.rd h).mono ?_
    rintro e w' ⟨v, rfl, o, k⟩
    refine ⟨v, by rw [h], ?_, k⟩
    unfold enL
    rw [if_pos h]
    exact o
  · refine (wireEncode_wrong K F R ao n cap w h).mono ?_
    rintro e w' ⟨rfl, k⟩
    refine ⟨_, rfl, ?_, k⟩
    unfold enL
    rw [if_neg h]
    exact World.ownsRow_nil _ _ _ _

end Go.Proofs.YthimcecbgpamdaaGreat
