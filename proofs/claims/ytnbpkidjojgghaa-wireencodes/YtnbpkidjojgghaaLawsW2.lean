/- The walks of WireBack, WireOnly and WireTurned, whatever Encode and Decode are made of. -/
import Derived.Test.YtnbpkidjojgghaaMsgSame
import Derived.Test.YtnbpkidjojgghaaMsgCopy
import Derived.Test.YtnbpkidjojgghaaWireTell
import Derived.Test.YtnbpkidjojgghaaSumBytes
import Derived.Test.YtnbpkidjojgghaaSumBurst
import Derived.Test.YtnbpkidjojgghaaSumTurn
import Derived.Test.YtnbpkidjojgghaaStrByte
import Derived.Test.YtnbpkidjojgghaaNear5
import Derived.Test.YtnbpkidjojgghaaOpenByte
namespace Go.Proofs.Ytnbpkidjojgghaa
open Go.RowKit

theorem enL_right {K F R : Int} {n : Nat} (h : wrongM K F R n = 0) : enL K F R n = 12 + 8 * n := by unfold enL; rw [if_pos h]
theorem enL_wrong {K F R : Int} {n : Nat} (h : wrongM K F R n ≠ 0) : enL K F R n = 0 := by unfold enL; rw [if_neg h]

set_option maxHeartbeats 2000000 in
theorem wireBack_by (hE : EnOK 9) (hD : DcOK 12) {w : World} (K F R : Int) (ao : Option Addr) (len cap : Nat) (f : Nat → Int) (rK : R64 K) (rF : R64 F) (rR : R64 R) (ar : ArgS w ao len cap f) (_rc : len ≤ cap) :
    Calls Try.prog 5 #[msV K F R (.slice ao len cap)] w fun e w' => e = .returned (.bool true) ∧ Below w.heap.size w w' := by
  obtain ⟨hs, hl, hf⟩ := ar
  obtain ⟨w1, e1, m1, k1, s1⟩ := mg_alloc w K F R (.slice ao len cap)
  have hs1 : Sr w1 ao len cap (iF f) := Sr.below hs k1
  have c0 := m1.cell0; have c1 := m1.cell1; have c2 := m1.cell2; have c3 := m1.cell3
  have E1 := hide e1; have M1 := hide m1; have K1 := hide k1; have HS := hide hs1; have HF := hide hf; have HE := hide hE; have HD := hide hD; have RK := hide rK; have RF := hide rF; have RR := hide rR
  clear e1 m1 k1 s1 hs hs1 hf hE hD rK rF rR
  unfold msV
  go_enter Try.func5, Try.ntmps5
  go_wp2_with fail
  rw [← unhide E1]
  go_wp2_with fail
  refine (messageK_ok K F R ao len cap f _ hl (unhide HS)).mono ?_
  rintro e w2 ⟨v2, rfl, o2, k2⟩
  obtain ⟨a2, l2, rfl, s2, n2⟩ := owns_sr o2
  have S2 := hide s2; have N2 := hide n2; have K2 := hide (show Below w.heap.size w w2 from (unhide K1).trans (k2.mono (unhide K1).size)); have M2 := hide ((unhide M1).below k2); have H2 := hide ((unhide HS).below k2)
  clear o2 s2 n2 k2 c0 c1 c2 c3 K1 M1 HS
  unfold msV
  go_wp2_with fail
  refine (unhide HE K F R a2 len l2 f _ (unhide RK) (unhide RF) (unhide RR) (unhide HF) hl (unhide N2) (unhide S2)).mono ?_
  rintro e w3 ⟨v3, rfl, o3, k3⟩
  obtain ⟨a3, l3, rfl, s3, n3⟩ := owns_sr o3
  have K3 := hide (show Below w.heap.size w w3 from (unhide K2).trans (k3.mono (unhide K2).size)); have M3 := hide ((unhide M2).below k3); have H3 := hide ((unhide H2).below k3)
  by_cases hw : wrongM K F R len = 0
  · have hn := (wrongM_right hw).2.2.2.2.2.2
    rw [enL_right hw] at s3 n3 ⊢
    rw [hw]
    have S3 := hide s3; have N3 := hide n3; have HW := hide hw
    clear o3 s3 n3 k3 K2 M2 H2 S2 N2 hw
    go_wp2_with fail
    refine (dc_at (unhide HD) (unhide HW) (unhide HF) a3 l3 _ (unhide N3) (unhide S3)).mono ?_
    rintro e w4 ⟨a4, l4, rfl, o4, k4⟩
    obtain ⟨_, _, e4, s4, _⟩ := owns_sr o4
    cases e4
    obtain ⟨w5, e5, m5, k5, s5⟩ := mg_alloc w4 K F R (.slice a4 len l4)
    have K5 := hide (show Below w.heap.size w w5 from ((unhide K3).trans (k4.mono (unhide K3).size)).trans (k5.mono (Nat.le_trans (unhide K3).size k4.size)))
    have M5 := hide m5; have P5 := hide (((unhide M3).below k4).below k5); have S5 := hide (s4.below k5); have H5 := hide (((unhide H3).below k4).below k5); have E5 := hide e5
    clear o4 s4 k4 e5 m5 k5 s5 K3 M3 H3 S3 N3
    unfold msV
    go_wp2_with fail
    rw [← unhide E5]
    go_wp2_with fail
    refine (tells_ok (unhide HE) (unhide HD) _).mono ?_
    rintro e w6 ⟨rfl, k6⟩
    have m6 := (unhide M5).below k6; have p6 := (unhide P5).below k6
    have b0 := m6.cell0; have b1 := m6.cell1; have b2 := m6.cell2; have b3 := m6.cell3
    have d0 := p6.cell0; have d1 := p6.cell1; have d2 := p6.cell2; have d3 := p6.cell3
    have K6 := hide (show Below w.heap.size w w6 from (unhide K5).trans (k6.mono (unhide K5).size)); have S6 := hide ((unhide S5).below k6); have H6 := hide ((unhide H5).below k6)
    clear k6 m6 p6 K5 M5 P5 S5 H5
    go_wp2_with fail
    refine (sameMsgK_ok K F R ao a4 len cap l4 f f _ (by omega) (unhide H6).rd (unhide S6).rd (fun _ _ => rfl)).mono ?_
    rintro e w7 ⟨rfl, k7⟩
    have K7 := hide (show Below w.heap.size w w7 from (unhide K6).trans (k7.mono (unhide K6).size))
    clear k7 b0 b1 b2 b3 d0 d1 d2 d3 K6
    go_wp2_with fail
    go_ret
    exact ⟨congrArg (fun b => Ending.returned (Value.bool b)) (decide_eq_true (show 12 + 8 * (len : Int) ≤ 220 by omega)), unhide K7⟩
  · rw [enL_wrong hw]
    obtain ⟨x, ex⟩ : ∃ x, wrongM K F R len = x := ⟨_, rfl⟩
    rw [ex] at hw ⊢
    have tx : (x != 0) = true := by simp [hw]
    clear o3 s3 n3 k3 K2 M2 H2 S2 N2 ex
    go_wp2_with fail
    refine (tells_ok (unhide HE) (unhide HD) _).mono ?_
    rintro e w6 ⟨rfl, k6⟩
    have K6 := hide (show Below w.heap.size w w6 from (unhide K3).trans (k6.mono (unhide K3).size))
    clear k6
    go_wp2_with fail
    go_ret
    exact ⟨rfl, unhide K6⟩

set_option maxHeartbeats 2000000 in
theorem wireOnly_by (hE : EnOK 9) (hD : DcOK 12) {w : World} (ao : Option Addr) (len cap : Nat) (g : Nat → Nat) (ha : ArgB w ao len cap g) :
    Calls Try.prog 6 #[.slice ao len cap] w fun e w' => e = .returned (.bool true) ∧ Below w.heap.size w w' := by
  obtain ⟨hr, hl, hg, hc⟩ := ha
  have HR := hide hr; have HG := hide hg; have HE := hide hE; have HD := hide hD
  clear hr hg hc hE hD
  go_enter Try.func6, Try.ntmps6
  go_wp2_with fail
  refine (bytesK_any ao len cap (bF g) _ (by omega) (bF_one g) (unhide HR)).mono ?_
  rintro e w1 ⟨v, rfl, o1, k1⟩
  obtain ⟨a1, c1, rfl, r1, n1⟩ := owns_sr o1
  have R1 := hide r1; have N1 := hide n1; have K1 := hide k1
  clear o1 r1 n1 k1
  go_wp2_with fail
  refine (unhide HD a1 len c1 g _ (unhide HG) hl (unhide N1) (unhide R1)).mono ?_
  rintro e w2 ⟨E, v2, dE, rfl, o2, k2⟩
  obtain ⟨a2, c2, rfl, s2, n2⟩ := owns_sr o2
  obtain ⟨X, eX⟩ : ∃ X : Nat, dN E (g 1) = X := ⟨_, rfl⟩
  obtain ⟨Y, eY⟩ : ∃ Y : Nat, dN E (g 2) = Y := ⟨_, rfl⟩
  obtain ⟨Z, eZ⟩ : ∃ Z : Nat, dN E (dR g) = Z := ⟨_, rfl⟩
  obtain ⟨n, en⟩ : ∃ n : Nat, dN E (g 7) = n := ⟨_, rfl⟩
  rw [eX, eY, eZ, en]
  rw [en] at s2 n2
  obtain ⟨w3, e3, m3, k3, s3⟩ := mg_alloc w2 (X : Int) (Y : Int) (Z : Int) (.slice a2 n c2)
  have K2 := hide (show Below w.heap.size w w2 from (unhide K1).trans (k2.mono (unhide K1).size))
  have K3 := hide (show Below w.heap.size w w3 from (unhide K2).trans (k3.mono (unhide K2).size))
  have S3 := hide (s2.below k3); have N3 := hide n2; have M3 := hide m3; have E3 := hide e3; have EX := hide eX; have EY := hide eY; have EZ := hide eZ; have EN := hide en; have EE := hide dE; have H3 := hide ((unhide HR).below (unhide K3))
  clear dE o2 k2 s2 n2 e3 m3 k3 s3 eX eY eZ en R1 N1 K1 K2
  unfold msV
  by_cases h0 : E = 0
  · subst h0
    obtain ⟨g1, g2, g3, g4, g5, g6, g7⟩ := dcE_right (unhide EE)
    have q1 : g 1 = X := unhide EX
    have q2 : g 2 = Y := unhide EY
    have q3 : dR g = Z := unhide EZ
    have q7 : g 7 = n := unhide EN
    have only := dc_only (unhide HG) (unhide EE)
    rw [q1, q2, q3, q7] at g7 only
    rw [q7] at g6 g5
    have G7 := hide g7; have ON := hide only; have G6 := hide g6
    have RV := hide (fun i => dV_R64 (unhide HG) i)
    clear g1 g2 g3 g4 g7 only g6 q1 q2 q3 q7
    have m3 := unhide M3
    have c0 := m3.cell0; have c1' := m3.cell1; have c2' := m3.cell2; have c3 := m3.cell3
    rw [unhide E3] at c0 c1' c2' c3
    clear m3
    go_wp2_with fail
    rw [← unhide E3]
    clear c0 c1' c2' c3
    refine (en_at (unhide HE) (unhide G7) (unhide RV) a2 c2 _ (unhide N3) (unhide S3)).mono ?_
    rintro e w4 ⟨a4, l4, rfl, _, s4, _, k4⟩
    have K4 := hide (show Below w.heap.size w w4 from (unhide K3).trans (k4.mono (unhide K3).size)); have S4 := hide s4; have H4 := hide ((unhide H3).below k4)
    clear s4 k4 K3 S3 H3
    go_wp2_with fail
    refine (tells_ok (unhide HE) (unhide HD) _).mono ?_
    rintro e w5 ⟨rfl, k5⟩
    have S5 := (unhide S4).below k5; have H5 := (unhide H4).below k5
    have cv1 := run_convB w5 a4 (12 + 8 * n) l4 _ S5.rd
    have cv2 := run_convB w5 ao len cap _ H5.rd
    have eT : sB (enS (X : Nat) (Y : Nat) (Z : Nat) n (dV g)) (12 + 8 * n) = sB g len := by
      rw [← unhide G6]
      exact sB_congr (unhide ON)
    rw [eT] at cv1
    obtain ⟨T, eT2⟩ : ∃ T, sB g len = T := ⟨_, rfl⟩
    rw [eT2] at cv1 cv2
    have K5 := hide (show Below w.heap.size w w5 from (unhide K4).trans (k5.mono (unhide K4).size))
    clear k5 S5 H5 eT eT2 K4 S4 H4
    go_wp2_with fail
    go_ret
    exact ⟨rfl, unhide K5⟩
  · have tx : (E != 0) = true := by simp [h0]
    have x0 : X = 0 := by rw [← unhide EX]; unfold dN; rw [if_neg h0]
    have y0 : Y = 0 := by rw [← unhide EY]; unfold dN; rw [if_neg h0]
    have z0 : Z = 0 := by rw [← unhide EZ]; unfold dN; rw [if_neg h0]
    have n0 : n = 0 := by rw [← unhide EN]; unfold dN; rw [if_neg h0]
    subst x0 y0 z0 n0
    have E3' := hide (show w3 = w2.alloc (.cells #[.int .i64 0, .int .i64 0, .int .i64 0, .slice a2 0 c2] 24) from unhide E3)
    go_wp2_with fail
    rw [← unhide E3']
    go_wp2_with fail
    refine (tells_ok (unhide HE) (unhide HD) _).mono ?_
    rintro e w5 ⟨rfl, k5⟩
    have m5 : MgAt w5 w2.heap.size 0 0 0 (.slice a2 0 c2) := (unhide M3).below k5
    have c0 := m5.cell0; have c1' := m5.cell1; have c2' := m5.cell2; have c3 := m5.cell3
    have K5 := hide (show Below w.heap.size w w5 from (unhide K3).trans (k5.mono (unhide K3).size))
    clear k5 m5 K3 M3 S3 H3
    go_wp2_with fail
    refine (sameMsgK_ok 0 0 0 a2 none 0 c2 0 (fun _ => 0) (fun _ => 0) _ (by omega) (fun h => absurd h (by omega)) (fun h => absurd h (by omega)) (fun _ _ => rfl)).mono ?_
    rintro e w6 ⟨rfl, k6⟩
    have K6 := hide (show Below w.heap.size w w6 from (unhide K5).trans (k6.mono (unhide K5).size))
    clear k6 c0 c1' c2' c3
    go_wp2_with fail
    go_ret
    exact ⟨rfl, unhide K6⟩

/-- Bytes that were turned are refused. -/
theorem dc_turned {g h : Nat → Nat} {n : Nat} (hg : ∀ i, g i < 256) (hh : ∀ i, h i < 256) (hd : ∃ p m, p < 8 * (n + 4) ∧ m % 2 = 1 ∧ m < 4294967296 ∧ cV h (n + 4) = cV (slF g n) (n + 4) ^^^ m * 2 ^ p) : ¬ opG h (n + 4) := by
  intro ho
  have h1 := ho.2
  rw [show n + 4 - 4 = n by omega] at h1
  obtain ⟨p, m, hp, h2, h3, he⟩ := hd
  have h4 := right_left hh n h1
  have h5 := right_left (slF_lt hg n) n (slF_right g n)
  exact cF_burst (bgS 0) (slF_lt hg n) hh (n + 4) p m hp h2 h3 he (h4.trans h5.symm)

set_option maxHeartbeats 2000000 in
theorem wireTurned_by (hE : EnOK 9) (hD : DcOK 12) {w : World} (K F R : Int) (ao : Option Addr) (len cap : Nat) (f : Nat → Int) (at_ mask : Int) (rK : R64 K) (rF : R64 F) (rR : R64 R) (ar : ArgS w ao len cap f) (_rc : len ≤ cap) (_rA : R64 at_) (rM : R64 mask) :
    Calls Try.prog 7 #[msV K F R (.slice ao len cap), .int .i64 at_, .int .i64 mask] w fun e w' => e = .returned (.bool true) ∧ Below w.heap.size w w' := by
  obtain ⟨hs, hl, hf⟩ := ar
  obtain ⟨w1, e1, m1, k1, s1⟩ := mg_alloc w K F R (.slice ao len cap)
  have hs1 : Sr w1 ao len cap (iF f) := Sr.below hs k1
  have c0 := m1.cell0; have c1 := m1.cell1; have c2 := m1.cell2; have c3 := m1.cell3
  have E1 := hide e1; have K1 := hide k1; have HS := hide hs1; have HF := hide hf; have HE := hide hE; have HD := hide hD; have RK := hide rK; have RF := hide rF; have RR := hide rR; have RM := hide rM
  clear e1 m1 k1 s1 hs hs1 hf hE hD rK rF rR rM
  unfold msV
  go_enter Try.func7, Try.ntmps7
  go_wp2_with fail
  rw [← unhide E1]
  go_wp2_with fail
  refine (messageK_ok K F R ao len cap f _ hl (unhide HS)).mono ?_
  rintro e w2 ⟨v2, rfl, o2, k2⟩
  obtain ⟨a2, l2, rfl, s2, n2⟩ := owns_sr o2
  have S2 := hide s2; have N2 := hide n2; have K2 := hide (show Below w.heap.size w w2 from (unhide K1).trans (k2.mono (unhide K1).size))
  clear o2 s2 n2 k2 c0 c1 c2 c3 K1 HS
  unfold msV
  go_wp2_with fail
  refine (unhide HE K F R a2 len l2 f _ (unhide RK) (unhide RF) (unhide RR) (unhide HF) hl (unhide N2) (unhide S2)).mono ?_
  rintro e w3 ⟨v3, rfl, o3, k3⟩
  obtain ⟨a3, l3, rfl, s3, n3⟩ := owns_sr o3
  have K3 := hide (show Below w.heap.size w w3 from (unhide K2).trans (k3.mono (unhide K2).size))
  by_cases hw : wrongM K F R len = 0
  · have hn := (wrongM_right hw).2.2.2.2.2.2
    rw [enL_right hw] at s3 n3 ⊢
    rw [hw]
    have S3 := hide s3; have HW := hide hw
    clear o3 s3 n3 k3 K2 S2 N2 hw
    go_wp2_with fail
    refine (burst_any a3 (12 + 8 * len) l3 (enS K F R len f) at_ mask _ (unhide RM) (enS_lt K F R len f) (by omega) (unhide S3)).mono ?_
    rintro e w4 ⟨v4, h, rfl, o4, hh, hd, k4⟩
    obtain ⟨a4, l4, rfl, s4, n4⟩ := owns_sr o4
    have S4 := hide s4; have N4 := hide n4; have HH := hide hh; have K4 := hide (show Below w.heap.size w w4 from (unhide K3).trans (k4.mono (unhide K3).size))
    have NO := hide (show ¬ opG h (12 + 8 * len) by
      have e : 12 + 8 * len = (8 + 8 * len) + 4 := by omega
      rw [e]
      refine dc_turned (enF_lt K F R len f) hh ?_
      have h2 := hd (by omega)
      rw [e] at h2
      exact h2)
    clear o4 s4 n4 hh hd k4 K3 S3
    go_wp2_with fail
    refine (unhide HD a4 (12 + 8 * len) l4 h _ (unhide HH) (by omega) (unhide N4) (unhide S4)).mono ?_
    rintro e w5 ⟨E, v5, dE, rfl, o5, k5⟩
    have h0 : E ≠ 0 := fun e0 => by
      subst e0
      exact unhide NO (dcE_right dE).2.2.2.1
    obtain ⟨a5, l5, rfl, _, _⟩ := owns_sr o5
    have z : ∀ x : Nat, dN E x = 0 := fun x => by unfold dN; rw [if_neg h0]
    rw [z, z, z, z]
    have tx : (E != 0) = true := by simp [h0]
    obtain ⟨w6, e6, m6, k6, s6⟩ := mg_alloc w5 0 0 0 (.slice a5 0 l5)
    have K6 := hide (show Below w.heap.size w w6 from ((unhide K4).trans (k5.mono (unhide K4).size)).trans (k6.mono (Nat.le_trans (unhide K4).size k5.size))); have M6 := hide m6; have E6 := hide e6
    clear dE o5 k5 h0 z e6 m6 k6 s6 K4 S4 N4
    unfold msV
    go_wp2_with fail
    rw [← unhide E6]
    go_wp2_with fail
    refine (tells_ok (unhide HE) (unhide HD) _).mono ?_
    rintro e w7 ⟨rfl, k7⟩
    have m7 := (unhide M6).below k7
    have c0 := m7.cell0; have c1 := m7.cell1; have c2 := m7.cell2; have c3 := m7.cell3
    have K7 := hide (show Below w.heap.size w w7 from (unhide K6).trans (k7.mono (unhide K6).size))
    clear k7 m7 K6 M6
    go_wp2_with fail
    refine (sameMsgK_ok 0 0 0 a5 none 0 l5 0 (fun _ => 0) (fun _ => 0) _ (by omega) (fun h => absurd h (by omega)) (fun h => absurd h (by omega)) (fun _ _ => rfl)).mono ?_
    rintro e w8 ⟨rfl, k8⟩
    have K8 := hide (show Below w.heap.size w w8 from (unhide K7).trans (k8.mono (unhide K7).size))
    clear k8 c0 c1 c2 c3
    go_wp2_with fail
    go_ret
    exact ⟨rfl, unhide K8⟩
  · rw [enL_wrong hw]
    obtain ⟨x, ex⟩ : ∃ x, wrongM K F R len = x := ⟨_, rfl⟩
    rw [ex] at hw ⊢
    have tx : (x != 0) = true := by simp [hw]
    clear o3 s3 n3 k3 K2 S2 N2 ex
    go_wp2_with fail
    refine (tells_ok (unhide HE) (unhide HD) _).mono ?_
    rintro e w6 ⟨rfl, k6⟩
    have K6 := hide (show Below w.heap.size w w6 from (unhide K3).trans (k6.mono (unhide K3).size))
    clear k6
    go_wp2_with fail
    go_ret
    exact ⟨rfl, unhide K6⟩

end Go.Proofs.Ytnbpkidjojgghaa
