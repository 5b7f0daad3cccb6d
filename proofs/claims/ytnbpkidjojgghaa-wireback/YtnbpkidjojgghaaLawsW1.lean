/- The walks of WireEncodes and WireDecodes, whatever Encode and Decode are made of. -/
import Derived.Test.YtnbpkidjojgghaaRefDec2
import Derived.Test.YtnbpkidjojgghaaMsgSame
import Derived.Test.YtnbpkidjojgghaaMsgCopy
import Derived.Test.YtnbpkidjojgghaaWireTell
import Derived.Test.YtnbpkidjojgghaaSumBytes
import Derived.Test.YtnbpkidjojgghaaNear5
import Derived.Test.YtnbpkidjojgghaaOpenByte
namespace Go.Proofs.Ytnbpkidjojgghaa
open Go.RowKit

theorem one_wrong : wrongM 1 0 0 0 = 0 := by decide

set_option maxHeartbeats 2000000 in
theorem wireEncodes_by (hE : EnOK 9) {w : World} (K F R : Int) (ao : Option Addr) (len cap : Nat) (f : Nat → Int) (rK : R64 K) (rF : R64 F) (rR : R64 R) (ar : ArgS w ao len cap f) (rc : len ≤ cap) :
    Calls Try.prog 3 #[msV K F R (.slice ao len cap)] w fun e w' => e = .returned (.bool true) ∧ Below w.heap.size w w' := by
  obtain ⟨hs, hl, hf⟩ := ar
  obtain ⟨w1, e1, m1, k1, s1⟩ := mg_alloc w K F R (.slice ao len cap)
  have hs1 : Sr w1 ao len cap (iF f) := Sr.below hs k1
  have c0 := m1.cell0; have c1 := m1.cell1; have c2 := m1.cell2; have c3 := m1.cell3
  have E1 := hide e1; have M1 := hide m1; have K1 := hide k1; have HS := hide hs1; have HF := hide hf; have HE := hide hE; have RK := hide rK; have RF := hide rF; have RR := hide rR
  clear e1 m1 k1 s1 hs hs1 hf hE rK rF rR
  unfold msV
  go_enter Try.func3, Try.ntmps3
  go_wp2_with fail
  rw [← unhide E1]
  go_wp2_with fail
  refine (messageL_ok K F R ao len cap f _ hl (unhide HS)).mono ?_
  rintro e w2 ⟨v2, rfl, o2, k2⟩
  obtain ⟨a2, l2, rfl, s2, n2⟩ := owns_sr o2
  have S2 := hide s2; have N2 := hide n2; have K2 := hide (show Below w.heap.size w w2 from (unhide K1).trans (k2.mono (unhide K1).size)); have M2 := hide ((unhide M1).below k2); have H2 := hide ((unhide HS).below k2)
  clear o2 s2 n2 k2 c0 c1 c2 c3 K1 M1 HS
  unfold msV
  go_wp2_with fail
  refine (unhide HE K F R a2 len l2 f _ (unhide RK) (unhide RF) (unhide RR) (unhide HF) hl (unhide N2) (unhide S2)).mono ?_
  rintro e w3 ⟨v3, rfl, o3, k3⟩
  obtain ⟨a3, l3, rfl, s3, n3⟩ := owns_sr o3
  have m3 := (unhide M2).below k3
  have c0 := m3.cell0; have c1 := m3.cell1; have c2 := m3.cell2; have c3 := m3.cell3
  have S3 := hide s3; have K3 := hide (show Below w.heap.size w w3 from (unhide K2).trans (k3.mono (unhide K2).size)); have H3 := hide ((unhide H2).below k3)
  clear o3 s3 n3 k3 m3 K2 M2 H2 S2 N2
  go_wp2_with fail
  refine (refEncode_ok K F R ao len cap f _ (unhide RK) (unhide RF) (unhide RR) (unhide HF) hl rc (unhide H3)).mono ?_
  rintro e w4 ⟨v4, rfl, o4, k4⟩
  obtain ⟨a4, l4, rfl, s4, n4⟩ := owns_sr o4
  have S4 := hide s4; have Q4 := hide ((unhide S3).below k4); have K4 := hide (show Below w.heap.size w w4 from (unhide K3).trans (k4.mono (unhide K3).size))
  clear o4 s4 n4 k4 K3 S3 H3 c0 c1 c2 c3
  go_wp2_with fail
  refine (en_at (unhide HE) (f := fun _ => 0) one_wrong (fun _ => R64_nought) none 0 _ (by omega) (Or.inl ⟨rfl, rfl, rfl⟩)).mono ?_
  rintro e w5 ⟨a5, l5, rfl, _, _, _, k5⟩
  obtain ⟨L, eL⟩ : ∃ L, enL K F R len = L := ⟨_, rfl⟩
  obtain ⟨x, ex⟩ : ∃ x, wrongM K F R len = x := ⟨_, rfl⟩
  obtain ⟨T, eT⟩ : ∃ T, sB (enS K F R len f) L = T := ⟨_, rfl⟩
  have S4' := (unhide S4).below k5; have Q4' := (unhide Q4).below k5
  rw [eL] at S4' Q4'
  have cv1 := run_convB w5 a3 L l3 _ Q4'.rd
  have cv2 := run_convB w5 a4 L l4 _ S4'.rd
  rw [eT] at cv1 cv2
  rw [eL, ex]
  have tx : (x == x) = true := by simp
  have K5 := hide (show Below w.heap.size w w5 from (unhide K4).trans (k5.mono (unhide K4).size))
  clear k5 S4' Q4' eL ex eT S4 Q4 K4
  go_wp2_with fail
  go_ret
  exact ⟨rfl, unhide K5⟩

set_option maxHeartbeats 2000000 in
theorem wireDecodes_by (hD : DcOK 12) {w : World} (ao : Option Addr) (len cap : Nat) (g : Nat → Nat) (ha : ArgB w ao len cap g) :
    Calls Try.prog 4 #[.slice ao len cap] w fun e w' => e = .returned (.bool true) ∧ Below w.heap.size w w' := by
  obtain ⟨hr, hl, hg, hc⟩ := ha
  have HR := hide hr; have HG := hide hg; have HC := hide hc; have HD := hide hD
  clear hr hg hc hD
  go_enter Try.func4, Try.ntmps4
  go_wp2_with fail
  refine (bytesL_any ao len cap (bF g) _ (by omega) (bF_one g) (unhide HR)).mono ?_
  rintro e w1 ⟨v, rfl, o1, k1⟩
  obtain ⟨a1, c1, rfl, r1, n1⟩ := owns_sr o1
  have R1 := hide r1; have N1 := hide n1; have K1 := hide k1
  clear o1 r1 n1 k1
  go_wp2_with fail
  refine (unhide HD a1 len c1 g _ (unhide HG) hl (unhide N1) (unhide R1)).mono ?_
  rintro e w2 ⟨E, v2, hE, rfl, o2, k2⟩
  obtain ⟨a2, c2, rfl, s2, n2⟩ := owns_sr o2
  have h7 := unhide HG 7
  obtain ⟨X, eX⟩ : ∃ X : Nat, dN E (g 1) = X := ⟨_, rfl⟩
  obtain ⟨Y, eY⟩ : ∃ Y : Nat, dN E (g 2) = Y := ⟨_, rfl⟩
  obtain ⟨Z, eZ⟩ : ∃ Z : Nat, dN E (dR g) = Z := ⟨_, rfl⟩
  obtain ⟨n, en⟩ : ∃ n : Nat, dN E (g 7) = n := ⟨_, rfl⟩
  have hn : n ≤ 1000 := by rw [← en]; unfold dN; split <;> omega
  rw [eX, eY, eZ, en]
  rw [en] at s2
  obtain ⟨w3, e3, m3, k3, s3⟩ := mg_alloc w2 (X : Int) (Y : Int) (Z : Int) (.slice a2 n c2)
  have K2 := hide (show Below w.heap.size w w2 from (unhide K1).trans (k2.mono (unhide K1).size))
  have K3 := hide (show Below w.heap.size w w3 from (unhide K2).trans (k3.mono (unhide K2).size))
  have S3 := hide (s2.below k3); have M3 := hide m3; have E3 := hide e3; have EX := hide eX; have EY := hide eY; have EZ := hide eZ; have EN := hide en; have EE := hide hE; have H3 := hide ((unhide HR).below (unhide K3))
  clear hE o2 k2 s2 n2 e3 m3 k3 s3 eX eY eZ en h7 R1 N1 K1 K2
  unfold msV
  go_wp2_with fail
  rw [← unhide E3]
  go_wp2_with fail
  refine (refDecode_ok ao len cap g _ (unhide HG) hl (unhide HC) (unhide H3)).mono ?_
  rintro e w4 ⟨E', v4, hE', rfl, o4, k4⟩
  have e0 : E' = E := dcE_one hE' (unhide EE)
  subst e0
  rw [unhide EX, unhide EY, unhide EZ]
  rw [unhide EN] at o4
  obtain ⟨a4, c4, rfl, s4, n4⟩ := owns_sr o4
  obtain ⟨w5, e5, m5, k5, s5⟩ := mg_alloc w4 (X : Int) (Y : Int) (Z : Int) (.slice a4 n c4)
  have K4 := hide (show Below w.heap.size w w4 from (unhide K3).trans (k4.mono (unhide K3).size))
  have K5 := hide (show Below w.heap.size w w5 from (unhide K4).trans (k5.mono (unhide K4).size))
  have m3 := ((unhide M3).below k4).below k5
  have b0 := m3.cell0; have b1 := m3.cell1; have b2 := m3.cell2; have b3 := m3.cell3
  have d0 := m5.cell0; have d1 := m5.cell1; have d2 := m5.cell2; have d3 := m5.cell3
  rw [e5] at b0 b1 b2 b3 d0 d1 d2 d3
  have S5 := hide (s4.below k5); have Q5 := hide (((unhide S3).below k4).below k5); have E5 := hide e5
  have tE : (E' == E') = true := by simp
  clear hE' o4 s4 n4 e5 m5 k5 s5 k4 m3 K3 K4 S3 M3 H3
  unfold msV
  go_wp2_with fail
  rw [← unhide E5]
  refine (sameMsgL_ok (X : Int) (Y : Int) (Z : Int) a2 a4 n c2 c4 (dV g) (dV g) _ hn (unhide Q5).rd (unhide S5).rd (fun _ _ => rfl)).mono ?_
  rintro e w6 ⟨rfl, k6⟩
  have K6 := hide (show Below w.heap.size w w6 from (unhide K5).trans (k6.mono (unhide K5).size))
  clear k6 b0 b1 b2 b3 d0 d1 d2 d3
  go_wp2_with fail
  go_ret
  exact ⟨rfl, unhide K6⟩

end Go.Proofs.Ytnbpkidjojgghaa
