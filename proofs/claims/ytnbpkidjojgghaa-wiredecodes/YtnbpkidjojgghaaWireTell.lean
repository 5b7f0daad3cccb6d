/- Contracts of the statements' packages: tells, whatever Encode and Decode are made of. -/
import Derived.Test.YtnbpkidjojgghaaNear6
import Derived.Test.YtnbpkidjojgghaaWireOK
namespace Go.Proofs.Ytnbpkidjojgghaa
open Go.RowKit

theorem tells_wrong : wrongM 3 3 7 1 = 0 := by decide
/-- What Decode is held to, at bytes that a right message was encoded as. -/
theorem dc_at {fn : Nat} (hD : DcOK fn) {K F R : Int} {n : Nat} {f : Nat → Int} (h : wrongM K F R n = 0) (hf : ∀ i, R64 (f i)) (ao : Option Addr) (cap : Nat) (w : World) (hc : 12 + 8 * n ≤ cap) (hs : Sr w ao (12 + 8 * n) cap (bF (enS K F R n f))) :
    Calls Try.prog fn #[.slice ao (12 + 8 * n) cap] w fun e w' => ∃ (bo : Option Addr) (bc : Nat), e = .returned (.tuple #[msV K F R (.slice bo n bc), .int .i64 0]) ∧ w'.ownsRow w.heap.size 3 1 (.slice bo n bc) n (rowV (iF f) n) ∧ Below w.heap.size w w' := by
  have hn := (wrongM_right h).2.2.2.2.2.2
  refine (hD ao (12 + 8 * n) cap (enS K F R n f) w (enS_lt K F R n f) (by omega) hc hs).mono ?_
  rintro e w' ⟨E, v, hE, rfl, o, k⟩
  have e0 : E = 0 := dcE_one hE (enS_dc h)
  subst e0
  obtain ⟨e1, e2, eR, e7, eV⟩ := enS_back (f := f) h hf
  have d7 : dN 0 (enS K F R n f 7) = n := e7
  rw [d7, rowV_congr (f := iF f) (fun i hi => by unfold iF; rw [eV i hi])] at o
  obtain ⟨bo, bc, rfl⟩ := owns_slice o
  refine ⟨bo, bc, ?_, o, k⟩
  show Ending.returned (.tuple #[msV (enS K F R n f 1 : Nat) (enS K F R n f 2 : Nat) (dR (enS K F R n f) : Nat) (.slice bo n bc), .int .i64 0]) = _
  rw [e1, e2, eR]
/-- What Encode is held to, at a right message. -/
theorem en_at {fn : Nat} (hE : EnOK fn) {K F R : Int} {n : Nat} {f : Nat → Int} (h : wrongM K F R n = 0) (hf : ∀ i, R64 (f i)) (ao : Option Addr) (cap : Nat) (w : World) (hc : n ≤ cap) (hs : Sr w ao n cap (iF f)) :
    Calls Try.prog fn #[msV K F R (.slice ao n cap)] w fun e w' => ∃ (bo : Option Addr) (bc : Nat), e = .returned (.tuple #[.slice bo (12 + 8 * n) bc, .int .i64 0]) ∧ 12 + 8 * n ≤ bc ∧ Sr w' bo (12 + 8 * n) bc (bF (enS K F R n f)) ∧ w'.ownsRow w.heap.size 5 1 (.slice bo (12 + 8 * n) bc) (12 + 8 * n) (rowV (bF (enS K F R n f)) (12 + 8 * n)) ∧ Below w.heap.size w w' := by
  obtain ⟨h1, h2, h3, h4, h5, h6, h7⟩ := wrongM_right h
  refine (hE K F R ao n cap f w (by unfold R64; omega) (by unfold R64; omega) (by unfold R64; omega) hf (by omega) hc hs).mono ?_
  rintro e w' ⟨v, rfl, o, k⟩
  have eL : enL K F R n = 12 + 8 * n := by unfold enL; rw [if_pos h]
  rw [eL] at o
  obtain ⟨bo, bc, rfl, s, c⟩ := owns_sr o
  exact ⟨bo, bc, by rw [h], c, s, o, k⟩

set_option maxHeartbeats 2000000 in
theorem tells_ok (hE : EnOK 9) (hD : DcOK 12) (w : World) :
    Calls Try.prog 17 #[] w fun e w' => e = .returned (.bool true) ∧ Below w.heap.size w w' := by
  have A1 := al_below w (.cells #[.int .i64 (-1)] 3)
  have V1 := Vh.new w 3 #[.int .i64 (-1)] (iF (fun _ => -1)) (by show 1 ≤ maxLen; decide) (fun i hi => by
    have : i = 0 := by simp at hi; omega
    subst this; rfl)
  have S1 := hide (show Sr (w.alloc (.cells #[.int .i64 (-1)] 3)) (some ⟨w.heap.size, 0, none⟩) 1 1 (iF (fun _ => -1)) from Or.inr ⟨_, rfl, fun i hi => by rw [Addr.add_lit, Nat.zero_add]; exact V1.cell hi⟩)
  have K1 := hide A1
  have HE := hide hE; have HD := hide hD
  clear A1 V1 hE hD
  go_enter Try.func17, Try.ntmps17
  go_wp2_with fail
  refine (en_at (unhide HE) (f := fun _ => -1) tells_wrong (fun _ => by unfold R64; omega) (some ⟨w.heap.size, 0, none⟩) 1 _ (by omega) (unhide S1)).mono ?_
  rintro e w2 ⟨bo, bc, rfl, c2, s2, _, k2⟩
  have K2 := hide (show Below w.heap.size w w2 from (unhide K1).trans (k2.mono (unhide K1).size)); have C2 := hide c2; have S2 := hide s2
  clear k2 c2 s2 S1 K1
  go_wp2_with fail
  refine (dc_at (unhide HD) (f := fun _ => -1) tells_wrong (fun _ => by unfold R64; omega) bo bc _ (unhide C2) (unhide S2)).mono ?_
  rintro e w3 ⟨ao, ac, rfl, o3, k3⟩
  obtain ⟨r, c, ev, hr, v3⟩ := Vh.of_owns (by omega) o3
  cases ev
  have K3 := hide (show Below w.heap.size w w3 from (unhide K2).trans (k3.mono (unhide K2).size))
  obtain ⟨w4, e4, m4, k4, s4⟩ := mg_alloc w3 3 3 7 (.slice (some ⟨r, 0, none⟩) 1 ac)
  have v4 := v3.below k4
  have cr : w4.cell? ⟨r, 0, none⟩ = some (.int .i64 (-1)) := v4.cell (show 0 < 1 by omega)
  rw [e4] at cr
  have E4 := hide e4; have K4 := hide (show Below w.heap.size w w4 from (unhide K3).trans (k4.mono (unhide K3).size))
  clear o3 k3 hr v3 e4 m4 k4 s4 v4 K2 C2 S2 K3
  unfold msV
  go_wp2_with fail
  rw [← unhide E4]
  go_ret
  exact ⟨rfl, unhide K4⟩

end Go.Proofs.Ytnbpkidjojgghaa
