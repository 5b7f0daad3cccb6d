/- Contracts of the statements' packages: message, same, sameMessage; SameInts, SameMessage of the reference. -/
import Derived.Test.YtnbpkidjojgghaaNear6
import Derived.Test.YtnbpkidjojgghaaWireOK
namespace Go.Proofs.Ytnbpkidjojgghaa
open Go.RowKit

/-- Two messages' variables. -/
theorem mg_pair (w : World) (K F R : Int) (u v : Value) : ∃ w1, w1 = (w.alloc (.cells #[.int .i64 K, .int .i64 F, .int .i64 R, u] 24)).alloc (.cells #[.int .i64 K, .int .i64 F, .int .i64 R, v] 24) ∧
    MgAt w1 w.heap.size K F R u ∧ MgAt w1 (w.heap.size + 1) K F R v ∧ Below w.heap.size w w1 ∧ w1.heap.size = w.heap.size + 1 + 1 := by
  refine ⟨_, rfl, (MgAt.new w K F R u).below (al_below _ _), ?_, ?_, ?_⟩
  · have h := MgAt.new (w.alloc (.cells #[.int .i64 K, .int .i64 F, .int .i64 R, u] 24)) K F R v
    rw [al_size] at h
    exact h
  · exact ((Below.refl _ _).alloc (Nat.le_refl _) _).alloc (by rw [al_size]; omega) _
  · rw [al_size, al_size]

set_option maxHeartbeats 1000000 in
theorem sameInts_ok (ao bo : Option Addr) (l ca cb : Nat) (f g : Nat → Int) (w : World) (hl : l ≤ 1000) (ha : Rd w ao l (iF f)) (hb : Rd w bo l (iF g)) (he : ∀ i, i < l → f i = g i) :
    Calls Try.prog 38 #[.slice ao l ca, .slice bo l cb] w fun e w' => e = .returned (.bool true) ∧ Below w.heap.size w w' := by
  have tl : ((l : Int) != (l : Int)) = false := by simp
  have HA := hide ha; have HB := hide hb; have HE := hide he
  clear ha hb he
  go_enter Try.func38, Try.ntmps38
  go_wp2_with fail
  go_loopw [5, 13] (fun _ is wr => ∃ i : Nat, is = .int .i64 i ∧ i ≤ l ∧ Below w.heap.size w wr)
    (fun _ is _ => l - (intOf is).toNat)
  case atStart => exact ⟨0, rfl, Nat.zero_le _, Below.refl _ _⟩
  case round =>
    obtain ⟨i, rfl, hi, hK⟩ := hrel
    by_cases hin : i < l
    · obtain ⟨b, o, rfl, hc⟩ := unhide HA (by omega)
      obtain ⟨b2, o2, rfl, hc2⟩ := unhide HB (by omega)
      have c1 : (_ : World).cell? ⟨b, o + i, none⟩ = some (.int .i64 (f i)) := at_below (hc i hin) hK
      have c2 : (_ : World).cell? ⟨b2, o2 + i, none⟩ = some (.int .i64 (g i)) := at_below (hc2 i hin) hK
      rw [unhide HE i hin] at c1
      have tg : ((g i) != (g i)) = false := by simp
      have HK := hide hK
      clear hK hc hc2
      go_wp2_with fail
      go_region
      go_wp2_with fail
      go_roundw
      case rel => exact ⟨i + 1, by go_num, by omega, below_drew (unhide HK)⟩
      case measure => simp [intOf] <;> omega
    · have hin2 : i = l := by omega
      subst hin2
      have HK := hide hK
      clear hK
      go_wp2_with fail
      go_ret
      exact ⟨rfl, unhide HK⟩

set_option maxHeartbeats 1000000 in
theorem same_ok (ao bo : Option Addr) (l ca cb : Nat) (f g : Nat → Int) (w : World) (hl : l ≤ 1000) (ha : Rd w ao l (iF f)) (hb : Rd w bo l (iF g)) (he : ∀ i, i < l → f i = g i) :
    Calls Try.prog 39 #[.slice ao l ca, .slice bo l cb] w fun e w' => e = .returned (.bool true) ∧ Below w.heap.size w w' := by
  have tl : ((l : Int) != (l : Int)) = false := by simp
  have HA := hide ha; have HB := hide hb; have HE := hide he
  clear ha hb he
  go_enter Try.func39, Try.ntmps39
  go_wp2_with fail
  go_loopw [5] (fun is wr => ∃ i : Nat, is = .int .i64 i ∧ i ≤ l ∧ Below w.heap.size w wr)
    (fun is _ => l - (intOf is).toNat)
  case atStart => exact ⟨0, rfl, Nat.zero_le _, Below.refl _ _⟩
  case round =>
    obtain ⟨i, rfl, hi, hK⟩ := hrel
    by_cases hin : i < l
    · obtain ⟨b, o, rfl, hc⟩ := unhide HA (by omega)
      obtain ⟨b2, o2, rfl, hc2⟩ := unhide HB (by omega)
      have c1 : (_ : World).cell? ⟨b, o + i, none⟩ = some (.int .i64 (f i)) := at_below (hc i hin) hK
      have c2 : (_ : World).cell? ⟨b2, o2 + i, none⟩ = some (.int .i64 (g i)) := at_below (hc2 i hin) hK
      rw [unhide HE i hin] at c1
      have tg : ((g i) != (g i)) = false := by simp
      have HK := hide hK
      clear hK hc hc2
      go_wp2_with fail
      go_region
      go_wp2_with fail
      go_roundw
      case rel => exact ⟨i + 1, by go_num, by omega, below_drew (unhide HK)⟩
      case measure => simp [intOf] <;> omega
    · have hin2 : i = l := by omega
      subst hin2
      have HK := hide hK
      clear hK
      go_wp2_with fail
      go_ret
      exact ⟨rfl, unhide HK⟩

set_option maxHeartbeats 1000000 in
theorem sameMsgL_ok (K F R : Int) (ao bo : Option Addr) (l ca cb : Nat) (f g : Nat → Int) (w : World) (hl : l ≤ 1000) (ha : Rd w ao l (iF f)) (hb : Rd w bo l (iF g)) (he : ∀ i, i < l → f i = g i) :
    Calls Try.prog 15 #[msV K F R (.slice ao l ca), msV K F R (.slice bo l cb)] w fun e w' => e = .returned (.bool true) ∧ Below w.heap.size w w' := by
  obtain ⟨w1, e1, mA, mB, k1, s1⟩ := mg_pair w K F R (.slice ao l ca) (.slice bo l cb)
  have a0 := mA.cell0; have a1 := mA.cell1; have a2 := mA.cell2; have a3 := mA.cell3
  have b0 := mB.cell0; have b1 := mB.cell1; have b2 := mB.cell2; have b3 := mB.cell3
  have tK : (K == K) = true := by simp
  have tF : (F == F) = true := by simp
  have tR : (R == R) = true := by simp
  have E1 := hide e1; have K1 := hide k1; have HA := hide (ha.below k1); have HB := hide (hb.below k1); have HE := hide he
  clear e1 mA mB k1 s1 ha hb he
  unfold msV
  go_enter Try.func15, Try.ntmps15
  go_wp2_with fail
  rw [← unhide E1]
  go_wp2_with fail
  refine (sameInts_ok ao bo l ca cb f g _ hl (unhide HA) (unhide HB) (unhide HE)).mono ?_
  rintro e w2 ⟨rfl, k2⟩
  have K2 := hide (show Below w.heap.size w w2 from (unhide K1).trans (k2.mono (unhide K1).size))
  clear k2
  go_wp2_with fail
  go_ret
  exact ⟨rfl, unhide K2⟩

set_option maxHeartbeats 1000000 in
theorem sameMsgK_ok (K F R : Int) (ao bo : Option Addr) (l ca cb : Nat) (f g : Nat → Int) (w : World) (hl : l ≤ 1000) (ha : Rd w ao l (iF f)) (hb : Rd w bo l (iF g)) (he : ∀ i, i < l → f i = g i) :
    Calls Try.prog 18 #[msV K F R (.slice ao l ca), msV K F R (.slice bo l cb)] w fun e w' => e = .returned (.bool true) ∧ Below w.heap.size w w' := by
  obtain ⟨w1, e1, mA, mB, k1, s1⟩ := mg_pair w K F R (.slice ao l ca) (.slice bo l cb)
  have a0 := mA.cell0; have a1 := mA.cell1; have a2 := mA.cell2; have a3 := mA.cell3
  have b0 := mB.cell0; have b1 := mB.cell1; have b2 := mB.cell2; have b3 := mB.cell3
  have tK : (K == K) = true := by simp
  have tF : (F == F) = true := by simp
  have tR : (R == R) = true := by simp
  have E1 := hide e1; have K1 := hide k1; have HA := hide (ha.below k1); have HB := hide (hb.below k1); have HE := hide he
  clear e1 mA mB k1 s1 ha hb he
  unfold msV
  go_enter Try.func18, Try.ntmps18
  go_wp2_with fail
  rw [← unhide E1]
  go_wp2_with fail
  refine (same_ok ao bo l ca cb f g _ hl (unhide HA) (unhide HB) (unhide HE)).mono ?_
  rintro e w2 ⟨rfl, k2⟩
  have K2 := hide (show Below w.heap.size w w2 from (unhide K1).trans (k2.mono (unhide K1).size))
  clear k2
  go_wp2_with fail
  go_ret
  exact ⟨rfl, unhide K2⟩

end Go.Proofs.Ytnbpkidjojgghaa
