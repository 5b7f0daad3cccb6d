/- Contracts of the reference: SameVerdict of two alike. -/
import Derived.Test.YtkikikapnaoijaaVotOK
namespace Go.Proofs.Ytkikikapnaoijaa
open Go.RowKit

/-- Two verdicts' variables. -/
theorem vd_pair (w : World) (X : Int) (S : Bool) (u v : Value) : ∃ w1, w1 = (w.alloc (.cells #[.int .i64 X, .bool S, u] 26)).alloc (.cells #[.int .i64 X, .bool S, v] 26) ∧
    VdAt w1 w.heap.size X S u ∧ VdAt w1 (w.heap.size + 1) X S v ∧ Below w.heap.size w w1 ∧ w1.heap.size = w.heap.size + 1 + 1 := by
  refine ⟨_, rfl, (VdAt.new w X S u).below (al_below _ _), ?_, ?_, ?_⟩
  · have h := VdAt.new (w.alloc (.cells #[.int .i64 X, .bool S, u] 26)) X S v
    rw [al_size] at h
    exact h
  · exact ((Below.refl _ _).alloc (Nat.le_refl _) _).alloc (by rw [al_size]; omega) _
  · rw [al_size, al_size]

set_option maxHeartbeats 1000000 in
theorem sameVerdict_ok (X : Int) (S : Bool) (ao bo : Option Addr) (l ca cb : Nat) (f g : Nat → Bool) (w : World) (hl : l ≤ 4611686018427387904) (ha : Rd w ao l (tF f)) (hb : Rd w bo l (tF g)) (he : ∀ i, i < l → f i = g i) :
    Calls Try.prog 7 #[vdV X S (.slice ao l ca), vdV X S (.slice bo l cb)] w fun e w' => e = .returned (.bool true) ∧ Below w.heap.size w w' := by
  obtain ⟨w1, e1, mA, mB, k1, s1⟩ := vd_pair w X S (.slice ao l ca) (.slice bo l cb)
  have a0 := mA.cell0; have a1 := mA.cell1; have a2 := mA.cell2
  have b0 := mB.cell0; have b1 := mB.cell1; have b2 := mB.cell2
  have tX : (X != X) = false := by simp
  have tS : (S != S) = false := by simp
  have tl : ((l : Int) != (l : Int)) = false := by simp
  have E1 := hide e1; have K1 := hide k1; have HA := hide (ha.below k1); have HB := hide (hb.below k1); have HE := hide he; have MA := hide mA; have MB := hide mB
  clear e1 mA mB k1 s1 ha hb he
  unfold vdV
  go_enter Try.func7, Try.ntmps7
  go_wp2_with fail
  rw [← unhide E1]
  go_wp2_with fail
  go_loopw [5, 30] (fun _ is wr => ∃ i : Nat, is = .int .i64 i ∧ i ≤ l ∧ Below w1.heap.size w1 wr)
    (fun _ is _ => l - (intOf is).toNat)
  case atStart => exact ⟨0, rfl, Nat.zero_le _, Below.refl _ _⟩
  case round =>
    obtain ⟨i, rfl, hi, hK⟩ := hrel
    rename World => wr
    clear a0 a1 a2 b0 b1 b2
    have a2 := ((unhide MA).below hK).cell2; have b2 := ((unhide MB).below hK).cell2
    by_cases hin : i < l
    · obtain ⟨b, o, rfl, hc⟩ := unhide HA (by omega)
      obtain ⟨p2, o2, rfl, hc2⟩ := unhide HB (by omega)
      have c1 : wr.cell? ⟨b, o + i, none⟩ = some (.bool (f i)) := at_below (hc i hin) hK
      have c2 : wr.cell? ⟨p2, o2 + i, none⟩ = some (.bool (g i)) := at_below (hc2 i hin) hK
      rw [unhide HE i hin] at c1
      have tg : ((g i) != (g i)) = false := by simp
      have HK := hide hK
      clear hK hc hc2
      go_wp2_with fail
      go_region
      go_wp2_with fail
      go_roundw
      case rel => exact ⟨i + 1, by go_num, by omega, below_drew (unhide HK)⟩
      case measure => simp [intOf] <;> omega
    · have hin2 : i = l := by omega
      subst hin2
      have HK := hide hK
      clear hK
      go_wp2_with fail
      go_ret
      exact ⟨rfl, (unhide K1).trans ((unhide HK).mono (unhide K1).size)⟩

end Go.Proofs.Ytkikikapnaoijaa
