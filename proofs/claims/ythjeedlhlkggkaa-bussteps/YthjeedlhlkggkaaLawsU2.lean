/- The walk of BusSteps, whatever the bus is made of. -/
import Derived.Test.YthjeedlhlkggkaaLawsU1
namespace Go.Proofs.Ythjeedlhlkggkaa
open Go.RowKit

theorem step_zero : stepS zeroBs 3 = ⟨3, 0, []⟩ ∧ comeS zeroBs 3 = [] ∧ stepE 0 3 = 0 := by
  have h : stepE 0 3 = 0 := by decide
  refine ⟨?_, ?_, h⟩
  · unfold stepS zeroBs; rw [if_pos (by exact h)]; rfl
  · unfold comeS zeroBs; rw [if_pos (by exact h)]; rfl

set_option maxHeartbeats 2000000 in
theorem busSteps_by (hS : SpOK' 14) (b : Bs) (ao : Option Addr) (cap : Nat) (L : List Lp) (t : Int) {w : World} (hb : BsOK b) (ht : These L b.q) (hr : BRd w ao cap L) (rt : R64 t) :
    Calls Try.prog 4 #[busV b.now b.ser (.slice ao L.length cap), .int .i64 t] w fun e w' => e = .returned (.bool true) ∧ Below w.heap.size w w' := by
  obtain ⟨w1, e1, m1, k1, s1⟩ := bu_alloc w b.now b.ser (.slice ao L.length cap)
  have x0 := m1.cell0; have x1 := m1.cell1; have x2 := m1.cell2
  have C := copyBus_any b ao cap L w1 hb ht (hr.below k1)
  obtain ⟨Y, eY⟩ : ∃ Y, Y = stepS b t := ⟨_, rfl⟩
  obtain ⟨Z, eZ⟩ : ∃ Z, Z = comeS b t := ⟨_, rfl⟩
  obtain ⟨E, eE⟩ : ∃ E : Nat, E = stepE b.now t := ⟨_, rfl⟩
  have hY : BsOK Y := by rw [eY]; exact stepS_ok hb rt
  have hZ : Z.length ≤ 2513169434843 := by rw [eZ]; exact (comeS_ok hb).2
  have E1 := hide e1; have M1 := hide m1; have K1 := hide k1; have HB := hide hb; have HT := hide ht; have HR := hide (hr.below k1); have EY := hide eY; have EZ := hide eZ; have EE := hide eE; have HY := hide hY
  rw [e1] at x0 x1 x2
  clear e1 m1 k1 s1 hb ht hr eY eE eZ hY
  unfold busV at C ⊢
  go_enter Try.func4, Try.ntmps4
  go_wp2_with fail
  rw [← unhide E1]
  refine C.mono ?_
  rintro e w2 ⟨v, M, rfl, tM, oM, k2⟩
  obtain ⟨va, vc, rfl, hvc⟩ := oM.slice
  have CS := hS b va vc M t w2 (unhide HB) tM oM.new.1 rt
  unfold busV at CS
  have J3 := hide k2
  clear tM oM k2 hvc C x0 x1 x2
  go_wp2_with fail
  refine CS.mono ?_
  rintro e w4 ⟨a4, c4, L4, p4, d4, P4, rfl, t4, n4, r4, o4, k4⟩
  rw [← unhide EY] at t4 ⊢
  rw [← unhide EE]
  rw [← unhide EZ] at r4
  obtain ⟨w5, e5, m5, k5, s5⟩ := bu_alloc w4 Y.now Y.ser (.slice a4 L4.length c4)
  have E5 := hide e5
  have J5 := hide (show Below w1.heap.size w1 w5 from (unhide J3).trans ((k4.mono (unhide J3).size).trans (k5.mono (Nat.le_trans (unhide J3).size k4.size))))
  have B5 := hide (n4.1.below k5); have M5 := hide m5; have T4 := hide t4; have Q5 := hide (o4.1.below k5); have R4 := hide r4
  have y0 := ((unhide M1).below (unhide J5)).cell0; have y1 := ((unhide M1).below (unhide J5)).cell1; have y2 := ((unhide M1).below (unhide J5)).cell2
  have CR := refBusStep_ok b ao cap L t w5 (unhide HB) (unhide HT) ((unhide HR).below (unhide J5)) rt
  rw [← unhide EY, ← unhide EE, ← unhide EZ] at CR
  unfold busV at CR
  rw [e5] at y0 y1 y2
  clear CS t4 n4 k4 e5 m5 k5 s5 J3 r4 o4
  go_wp2_with fail
  rw [← unhide E5]
  refine CR.mono ?_
  rintro e w6 ⟨a6, c6, L6, p6, d6, P6, rfl, t6, n6, r6, o6, k6⟩
  obtain ⟨w7, e7, m7, k7, s7⟩ := bu_alloc w6 Y.now Y.ser (.slice a6 L6.length c6)
  have E7 := hide e7; have M7 := hide m7; have T6 := hide t6; have R6 := hide r6
  have J7 := hide (show Below w5.heap.size w5 w7 from k6.trans (k7.mono k6.size))
  have B7 := hide (n6.1.below k7); have Q7 := hide (o6.1.below k7)
  have CZ := hS zeroBs none 0 [] 3 w7 zeroBs_ok rfl (BRd.nil _ _ _) (by unfold R64; omega)
  rw [step_zero.1, step_zero.2.1] at CZ
  unfold busV zeroBs at CZ
  dsimp only at CZ
  rw [show ([] : List Lp).length = 0 from rfl, step_zero.2.2] at CZ
  clear CR t6 n6 k6 e7 m7 k7 s7 y0 y1 y2 r6 o6
  go_wp2_with fail
  rw [← unhide E7]
  refine CZ.mono ?_
  rintro e w8 ⟨a8, c8, L8, p8, d8, P8, rfl, t8, n8, r8, o8, k8⟩
  obtain ⟨w9, e9, m9, k9, s9⟩ := bu_alloc w8 3 0 (.slice a8 L8.length c8)
  have E9 := hide e9
  have J9 := show Below w7.heap.size w7 w9 from k8.trans (k9.mono k8.size)
  have z0 := ((unhide M7).below J9).cell0; have z1 := ((unhide M7).below J9).cell1; have z2 := ((unhide M7).below J9).cell2
  have m5' := ((unhide M5).below (unhide J7)).below J9
  have x0 := m5'.cell0; have x1 := m5'.cell1; have x2 := m5'.cell2
  have CB := sameBus_any Y a4 c4 L4 a6 c6 L6 w9 (unhide HY) (unhide T4) (unhide T6) (((unhide B5).below (unhide J7)).below J9) ((unhide B7).below J9)
  unfold busV at CB
  have J59 : Below w5.heap.size w5 w9 := (unhide J7).trans (J9.mono (unhide J7).size)
  have J19 := (unhide J5).trans (J59.mono (unhide J5).size)
  have K9 := hide (show Below w.heap.size w w9 from (unhide K1).trans (J19.mono (unhide K1).size))
  have M9 := hide m9
  have Q9 := hide (((unhide Q5).below (unhide J7)).below J9); have S9 := hide ((unhide Q7).below J9)
  rw [e9] at z0 z1 z2 x0 x1 x2
  clear CZ t8 n8 k8 e9 m9 k9 s9 J9 m5' J59 J19 r8 o8
  go_wp2_with fail
  rw [← unhide E9]
  refine CB.mono ?_
  rintro e wa ⟨rfl, ka⟩
  have CP := sameParcels_any Z p4 d4 P4 p6 d6 P6 wa hZ (unhide R4) (unhide R6) ((unhide Q9).below ka) ((unhide S9).below ka)
  have MA := hide ((unhide M9).below ka)
  have KA := hide ((unhide K9).trans (ka.mono (unhide K9).size))
  clear CB ka z0 z1 z2 x0 x1 x2
  go_wp2_with fail
  refine CP.mono ?_
  rintro e wb ⟨rfl, kb⟩
  have v0 := ((unhide MA).below kb).cell0
  have KB := hide ((unhide KA).trans (kb.mono (unhide KA).size))
  clear CP kb
  go_wp2_with fail
  go_ret
  exact ⟨rfl, unhide KB⟩

end Go.Proofs.Ythjeedlhlkggkaa
