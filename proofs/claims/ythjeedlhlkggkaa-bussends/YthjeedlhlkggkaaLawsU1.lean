/- The walks of BusSends, BusSteps and BusTurns, whatever the bus is made of. -/
import Derived.Test.YthjeedlhlkggkaaRefTur
import Derived.Test.YthjeedlhlkggkaaRefBst
namespace Go.Proofs.Ythjeedlhlkggkaa
open Go.RowKit

theorem send_zero : sendS zeroBs 0 1 [] 0 = ⟨0, 1, [⟨0, 1, 0, 0, []⟩]⟩ ∧ sendE 0 0 0 1 0 0 = 0 := by
  have h : sendE 0 0 0 1 0 0 = 0 := by decide
  refine ⟨?_, h⟩
  unfold sendS zeroBs
  rw [if_pos (by exact h)]
  have e : wrapS 0 = 1 := by decide
  simp [e]
theorem sr_nil (w : World) : Sr w none ([] : List Nat).length 0 (bF (gF [])) := Or.inl ⟨rfl, rfl, rfl⟩

set_option maxHeartbeats 2000000 in
theorem busSends_by (hS : SeOK 9) (b : Bs) (ao : Option Addr) (cap : Nat) (L : List Lp) (f t : Int) (bo : Option Addr) (bc : Nat) (ds : List Nat) (d : Int) {w : World} (hb : BsOK b) (ht : These L b.q) (hr : BRd w ao cap L) (rf : R64 f) (rt : R64 t) (hs : Sr w bo ds.length bc (bF (gF ds))) (hbc : ds.length ≤ bc) (h256 : ∀ x, x ∈ ds → x < 256) (hlen : ds.length ≤ 140737488351232) (rd : R64 d) :
    Calls Try.prog 3 #[busV b.now b.ser (.slice ao L.length cap), .int .i64 f, .int .i64 t, .slice bo ds.length bc, .int .i64 d] w fun e w' => e = .returned (.bool true) ∧ Below w.heap.size w w' := by
  obtain ⟨w1, e1, m1, k1, s1⟩ := bu_alloc w b.now b.ser (.slice ao L.length cap)
  have x0 := m1.cell0; have x1 := m1.cell1; have x2 := m1.cell2
  have C := copyBus_any b ao cap L w1 hb ht (hr.below k1)
  obtain ⟨Y, eY⟩ : ∃ Y, Y = sendS b f t ds d := ⟨_, rfl⟩
  obtain ⟨E, eE⟩ : ∃ E : Nat, E = sendE b.now b.q.length f t d ds.length := ⟨_, rfl⟩
  have hY : BsOK Y := by rw [eY]; exact sendS_ok hb h256
  have E1 := hide e1; have M1 := hide m1; have K1 := hide k1; have HB := hide hb; have HT := hide ht; have HR := hide (hr.below k1); have SR := hide (hs.below k1); have EY := hide eY; have EE := hide eE; have HY := hide hY
  rw [e1] at x0 x1 x2
  clear e1 m1 k1 s1 hb ht hr hs eY eE hY
  unfold busV at C ⊢
  go_enter Try.func3, Try.ntmps3
  go_wp2_with fail
  rw [← unhide E1]
  refine C.mono ?_
  rintro e w2 ⟨v, M, rfl, tM, oM, k2⟩
  obtain ⟨va, vc, rfl, hvc⟩ := oM.slice
  clear C x0 x1 x2
  go_wp2_with fail
  refine (lawBytes_any bo ds.length bc (gF ds) w2 ((unhide SR).below k2) hlen).mono ?_
  rintro e w3 ⟨da, dc, rfl, hdc, o3, k3⟩
  have s3 : Sr w3 da ds.length dc (bF (gF ds)) := by obtain ⟨_, _, e, h, _⟩ := owns_sr o3; cases e; exact h
  have CS := hS b va vc M f t d da dc ds w3 (unhide HB) tM ((oM.new).1.below k3) rf rt rd s3 hdc h256 hlen
  unfold busV at CS
  have J3 := hide (show Below w1.heap.size w1 w3 from k2.trans (k3.mono k2.size))
  clear tM oM k2 o3 k3 s3 hvc hdc
  go_wp2_with fail
  refine CS.mono ?_
  rintro e w4 ⟨a4, c4, L4, rfl, t4, n4, k4⟩
  rw [← unhide EY] at t4 ⊢
  rw [← unhide EE]
  obtain ⟨w5, e5, m5, k5, s5⟩ := bu_alloc w4 Y.now Y.ser (.slice a4 L4.length c4)
  have E5 := hide e5
  have J5 := hide (show Below w1.heap.size w1 w5 from (unhide J3).trans ((k4.mono (unhide J3).size).trans (k5.mono (Nat.le_trans (unhide J3).size k4.size))))
  have B5 := hide (n4.1.below k5); have M5 := hide m5; have T4 := hide t4
  have y0 := ((unhide M1).below (unhide J5)).cell0; have y1 := ((unhide M1).below (unhide J5)).cell1; have y2 := ((unhide M1).below (unhide J5)).cell2
  have CR := refSend_ok b ao cap L f t d bo bc ds w5 (unhide HB) (unhide HT) ((unhide HR).below (unhide J5)) rf rt rd ((unhide SR).below (unhide J5)) hbc h256 hlen
  rw [← unhide EY, ← unhide EE] at CR
  unfold busV at CR
  rw [e5] at y0 y1 y2
  clear CS t4 n4 k4 e5 m5 k5 s5 J3
  go_wp2_with fail
  rw [← unhide E5]
  refine CR.mono ?_
  rintro e w6 ⟨a6, c6, L6, rfl, t6, n6, k6⟩
  obtain ⟨w7, e7, m7, k7, s7⟩ := bu_alloc w6 Y.now Y.ser (.slice a6 L6.length c6)
  have E7 := hide e7; have M7 := hide m7; have T6 := hide t6
  have J7 := hide (show Below w5.heap.size w5 w7 from k6.trans (k7.mono k6.size))
  have B7 := hide (n6.1.below k7)
  have CZ := hS zeroBs none 0 [] 0 1 0 none 0 [] w7 zeroBs_ok rfl (BRd.nil _ _ _) (by unfold R64; omega) (by unfold R64; omega) (by unfold R64; omega) (sr_nil _) (by decide) (fun _ h => absurd h (by simp)) (by decide)
  rw [send_zero.1] at CZ
  unfold busV zeroBs at CZ
  dsimp only at CZ
  rw [show ([] : List Lp).length = 0 from rfl, show ([] : List Nat).length = 0 from rfl, show ([] : List Pc).length = 0 from rfl, send_zero.2] at CZ
  clear CR t6 n6 k6 e7 m7 k7 s7 y0 y1 y2
  go_wp2_with fail
  rw [← unhide E7]
  refine CZ.mono ?_
  rintro e w8 ⟨a8, c8, L8, rfl, t8, n8, k8⟩
  obtain ⟨w9, e9, m9, k9, s9⟩ := bu_alloc w8 0 1 (.slice a8 L8.length c8)
  have E9 := hide e9
  have J9 := show Below w7.heap.size w7 w9 from k8.trans (k9.mono k8.size)
  have z0 := ((unhide M7).below J9).cell0; have z1 := ((unhide M7).below J9).cell1; have z2 := ((unhide M7).below J9).cell2
  have m5' := ((unhide M5).below (unhide J7)).below J9
  have x0 := m5'.cell0; have x1 := m5'.cell1; have x2 := m5'.cell2
  have CB := sameBus_any Y a4 c4 L4 a6 c6 L6 w9 (unhide HY) (unhide T4) (unhide T6) (((unhide B5).below (unhide J7)).below J9) ((unhide B7).below J9)
  unfold busV at CB
  have J59 : Below w5.heap.size w5 w9 := (unhide J7).trans (J9.mono (unhide J7).size)
  have J19 := (unhide J5).trans (J59.mono (unhide J5).size)
  have K9 := hide (show Below w.heap.size w w9 from (unhide K1).trans (J19.mono (unhide K1).size))
  have u1 := hide m9.cell1; have M9 := hide m9
  rw [e9] at z0 z1 z2 x0 x1 x2
  clear CZ t8 n8 k8 e9 m9 k9 s9 J9 m5' J59 J19
  go_wp2_with fail
  rw [← unhide E9]
  refine CB.mono ?_
  rintro e wa ⟨rfl, ka⟩
  have v1 := ((unhide M9).below ka).cell1
  have KA := hide ((unhide K9).trans (ka.mono (unhide K9).size))
  clear CB ka z0 z1 z2 x0 x1 x2
  go_wp2_with fail
  go_ret
  exact ⟨rfl, unhide KA⟩

end Go.Proofs.Ythjeedlhlkggkaa
