/- The walk of BusTurns, whatever the bus is made of. -/
import Derived.Test.YthjeedlhlkggkaaLawsU1
namespace Go.Proofs.Ythjeedlhlkggkaa
open Go.RowKit

theorem lose_zero : loseS zeroBs 3 = zeroBs ∧ loseE zeroBs 3 = 7 := by
  have h : ¬ fsP 3 zeroBs.q < zeroBs.q.length := by unfold zeroBs; decide
  exact ⟨by unfold loseS; rw [if_neg h], by unfold loseE; rw [if_neg h]⟩

set_option maxHeartbeats 2000000 in
theorem busTurns_by (hL : LoOK 17) (hU : TuOK 19) (b : Bs) (ao : Option Addr) (cap : Nat) (L : List Lp) (s a m : Int) {w : World} (hb : BsOK b) (ht : These L b.q) (hr : BRd w ao cap L) (rs : R64 s) (ra : R64 a) (rm : R64 m) :
    Calls Try.prog 5 #[busV b.now b.ser (.slice ao L.length cap), .int .i64 s, .int .i64 a, .int .i64 m] w fun e w' => e = .returned (.bool true) ∧ Below w.heap.size w w' := by
  obtain ⟨w1, e1, m1, k1, s1⟩ := bu_alloc w b.now b.ser (.slice ao L.length cap)
  have x0 := m1.cell0; have x1 := m1.cell1; have x2 := m1.cell2
  have C := copyBus_any b ao cap L w1 hb ht (hr.below k1)
  obtain ⟨Y, eY⟩ : ∃ Y, Y = loseS b s := ⟨_, rfl⟩
  obtain ⟨E, eE⟩ : ∃ E : Nat, E = loseE b s := ⟨_, rfl⟩
  obtain ⟨Z, eZ⟩ : ∃ Z, Z = turnS b s a m := ⟨_, rfl⟩
  obtain ⟨G, eG⟩ : ∃ G : Nat, G = turnE b s a m := ⟨_, rfl⟩
  have hY : BsOK Y := by rw [eY]; exact loseS_ok hb
  have hZ : BsOK Z := by rw [eZ]; exact turnS_ok hb
  have E1 := hide e1; have M1 := hide m1; have K1 := hide k1; have HB := hide hb; have HT := hide ht; have HR := hide (hr.below k1); have EY := hide eY; have EZ := hide eZ; have EE := hide eE; have EG := hide eG; have HY := hide hY; have HZ := hide hZ
  rw [e1] at x0 x1 x2
  clear e1 m1 k1 s1 hb ht hr eY eE eZ eG hY hZ
  unfold busV at C ⊢
  go_enter Try.func5, Try.ntmps5
  go_wp2_with fail
  rw [← unhide E1]
  refine C.mono ?_
  rintro e w2 ⟨v, M, rfl, tM, oM, k2⟩
  obtain ⟨va, vc, rfl, hvc⟩ := oM.slice
  have CS := hL b va vc M s w2 (unhide HB) tM oM.new.1 rs
  unfold busV at CS
  have J3 := hide k2
  clear tM oM k2 hvc C x0 x1 x2
  go_wp2_with fail
  refine CS.mono ?_
  rintro e w4 ⟨a4, c4, L4, rfl, t4, n4, k4⟩
  rw [← unhide EY] at t4 ⊢
  rw [← unhide EE]
  obtain ⟨w5, e5, m5, k5, s5⟩ := bu_alloc w4 Y.now Y.ser (.slice a4 L4.length c4)
  have E5 := hide e5
  have J5 := hide (show Below w1.heap.size w1 w5 from (unhide J3).trans ((k4.mono (unhide J3).size).trans (k5.mono (Nat.le_trans (unhide J3).size k4.size))))
  have B5 := hide (n4.1.below k5); have M5 := hide m5; have T4 := hide t4
  have y0 := ((unhide M1).below (unhide J5)).cell0; have y1 := ((unhide M1).below (unhide J5)).cell1; have y2 := ((unhide M1).below (unhide J5)).cell2
  have CR := refLose_ok b ao cap L s w5 (unhide HB) (unhide HT) ((unhide HR).below (unhide J5)) rs
  rw [← unhide EY, ← unhide EE] at CR
  unfold busV at CR
  rw [e5] at y0 y1 y2
  clear CS t4 n4 k4 e5 m5 k5 s5 J3
  go_wp2_with fail
  rw [← unhide E5]
  refine CR.mono ?_
  rintro e w6 ⟨a6, c6, L6, rfl, t6, n6, k6⟩
  obtain ⟨w7, e7, m7, k7, s7⟩ := bu_alloc w6 Y.now Y.ser (.slice a6 L6.length c6)
  have E7 := hide e7; have M7 := hide m7; have T6 := hide t6
  have J57 := show Below w5.heap.size w5 w7 from k6.trans (k7.mono k6.size)
  have J7 := hide J57
  have J17 := hide (show Below w1.heap.size w1 w7 from (unhide J5).trans (J57.mono (unhide J5).size))
  have B7 := hide (n6.1.below k7)
  have M5 := hide ((unhide M5).below J57); have B5 := hide ((unhide B5).below J57)
  have C2 := copyBus_any b ao cap L w7 (unhide HB) (unhide HT) ((unhide HR).below (unhide J17))
  unfold busV at C2
  have z0 := ((unhide M1).below (unhide J17)).cell0; have z1 := ((unhide M1).below (unhide J17)).cell1; have z2 := ((unhide M1).below (unhide J17)).cell2
  rw [e7] at z0 z1 z2
  clear CR t6 n6 k6 e7 m7 k7 s7 y0 y1 y2 J57
  go_wp2_with fail
  rw [← unhide E7]
  refine C2.mono ?_
  rintro e w8 ⟨v, M', rfl, tM, oM, k8⟩
  obtain ⟨va', vc', rfl, hvc⟩ := oM.slice
  have CT := hU b va' vc' M' s a m w8 (unhide HB) tM oM.new.1 rs ra rm
  unfold busV at CT
  have J8 := hide k8
  clear tM oM k8 hvc C2 z0 z1 z2
  go_wp2_with fail
  refine CT.mono ?_
  rintro e w9 ⟨a9, c9, L9, rfl, t9, n9, k9⟩
  rw [← unhide EZ] at t9 ⊢
  rw [← unhide EG]
  obtain ⟨wa, ea, ma, ka, sa⟩ := bu_alloc w9 Z.now Z.ser (.slice a9 L9.length c9)
  have EA := hide ea
  have J7a := show Below w7.heap.size w7 wa from (unhide J8).trans ((k9.mono (unhide J8).size).trans (ka.mono (Nat.le_trans (unhide J8).size k9.size)))
  have J1a := hide (show Below w1.heap.size w1 wa from (unhide J17).trans (J7a.mono (unhide J17).size))
  have B9 := hide (n9.1.below ka); have MA := hide ma; have T9 := hide t9
  have M5 := hide ((unhide M5).below J7a); have B5 := hide ((unhide B5).below J7a)
  have M7 := hide ((unhide M7).below J7a); have B7 := hide ((unhide B7).below J7a)
  have y0 := ((unhide M1).below (unhide J1a)).cell0; have y1 := ((unhide M1).below (unhide J1a)).cell1; have y2 := ((unhide M1).below (unhide J1a)).cell2
  have CU := refTurn_ok b ao cap L s a m wa (unhide HB) (unhide HT) ((unhide HR).below (unhide J1a)) rs ra rm
  rw [← unhide EZ, ← unhide EG] at CU
  unfold busV at CU
  rw [ea] at y0 y1 y2
  clear CT t9 n9 k9 ea ma ka sa J8 J7a
  go_wp2_with fail
  rw [← unhide EA]
  refine CU.mono ?_
  rintro e wb ⟨ab, cb, Lb, rfl, tb, nb, kb⟩
  obtain ⟨wc, ec, mc, kc, sc⟩ := bu_alloc wb Z.now Z.ser (.slice ab Lb.length cb)
  have EC := hide ec; have MC := hide mc; have TB := hide tb
  have Jac := show Below wa.heap.size wa wc from kb.trans (kc.mono kb.size)
  have J1c := hide (show Below w1.heap.size w1 wc from (unhide J1a).trans (Jac.mono (unhide J1a).size))
  have BC := hide (nb.1.below kc)
  have M5 := hide ((unhide M5).below Jac); have B5 := hide ((unhide B5).below Jac)
  have M7 := hide ((unhide M7).below Jac); have B7 := hide ((unhide B7).below Jac)
  have MA := hide ((unhide MA).below Jac); have B9 := hide ((unhide B9).below Jac)
  have CZ := hL zeroBs none 0 [] 3 wc zeroBs_ok rfl (BRd.nil _ _ _) (by unfold R64; omega)
  rw [lose_zero.1, lose_zero.2] at CZ
  unfold busV zeroBs at CZ
  dsimp only at CZ
  rw [show ([] : List Lp).length = 0 from rfl] at CZ
  clear CU tb nb kb ec mc kc sc y0 y1 y2 Jac
  go_wp2_with fail
  rw [← unhide EC]
  refine CZ.mono ?_
  rintro e wd ⟨ad, cd, Ld, rfl, td, nd, kd⟩
  obtain ⟨we, ee, me, ke, se⟩ := bu_alloc wd 0 0 (.slice ad Ld.length cd)
  have EW := hide ee
  have Jce := show Below wc.heap.size wc we from kd.trans (ke.mono kd.size)
  have J1e := (unhide J1c).trans (Jce.mono (unhide J1c).size)
  have KE := hide (show Below w.heap.size w we from (unhide K1).trans (J1e.mono (unhide K1).size))
  have m5 := (unhide M5).below Jce; have m7 := (unhide M7).below Jce
  have x0 := m5.cell0; have x1 := m5.cell1; have x2 := m5.cell2
  have z0 := m7.cell0; have z1 := m7.cell1; have z2 := m7.cell2
  have CB := sameBus_any Y a4 c4 L4 a6 c6 L6 we (unhide HY) (unhide T4) (unhide T6) ((unhide B5).below Jce) ((unhide B7).below Jce)
  unfold busV at CB
  have MA := hide ((unhide MA).below Jce); have B9 := hide ((unhide B9).below Jce)
  have MC := hide ((unhide MC).below Jce); have BC := hide ((unhide BC).below Jce)
  rw [ee] at z0 z1 z2 x0 x1 x2
  clear CZ td nd kd ee me ke se Jce J1e m5 m7
  go_wp2_with fail
  rw [← unhide EW]
  refine CB.mono ?_
  rintro e wf ⟨rfl, kf⟩
  have KF := hide ((unhide KE).trans (kf.mono (unhide KE).size))
  have ma := (unhide MA).below kf; have mc := (unhide MC).below kf
  have x0 := ma.cell0; have x1 := ma.cell1; have x2 := ma.cell2
  have z0 := mc.cell0; have z1 := mc.cell1; have z2 := mc.cell2
  have CD := sameBus_any Z a9 c9 L9 ab cb Lb wf (unhide HZ) (unhide T9) (unhide TB) ((unhide B9).below kf) ((unhide BC).below kf)
  unfold busV at CD
  clear CB kf ma mc
  go_wp2_with fail
  refine CD.mono ?_
  rintro e wg ⟨rfl, kg⟩
  have KG := hide ((unhide KF).trans (kg.mono (unhide KF).size))
  clear CD kg x0 x1 x2 z0 z1 z2
  go_wp2_with fail
  go_ret
  exact ⟨rfl, unhide KG⟩

end Go.Proofs.Ythjeedlhlkggkaa
