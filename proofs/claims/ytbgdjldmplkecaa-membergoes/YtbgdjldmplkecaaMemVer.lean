/- What the statements of member call: a strong verdict; does member answer at all. -/
import Derived.Test.YtbgdjldmplkecaaMemOps
import Derived.Test.YtbgdjldmplkecaaVotOps
import Derived.Test.YtbgdjldmplkecaaSpot
namespace Go.Proofs.Ytbgdjldmplkecaa
open Go.RowKit

set_option maxRecDepth 100000 in
theorem verdict_any (A : Nat → Bool) (w : World) :
    Calls Try.prog 17 #[boolV A] w fun e w' => ∃ (ao : Option Addr) (cap : Nat), e = .returned (vdV 0 true (.slice ao 4 cap)) ∧ Sr w' ao 4 cap (tF A) ∧ 4 ≤ cap ∧ Below w.heap.size w w' := by
  obtain ⟨w1, e1, m1, k1, z1⟩ := b4_alloc w A
  obtain ⟨w2, e2, m2, k2, z2⟩ := vd_alloc w1 0 false (.slice none 0 0)
  rw [z1] at m2
  have s2 : Sr w2 (some ⟨w.heap.size, 0, none⟩) 4 4 (tF A) := Or.inr ⟨⟨w.heap.size, 0, none⟩, rfl, fun i hi => by rw [Addr.add_lit, Nat.zero_add]; exact (m1.below k2).cell hi⟩
  have j2 := k1.trans (k2.mono k1.size)
  have E1 := hide e1; have E2 := hide e2; have M2 := hide m2; have S2 := hide s2; have J2 := hide j2
  have zz : w2.heap.size = w.heap.size + 1 + 1 := by omega
  clear e1 e2 m1 m2 k1 k2 s2 j2
  unfold boolV
  go_enter Try.func17, Try.ntmps17
  go_wp2_with (refine wpList_joinT _ rfl (.const (.slice none 0 0)) (.tmp 3) rfl (w.heap.size + 1 + 1) (by rw [← unhide E1, ← unhide E2, zz]; omega) (.slice none 0 0) 0 [] rfl (World.ownsRow_nil _ _ _ _) (some ⟨w.heap.size, 0, none⟩) 4 4 (tF A) rfl (by rw [← unhide E1, ← unhide E2]; exact unhide S2) (fun i _ => tF_one A i) (by omega) ?_)
  intro v3 w3 o3 l3
  rw [← unhide E1, ← unhide E2] at l3
  have m3 := (unhide M2).under l3 (by omega)
  have j3 : Below w.heap.size w w3 := (unhide J2).trans (l3.mono (by omega))
  obtain ⟨w4, e4, m4, k4⟩ := m3.put 0 true v3
  have o4 := own_keptz o3 k4 (by omega)
  obtain ⟨ao, cap, rfl, s4, hc⟩ := owns_sr o4
  have S4 := hide s4; have K4 := hide (below_of_kept j3 k4 (by omega) j3.size)
  have c0 := m3.cell0; have c1 := m3.cell1; have c2 := m3.cell2; have f0 := m3.free 0; have f1 := m3.free 1; have f2 := m3.free 2
  have e4' := e4.symm
  have p0 := m4.cell0; have p1 := m4.cell1; have p2 := m4.cell2
  have P0 := hide p0; have P1 := hide p1; have P2 := hide p2
  clear p0 p1 p2 m3 m4 k4 o3 o4 s4 l3 j3 e4 M2 S2 J2 E1 E2
  go_wp2_with fail
  have p0 := unhide P0; have p1 := unhide P1; have p2 := unhide P2
  refine bodyPost_ret (v := vdV 0 true (.slice ao 4 cap)) (by unfold vdV; simp [results, Try.results17, go_sem, p0, p1, p2]) rfl ⟨ao, cap, rfl, unhide S4, hc, unhide K4⟩

set_option maxRecDepth 100000 in
theorem keeps_any (hB : BgOK 8) (hC : CtOK 10) (hG : GrOK 12) (w : World) :
    Calls Try.prog 18 #[] w fun e w' => e = .returned (.bool true) ∧ Below w.heap.size w w' := by
  have HB := hide hB; have HC := hide hC; have HG := hide hG
  clear hB hC hG
  go_enter Try.func18, Try.ntmps18
  go_wp2_with fail
  refine (unhide HB _).mono ?_
  rintro e w1 ⟨rfl, k1⟩
  obtain ⟨ba, eba⟩ : ∃ ba, w1.heap.size = ba := ⟨_, rfl⟩
  have kA := al_below w1 (.cells #[.bool false, .bool false, .bool false, .bool false, .int .i64 0, .int .i64 0, .int .i64 0, .int .i64 0, .int .i64 0, .int .i64 0, .int .i64 0, .int .i64 0] 25)
  have mA := RAt.new w1 zeroR
  have zb : w.heap.size ≤ ba := by have := k1.size; omega
  rw [eba] at mA
  have MA := hide mA; have JA := hide (k1.trans (kA.mono k1.size))
  clear k1 kA mA
  go_wp2_with (refine wpList_storeRl _ rfl (.tmp 1) (.tmp 2) rfl (by rw [← eba]; rfl) (r := beginR) rfl (unhide MA) rfl ?_)
  intro w2 m2 k2
  have M2 := hide m2; have J2 := hide (below_of_kept (unhide JA) k2 zb (unhide JA).size)
  clear m2 k2 MA JA eba
  go_wp2_with (refine wpList_loadRl _ rfl (.tmp 1) rfl rfl (unhide M2) ?_)
  refine (unhide HC beginR _).mono ?_
  rintro e w3 ⟨rfl, k3⟩
  rw [show ((cn beginR.I 4 : Nat) : Int) = 4 from rfl]
  have m3 := (unhide M2).below k3
  have M3 := hide m3; have J3 := hide ((unhide J2).trans (k3.mono (unhide J2).size))
  have p0 := m3.inn (i := 0) (by omega)
  have p1 := m3.inn (i := 1) (by omega)
  have p2 := m3.inn (i := 2) (by omega)
  have p3 := m3.inn (i := 3) (by omega)
  have p4 := m3.mis (i := 0) (by omega)
  have p5 := m3.mis (i := 1) (by omega)
  have p6 := m3.mis (i := 2) (by omega)
  have p7 := m3.mis (i := 3) (by omega)
  have p8 := m3.joi (i := 0) (by omega)
  have p9 := m3.joi (i := 1) (by omega)
  have p10 := m3.joi (i := 2) (by omega)
  have p11 := m3.joi (i := 3) (by omega)
  clear k3 m3 M2 J2
  go_wp2_with fail
  refine (unhide HG beginR _ (fun _ _ => ⟨R64_nought, R64_nought⟩)).mono ?_
  rintro e w4 ⟨rfl, k4⟩
  rw [gdA_begin]
  have J4 := hide ((unhide J3).trans (k4.mono (unhide J3).size))
  clear k4 M3 J3 p0 p1 p2 p3 p4 p5 p6 p7 p8 p9 p10 p11
  go_wp2_with fail
  go_ret
  exact ⟨rfl, unhide J4⟩

end Go.Proofs.Ytbgdjldmplkecaa
