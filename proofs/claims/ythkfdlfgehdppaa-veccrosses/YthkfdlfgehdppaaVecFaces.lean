/- Contracts of package vec's face: Add, Sub, Scale, Dot. -/
import Derived.Test.YthkfdlfgehdppaaVecEach
namespace Go.Proofs.Ythkfdlfgehdppaa
open Go.RowKit

/-- Three parts as one value, with whether anything stopped. -/
def vecR (g : Int → Int → Int) (a0 a1 a2 c0 c1 c2 : Int) : Value :=
  .tuple #[.agg #[.int .i64 (clampZ (g a0 c0)), .int .i64 (clampZ (g a1 c1)), .int .i64 (clampZ (g a2 c2))], .bool (bentZ (g a0 c0) || bentZ (g a1 c1) || bentZ (g a2 c2))]

/-- What the variables of partByPart hold, once made. -/
theorem part_start (w : World) (a0 a1 a2 c0 c1 c2 : Int) : ∃ w4, w4 = (((w.alloc (.cells #[.int .i64 a0, .int .i64 a1, .int .i64 a2] 23)).alloc (.cells #[.int .i64 c0, .int .i64 c1, .int .i64 c2] 23)).alloc (.cells #[.int .i64 0, .int .i64 0, .int .i64 0] 23)).alloc (.cells #[.bool false] 41) ∧
    RkAt w4 (w.heap.size + 1 + 1 + 1) false ∧ VbAt w4 (w.heap.size + 1 + 1) 0 0 0 ∧ Below w.heap.size w w4 ∧ w4.heap.size = w.heap.size + 1 + 1 + 1 + 1 := by
  obtain ⟨w3, e3, -, r3, k3⟩ := each_start w a0 a1 a2 c0 c1 c2
  have n3 : w3.heap.size = w.heap.size + 1 + 1 + 1 := by rw [e3, size_alloc, size_alloc, size_alloc]
  rw [← e3]
  refine ⟨_, rfl, ?_, r3.kept (kept_alloc (z := w.heap.size + 5) _ _) (by omega), k3.alloc (by omega) _, by rw [size_alloc, n3]⟩
  have h := BlAt.new 41 w3 false
  rw [n3] at h
  exact h

set_option maxHeartbeats 400000 in
theorem part_any (k : Nat) (g : Int → Int → Int) (hk : OpOK k g) (hin : Enters k) (a0 a1 a2 c0 c1 c2 : Int) (w : World) (ha0 : R64 a0) (ha1 : R64 a1) (ha2 : R64 a2) (hc0 : R64 c0) (hc1 : R64 c1) (hc2 : R64 c2) :
    Calls Try.prog 21 #[.func (.func k) #[] #[], .agg #[.int .i64 a0, .int .i64 a1, .int .i64 a2], .agg #[.int .i64 c0, .int .i64 c1, .int .i64 c2]] w fun e w' =>
      e = .returned (vecR g a0 a1 a2 c0 c1 c2) ∧ Below w.heap.size w w' := by
  have HK := hide hk; have HIN := hide hin
  have A0 := hide ha0; have A1 := hide ha1; have A2 := hide ha2; have C0 := hide hc0; have C1 := hide hc1; have C2 := hide hc2
  obtain ⟨w4, e4, q4, r4, k4, n4⟩ := part_start w a0 a1 a2 c0 c1 c2
  have E4 := hide e4; have Q4 := hide q4; have R4 := hide r4; have K4 := hide k4; have N4 := hide n4
  clear ha0 ha1 ha2 hc0 hc1 hc2 hk hin e4 q4 r4 k4 n4
  go_enter Try.func21, Try.ntmps21
  go_wp2_with fail
  rw [← unhide E4]
  refine (each_any k g (unhide HK) (unhide HIN) _ false a0 a1 a2 c0 c1 c2 _ (unhide A0) (unhide A1) (unhide A2) (unhide C0) (unhide C1) (unhide C2) (unhide Q4)).mono ?_
  rintro e w5 ⟨rfl, h5, k5⟩
  have V5 := hide ((unhide R4).kept k5 (by omega))
  have H5 := hide h5
  have lt5 : w.heap.size + 1 + 1 + 1 < w5.heap.size := h5.lt
  have lt6 : w.heap.size + 1 + 1 < w5.heap.size := by omega
  have K5 := hide (below_of_kept (unhide K4) k5 (by omega))
  have q0 := h5.cell0
  rw [Bool.false_or] at q0
  have z0 := (unhide V5).vc.1; have z1 := (unhide V5).vc.2.1; have z2 := (unhide V5).vc.2.2
  have f0 := (unhide V5).free 0; have f1 := (unhide V5).free 1; have f2 := (unhide V5).free 2
  clear h5 k5
  go_wp2_with fail
  go_region
  go_wp2_with fail
  obtain ⟨w6, e6, v6, k6⟩ := (unhide V5).set (clampZ (g a0 c0)) (clampZ (g a1 c1)) (clampZ (g a2 c2))
  rw [← e6]
  have p0 := v6.vc.1; have p1 := v6.vc.2.1; have p2 := v6.vc.2.2
  have l6 := v6.lt
  refine bodyPost_ret (v := vecR g a0 a1 a2 c0 c1 c2) (by simp [results, Try.results21, go_sem, p0, p1, p2, l6, vecR]) rfl ⟨rfl, ?_⟩
  have h := below_of_kept (unhide K5) k6 (by omega) (unhide K5).size
  exact below_drew (h.alloc h.size _)

set_option maxHeartbeats 400000 in
theorem vecAdd_any (a0 a1 a2 c0 c1 c2 : Int) (w : World) (ha0 : R64 a0) (ha1 : R64 a1) (ha2 : R64 a2) (hc0 : R64 c0) (hc1 : R64 c1) (hc2 : R64 c2) :
    Calls Try.prog 9 #[.agg #[.int .i64 a0, .int .i64 a1, .int .i64 a2], .agg #[.int .i64 c0, .int .i64 c1, .int .i64 c2]] w fun e w' =>
      e = .returned (vecR (fun a c => a + c) a0 a1 a2 c0 c1 c2) ∧ Below w.heap.size w w' := by
  have A0 := hide ha0; have A1 := hide ha1; have A2 := hide ha2; have C0 := hide hc0; have C1 := hide hc1; have C2 := hide hc2
  obtain ⟨w3, e3, -, r3, k3⟩ := each_start w a0 a1 a2 c0 c1 c2
  have E3 := hide e3; have R3 := hide r3; have K3 := hide k3
  clear ha0 ha1 ha2 hc0 hc1 hc2 e3 r3 k3
  go_enter Try.func9, Try.ntmps9
  go_wp2_with fail
  rw [← unhide E3]
  refine (part_any _ _ opAdd_ok opAdd_in a0 a1 a2 c0 c1 c2 _ (unhide A0) (unhide A1) (unhide A2) (unhide C0) (unhide C1) (unhide C2)).mono ?_
  rintro e w4 ⟨rfl, k4⟩
  unfold vecR
  have V4 := hide ((unhide R3).below k4)
  have K4 := hide ((unhide K3).trans (k4.mono (unhide K3).size))
  have z0 := (unhide V4).vc.1; have z1 := (unhide V4).vc.2.1; have z2 := (unhide V4).vc.2.2
  have f0 := (unhide V4).free 0; have f1 := (unhide V4).free 1; have f2 := (unhide V4).free 2
  clear k4
  go_wp2_with fail
  obtain ⟨w6, e6, v6, k6⟩ := (unhide V4).set (clampZ ((fun a c => a + c) a0 c0)) (clampZ ((fun a c => a + c) a1 c1)) (clampZ ((fun a c => a + c) a2 c2))
  rw [show ((w4.setCell ⟨w.heap.size + 1 + 1, 0, none⟩ (.int .i64 (clampZ ((fun a c => a + c) a0 c0)))).setCell ⟨w.heap.size + 1 + 1, 1, none⟩ (.int .i64 (clampZ ((fun a c => a + c) a1 c1)))).setCell ⟨w.heap.size + 1 + 1, 2, none⟩ (.int .i64 (clampZ ((fun a c => a + c) a2 c2))) = w6 from e6.symm]
  have p0 := v6.vc.1; have p1 := v6.vc.2.1; have p2 := v6.vc.2.2
  refine bodyPost_ret (v := vecR (fun a c => a + c) a0 a1 a2 c0 c1 c2) (by simp [results, Try.results9, go_sem, p0, p1, p2, vecR]) rfl ⟨rfl, below_of_kept (unhide K4) k6 (by omega) (unhide K4).size⟩

set_option maxHeartbeats 400000 in
theorem vecSub_any (a0 a1 a2 c0 c1 c2 : Int) (w : World) (ha0 : R64 a0) (ha1 : R64 a1) (ha2 : R64 a2) (hc0 : R64 c0) (hc1 : R64 c1) (hc2 : R64 c2) :
    Calls Try.prog 11 #[.agg #[.int .i64 a0, .int .i64 a1, .int .i64 a2], .agg #[.int .i64 c0, .int .i64 c1, .int .i64 c2]] w fun e w' =>
      e = .returned (vecR (fun a c => a - c) a0 a1 a2 c0 c1 c2) ∧ Below w.heap.size w w' := by
  have A0 := hide ha0; have A1 := hide ha1; have A2 := hide ha2; have C0 := hide hc0; have C1 := hide hc1; have C2 := hide hc2
  obtain ⟨w3, e3, -, r3, k3⟩ := each_start w a0 a1 a2 c0 c1 c2
  have E3 := hide e3; have R3 := hide r3; have K3 := hide k3
  clear ha0 ha1 ha2 hc0 hc1 hc2 e3 r3 k3
  go_enter Try.func11, Try.ntmps11
  go_wp2_with fail
  rw [← unhide E3]
  refine (part_any _ _ opSub_ok opSub_in a0 a1 a2 c0 c1 c2 _ (unhide A0) (unhide A1) (unhide A2) (unhide C0) (unhide C1) (unhide C2)).mono ?_
  rintro e w4 ⟨rfl, k4⟩
  unfold vecR
  have V4 := hide ((unhide R3).below k4)
  have K4 := hide ((unhide K3).trans (k4.mono (unhide K3).size))
  have z0 := (unhide V4).vc.1; have z1 := (unhide V4).vc.2.1; have z2 := (unhide V4).vc.2.2
  have f0 := (unhide V4).free 0; have f1 := (unhide V4).free 1; have f2 := (unhide V4).free 2
  clear k4
  go_wp2_with fail
  obtain ⟨w6, e6, v6, k6⟩ := (unhide V4).set (clampZ ((fun a c => a - c) a0 c0)) (clampZ ((fun a c => a - c) a1 c1)) (clampZ ((fun a c => a - c) a2 c2))
  rw [show ((w4.setCell ⟨w.heap.size + 1 + 1, 0, none⟩ (.int .i64 (clampZ ((fun a c => a - c) a0 c0)))).setCell ⟨w.heap.size + 1 + 1, 1, none⟩ (.int .i64 (clampZ ((fun a c => a - c) a1 c1)))).setCell ⟨w.heap.size + 1 + 1, 2, none⟩ (.int .i64 (clampZ ((fun a c => a - c) a2 c2))) = w6 from e6.symm]
  have p0 := v6.vc.1; have p1 := v6.vc.2.1; have p2 := v6.vc.2.2
  refine bodyPost_ret (v := vecR (fun a c => a - c) a0 a1 a2 c0 c1 c2) (by simp [results, Try.results11, go_sem, p0, p1, p2, vecR]) rfl ⟨rfl, below_of_kept (unhide K4) k6 (by omega) (unhide K4).size⟩

end Go.Proofs.Ythkfdlfgehdppaa
