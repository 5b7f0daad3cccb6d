/- Contracts of package vec's face: Scale, Dot. -/
import Derived.Test.YthkfdlfgehdppaaVecFaces
namespace Go.Proofs.Ythkfdlfgehdppaa
open Go.RowKit

theorem scale_start (w : World) (a0 a1 a2 : Int) : ∃ w3, w3 = (w.alloc (.cells #[.int .i64 a0, .int .i64 a1, .int .i64 a2] 23)).alloc (.cells #[.int .i64 0, .int .i64 0, .int .i64 0] 23) ∧
    VbAt w3 (w.heap.size + 1) 0 0 0 ∧ Below w.heap.size w w3 := by
  refine ⟨_, rfl, ?_, ?_⟩
  · have h := VbAt.new (w.alloc (.cells #[.int .i64 a0, .int .i64 a1, .int .i64 a2] 23)) 0 0 0
    rw [size_alloc] at h
    exact h
  · exact ((Below.refl _ _).alloc (Nat.le_refl _) _).alloc (by rw [size_alloc]; omega) _

set_option maxHeartbeats 400000 in
theorem vecScale_any (a0 a1 a2 c : Int) (w : World) (ha0 : R64 a0) (ha1 : R64 a1) (ha2 : R64 a2) (hc : R64 c) :
    Calls Try.prog 13 #[.agg #[.int .i64 a0, .int .i64 a1, .int .i64 a2], .int .i64 c] w fun e w' =>
      e = .returned (vecR mulQ a0 a1 a2 c c c) ∧ Below w.heap.size w w' := by
  have A0 := hide ha0; have A1 := hide ha1; have A2 := hide ha2; have C := hide hc
  obtain ⟨w3, e3, r3, k3⟩ := scale_start w a0 a1 a2
  have E3 := hide e3; have R3 := hide r3; have K3 := hide k3
  clear ha0 ha1 ha2 hc e3 r3 k3
  go_enter Try.func13, Try.ntmps13
  go_wp2_with fail
  rw [← unhide E3]
  refine (part_any _ _ opMul_ok opMul_in a0 a1 a2 c c c _ (unhide A0) (unhide A1) (unhide A2) (unhide C) (unhide C) (unhide C)).mono ?_
  rintro e w4 ⟨rfl, k4⟩
  unfold vecR
  have V4 := hide ((unhide R3).below k4)
  have K4 := hide ((unhide K3).trans (k4.mono (unhide K3).size))
  have z0 := (unhide V4).vc.1; have z1 := (unhide V4).vc.2.1; have z2 := (unhide V4).vc.2.2
  have f0 := (unhide V4).free 0; have f1 := (unhide V4).free 1; have f2 := (unhide V4).free 2
  clear k4
  go_wp2_with fail
  obtain ⟨w6, e6, v6, k6⟩ := (unhide V4).set (clampZ (mulQ a0 c)) (clampZ (mulQ a1 c)) (clampZ (mulQ a2 c))
  rw [← e6]
  have p0 := v6.vc.1; have p1 := v6.vc.2.1; have p2 := v6.vc.2.2
  refine bodyPost_ret (v := vecR mulQ a0 a1 a2 c c c) (by simp [results, Try.results13, go_sem, p0, p1, p2, vecR]) rfl ⟨rfl, below_of_kept (unhide K4) k6 (by omega) (unhide K4).size⟩

/-- The inner product in the given order. -/
def dotZ (a0 a1 a2 c0 c1 c2 : Int) : Int := clampZ (clampZ (clampZ (mulQ a0 c0) + clampZ (mulQ a1 c1)) + clampZ (mulQ a2 c2))
/-- Did a step of it stop? -/
def dotB (a0 a1 a2 c0 c1 c2 : Int) : Bool := bentZ (mulQ a0 c0) || bentZ (mulQ a1 c1) || bentZ (mulQ a2 c2) || bentZ (clampZ (mulQ a0 c0) + clampZ (mulQ a1 c1)) || bentZ (clampZ (clampZ (mulQ a0 c0) + clampZ (mulQ a1 c1)) + clampZ (mulQ a2 c2))
theorem dotZ_R (a0 a1 a2 c0 c1 c2 : Int) : R64 (dotZ a0 a1 a2 c0 c1 c2) := clampZ_R _

theorem dot_start (w : World) (a0 a1 a2 c0 c1 c2 : Int) : ∃ w3, w3 = ((w.alloc (.cells #[.int .i64 a0, .int .i64 a1, .int .i64 a2] 23)).alloc (.cells #[.int .i64 c0, .int .i64 c1, .int .i64 c2] 23)).alloc (.cells #[.bool false] 41) ∧
    RkAt w3 (w.heap.size + 1 + 1) false ∧ Below w.heap.size w w3 := by
  refine ⟨_, rfl, ?_, ?_⟩
  · have h := BlAt.new 41 ((w.alloc (.cells #[.int .i64 a0, .int .i64 a1, .int .i64 a2] 23)).alloc (.cells #[.int .i64 c0, .int .i64 c1, .int .i64 c2] 23)) false
    rw [size_alloc, size_alloc] at h
    exact h
  · exact (((Below.refl _ _).alloc (Nat.le_refl _) _).alloc (by rw [size_alloc]; omega) _).alloc (by rw [size_alloc, size_alloc]; omega) _

/-- One vector's cells. -/
def Three (p : Nat) (a0 a1 a2 : Int) (w : World) : Prop :=
  w.cell? ⟨p, 0, none⟩ = some (.int .i64 a0) ∧ w.cell? ⟨p, 1, none⟩ = some (.int .i64 a1) ∧ w.cell? ⟨p, 2, none⟩ = some (.int .i64 a2)
theorem Three.kept {z p : Nat} {a0 a1 a2 : Int} {w w' : World} (h : Three p a0 a1 a2 w) (k : Kept z w w') (hp : p ≠ z) : Three p a0 a1 a2 w' :=
  ⟨cell_kept h.1 k hp, cell_kept h.2.1 k hp, cell_kept h.2.2 k hp⟩

set_option maxHeartbeats 1000000 in
theorem vecDot_any (a0 a1 a2 c0 c1 c2 : Int) (w : World) (ha0 : R64 a0) (ha1 : R64 a1) (ha2 : R64 a2) (hc0 : R64 c0) (hc1 : R64 c1) (hc2 : R64 c2) :
    Calls Try.prog 15 #[.agg #[.int .i64 a0, .int .i64 a1, .int .i64 a2], .agg #[.int .i64 c0, .int .i64 c1, .int .i64 c2]] w fun e w' =>
      e = .returned (.tuple #[.int .i64 (dotZ a0 a1 a2 c0 c1 c2), .bool (dotB a0 a1 a2 c0 c1 c2)]) ∧ Below w.heap.size w w' := by
  have A0 := hide ha0; have A1 := hide ha1; have A2 := hide ha2; have C0 := hide hc0; have C1 := hide hc1; have C2 := hide hc2
  obtain ⟨w3, e3, r3, k3⟩ := dot_start w a0 a1 a2 c0 c1 c2
  have E3 := hide e3; have R3 := hide r3; have K3 := hide k3
  clear ha0 ha1 ha2 hc0 hc1 hc2 e3 r3 k3
  go_enter Try.func15, Try.ntmps15
  go_wp2_with fail
  rw [← unhide E3]
  refine (each_any _ _ opMul_ok opMul_in _ false a0 a1 a2 c0 c1 c2 _ (unhide A0) (unhide A1) (unhide A2) (unhide C0) (unhide C1) (unhide C2) (unhide R3)).mono ?_
  rintro e w5 ⟨rfl, h5, k5⟩
  have H5 := hide h5
  have L5 := hide h5.lt
  have K5 := hide (below_of_kept (unhide K3) k5 (by omega) (unhide K3).size)
  clear h5 k5
  go_wp2_with fail
  have H6 := hide (show RkAt (w5.alloc (.cells #[.int .i64 (clampZ (mulQ a0 c0)), .int .i64 (clampZ (mulQ a1 c1)), .int .i64 (clampZ (mulQ a2 c2))] 23)).drew (w.heap.size + 1 + 1) _ from (unhide H5).below (w' := w5.alloc _) ((Below.refl _ _).alloc (Nat.le_refl _) _))
  have hS : Three w5.heap.size (clampZ (mulQ a0 c0)) (clampZ (mulQ a1 c1)) (clampZ (mulQ a2 c2)) (w5.alloc (.cells #[.int .i64 (clampZ (mulQ a0 c0)), .int .i64 (clampZ (mulQ a1 c1)), .int .i64 (clampZ (mulQ a2 c2))] 23)).drew := (VbAt.new w5 _ _ _).vc
  have K6 := hide (below_drew ((unhide K5).alloc (unhide K5).size (.cells #[.int .i64 (clampZ (mulQ a0 c0)), .int .i64 (clampZ (mulQ a1 c1)), .int .i64 (clampZ (mulQ a2 c2))] 23)))
  refine region_by (S := Three w5.heap.size (clampZ (mulQ a0 c0)) (clampZ (mulQ a1 c1)) (clampZ (mulQ a2 c2)))
    [(0, false), (1, false), (2, false), (3, false), (5, false), (6, false), (4, true), (7, true), (8, true)] [] (by kernel_rfl) (by kernel_rfl) ?_
  generalize (w5.alloc (.cells #[.int .i64 (clampZ (mulQ a0 c0)), .int .i64 (clampZ (mulQ a1 c1)), .int .i64 (clampZ (mulQ a2 c2))] 23)).drew = w6 at *
  iterate 6
    refine seq_read (v := ?_) rfl (fun _ _ _ h => h) (by rfl) hS ?_ ?_
    rotate_left 1
    · intro wx hwx
      obtain ⟨k1, k2, k3⟩ := hwx
      go_simp <;> exact rfl
    go_frame
  refine seq_do rfl (fun K hK => ?_)
  go_simp
  refine (opAdd_ok _ _ _ _ _ (clampZ_R _) (clampZ_R _) (unhide H6)).mono ?_
  rintro e w7 ⟨rfl, h7, k7⟩
  have H7 := hide h7; have K7 := hide (below_of_kept (unhide K6) k7 (by omega) (unhide K6).size)
  have hS7 := hS.kept k7 (by have := unhide L5; omega)
  refine hK _ _ (fun _ => hS7) ?_
  clear hS hK K h7 k7
  refine seq_do rfl (fun K hK => ?_)
  go_simp
  refine (opAdd_ok _ _ _ _ _ (clampZ_R _) (clampZ_R _) (unhide H7)).mono ?_
  rintro e w8 ⟨rfl, h8, k8⟩
  have H8 := hide h8; have K8 := hide (below_of_kept (unhide K7) k8 (by omega) (unhide K7).size)
  have hS8 := hS7.kept k8 (by have := unhide L5; omega)
  refine hK _ _ (fun _ => hS8) ?_
  clear hS7 hK K h8 k8
  refine seq_do rfl (fun K hK => ?_)
  go_simp
  refine hK _ _ (fun _ => hS8) ?_
  clear hK K
  refine seq_end ?_
  have q8 := (unhide H8).cell0
  rw [Bool.false_or] at q8
  clear hS8
  go_wp2_with fail
  go_region
  go_wp2_with fail
  go_ret2
  exact ⟨rfl, below_drew (unhide K8)⟩

end Go.Proofs.Ythkfdlfgehdppaa
