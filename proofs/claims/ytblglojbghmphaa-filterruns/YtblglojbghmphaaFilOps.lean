/- Contracts of package filter's hand: note, add, sub, mul, div. -/
import Derived.Test.YtblglojbghmphaaFilPlain
import Derived.Test.YtblglojbghmphaaFixMul
import Derived.Test.YtblglojbghmphaaLate
namespace Go.Proofs.Ytblglojbghmphaa
open Go.RowKit

set_option maxHeartbeats 400000 in
theorem hNote_any (b : Nat) (s : St) (n : Int) (y : Bool) (w : World) (h : SAt w b s) :
    Calls Try.prog 35 #[hdV b, .int .i64 n, .bool y] w fun e w' =>
      e = .returned (.int .i64 n) ∧ SAt w' b (s.bend y) ∧ Kept b w w' := by
  obtain ⟨w1, e1, a1, s1, k1, n1⟩ := hand_start h
  have q0 := a1.c0
  have c5 := s1.c5; have f5 := s1.free 5
  have H := hide s1; have E1 := hide e1; have K1 := hide k1
  clear h s1 a1 e1 k1 n1
  have G : (∃ x, x = s.B) := ⟨_, rfl⟩
  obtain ⟨x, ex⟩ := G
  rw [← ex] at c5
  have EX := hide ex
  clear ex
  cases x
  · go_enter Try.func35, Try.ntmps35
    go_wp2_with fail
    rw [← unhide E1]
    go_region
    go_wp2_with fail
    go_ret
    refine ⟨rfl, ?_, ((unhide K1).trans (kept_drew _) (Or.inl rfl)).trans (kept_set _ _ _ _) (Or.inl rfl)⟩
    have := (unhide H).s5 (s.B || y)
    rw [← unhide EX] at this
    unfold St.bend
    rw [← unhide EX]
    exact this
  · go_enter Try.func35, Try.ntmps35
    go_wp2_with fail
    rw [← unhide E1]
    go_region
    go_wp2_with fail
    go_ret
    refine ⟨rfl, ?_, ((unhide K1).trans (kept_drew _) (Or.inl rfl)).trans (kept_set _ _ _ _) (Or.inl rfl)⟩
    have := (unhide H).s5 (s.B || y)
    rw [← unhide EX] at this
    unfold St.bend
    rw [← unhide EX]
    exact this


set_option maxHeartbeats 400000 in
theorem hAdd_any (b : Nat) (s : St) (a c : Int) (w : World) (ha : R64 a) (hc : R64 c) (h : SAt w b s) :
    Calls Try.prog 27 #[hdV b, .int .i64 a, .int .i64 c] w fun e w' =>
      e = .returned (.int .i64 (adV a c)) ∧ SAt w' b (s.bend (adB a c)) ∧ Kept b w w' := by
  obtain ⟨w1, e1, a1, s1, k1, n1⟩ := hand_start h
  have HA := hide ha; have HC := hide hc; have H := hide s1; have E1 := hide e1; have K1 := hide k1; have N1 := hide n1
  have hS : (fun u => HbAt u w.heap.size b) w1.drew := a1
  clear ha hc h a1 e1 s1 k1 n1
  go_enter Try.func27, Try.ntmps27
  go_wp2_with fail
  rw [← unhide E1]
  refine region_by (S := fun u => HbAt u w.heap.size b) [(0, false), (1, false), (2, false), (3, true), (4, false), (5, false), (6, true), (7, true)] [] (by kernel_rfl) (by kernel_rfl) ?_
  iterate 3
    refine seq_read (v := ?_) rfl (fun _ _ _ h => h) (by rfl) hS ?_ ?_
    rotate_left 1
    · intro wx hwx
      have q0 := HbAt.c0 hwx
      go_simp <;> exact rfl
    go_frame
  refine seq_do rfl (fun K hK => ?_)
  go_simp
  refine (add_any a c (unhide HA) (unhide HC) _).mono ?_
  rintro e w2 ⟨rfl, rfl⟩
  refine hK _ _ (fun _ => hS) ?_
  clear hK K
  iterate 2
    refine seq_read (v := ?_) rfl (fun _ _ _ h => h) (by rfl) hS ?_ ?_
    rotate_left 1
    · intro wx hwx
      clear hwx
      go_simp <;> exact rfl
    go_frame
  refine seq_do rfl (fun K hK => ?_)
  go_simp
  refine (hNote_any b s _ _ _ (SAt.drewN (unhide H) _)).mono ?_
  rintro e w3 ⟨rfl, h3, k3⟩
  have hS3 := HbAt.kept hS k3 (unhide N1)
  refine hK _ _ (fun _ => hS3) ?_
  have H3 := hide h3; have K3 := hide (((unhide K1).trans (kept_drewN _ 1) (Or.inl rfl)).trans k3 (Or.inl rfl))
  clear h3 k3 hK K hS
  refine seq_do rfl (fun K hK => ?_)
  go_simp
  refine hK _ _ (fun _ => hS3) ?_
  clear hK K hS3
  refine seq_end ?_
  go_wp2_with fail
  go_ret
  exact ⟨rfl, unhide H3, unhide K3⟩

set_option maxHeartbeats 400000 in
theorem hSub_any (b : Nat) (s : St) (a c : Int) (w : World) (ha : R64 a) (hc : R64 c) (h : SAt w b s) :
    Calls Try.prog 31 #[hdV b, .int .i64 a, .int .i64 c] w fun e w' =>
      e = .returned (.int .i64 (sbC a c)) ∧ SAt w' b (s.bend (sbE a c)) ∧ Kept b w w' := by
  obtain ⟨w1, e1, a1, s1, k1, n1⟩ := hand_start h
  have HA := hide ha; have HC := hide hc; have H := hide s1; have E1 := hide e1; have K1 := hide k1; have N1 := hide n1
  have hS : (fun u => HbAt u w.heap.size b) w1.drew := a1
  clear ha hc h a1 e1 s1 k1 n1
  go_enter Try.func31, Try.ntmps31
  go_wp2_with fail
  rw [← unhide E1]
  refine region_by (S := fun u => HbAt u w.heap.size b) [(0, false), (1, false), (2, false), (3, true), (4, false), (5, false), (6, true), (7, true)] [] (by kernel_rfl) (by kernel_rfl) ?_
  iterate 3
    refine seq_read (v := ?_) rfl (fun _ _ _ h => h) (by rfl) hS ?_ ?_
    rotate_left 1
    · intro wx hwx
      have q0 := HbAt.c0 hwx
      go_simp <;> exact rfl
    go_frame
  refine seq_do rfl (fun K hK => ?_)
  go_simp
  refine (sub_any a c (unhide HA) (unhide HC) _).mono ?_
  rintro e w2 ⟨rfl, rfl⟩
  refine hK _ _ (fun _ => hS) ?_
  clear hK K
  iterate 2
    refine seq_read (v := ?_) rfl (fun _ _ _ h => h) (by rfl) hS ?_ ?_
    rotate_left 1
    · intro wx hwx
      clear hwx
      go_simp <;> exact rfl
    go_frame
  refine seq_do rfl (fun K hK => ?_)
  go_simp
  refine (hNote_any b s _ _ _ (SAt.drewN (unhide H) _)).mono ?_
  rintro e w3 ⟨rfl, h3, k3⟩
  have hS3 := HbAt.kept hS k3 (unhide N1)
  refine hK _ _ (fun _ => hS3) ?_
  have H3 := hide h3; have K3 := hide (((unhide K1).trans (kept_drewN _ 1) (Or.inl rfl)).trans k3 (Or.inl rfl))
  clear h3 k3 hK K hS
  refine seq_do rfl (fun K hK => ?_)
  go_simp
  refine hK _ _ (fun _ => hS3) ?_
  clear hK K hS3
  refine seq_end ?_
  go_wp2_with fail
  go_ret
  exact ⟨rfl, unhide H3, unhide K3⟩

set_option maxHeartbeats 400000 in
theorem hMul_any (b : Nat) (s : St) (a c : Int) (w : World) (ha : R64 a) (hc : R64 c) (h : SAt w b s) :
    Calls Try.prog 26 #[hdV b, .int .i64 a, .int .i64 c] w fun e w' =>
      e = .returned (.int .i64 (muV a c)) ∧ SAt w' b (s.bend (muB a c)) ∧ Kept b w w' := by
  obtain ⟨w1, e1, a1, s1, k1, n1⟩ := hand_start h
  have HA := hide ha; have HC := hide hc; have H := hide s1; have E1 := hide e1; have K1 := hide k1; have N1 := hide n1
  have hS : (fun u => HbAt u w.heap.size b) w1.drew := a1
  clear ha hc h a1 e1 s1 k1 n1
  go_enter Try.func26, Try.ntmps26
  go_wp2_with fail
  rw [← unhide E1]
  refine region_by (S := fun u => HbAt u w.heap.size b) [(0, false), (1, false), (2, false), (3, true), (4, false), (5, false), (6, true), (7, true)] [] (by kernel_rfl) (by kernel_rfl) ?_
  iterate 3
    refine seq_read (v := ?_) rfl (fun _ _ _ h => h) (by rfl) hS ?_ ?_
    rotate_left 1
    · intro wx hwx
      have q0 := HbAt.c0 hwx
      go_simp <;> exact rfl
    go_frame
  refine seq_do rfl (fun K hK => ?_)
  go_simp
  refine (mul_any a c (unhide HA) (unhide HC) _).mono ?_
  rintro e w2 ⟨rfl, rfl⟩
  refine hK _ _ (fun _ => hS) ?_
  clear hK K
  iterate 2
    refine seq_read (v := ?_) rfl (fun _ _ _ h => h) (by rfl) hS ?_ ?_
    rotate_left 1
    · intro wx hwx
      clear hwx
      go_simp <;> exact rfl
    go_frame
  refine seq_do rfl (fun K hK => ?_)
  go_simp
  refine (hNote_any b s _ _ _ (SAt.drewN (unhide H) _)).mono ?_
  rintro e w3 ⟨rfl, h3, k3⟩
  have hS3 := HbAt.kept hS k3 (unhide N1)
  refine hK _ _ (fun _ => hS3) ?_
  have H3 := hide h3; have K3 := hide (((unhide K1).trans (kept_drewN _ 1) (Or.inl rfl)).trans k3 (Or.inl rfl))
  clear h3 k3 hK K hS
  refine seq_do rfl (fun K hK => ?_)
  go_simp
  refine hK _ _ (fun _ => hS3) ?_
  clear hK K hS3
  refine seq_end ?_
  go_wp2_with fail
  go_ret
  exact ⟨rfl, unhide H3, unhide K3⟩

set_option maxHeartbeats 400000 in
theorem hDiv_any (b : Nat) (s : St) (a c : Int) (w : World) (ha : R64 a) (hc : R64 c) (h : SAt w b s) :
    Calls Try.prog 45 #[hdV b, .int .i64 a, .int .i64 c] w fun e w' =>
      e = .returned (.int .i64 (divV a c)) ∧ SAt w' b (s.bend (divB a c)) ∧ Kept b w w' := by
  obtain ⟨w1, e1, a1, s1, k1, n1⟩ := hand_start h
  have HA := hide ha; have HC := hide hc; have H := hide s1; have E1 := hide e1; have K1 := hide k1; have N1 := hide n1
  have hS : (fun u => HbAt u w.heap.size b) w1.drew := a1
  clear ha hc h a1 e1 s1 k1 n1
  go_enter Try.func45, Try.ntmps45
  go_wp2_with fail
  rw [← unhide E1]
  refine region_by (S := fun u => HbAt u w.heap.size b) [(0, false), (1, false), (2, false), (3, true), (4, false), (5, false), (6, true), (7, true)] [] (by kernel_rfl) (by kernel_rfl) ?_
  iterate 3
    refine seq_read (v := ?_) rfl (fun _ _ _ h => h) (by rfl) hS ?_ ?_
    rotate_left 1
    · intro wx hwx
      have q0 := HbAt.c0 hwx
      go_simp <;> exact rfl
    go_frame
  refine seq_do rfl (fun K hK => ?_)
  go_simp
  refine (div_any a c (unhide HA) (unhide HC) _).mono ?_
  rintro e w2 ⟨k, rfl, rfl⟩
  refine hK _ _ (fun _ => hS) ?_
  clear hK K
  iterate 2
    refine seq_read (v := ?_) rfl (fun _ _ _ h => h) (by rfl) hS ?_ ?_
    rotate_left 1
    · intro wx hwx
      clear hwx
      go_simp <;> exact rfl
    go_frame
  refine seq_do rfl (fun K hK => ?_)
  go_simp
  refine (hNote_any b s _ _ _ (SAt.drewN (unhide H) _)).mono ?_
  rintro e w3 ⟨rfl, h3, k3⟩
  have hS3 := HbAt.kept (w := w1.drewN (1 + k)) hS k3 (unhide N1)
  refine hK _ _ (fun _ => hS3) ?_
  have H3 := hide h3; have K3 := hide (((unhide K1).trans (kept_drewN _ (1 + k)) (Or.inl rfl)).trans k3 (Or.inl rfl))
  clear h3 k3 hK K hS
  refine seq_do rfl (fun K hK => ?_)
  go_simp
  refine hK _ _ (fun _ => hS3) ?_
  clear hK K hS3
  refine seq_end ?_
  go_wp2_with fail
  go_ret
  exact ⟨rfl, unhide H3, unhide K3⟩

end Go.Proofs.Ytblglojbghmphaa
