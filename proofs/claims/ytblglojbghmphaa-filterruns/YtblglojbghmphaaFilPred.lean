/- Contracts of package filter's hand: predict. -/
import Derived.Test.YtblglojbghmphaaFilOps
namespace Go.Proofs.Ytblglojbghmphaa
open Go.RowKit

set_option maxHeartbeats 2000000 in
theorem hPredict_any (b : Nat) (s : St) (dt q : Int) (w : World) (hs : s.Ok) (hdt : R64 dt) (hq : R64 q) (h : SAt w b s) :
    Calls Try.prog 20 #[hdV b, .int .i64 dt, .int .i64 q] w fun e w' => e = .returned (.tuple #[]) ∧ SAt w' b (predS s dt q) ∧ Kept b w w' := by
  obtain ⟨w1, e1, d1, s1, k1⟩ := old_start h
  have OK := hide hs; have E1 := hide e1; have D1 := hide d1; have S1 := hide s1; have K1 := hide k1
  have Rdt := hide hdt
  have Rq := hide hq
  have a0 := h.c0; have a1 := h.c1; have a2 := h.c2; have a3 := h.c3; have a4 := h.c4; have a5 := h.c5; have a6 := h.c6; have lb := h.lt
  clear hs e1 d1 s1 k1 h hdt hq
  go_enter Try.func20, Try.ntmps20
  go_wp2_with fail
  rw [← unhide E1]
  clear a0 a1 a2 a3 a4 a5 a6
  refine (hMul_any b _ s.P01 dt _ (unhide OK).P01 (unhide Rdt) (unhide S1)).mono ?_
  rintro e w2 ⟨rfl, h, k⟩
  have D2 := hide ((unhide D1).kept k)
  clear D1
  have S2 := hide h; have K2 := hide ((unhide K1).trans k (Or.inl rfl))
  clear h k S1 K1
  have q0 := (unhide D2).hand.c0
  have c4 := (unhide D2).old.c4
  go_wp2_with fail
  clear q0 c4
  refine (hMul_any b _ s.P11 dt _ (unhide OK).P11 (unhide Rdt) (unhide S2)).mono ?_
  rintro e w3 ⟨rfl, h, k⟩
  have D3 := hide ((unhide D2).kept k)
  clear D2
  have S3 := hide h; have K3 := hide ((unhide K2).trans k (Or.inl rfl))
  clear h k S2 K2
  have q0 := (unhide D3).hand.c0
  go_wp2_with fail
  clear q0
  have hS3 : Hd w.heap.size b (w.heap.size + 1) s w3.drew := (unhide D3).drew
  clear D3
  refine region_by (S := Hd w.heap.size b (w.heap.size + 1) s) [(0, false), (1, false), (2, false), (3, false), (4, false), (5, false), (6, false), (7, false), (8, false), (9, true), (10, true), (11, false), (12, false), (13, true)] [] (by kernel_rfl) (by kernel_rfl) ?_
  iterate 9
    refine seq_read (v := ?_) rfl (fun _ _ _ h => h) (by rfl) hS3 ?_ ?_
    rotate_left 1
    · intro wx hwx
      have q0 := hwx.hand.c0; have c0 := hwx.old.c0; have c1 := hwx.old.c1; have c2 := hwx.old.c2; have c3 := hwx.old.c3; have c4 := hwx.old.c4
      clear hwx
      go_simp <;> exact rfl
    go_frame
  refine seq_do rfl (fun K hK => ?_)
  go_simp
  refine (hMul_any b _ s.V dt _ (unhide OK).V (unhide Rdt) (SAt.drewN (unhide S3) 1)).mono ?_
  rintro e w4 ⟨rfl, h, k⟩
  have hS4 := hS3.kept k
  refine hK _ _ (fun _ => hS4) ?_
  clear hK K hS3
  have S4 := hide h; have K4 := hide (((unhide K3).trans (kept_drewN _ 1) (Or.inl rfl)).trans k (Or.inl rfl))
  clear h k S3 K3
  refine seq_do rfl (fun K hK => ?_)
  go_simp
  refine (hAdd_any b _ s.X (muV s.V dt) _ (unhide OK).X (muV_R _ _) (unhide S4)).mono ?_
  rintro e w5 ⟨rfl, h, k⟩
  have hS5 := hS4.kept k
  refine hK _ _ (fun _ => hS5) ?_
  clear hK K hS4
  have S5 := hide h; have K5 := hide ((unhide K4).trans k (Or.inl rfl))
  clear h k S4 K4
  iterate 2
    refine seq_read (v := ?_) rfl (fun _ _ _ h => h) (by rfl) hS5 ?_ ?_
    rotate_left 1
    · intro wx hwx
      have q0 := hwx.hand.c0; have c0 := hwx.old.c0; have c1 := hwx.old.c1; have c2 := hwx.old.c2; have c3 := hwx.old.c3; have c4 := hwx.old.c4
      clear hwx
      go_simp <;> exact rfl
    go_frame
  obtain ⟨w6, e4, h, k⟩ := (unhide S5).pX (adV s.X (muV s.V dt))
  have c := (unhide S5).c0; have f := (unhide S5).free 0
  refine seq_do rfl (fun K hK => ?_)
  go_simp
  rw [← e4]
  have D6 := hide (hS5.kept k)
  refine hK _ _ (fun _ => (unhide D6)) ?_
  have S6 := hide h; have K6 := hide ((unhide K5).trans k (Or.inl rfl))
  clear hK K e4 h k c f hS5 S5 K5
  refine seq_end ?_
  have q0 := (unhide D6).hand.c0
  go_wp2_with fail
  clear q0
  have hS6 : Hd w.heap.size b (w.heap.size + 1) s w6.drew := (unhide D6).drew
  clear D6
  refine region_by (S := Hd w.heap.size b (w.heap.size + 1) s) [(0, false), (1, false), (2, false), (3, false), (4, false), (5, false), (6, false), (7, false), (9, false), (11, false), (12, false), (13, false), (8, true), (10, true), (14, true), (15, true), (16, false), (17, false), (18, true)] [] (by kernel_rfl) (by kernel_rfl) ?_
  iterate 12
    refine seq_read (v := ?_) rfl (fun _ _ _ h => h) (by rfl) hS6 ?_ ?_
    rotate_left 1
    · intro wx hwx
      have q0 := hwx.hand.c0; have c0 := hwx.old.c0; have c1 := hwx.old.c1; have c2 := hwx.old.c2; have c3 := hwx.old.c3; have c4 := hwx.old.c4
      clear hwx
      go_simp <;> exact rfl
    go_frame
  refine seq_do rfl (fun K hK => ?_)
  go_simp
  refine (hAdd_any b _ s.P00 (muV s.P01 dt) _ (unhide OK).P00 (muV_R _ _) (SAt.drewN (unhide S6) 1)).mono ?_
  rintro e w7 ⟨rfl, h, k⟩
  have hS7 := hS6.kept k
  refine hK _ _ (fun _ => hS7) ?_
  clear hK K hS6
  have S7 := hide h; have K7 := hide (((unhide K6).trans (kept_drewN _ 1) (Or.inl rfl)).trans k (Or.inl rfl))
  clear h k S6 K6
  refine seq_do rfl (fun K hK => ?_)
  go_simp
  refine (hAdd_any b _ (adV s.P00 (muV s.P01 dt)) (muV s.P01 dt) _ (adV_R _ _) (muV_R _ _) (unhide S7)).mono ?_
  rintro e w8 ⟨rfl, h, k⟩
  have hS8 := hS7.kept k
  refine hK _ _ (fun _ => hS8) ?_
  clear hK K hS7
  have S8 := hide h; have K8 := hide ((unhide K7).trans k (Or.inl rfl))
  clear h k S7 K7
  refine seq_do rfl (fun K hK => ?_)
  go_simp
  refine (hMul_any b _ (muV s.P11 dt) dt _ (muV_R _ _) (unhide Rdt) (unhide S8)).mono ?_
  rintro e w9 ⟨rfl, h, k⟩
  have hS9 := hS8.kept k
  refine hK _ _ (fun _ => hS9) ?_
  clear hK K hS8
  have S9 := hide h; have K9 := hide ((unhide K8).trans k (Or.inl rfl))
  clear h k S8 K8
  refine seq_do rfl (fun K hK => ?_)
  go_simp
  refine (hAdd_any b _ (adV (adV s.P00 (muV s.P01 dt)) (muV s.P01 dt)) (muV (muV s.P11 dt) dt) _ (adV_R _ _) (muV_R _ _) (unhide S9)).mono ?_
  rintro e w10 ⟨rfl, h, k⟩
  have hS10 := hS9.kept k
  refine hK _ _ (fun _ => hS10) ?_
  clear hK K hS9
  have S10 := hide h; have K10 := hide ((unhide K9).trans k (Or.inl rfl))
  clear h k S9 K9
  iterate 2
    refine seq_read (v := ?_) rfl (fun _ _ _ h => h) (by rfl) hS10 ?_ ?_
    rotate_left 1
    · intro wx hwx
      have q0 := hwx.hand.c0; have c0 := hwx.old.c0; have c1 := hwx.old.c1; have c2 := hwx.old.c2; have c3 := hwx.old.c3; have c4 := hwx.old.c4
      clear hwx
      go_simp <;> exact rfl
    go_frame
  obtain ⟨w11, e4, h, k⟩ := (unhide S10).pP00 (adV (adV (adV s.P00 (muV s.P01 dt)) (muV s.P01 dt)) (muV (muV s.P11 dt) dt))
  have c := (unhide S10).c2; have f := (unhide S10).free 2
  refine seq_do rfl (fun K hK => ?_)
  go_simp
  rw [← e4]
  have D11 := hide (hS10.kept k)
  refine hK _ _ (fun _ => (unhide D11)) ?_
  have S11 := hide h; have K11 := hide ((unhide K10).trans k (Or.inl rfl))
  clear hK K e4 h k c f hS10 S10 K10
  refine seq_end ?_
  have q0 := (unhide D11).hand.c0
  go_wp2_with fail
  clear q0
  have hS11 : Hd w.heap.size b (w.heap.size + 1) s w11.drew := (unhide D11).drew
  clear D11
  refine region_by (S := Hd w.heap.size b (w.heap.size + 1) s) [(0, false), (1, false), (2, false), (3, false), (4, false), (5, false), (6, true), (7, false), (8, false), (9, true)] [] (by kernel_rfl) (by kernel_rfl) ?_
  iterate 6
    refine seq_read (v := ?_) rfl (fun _ _ _ h => h) (by rfl) hS11 ?_ ?_
    rotate_left 1
    · intro wx hwx
      have q0 := hwx.hand.c0; have c0 := hwx.old.c0; have c1 := hwx.old.c1; have c2 := hwx.old.c2; have c3 := hwx.old.c3; have c4 := hwx.old.c4
      clear hwx
      go_simp <;> exact rfl
    go_frame
  refine seq_do rfl (fun K hK => ?_)
  go_simp
  refine (hAdd_any b _ s.P01 (muV s.P11 dt) _ (unhide OK).P01 (muV_R _ _) (SAt.drewN (unhide S11) 1)).mono ?_
  rintro e w12 ⟨rfl, h, k⟩
  have hS12 := hS11.kept k
  refine hK _ _ (fun _ => hS12) ?_
  clear hK K hS11
  have S12 := hide h; have K12 := hide (((unhide K11).trans (kept_drewN _ 1) (Or.inl rfl)).trans k (Or.inl rfl))
  clear h k S11 K11
  iterate 2
    refine seq_read (v := ?_) rfl (fun _ _ _ h => h) (by rfl) hS12 ?_ ?_
    rotate_left 1
    · intro wx hwx
      have q0 := hwx.hand.c0; have c0 := hwx.old.c0; have c1 := hwx.old.c1; have c2 := hwx.old.c2; have c3 := hwx.old.c3; have c4 := hwx.old.c4
      clear hwx
      go_simp <;> exact rfl
    go_frame
  obtain ⟨w13, e4, h, k⟩ := (unhide S12).pP01 (adV s.P01 (muV s.P11 dt))
  have c := (unhide S12).c3; have f := (unhide S12).free 3
  refine seq_do rfl (fun K hK => ?_)
  go_simp
  rw [← e4]
  have D13 := hide (hS12.kept k)
  refine hK _ _ (fun _ => (unhide D13)) ?_
  have S13 := hide h; have K13 := hide ((unhide K12).trans k (Or.inl rfl))
  clear hK K e4 h k c f hS12 S12 K12
  refine seq_end ?_
  have q0 := (unhide D13).hand.c0
  go_wp2_with fail
  clear q0
  have hS13 : Hd w.heap.size b (w.heap.size + 1) s w13.drew := (unhide D13).drew
  clear D13
  refine region_by (S := Hd w.heap.size b (w.heap.size + 1) s) [(0, false), (1, false), (2, false), (3, false), (4, false), (5, false), (6, true), (7, false), (8, false), (9, true)] [] (by kernel_rfl) (by kernel_rfl) ?_
  iterate 6
    refine seq_read (v := ?_) rfl (fun _ _ _ h => h) (by rfl) hS13 ?_ ?_
    rotate_left 1
    · intro wx hwx
      have q0 := hwx.hand.c0; have c0 := hwx.old.c0; have c1 := hwx.old.c1; have c2 := hwx.old.c2; have c3 := hwx.old.c3; have c4 := hwx.old.c4
      clear hwx
      go_simp <;> exact rfl
    go_frame
  refine seq_do rfl (fun K hK => ?_)
  go_simp
  refine (hAdd_any b _ s.P11 q _ (unhide OK).P11 (unhide Rq) (SAt.drewN (unhide S13) 1)).mono ?_
  rintro e w14 ⟨rfl, h, k⟩
  have hS14 := hS13.kept k
  refine hK _ _ (fun _ => hS14) ?_
  clear hK K hS13
  have S14 := hide h; have K14 := hide (((unhide K13).trans (kept_drewN _ 1) (Or.inl rfl)).trans k (Or.inl rfl))
  clear h k S13 K13
  iterate 2
    refine seq_read (v := ?_) rfl (fun _ _ _ h => h) (by rfl) hS14 ?_ ?_
    rotate_left 1
    · intro wx hwx
      have q0 := hwx.hand.c0; have c0 := hwx.old.c0; have c1 := hwx.old.c1; have c2 := hwx.old.c2; have c3 := hwx.old.c3; have c4 := hwx.old.c4
      clear hwx
      go_simp <;> exact rfl
    go_frame
  obtain ⟨w15, e4, h, k⟩ := (unhide S14).pP11 (adV s.P11 q)
  have c := (unhide S14).c4; have f := (unhide S14).free 4
  refine seq_do rfl (fun K hK => ?_)
  go_simp
  rw [← e4]
  have D15 := hide (hS14.kept k)
  refine hK _ _ (fun _ => (unhide D15)) ?_
  have S15 := hide h; have K15 := hide ((unhide K14).trans k (Or.inl rfl))
  clear hK K e4 h k c f hS14 S14 K14
  refine seq_end ?_
  go_wp2_with fail
  go_end0
  exact ⟨rfl, unhide S15, unhide K15⟩

end Go.Proofs.Ytblglojbghmphaa
