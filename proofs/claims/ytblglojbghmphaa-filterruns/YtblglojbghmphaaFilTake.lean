/- Contracts of package filter's hand: take. -/
import Derived.Test.YtblglojbghmphaaFilOps
namespace Go.Proofs.Ytblglojbghmphaa
open Go.RowKit

set_option maxHeartbeats 2000000 in
theorem hTake_any (b : Nat) (s : St) (y d : Int) (w : World) (hs : s.Ok) (hy : R64 y) (hd : R64 d) (h : SAt w b s) :
    Calls Try.prog 32 #[hdV b, .int .i64 y, .int .i64 d] w fun e w' => e = .returned (.tuple #[]) ∧ SAt w' b (takeS s y d) ∧ Kept b w w' := by
  obtain ⟨w1, e1, d1, s1, k1⟩ := old_start h
  have OK := hide hs; have E1 := hide e1; have D1 := hide d1; have S1 := hide s1; have K1 := hide k1
  have Ry := hide hy
  have Rd := hide hd
  have a0 := h.c0; have a1 := h.c1; have a2 := h.c2; have a3 := h.c3; have a4 := h.c4; have a5 := h.c5; have a6 := h.c6; have lb := h.lt
  clear hs e1 d1 s1 k1 h hy hd
  go_enter Try.func32, Try.ntmps32
  go_wp2_with fail
  rw [← unhide E1]
  clear a0 a1 a2 a3 a4 a5 a6
  refine (hDiv_any b _ s.P00 d _ (unhide OK).P00 (unhide Rd) (unhide S1)).mono ?_
  rintro e w2 ⟨rfl, h, k⟩
  have D2 := hide ((unhide D1).kept k)
  clear D1
  have S2 := hide h; have K2 := hide ((unhide K1).trans k (Or.inl rfl))
  clear h k S1 K1
  have q0 := (unhide D2).hand.c0
  have c3 := (unhide D2).old.c3
  go_wp2_with fail
  clear q0 c3
  refine (hDiv_any b _ s.P01 d _ (unhide OK).P01 (unhide Rd) (unhide S2)).mono ?_
  rintro e w3 ⟨rfl, h, k⟩
  have D3 := hide ((unhide D2).kept k)
  clear D2
  have S3 := hide h; have K3 := hide ((unhide K2).trans k (Or.inl rfl))
  clear h k S2 K2
  have q0 := (unhide D3).hand.c0
  go_wp2_with fail
  clear q0
  have hS3 : Hd w.heap.size b (w.heap.size + 1) s w3.drew := (unhide D3).drew
  clear D3
  refine region_by (S := Hd w.heap.size b (w.heap.size + 1) s) [(0, false), (1, false), (2, false), (3, false), (4, false), (5, false), (6, false), (7, false), (8, true), (9, true), (10, false), (11, false), (12, true)] [] (by kernel_rfl) (by kernel_rfl) ?_
  iterate 8
    refine seq_read (v := ?_) rfl (fun _ _ _ h => h) (by rfl) hS3 ?_ ?_
    rotate_left 1
    · intro wx hwx
      have q0 := hwx.hand.c0; have c0 := hwx.old.c0; have c1 := hwx.old.c1; have c2 := hwx.old.c2; have c3 := hwx.old.c3; have c4 := hwx.old.c4
      clear hwx
      go_simp <;> exact rfl
    go_frame
  refine seq_do rfl (fun K hK => ?_)
  go_simp
  refine (hMul_any b _ (divV s.P00 d) y _ (quot_R _ _) (unhide Ry) (SAt.drewN (unhide S3) 1)).mono ?_
  rintro e w4 ⟨rfl, h, k⟩
  have hS4 := hS3.kept k
  refine hK _ _ (fun _ => hS4) ?_
  clear hK K hS3
  have S4 := hide h; have K4 := hide (((unhide K3).trans (kept_drewN _ 1) (Or.inl rfl)).trans k (Or.inl rfl))
  clear h k S3 K3
  refine seq_do rfl (fun K hK => ?_)
  go_simp
  refine (hAdd_any b _ s.X (muV (divV s.P00 d) y) _ (unhide OK).X (muV_R _ _) (unhide S4)).mono ?_
  rintro e w5 ⟨rfl, h, k⟩
  have hS5 := hS4.kept k
  refine hK _ _ (fun _ => hS5) ?_
  clear hK K hS4
  have S5 := hide h; have K5 := hide ((unhide K4).trans k (Or.inl rfl))
  clear h k S4 K4
  iterate 2
    refine seq_read (v := ?_) rfl (fun _ _ _ h => h) (by rfl) hS5 ?_ ?_
    rotate_left 1
    · intro wx hwx
      have q0 := hwx.hand.c0; have c0 := hwx.old.c0; have c1 := hwx.old.c1; have c2 := hwx.old.c2; have c3 := hwx.old.c3; have c4 := hwx.old.c4
      clear hwx
      go_simp <;> exact rfl
    go_frame
  obtain ⟨w6, e4, h, k⟩ := (unhide S5).pX (adV s.X (muV (divV s.P00 d) y))
  have c := (unhide S5).c0; have f := (unhide S5).free 0
  refine seq_do rfl (fun K hK => ?_)
  go_simp
  rw [← e4]
  have D6 := hide (hS5.kept k)
  refine hK _ _ (fun _ => (unhide D6)) ?_
  have S6 := hide h; have K6 := hide ((unhide K5).trans k (Or.inl rfl))
  clear hK K e4 h k c f hS5 S5 K5
  refine seq_end ?_
  have q0 := (unhide D6).hand.c0
  go_wp2_with fail
  clear q0
  have hS6 : Hd w.heap.size b (w.heap.size + 1) s w6.drew := (unhide D6).drew
  clear D6
  refine region_by (S := Hd w.heap.size b (w.heap.size + 1) s) [(0, false), (1, false), (2, false), (3, false), (4, false), (5, false), (6, false), (7, false), (8, true), (9, true), (10, false), (11, false), (12, true)] [] (by kernel_rfl) (by kernel_rfl) ?_
  iterate 8
    refine seq_read (v := ?_) rfl (fun _ _ _ h => h) (by rfl) hS6 ?_ ?_
    rotate_left 1
    · intro wx hwx
      have q0 := hwx.hand.c0; have c0 := hwx.old.c0; have c1 := hwx.old.c1; have c2 := hwx.old.c2; have c3 := hwx.old.c3; have c4 := hwx.old.c4
      clear hwx
      go_simp <;> exact rfl
    go_frame
  refine seq_do rfl (fun K hK => ?_)
  go_simp
  refine (hMul_any b _ (divV s.P01 d) y _ (quot_R _ _) (unhide Ry) (SAt.drewN (unhide S6) 1)).mono ?_
  rintro e w7 ⟨rfl, h, k⟩
  have hS7 := hS6.kept k
  refine hK _ _ (fun _ => hS7) ?_
  clear hK K hS6
  have S7 := hide h; have K7 := hide (((unhide K6).trans (kept_drewN _ 1) (Or.inl rfl)).trans k (Or.inl rfl))
  clear h k S6 K6
  refine seq_do rfl (fun K hK => ?_)
  go_simp
  refine (hAdd_any b _ s.V (muV (divV s.P01 d) y) _ (unhide OK).V (muV_R _ _) (unhide S7)).mono ?_
  rintro e w8 ⟨rfl, h, k⟩
  have hS8 := hS7.kept k
  refine hK _ _ (fun _ => hS8) ?_
  clear hK K hS7
  have S8 := hide h; have K8 := hide ((unhide K7).trans k (Or.inl rfl))
  clear h k S7 K7
  iterate 2
    refine seq_read (v := ?_) rfl (fun _ _ _ h => h) (by rfl) hS8 ?_ ?_
    rotate_left 1
    · intro wx hwx
      have q0 := hwx.hand.c0; have c0 := hwx.old.c0; have c1 := hwx.old.c1; have c2 := hwx.old.c2; have c3 := hwx.old.c3; have c4 := hwx.old.c4
      clear hwx
      go_simp <;> exact rfl
    go_frame
  obtain ⟨w9, e4, h, k⟩ := (unhide S8).pV (adV s.V (muV (divV s.P01 d) y))
  have c := (unhide S8).c1; have f := (unhide S8).free 1
  refine seq_do rfl (fun K hK => ?_)
  go_simp
  rw [← e4]
  have D9 := hide (hS8.kept k)
  refine hK _ _ (fun _ => (unhide D9)) ?_
  have S9 := hide h; have K9 := hide ((unhide K8).trans k (Or.inl rfl))
  clear hK K e4 h k c f hS8 S8 K8
  refine seq_end ?_
  have q0 := (unhide D9).hand.c0
  go_wp2_with fail
  clear q0
  have hS9 : Hd w.heap.size b (w.heap.size + 1) s w9.drew := (unhide D9).drew
  clear D9
  refine region_by (S := Hd w.heap.size b (w.heap.size + 1) s) [(0, false), (1, false), (2, false), (3, false), (4, false), (5, false), (6, false), (7, false), (8, false), (9, true), (10, true), (11, false), (12, false), (13, true)] [] (by kernel_rfl) (by kernel_rfl) ?_
  iterate 9
    refine seq_read (v := ?_) rfl (fun _ _ _ h => h) (by rfl) hS9 ?_ ?_
    rotate_left 1
    · intro wx hwx
      have q0 := hwx.hand.c0; have c0 := hwx.old.c0; have c1 := hwx.old.c1; have c2 := hwx.old.c2; have c3 := hwx.old.c3; have c4 := hwx.old.c4
      clear hwx
      go_simp <;> exact rfl
    go_frame
  refine seq_do rfl (fun K hK => ?_)
  go_simp
  refine (hMul_any b _ (divV s.P00 d) s.P00 _ (quot_R _ _) (unhide OK).P00 (SAt.drewN (unhide S9) 1)).mono ?_
  rintro e w10 ⟨rfl, h, k⟩
  have hS10 := hS9.kept k
  refine hK _ _ (fun _ => hS10) ?_
  clear hK K hS9
  have S10 := hide h; have K10 := hide (((unhide K9).trans (kept_drewN _ 1) (Or.inl rfl)).trans k (Or.inl rfl))
  clear h k S9 K9
  refine seq_do rfl (fun K hK => ?_)
  go_simp
  refine (hSub_any b _ s.P00 (muV (divV s.P00 d) s.P00) _ (unhide OK).P00 (muV_R _ _) (unhide S10)).mono ?_
  rintro e w11 ⟨rfl, h, k⟩
  have hS11 := hS10.kept k
  refine hK _ _ (fun _ => hS11) ?_
  clear hK K hS10
  have S11 := hide h; have K11 := hide ((unhide K10).trans k (Or.inl rfl))
  clear h k S10 K10
  iterate 2
    refine seq_read (v := ?_) rfl (fun _ _ _ h => h) (by rfl) hS11 ?_ ?_
    rotate_left 1
    · intro wx hwx
      have q0 := hwx.hand.c0; have c0 := hwx.old.c0; have c1 := hwx.old.c1; have c2 := hwx.old.c2; have c3 := hwx.old.c3; have c4 := hwx.old.c4
      clear hwx
      go_simp <;> exact rfl
    go_frame
  obtain ⟨w12, e4, h, k⟩ := (unhide S11).pP00 (sbC s.P00 (muV (divV s.P00 d) s.P00))
  have c := (unhide S11).c2; have f := (unhide S11).free 2
  refine seq_do rfl (fun K hK => ?_)
  go_simp
  rw [← e4]
  have D12 := hide (hS11.kept k)
  refine hK _ _ (fun _ => (unhide D12)) ?_
  have S12 := hide h; have K12 := hide ((unhide K11).trans k (Or.inl rfl))
  clear hK K e4 h k c f hS11 S11 K11
  refine seq_end ?_
  have q0 := (unhide D12).hand.c0
  go_wp2_with fail
  clear q0
  have hS12 : Hd w.heap.size b (w.heap.size + 1) s w12.drew := (unhide D12).drew
  clear D12
  refine region_by (S := Hd w.heap.size b (w.heap.size + 1) s) [(0, false), (1, false), (2, false), (3, false), (4, false), (5, false), (6, false), (7, false), (8, false), (9, true), (10, true), (11, false), (12, false), (13, true)] [] (by kernel_rfl) (by kernel_rfl) ?_
  iterate 9
    refine seq_read (v := ?_) rfl (fun _ _ _ h => h) (by rfl) hS12 ?_ ?_
    rotate_left 1
    · intro wx hwx
      have q0 := hwx.hand.c0; have c0 := hwx.old.c0; have c1 := hwx.old.c1; have c2 := hwx.old.c2; have c3 := hwx.old.c3; have c4 := hwx.old.c4
      clear hwx
      go_simp <;> exact rfl
    go_frame
  refine seq_do rfl (fun K hK => ?_)
  go_simp
  refine (hMul_any b _ (divV s.P00 d) s.P01 _ (quot_R _ _) (unhide OK).P01 (SAt.drewN (unhide S12) 1)).mono ?_
  rintro e w13 ⟨rfl, h, k⟩
  have hS13 := hS12.kept k
  refine hK _ _ (fun _ => hS13) ?_
  clear hK K hS12
  have S13 := hide h; have K13 := hide (((unhide K12).trans (kept_drewN _ 1) (Or.inl rfl)).trans k (Or.inl rfl))
  clear h k S12 K12
  refine seq_do rfl (fun K hK => ?_)
  go_simp
  refine (hSub_any b _ s.P01 (muV (divV s.P00 d) s.P01) _ (unhide OK).P01 (muV_R _ _) (unhide S13)).mono ?_
  rintro e w14 ⟨rfl, h, k⟩
  have hS14 := hS13.kept k
  refine hK _ _ (fun _ => hS14) ?_
  clear hK K hS13
  have S14 := hide h; have K14 := hide ((unhide K13).trans k (Or.inl rfl))
  clear h k S13 K13
  iterate 2
    refine seq_read (v := ?_) rfl (fun _ _ _ h => h) (by rfl) hS14 ?_ ?_
    rotate_left 1
    · intro wx hwx
      have q0 := hwx.hand.c0; have c0 := hwx.old.c0; have c1 := hwx.old.c1; have c2 := hwx.old.c2; have c3 := hwx.old.c3; have c4 := hwx.old.c4
      clear hwx
      go_simp <;> exact rfl
    go_frame
  obtain ⟨w15, e4, h, k⟩ := (unhide S14).pP01 (sbC s.P01 (muV (divV s.P00 d) s.P01))
  have c := (unhide S14).c3; have f := (unhide S14).free 3
  refine seq_do rfl (fun K hK => ?_)
  go_simp
  rw [← e4]
  have D15 := hide (hS14.kept k)
  refine hK _ _ (fun _ => (unhide D15)) ?_
  have S15 := hide h; have K15 := hide ((unhide K14).trans k (Or.inl rfl))
  clear hK K e4 h k c f hS14 S14 K14
  refine seq_end ?_
  have q0 := (unhide D15).hand.c0
  go_wp2_with fail
  clear q0
  have hS15 : Hd w.heap.size b (w.heap.size + 1) s w15.drew := (unhide D15).drew
  clear D15
  refine region_by (S := Hd w.heap.size b (w.heap.size + 1) s) [(0, false), (1, false), (2, false), (3, false), (4, false), (5, false), (6, false), (7, false), (8, false), (9, true), (10, true), (11, false), (12, false), (13, true)] [] (by kernel_rfl) (by kernel_rfl) ?_
  iterate 9
    refine seq_read (v := ?_) rfl (fun _ _ _ h => h) (by rfl) hS15 ?_ ?_
    rotate_left 1
    · intro wx hwx
      have q0 := hwx.hand.c0; have c0 := hwx.old.c0; have c1 := hwx.old.c1; have c2 := hwx.old.c2; have c3 := hwx.old.c3; have c4 := hwx.old.c4
      clear hwx
      go_simp <;> exact rfl
    go_frame
  refine seq_do rfl (fun K hK => ?_)
  go_simp
  refine (hMul_any b _ (divV s.P01 d) s.P01 _ (quot_R _ _) (unhide OK).P01 (SAt.drewN (unhide S15) 1)).mono ?_
  rintro e w16 ⟨rfl, h, k⟩
  have hS16 := hS15.kept k
  refine hK _ _ (fun _ => hS16) ?_
  clear hK K hS15
  have S16 := hide h; have K16 := hide (((unhide K15).trans (kept_drewN _ 1) (Or.inl rfl)).trans k (Or.inl rfl))
  clear h k S15 K15
  refine seq_do rfl (fun K hK => ?_)
  go_simp
  refine (hSub_any b _ s.P11 (muV (divV s.P01 d) s.P01) _ (unhide OK).P11 (muV_R _ _) (unhide S16)).mono ?_
  rintro e w17 ⟨rfl, h, k⟩
  have hS17 := hS16.kept k
  refine hK _ _ (fun _ => hS17) ?_
  clear hK K hS16
  have S17 := hide h; have K17 := hide ((unhide K16).trans k (Or.inl rfl))
  clear h k S16 K16
  iterate 2
    refine seq_read (v := ?_) rfl (fun _ _ _ h => h) (by rfl) hS17 ?_ ?_
    rotate_left 1
    · intro wx hwx
      have q0 := hwx.hand.c0; have c0 := hwx.old.c0; have c1 := hwx.old.c1; have c2 := hwx.old.c2; have c3 := hwx.old.c3; have c4 := hwx.old.c4
      clear hwx
      go_simp <;> exact rfl
    go_frame
  obtain ⟨w18, e4, h, k⟩ := (unhide S17).pP11 (sbC s.P11 (muV (divV s.P01 d) s.P01))
  have c := (unhide S17).c4; have f := (unhide S17).free 4
  refine seq_do rfl (fun K hK => ?_)
  go_simp
  rw [← e4]
  have D18 := hide (hS17.kept k)
  refine hK _ _ (fun _ => (unhide D18)) ?_
  have S18 := hide h; have K18 := hide ((unhide K17).trans k (Or.inl rfl))
  clear hK K e4 h k c f hS17 S17 K17
  refine seq_end ?_
  have q0 := (unhide D18).hand.c0; have c := (unhide S18).c6; have f := (unhide S18).free 6
  obtain ⟨w19, e4, h, k⟩ := (unhide S18).pM 0
  have S19 := hide h; have K19 := hide ((unhide K18).trans k (Or.inl rfl)); have E4 := hide e4
  clear h k e4
  go_wp2_with fail
  rw [← unhide E4]
  go_end0
  exact ⟨rfl, unhide S19, unhide K19⟩

end Go.Proofs.Ytblglojbghmphaa
