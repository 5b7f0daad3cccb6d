/- Contract of package filter's hand: update (too far off). -/
import Derived.Test.YtblglojbghmphaaFilUpd0
namespace Go.Proofs.Ytblglojbghmphaa
open Go.RowKit

set_option maxHeartbeats 8000000 in
theorem hUpdate_high (b : Nat) (s : St) (z r gate : Int) (w : World) (hs : s.Ok) (hz : R64 z) (hr : R64 r) (hg : R64 gate) (h : SAt w b s) (hd : ¬ offW s r ≤ 0) (hp : muV gate (offW s r) < muV (offY s z) (offY s z)) :
    Calls Try.prog 23 #[hdV b, .int .i64 z, .int .i64 r, .int .i64 gate] w fun e w' => e = .returned (.bool (updT s z r gate)) ∧ SAt w' b (updS s z r gate) ∧ Kept b w w' := by
  obtain ⟨y, ey⟩ : ∃ y, y = offY s z := ⟨_, rfl⟩
  obtain ⟨d, ed⟩ : ∃ d, d = offW s r := ⟨_, rfl⟩
  rw [← ed] at hd hp
  rw [← ey] at hp
  have EY := hide ey; have ED := hide ed
  have RY := hide (show R64 y by rw [ey]; exact sbC_R _ _); have RD := hide (show R64 d by rw [ed]; exact adV_R _ _)
  clear ey ed
  obtain ⟨w1, e1, d1, s1, k1⟩ := old_start h
  have OK := hide hs; have E1 := hide e1; have D1 := hide d1; have S1 := hide s1; have K1 := hide k1
  have Rz := hide hz; have Rr := hide hr; have Rg := hide hg
  have a0 := h.c0; have a1 := h.c1; have a2 := h.c2; have a3 := h.c3; have a4 := h.c4; have a5 := h.c5; have a6 := h.c6; have lb := h.lt
  clear hs e1 d1 s1 k1 h hz hr hg
  go_enter Try.func23, Try.ntmps23
  go_wp2_with fail
  rw [← unhide E1]
  clear a0 a1 a2 a3 a4 a5 a6
  refine (hSub_any b _ z s.X _ (unhide Rz) (unhide OK).X (unhide S1)).mono ?_
  rintro e w2 ⟨rfl, h, k⟩
  have D2 := hide ((unhide D1).kept k)
  have S2 := hide h; have K2 := hide ((unhide K1).trans k (Or.inl rfl))
  clear h k S1 K1 D1
  have q0 := (unhide D2).hand.c0
  have c2 := (unhide D2).old.c2
  go_wp2_with fail
  clear q0 c2
  refine (hAdd_any b _ s.P00 r _ (unhide OK).P00 (unhide Rr) (unhide S2)).mono ?_
  rintro e w3 ⟨rfl, h, k⟩
  have D3 := hide ((unhide D2).kept k)
  have S3 := hide h; have K3 := hide ((unhide K2).trans k (Or.inl rfl))
  clear h k S2 K2 D2
  rw [show sbC z s.X = y from (unhide EY).symm, show adV s.P00 r = d from (unhide ED).symm]
  go_wp2_with fail
  have hS3 : Hd w.heap.size b (w.heap.size + 1) s w3.drew := (unhide D3).drew
  clear D3
  refine region_by (S := Hd w.heap.size b (w.heap.size + 1) s) [(0, false), (1, false), (2, false), (3, false), (4, false), (5, false), (7, false), (8, false), (9, false), (6, true), (10, true), (11, true), (12, true)] [] (by kernel_rfl) (by kernel_rfl) ?_
  refine seq_read (v := .int .i64 d) rfl (fun _ _ _ h => h) (by rfl) hS3 ?_ ?_
  · intro wx hwx
    have q0 := hwx.hand.c0
    clear hwx
    go_simp
  show SeqL _ _ _ _ _ _ (Act.put _ (some 26) _) _
  go_frame
  refine seq_read (v := .bool false) rfl (fun _ _ _ h => h) (by rfl) hS3 ?_ ?_
  · intro wx hwx
    have q0 := hwx.hand.c0
    clear hwx
    go_simp
  show SeqL _ _ _ _ _ _ (Act.put _ (some 27) _) _
  go_frame
  refine seq_read (v := .bool false) rfl (fun _ _ _ h => h) (by rfl) hS3 ?_ ?_
  · intro wx hwx
    have q0 := hwx.hand.c0
    clear hwx
    go_simp
  show SeqL _ _ _ _ _ _ (Act.put _ (some 28) _) _
  go_frame
  refine seq_read (v := hdV b) rfl (fun _ _ _ h => h) (by go_simp) hS3 ?_ ?_
  · intro wx hwx
    have q0 := hwx.hand.c0
    clear hwx
    go_simp
  show SeqL _ _ _ _ _ _ (Act.put _ (some 29) _) _
  go_frame
  refine seq_read (v := .int .i64 y) rfl (fun _ _ _ h => h) (by go_simp) hS3 ?_ ?_
  · intro wx hwx
    have q0 := hwx.hand.c0
    clear hwx
    go_simp
  show SeqL _ _ _ _ _ _ (Act.put _ (some 30) _) _
  go_frame
  refine seq_read (v := .int .i64 y) rfl (fun _ _ _ h => h) (by go_simp) hS3 ?_ ?_
  · intro wx hwx
    have q0 := hwx.hand.c0
    clear hwx
    go_simp
  show SeqL _ _ _ _ _ _ (Act.put _ (some 31) _) _
  go_frame
  refine seq_read (v := hdV b) rfl (fun _ _ _ h => h) (by go_simp) hS3 ?_ ?_
  · intro wx hwx
    have q0 := hwx.hand.c0
    clear hwx
    go_simp
  show SeqL _ _ _ _ _ _ (Act.put _ (some 33) _) _
  go_frame
  refine seq_read (v := .int .i64 gate) rfl (fun _ _ _ h => h) (by go_simp) hS3 ?_ ?_
  · intro wx hwx
    have q0 := hwx.hand.c0
    clear hwx
    go_simp
  show SeqL _ _ _ _ _ _ (Act.put _ (some 34) _) _
  go_frame
  refine seq_read (v := .int .i64 d) rfl (fun _ _ _ h => h) (by go_simp) hS3 ?_ ?_
  · intro wx hwx
    have q0 := hwx.hand.c0
    clear hwx
    go_simp
  show SeqL _ _ _ _ _ _ (Act.put _ (some 35) _) _
  go_frame
  refine seq_do rfl (fun K hK => ?_)
  go_simp
  refine (hMul_any b _ y y _ (unhide RY) (unhide RY) (SAt.drew (unhide S3))).mono ?_
  rintro e w4 ⟨rfl, h, k⟩
  have hS4 := hS3.kept k
  refine hK _ _ (fun _ => hS4) ?_
  clear hK K hS3
  have S4 := hide h; have K4 := hide (((unhide K3).trans (kept_drew w3) (Or.inl rfl)).trans k (Or.inl rfl))
  clear h k S3 K3
  refine seq_do rfl (fun K hK => ?_)
  go_simp
  refine (hMul_any b _ gate d _ (unhide Rg) (unhide RD) (unhide S4)).mono ?_
  rintro e w5 ⟨rfl, h, k⟩
  have hS5 := hS4.kept k
  refine hK _ _ (fun _ => hS5) ?_
  clear hK K hS4
  have S := hide h; have K5 := hide ((unhide K4).trans k (Or.inl rfl)); have D := hide hS5
  clear h k S4 K4
  refine seq_do rfl (fun K hK => ?_)
  go_simp
  refine hK _ _ (fun _ => hS5) ?_
  clear hK K
  refine seq_do rfl (fun K hK => ?_)
  go_simp
  refine hK _ _ (fun _ => hS5) ?_
  clear hK K hS5
  refine seq_end ?_
  have K := K5
  clear K5
  have q0 := (unhide D).hand.c0; have n1 := (unhide D).n1; have n2 := (unhide D).n2
  have c0 := (unhide D).old.c0; have c1 := (unhide D).old.c1; have c2 := (unhide D).old.c2; have c3 := (unhide D).old.c3; have c4 := (unhide D).old.c4; have c5 := (unhide D).old.c5; have c6 := (unhide D).old.c6
  have b0 := (unhide S).c0; have b1 := (unhide S).c1; have b2 := (unhide S).c2; have b3 := (unhide S).c3; have b4 := (unhide S).c4; have b5 := (unhide S).c5; have b6 := (unhide S).c6
  have f0 := (unhide S).free 0; have f1 := (unhide S).free 1; have f2 := (unhide S).free 2; have f3 := (unhide S).free 3; have f4 := (unhide S).free 4; have f5 := (unhide S).free 5; have f6 := (unhide S).free 6
  obtain ⟨w4, e4, h4, k4⟩ := (unhide S).back s
  have E4 := hide e4; have S4 := hide h4; have K4 := hide ((unhide K).trans k4 (Or.inl rfl))
  clear e4 h4 k4
  go_wp2_with fail
  rw [← unhide E4]
  go_ret
  have OV : overB s z r gate = true := by apply overB_high; rw [← unhide ED, ← unhide EY]; exact hp
  unfold updT updS; rw [OV]
  exact ⟨rfl, unhide S4, unhide K4⟩

end Go.Proofs.Ytblglojbghmphaa
