/- Joined: RefPred, RefUpdA, RefUpdB, RefUpdC, RefUpd, RefStep, NodDec. -/
import Derived.Test.YthimcecbgpamdaaGreatNear165
import Derived.Deep.Cut
import Derived.Test.YthimcecbgpamdaaGreatNear148
import Derived.Test.YthimcecbgpamdaaGreatNear66
namespace Go.Proofs.YthimcecbgpamdaaGreat
open Go.RowKit

set_option maxHeartbeats 2000000 in
theorem refPredict_any (s : St) (dt q : Int) (w : World) (hs : s.Ok) (hdt : R64 dt) (hq : R64 q) :
    Calls Tryz.prog 87 #[stV s, .int .i64 dt, .int .i64 q] w fun e w' => e = .returned (stV (predS s dt q)) ∧ Below w.heap.size w w' := by
  obtain ⟨w1, e1, g1⟩ := rg_start w s
  have OK := hide hs; have E1 := hide e1; have G1 := hide g1
  have Rdt := hide hdt
  have Rq := hide hq
  clear hs e1 g1 hdt hq
  go_enter Tryz.func87, Tryz.ntmps87
  go_wp2_with fail
  rw [← unhide E1]
  refine (rMul _ _ s.P01 dt _ (unhide OK).P01 (unhide Rdt) (unhide G1).rk).mono ?_
  rintro e w2 ⟨rfl, h, k⟩
  have G2 := hide ((unhide G1).kept k h)
  clear h k G1
  have c4 := (unhide G2).src.c4
  go_wp2_with fail
  clear c4
  refine (rMul _ _ s.P11 dt _ (unhide OK).P11 (unhide Rdt) (unhide G2).rk).mono ?_
  rintro e w3 ⟨rfl, h, k⟩
  have G3 := hide ((unhide G2).kept k h)
  clear h k G2
  have c0 := (unhide G3).src.c0
  have c1 := (unhide G3).src.c1
  have c2 := (unhide G3).src.c2
  have c3 := (unhide G3).src.c3
  have c4 := (unhide G3).src.c4
  have c5 := (unhide G3).src.c5
  have c6 := (unhide G3).src.c6
  go_wp2_with fail
  clear c0 c1 c2 c3 c4 c5 c6
  obtain ⟨w4, e4, h⟩ := rh_start (unhide G3)
  rw [← e4]
  obtain ⟨bn, ebn⟩ : ∃ bn, bn = w3.heap.size := ⟨_, rfl⟩
  rw [← ebn] at h
  rw [← ebn]
  have G4 := hide h
  clear e4 h ebn G3
  have hS4 : SAt w4.drew w.heap.size s := (unhide G4).g.src
  refine region_by (S := fun u => SAt u w.heap.size s) [(0, false), (1, false), (2, false), (3, false), (4, false), (5, false), (6, false), (7, true), (8, true), (9, false), (10, true)] [] (by kernel_rfl) (by kernel_rfl) ?_
  iterate 7
    refine seq_read (v := ?_) rfl (fun _ _ _ h => h) (by rfl) hS4 ?_ ?_
    rotate_left 1
    · intro wx hwx
      have c0 := hwx.c0; have c1 := hwx.c1; have c2 := hwx.c2; have c3 := hwx.c3; have c4 := hwx.c4
      clear hwx
      go_simp <;> exact rfl
    go_frame
  refine seq_do rfl (fun K hK => ?_)
  go_simp
  have Gd := hide (unhide G4).drew
  refine (rMul _ _ s.V dt _ (unhide OK).V (unhide Rdt) (unhide Gd).g.rk).mono ?_
  rintro e w5 ⟨rfl, h, k⟩
  have G5 := hide ((unhide Gd).kept k h)
  have hS5 := (unhide G5).g.src
  refine hK _ _ (fun _ => hS5) ?_
  clear hK K hS4
  clear h k G4 Gd
  refine seq_do rfl (fun K hK => ?_)
  go_simp
  refine (rAdd _ _ s.X (muV s.V dt) _ (unhide OK).X (muV_R _ _) (unhide G5).g.rk).mono ?_
  rintro e w6 ⟨rfl, h, k⟩
  have G6 := hide ((unhide G5).kept k h)
  have hS6 := (unhide G6).g.src
  refine hK _ _ (fun _ => hS6) ?_
  clear hK K hS5
  clear h k G5
  iterate 1
    refine seq_read (v := ?_) rfl (fun _ _ _ h => h) (by rfl) hS6 ?_ ?_
    rotate_left 1
    · intro wx hwx
      have c0 := hwx.c0; have c1 := hwx.c1; have c2 := hwx.c2; have c3 := hwx.c3; have c4 := hwx.c4
      clear hwx
      go_simp <;> exact rfl
    go_frame
  obtain ⟨w7, e4, h, k⟩ := (unhide G6).nw.pX (adV s.X (muV s.V dt))
  have c := (unhide G6).nw.c0; have f := (unhide G6).nw.free 0
  refine seq_do rfl (fun K hK => ?_)
  go_simp
  rw [← e4]
  have G7 := hide ((unhide G6).put k h)
  refine hK _ _ (fun _ => (unhide G7).g.src) ?_
  clear hK K e4 h k c f hS6 G6
  refine seq_end ?_
  have c2 := (unhide G7).g.src.c2
  go_wp2_with fail
  clear c2
  refine (rAdd _ _ s.P00 (muV s.P01 dt) _ (unhide OK).P00 (muV_R _ _) (unhide G7).g.rk).mono ?_
  rintro e w8 ⟨rfl, h, k⟩
  have G8 := hide ((unhide G7).kept k h)
  clear h k G7
  go_wp2_with fail
  refine (rAdd _ _ (adV s.P00 (muV s.P01 dt)) (muV s.P01 dt) _ (adV_R _ _) (muV_R _ _) (unhide G8).g.rk).mono ?_
  rintro e w9 ⟨rfl, h, k⟩
  have G9 := hide ((unhide G8).kept k h)
  clear h k G8
  go_wp2_with fail
  refine (rMul _ _ (muV s.P11 dt) dt _ (muV_R _ _) (unhide Rdt) (unhide G9).g.rk).mono ?_
  rintro e w10 ⟨rfl, h, k⟩
  have G10 := hide ((unhide G9).kept k h)
  clear h k G9
  go_wp2_with fail
  refine (rAdd _ _ (adV (adV s.P00 (muV s.P01 dt)) (muV s.P01 dt)) (muV (muV s.P11 dt) dt) _ (adV_R _ _) (muV_R _ _) (unhide G10).g.rk).mono ?_
  rintro e w11 ⟨rfl, h, k⟩
  have G11 := hide ((unhide G10).kept k h)
  clear h k G10
  obtain ⟨w12, e4, h, k⟩ := (unhide G11).nw.pP00 (adV (adV (adV s.P00 (muV s.P01 dt)) (muV s.P01 dt)) (muV (muV s.P11 dt) dt))
  have c := (unhide G11).nw.c2; have f := (unhide G11).nw.free 2
  have G12 := hide ((unhide G11).put k h); have E4 := hide e4
  clear h k e4
  go_upto_region 7 with fail
  rw [← unhide E4]
  clear c f E4 G11
  have c3 := (unhide G12).g.src.c3
  go_wp2_with fail
  clear c3
  refine (rAdd _ _ s.P01 (muV s.P11 dt) _ (unhide OK).P01 (muV_R _ _) (unhide G12).g.rk).mono ?_
  rintro e w13 ⟨rfl, h, k⟩
  have G13 := hide ((unhide G12).kept k h)
  clear h k G12
  obtain ⟨w14, e4, h, k⟩ := (unhide G13).nw.pP01 (adV s.P01 (muV s.P11 dt))
  have c := (unhide G13).nw.c3; have f := (unhide G13).nw.free 3
  have G14 := hide ((unhide G13).put k h); have E4 := hide e4
  clear h k e4
  go_upto_region 8 with fail
  rw [← unhide E4]
  clear c f E4 G13
  have c4 := (unhide G14).g.src.c4
  go_wp2_with fail
  clear c4
  refine (rAdd _ _ s.P11 q _ (unhide OK).P11 (unhide Rq) (unhide G14).g.rk).mono ?_
  rintro e w15 ⟨rfl, h, k⟩
  have G15 := hide ((unhide G14).kept k h)
  clear h k G14
  obtain ⟨w16, e4, h, k⟩ := (unhide G15).nw.pP11 (adV s.P11 q)
  have c := (unhide G15).nw.c4; have f := (unhide G15).nw.free 4
  have G16 := hide ((unhide G15).put k h); have E4 := hide e4
  clear h k e4
  go_upto_region 9 with fail
  rw [← unhide E4]
  clear c f E4 G15
  have rk0 := (unhide G16).g.rk.cell0
  obtain ⟨w17, e4, h, k⟩ := (unhide G16).nw.pB _
  have c := (unhide G16).nw.c5; have f := (unhide G16).nw.free 5
  have G17 := hide ((unhide G16).put k h); have E4 := hide e4
  clear h k e4
  go_upto_region 10 with fail
  rw [← unhide E4]
  clear c f E4 rk0 G16
  obtain ⟨t, et⟩ : ∃ t : St, t = predS s dt q := ⟨_, rfl⟩
  have N := hide (show SAt w17 bn t by rw [et]; exact (unhide G17).nw)
  have c0 := (unhide N).c0; have c1 := (unhide N).c1; have c2 := (unhide N).c2; have c3 := (unhide N).c3; have c4 := (unhide N).c4; have c5 := (unhide N).c5; have c6 := (unhide N).c6
  have b0 := (unhide G17).g.res.c0; have b1 := (unhide G17).g.res.c1; have b2 := (unhide G17).g.res.c2; have b3 := (unhide G17).g.res.c3; have b4 := (unhide G17).g.res.c4; have b5 := (unhide G17).g.res.c5; have b6 := (unhide G17).g.res.c6
  have f0 := (unhide G17).g.res.free 0; have f1 := (unhide G17).g.res.free 1; have f2 := (unhide G17).g.res.free 2; have f3 := (unhide G17).g.res.free 3; have f4 := (unhide G17).g.res.free 4; have f5 := (unhide G17).g.res.free 5; have f6 := (unhide G17).g.res.free 6
  have ln := (unhide G17).lt
  obtain ⟨u, e4, h4, k4⟩ := (unhide G17).g.res.put t
  have E4 := hide e4; have H4 := hide h4; have K4 := hide (below_of_kept (unhide G17).g.bel k4 (by omega) (unhide G17).g.bel.size)
  have ET := hide et
  clear e4 h4 k4 et
  go_wp2_with fail
  rw [← unhide E4]
  have p0 := (unhide H4).c0; have p1 := (unhide H4).c1; have p2 := (unhide H4).c2; have p3 := (unhide H4).c3; have p4 := (unhide H4).c4; have p5 := (unhide H4).c5; have p6 := (unhide H4).c6
  refine bodyPost_ret (v := stV t) (by simp [results, Tryz.results87, go_sem, p0, p1, p2, p3, p4, p5, p6]) rfl ⟨by rw [unhide ET], unhide K4⟩

end Go.Proofs.YthimcecbgpamdaaGreat

namespace Go.Proofs.YthimcecbgpamdaaGreat
open Go.RowKit

set_option maxHeartbeats 4000000 in
theorem refUpdate_low (s : St) (z r gate : Int) (w : World) (hs : s.Ok) (hz : R64 z) (hr : R64 r) (hg : R64 gate) (hd : offW s r ≤ 0) :
    Calls Tryz.prog 86 #[stV s, .int .i64 z, .int .i64 r, .int .i64 gate] w fun e w' => e = .returned (.tuple #[stV (updS s z r gate), .bool (updT s z r gate)]) ∧ Below w.heap.size w w' := by
  obtain ⟨y, ey⟩ : ∃ y, y = offY s z := ⟨_, rfl⟩
  obtain ⟨d, ed⟩ : ∃ d, d = offW s r := ⟨_, rfl⟩
  rw [← ed] at hd
  have EY := hide ey; have ED := hide ed
  have RY := hide (show R64 y by rw [ey]; exact sbC_R _ _); have RD := hide (show R64 d by rw [ed]; exact adV_R _ _)
  clear ey ed
  obtain ⟨w1, e1, g1⟩ := rg_start w s
  have OK := hide hs; have E1 := hide e1; have G1 := hide g1
  have Rz := hide hz
  have Rr := hide hr
  have Rg := hide hg
  clear hs e1 g1 hz hr hg
  go_enter Tryz.func86, Tryz.ntmps86
  go_wp2_with fail
  rw [← unhide E1]
  refine (rSub _ _ z s.X _ (unhide Rz) (unhide OK).X (unhide G1).rk).mono ?_
  rintro e w2 ⟨rfl, h, k⟩
  have G2 := hide ((unhide G1).kept k h)
  clear h k G1
  have c2 := (unhide G2).src.c2
  go_wp2_with fail
  clear c2
  refine (rAdd _ _ s.P00 r _ (unhide OK).P00 (unhide Rr) (unhide G2).rk).mono ?_
  rintro e w3 ⟨rfl, h, k⟩
  have G3 := hide ((unhide G2).kept k h)
  clear h k G2
  rw [show sbC z s.X = y from (unhide EY).symm, show adV s.P00 r = d from (unhide ED).symm]
  have h1 : d < 1 := by omega
  obtain ⟨w4, e4, h, k⟩ := (unhide G3).src.pM (wrap64 (s.M + 1))
  have c := (unhide G3).src.c6; have f := (unhide G3).src.free 6
  have N := hide h; have RS := hide ((unhide G3).res.kept k (by omega)); have BL := hide (below_of_kept (unhide G3).bel k (Nat.le_refl _) (unhide G3).bel.size); have E4 := hide e4
  clear h k e4
  go_upto_region 6 with fail
  rw [← unhide E4]
  clear c f E4 G3
  obtain ⟨t, et⟩ : ∃ t : St, t = s.setM (wrap64 (s.M + 1)) := ⟨_, rfl⟩
  have N2 := hide (show SAt w4 w.heap.size t by rw [et]; exact unhide N)
  have c0 := (unhide N2).c0; have c1 := (unhide N2).c1; have c2 := (unhide N2).c2; have c3 := (unhide N2).c3; have c4 := (unhide N2).c4; have c5 := (unhide N2).c5; have c6 := (unhide N2).c6
  have b0 := (unhide RS).c0; have b1 := (unhide RS).c1; have b2 := (unhide RS).c2; have b3 := (unhide RS).c3; have b4 := (unhide RS).c4; have b5 := (unhide RS).c5; have b6 := (unhide RS).c6
  have f0 := (unhide RS).free 0; have f1 := (unhide RS).free 1; have f2 := (unhide RS).free 2; have f3 := (unhide RS).free 3; have f4 := (unhide RS).free 4; have f5 := (unhide RS).free 5; have f6 := (unhide RS).free 6
  obtain ⟨u, e4, h4, k4⟩ := (unhide RS).put t
  have E4 := hide e4; have H4 := hide h4; have K4 := hide (below_of_kept (unhide BL) k4 (by omega) (unhide BL).size); have ET := hide et
  clear e4 h4 k4 et
  go_wp2_with fail
  rw [← unhide E4]
  have p0 := (unhide H4).c0; have p1 := (unhide H4).c1; have p2 := (unhide H4).c2; have p3 := (unhide H4).c3; have p4 := (unhide H4).c4; have p5 := (unhide H4).c5; have p6 := (unhide H4).c6
  have OV : overB s z r gate = true := by apply overB_low; rw [← unhide ED]; omega
  have eU : updS s z r gate = t := by unfold updS; rw [OV, unhide ET]; rfl
  have eT : updT s z r gate = false := by unfold updT; rw [OV]; rfl
  refine bodyPost_ret (v := .tuple #[stV t, .bool false]) (by simp [results, Tryz.results86, go_sem, p0, p1, p2, p3, p4, p5, p6]) rfl ⟨by rw [eU, eT], unhide K4⟩

end Go.Proofs.YthimcecbgpamdaaGreat

namespace Go.Proofs.YthimcecbgpamdaaGreat
open Go.RowKit

set_option maxHeartbeats 4000000 in
theorem refUpdate_high (s : St) (z r gate : Int) (w : World) (hs : s.Ok) (hz : R64 z) (hr : R64 r) (hg : R64 gate) (hd : ¬ offW s r ≤ 0) (hp : muV gate (offW s r) < muV (offY s z) (offY s z)) :
    Calls Tryz.prog 86 #[stV s, .int .i64 z, .int .i64 r, .int .i64 gate] w fun e w' => e = .returned (.tuple #[stV (updS s z r gate), .bool (updT s z r gate)]) ∧ Below w.heap.size w w' := by
  obtain ⟨y, ey⟩ : ∃ y, y = offY s z := ⟨_, rfl⟩
  obtain ⟨d, ed⟩ : ∃ d, d = offW s r := ⟨_, rfl⟩
  rw [← ed] at hd
  rw [← ed, ← ey] at hp
  have EY := hide ey; have ED := hide ed
  have RY := hide (show R64 y by rw [ey]; exact sbC_R _ _); have RD := hide (show R64 d by rw [ed]; exact adV_R _ _)
  clear ey ed
  obtain ⟨w1, e1, g1⟩ := rg_start w s
  have OK := hide hs; have E1 := hide e1; have G1 := hide g1
  have Rz := hide hz
  have Rr := hide hr
  have Rg := hide hg
  clear hs e1 g1 hz hr hg
  go_enter Tryz.func86, Tryz.ntmps86
  go_wp2_with fail
  rw [← unhide E1]
  refine (rSub _ _ z s.X _ (unhide Rz) (unhide OK).X (unhide G1).rk).mono ?_
  rintro e w2 ⟨rfl, h, k⟩
  have G2 := hide ((unhide G1).kept k h)
  clear h k G1
  have c2 := (unhide G2).src.c2
  go_wp2_with fail
  clear c2
  refine (rAdd _ _ s.P00 r _ (unhide OK).P00 (unhide Rr) (unhide G2).rk).mono ?_
  rintro e w3 ⟨rfl, h, k⟩
  have G3 := hide ((unhide G2).kept k h)
  clear h k G2
  rw [show sbC z s.X = y from (unhide EY).symm, show adV s.P00 r = d from (unhide ED).symm]
  have h1 : ¬ d < 1 := by omega
  go_wp2_with fail
  refine (rMul _ _ y y _ (unhide RY) (unhide RY) (unhide G3).rk).mono ?_
  rintro e w4 ⟨rfl, h, k⟩
  have G4 := hide ((unhide G3).kept k h)
  clear h k G3
  go_wp2_with fail
  refine (rMul _ _ gate d _ (unhide Rg) (unhide RD) (unhide G4).rk).mono ?_
  rintro e w5 ⟨rfl, h, k⟩
  have G5 := hide ((unhide G4).kept k h)
  clear h k G4
  obtain ⟨w6, e4, h, k⟩ := (unhide G5).src.pM (wrap64 (s.M + 1))
  have c := (unhide G5).src.c6; have f := (unhide G5).src.free 6
  have N := hide h; have RS := hide ((unhide G5).res.kept k (by omega)); have BL := hide (below_of_kept (unhide G5).bel k (Nat.le_refl _) (unhide G5).bel.size); have E4 := hide e4
  clear h k e4
  go_upto_region 6 with fail
  rw [← unhide E4]
  clear c f E4 G5
  obtain ⟨t, et⟩ : ∃ t : St, t = s.setM (wrap64 (s.M + 1)) := ⟨_, rfl⟩
  have N2 := hide (show SAt w6 w.heap.size t by rw [et]; exact unhide N)
  have c0 := (unhide N2).c0; have c1 := (unhide N2).c1; have c2 := (unhide N2).c2; have c3 := (unhide N2).c3; have c4 := (unhide N2).c4; have c5 := (unhide N2).c5; have c6 := (unhide N2).c6
  have b0 := (unhide RS).c0; have b1 := (unhide RS).c1; have b2 := (unhide RS).c2; have b3 := (unhide RS).c3; have b4 := (unhide RS).c4; have b5 := (unhide RS).c5; have b6 := (unhide RS).c6
  have f0 := (unhide RS).free 0; have f1 := (unhide RS).free 1; have f2 := (unhide RS).free 2; have f3 := (unhide RS).free 3; have f4 := (unhide RS).free 4; have f5 := (unhide RS).free 5; have f6 := (unhide RS).free 6
  obtain ⟨u, e4, h4, k4⟩ := (unhide RS).put t
  have E4 := hide e4; have H4 := hide h4; have K4 := hide (below_of_kept (unhide BL) k4 (by omega) (unhide BL).size); have ET := hide et
  clear e4 h4 k4 et
  go_wp2_with fail
  rw [← unhide E4]
  have p0 := (unhide H4).c0; have p1 := (unhide H4).c1; have p2 := (unhide H4).c2; have p3 := (unhide H4).c3; have p4 := (unhide H4).c4; have p5 := (unhide H4).c5; have p6 := (unhide H4).c6
  have OV : overB s z r gate = true := by apply overB_high; rw [← unhide ED, ← unhide EY]; omega
  have eU : updS s z r gate = t := by unfold updS; rw [OV, unhide ET]; rfl
  have eT : updT s z r gate = false := by unfold updT; rw [OV]; rfl
  refine bodyPost_ret (v := .tuple #[stV t, .bool false]) (by simp [results, Tryz.results86, go_sem, p0, p1, p2, p3, p4, p5, p6]) rfl ⟨by rw [eU, eT], unhide K4⟩

end Go.Proofs.YthimcecbgpamdaaGreat

namespace Go.Proofs.YthimcecbgpamdaaGreat
open Go.RowKit

set_option maxHeartbeats 4000000 in
theorem refUpdate_take (s : St) (z r gate : Int) (w : World) (hs : s.Ok) (hz : R64 z) (hr : R64 r) (hg : R64 gate) (hd : ¬ offW s r ≤ 0) (hp : ¬ muV gate (offW s r) < muV (offY s z) (offY s z)) :
    Calls Tryz.prog 86 #[stV s, .int .i64 z, .int .i64 r, .int .i64 gate] w fun e w' => e = .returned (.tuple #[stV (updS s z r gate), .bool (updT s z r gate)]) ∧ Below w.heap.size w w' := by
  obtain ⟨y, ey⟩ : ∃ y, y = offY s z := ⟨_, rfl⟩
  obtain ⟨d, ed⟩ : ∃ d, d = offW s r := ⟨_, rfl⟩
  rw [← ed] at hd
  rw [← ed, ← ey] at hp
  have EY := hide ey; have ED := hide ed
  have RY := hide (show R64 y by rw [ey]; exact sbC_R _ _); have RD := hide (show R64 d by rw [ed]; exact adV_R _ _)
  clear ey ed
  obtain ⟨w1, e1, g1⟩ := rg_start w s
  have OK := hide hs; have E1 := hide e1; have G1 := hide g1
  have Rz := hide hz
  have Rr := hide hr
  have Rg := hide hg
  clear hs e1 g1 hz hr hg
  go_enter Tryz.func86, Tryz.ntmps86
  go_wp2_with fail
  rw [← unhide E1]
  refine (rSub _ _ z s.X _ (unhide Rz) (unhide OK).X (unhide G1).rk).mono ?_
  rintro e w2 ⟨rfl, h, k⟩
  have G2 := hide ((unhide G1).kept k h)
  clear h k G1
  have c2 := (unhide G2).src.c2
  go_wp2_with fail
  clear c2
  refine (rAdd _ _ s.P00 r _ (unhide OK).P00 (unhide Rr) (unhide G2).rk).mono ?_
  rintro e w3 ⟨rfl, h, k⟩
  have G3 := hide ((unhide G2).kept k h)
  clear h k G2
  rw [show sbC z s.X = y from (unhide EY).symm, show adV s.P00 r = d from (unhide ED).symm]
  have h1 : ¬ d < 1 := by omega
  go_wp2_with fail
  refine (rMul _ _ y y _ (unhide RY) (unhide RY) (unhide G3).rk).mono ?_
  rintro e w4 ⟨rfl, h, k⟩
  have G4 := hide ((unhide G3).kept k h)
  clear h k G3
  go_wp2_with fail
  refine (rMul _ _ gate d _ (unhide Rg) (unhide RD) (unhide G4).rk).mono ?_
  rintro e w5 ⟨rfl, h, k⟩
  have G5 := hide ((unhide G4).kept k h)
  clear h k G4
  have c2 := (unhide G5).src.c2
  go_wp2_with fail
  clear c2
  refine (rfDiv_ok _ _ s.P00 d _ (unhide OK).P00 (unhide RD) (unhide G5).rk).mono ?_
  rintro e w6 ⟨rfl, h, k⟩
  have G6 := hide ((unhide G5).kept k h)
  clear h k G5
  have c3 := (unhide G6).src.c3
  go_wp2_with fail
  clear c3
  refine (rfDiv_ok _ _ s.P01 d _ (unhide OK).P01 (unhide RD) (unhide G6).rk).mono ?_
  rintro e w7 ⟨rfl, h, k⟩
  have G7 := hide ((unhide G6).kept k h)
  clear h k G6
  have c0 := (unhide G7).src.c0
  have c1 := (unhide G7).src.c1
  have c2 := (unhide G7).src.c2
  have c3 := (unhide G7).src.c3
  have c4 := (unhide G7).src.c4
  have c5 := (unhide G7).src.c5
  have c6 := (unhide G7).src.c6
  go_wp2_with fail
  clear c0 c1 c2 c3 c4 c5 c6
  obtain ⟨w8, e4, h⟩ := rh_start (unhide G7)
  rw [← e4]
  obtain ⟨bn, ebn⟩ : ∃ bn, bn = w7.heap.size := ⟨_, rfl⟩
  rw [← ebn] at h
  rw [← ebn]
  have G8 := hide h
  clear e4 h ebn G7
  have hS8 : SAt w8.drew w.heap.size s := (unhide G8).g.src
  refine region_by (S := fun u => SAt u w.heap.size s) [(0, false), (1, false), (2, false), (3, false), (4, false), (5, false), (6, true), (7, true), (8, false), (9, true)] [] (by kernel_rfl) (by kernel_rfl) ?_
  iterate 6
    refine seq_read (v := ?_) rfl (fun _ _ _ h => h) (by rfl) hS8 ?_ ?_
    rotate_left 1
    · intro wx hwx
      have c0 := hwx.c0; have c1 := hwx.c1; have c2 := hwx.c2; have c3 := hwx.c3; have c4 := hwx.c4
      clear hwx
      go_simp <;> exact rfl
    go_frame
  refine seq_do rfl (fun K hK => ?_)
  go_simp
  have Gd := hide (unhide G8).drew
  refine (rMul _ _ (divV s.P00 d) y _ (quot_R _ _) (unhide RY) (unhide Gd).g.rk).mono ?_
  rintro e w9 ⟨rfl, h, k⟩
  have G9 := hide ((unhide Gd).kept k h)
  have hS9 := (unhide G9).g.src
  refine hK _ _ (fun _ => hS9) ?_
  clear hK K hS8
  clear h k G8 Gd
  refine seq_do rfl (fun K hK => ?_)
  go_simp
  refine (rAdd _ _ s.X (muV (divV s.P00 d) y) _ (unhide OK).X (muV_R _ _) (unhide G9).g.rk).mono ?_
  rintro e w10 ⟨rfl, h, k⟩
  have G10 := hide ((unhide G9).kept k h)
  have hS10 := (unhide G10).g.src
  refine hK _ _ (fun _ => hS10) ?_
  clear hK K hS9
  clear h k G9
  iterate 1
    refine seq_read (v := ?_) rfl (fun _ _ _ h => h) (by rfl) hS10 ?_ ?_
    rotate_left 1
    · intro wx hwx
      have c0 := hwx.c0; have c1 := hwx.c1; have c2 := hwx.c2; have c3 := hwx.c3; have c4 := hwx.c4
      clear hwx
      go_simp <;> exact rfl
    go_frame
  obtain ⟨w11, e4, h, k⟩ := (unhide G10).nw.pX (adV s.X (muV (divV s.P00 d) y))
  have c := (unhide G10).nw.c0; have f := (unhide G10).nw.free 0
  refine seq_do rfl (fun K hK => ?_)
  go_simp
  rw [← e4]
  have G11 := hide ((unhide G10).put k h)
  refine hK _ _ (fun _ => (unhide G11).g.src) ?_
  clear hK K e4 h k c f hS10 G10
  refine seq_end ?_
  go_wp2_with fail
  have hS11 : SAt w11.drew w.heap.size s := (unhide G11).g.src
  refine region_by (S := fun u => SAt u w.heap.size s) [(0, false), (1, false), (2, false), (3, false), (4, false), (5, false), (6, true), (7, true), (8, false), (9, true)] [] (by kernel_rfl) (by kernel_rfl) ?_
  iterate 6
    refine seq_read (v := ?_) rfl (fun _ _ _ h => h) (by rfl) hS11 ?_ ?_
    rotate_left 1
    · intro wx hwx
      have c0 := hwx.c0; have c1 := hwx.c1; have c2 := hwx.c2; have c3 := hwx.c3; have c4 := hwx.c4
      clear hwx
      go_simp <;> exact rfl
    go_frame
  refine seq_do rfl (fun K hK => ?_)
  go_simp
  have Gd := hide (unhide G11).drew
  refine (rMul _ _ (divV s.P01 d) y _ (quot_R _ _) (unhide RY) (unhide Gd).g.rk).mono ?_
  rintro e w12 ⟨rfl, h, k⟩
  have G12 := hide ((unhide Gd).kept k h)
  have hS12 := (unhide G12).g.src
  refine hK _ _ (fun _ => hS12) ?_
  clear hK K hS11
  clear h k G11 Gd
  refine seq_do rfl (fun K hK => ?_)
  go_simp
  refine (rAdd _ _ s.V (muV (divV s.P01 d) y) _ (unhide OK).V (muV_R _ _) (unhide G12).g.rk).mono ?_
  rintro e w13 ⟨rfl, h, k⟩
  have G13 := hide ((unhide G12).kept k h)
  have hS13 := (unhide G13).g.src
  refine hK _ _ (fun _ => hS13) ?_
  clear hK K hS12
  clear h k G12
  iterate 1
    refine seq_read (v := ?_) rfl (fun _ _ _ h => h) (by rfl) hS13 ?_ ?_
    rotate_left 1
    · intro wx hwx
      have c0 := hwx.c0; have c1 := hwx.c1; have c2 := hwx.c2; have c3 := hwx.c3; have c4 := hwx.c4
      clear hwx
      go_simp <;> exact rfl
    go_frame
  obtain ⟨w14, e4, h, k⟩ := (unhide G13).nw.pV (adV s.V (muV (divV s.P01 d) y))
  have c := (unhide G13).nw.c1; have f := (unhide G13).nw.free 1
  refine seq_do rfl (fun K hK => ?_)
  go_simp
  rw [← e4]
  have G14 := hide ((unhide G13).put k h)
  refine hK _ _ (fun _ => (unhide G14).g.src) ?_
  clear hK K e4 h k c f hS13 G13
  refine seq_end ?_
  go_wp2_with fail
  have hS14 : SAt w14.drew w.heap.size s := (unhide G14).g.src
  refine region_by (S := fun u => SAt u w.heap.size s) [(0, false), (1, false), (2, false), (3, false), (4, false), (5, false), (6, false), (7, true), (8, true), (9, false), (10, true)] [] (by kernel_rfl) (by kernel_rfl) ?_
  iterate 7
    refine seq_read (v := ?_) rfl (fun _ _ _ h => h) (by rfl) hS14 ?_ ?_
    rotate_left 1
    · intro wx hwx
      have c0 := hwx.c0; have c1 := hwx.c1; have c2 := hwx.c2; have c3 := hwx.c3; have c4 := hwx.c4
      clear hwx
      go_simp <;> exact rfl
    go_frame
  refine seq_do rfl (fun K hK => ?_)
  go_simp
  have Gd := hide (unhide G14).drew
  refine (rMul _ _ (divV s.P00 d) s.P00 _ (quot_R _ _) (unhide OK).P00 (unhide Gd).g.rk).mono ?_
  rintro e w15 ⟨rfl, h, k⟩
  have G15 := hide ((unhide Gd).kept k h)
  have hS15 := (unhide G15).g.src
  refine hK _ _ (fun _ => hS15) ?_
  clear hK K hS14
  clear h k G14 Gd
  refine seq_do rfl (fun K hK => ?_)
  go_simp
  refine (rSub _ _ s.P00 (muV (divV s.P00 d) s.P00) _ (unhide OK).P00 (muV_R _ _) (unhide G15).g.rk).mono ?_
  rintro e w16 ⟨rfl, h, k⟩
  have G16 := hide ((unhide G15).kept k h)
  have hS16 := (unhide G16).g.src
  refine hK _ _ (fun _ => hS16) ?_
  clear hK K hS15
  clear h k G15
  iterate 1
    refine seq_read (v := ?_) rfl (fun _ _ _ h => h) (by rfl) hS16 ?_ ?_
    rotate_left 1
    · intro wx hwx
      have c0 := hwx.c0; have c1 := hwx.c1; have c2 := hwx.c2; have c3 := hwx.c3; have c4 := hwx.c4
      clear hwx
      go_simp <;> exact rfl
    go_frame
  obtain ⟨w17, e4, h, k⟩ := (unhide G16).nw.pP00 (sbC s.P00 (muV (divV s.P00 d) s.P00))
  have c := (unhide G16).nw.c2; have f := (unhide G16).nw.free 2
  refine seq_do rfl (fun K hK => ?_)
  go_simp
  rw [← e4]
  have G17 := hide ((unhide G16).put k h)
  refine hK _ _ (fun _ => (unhide G17).g.src) ?_
  clear hK K e4 h k c f hS16 G16
  refine seq_end ?_
  go_wp2_with fail
  have hS17 : SAt w17.drew w.heap.size s := (unhide G17).g.src
  refine region_by (S := fun u => SAt u w.heap.size s) [(0, false), (1, false), (2, false), (3, false), (4, false), (5, false), (6, false), (7, true), (8, true), (9, false), (10, true)] [] (by kernel_rfl) (by kernel_rfl) ?_
  iterate 7
    refine seq_read (v := ?_) rfl (fun _ _ _ h => h) (by rfl) hS17 ?_ ?_
    rotate_left 1
    · intro wx hwx
      have c0 := hwx.c0; have c1 := hwx.c1; have c2 := hwx.c2; have c3 := hwx.c3; have c4 := hwx.c4
      clear hwx
      go_simp <;> exact rfl
    go_frame
  refine seq_do rfl (fun K hK => ?_)
  go_simp
  have Gd := hide (unhide G17).drew
  refine (rMul _ _ (divV s.P00 d) s.P01 _ (quot_R _ _) (unhide OK).P01 (unhide Gd).g.rk).mono ?_
  rintro e w18 ⟨rfl, h, k⟩
  have G18 := hide ((unhide Gd).kept k h)
  have hS18 := (unhide G18).g.src
  refine hK _ _ (fun _ => hS18) ?_
  clear hK K hS17
  clear h k G17 Gd
  refine seq_do rfl (fun K hK => ?_)
  go_simp
  refine (rSub _ _ s.P01 (muV (divV s.P00 d) s.P01) _ (unhide OK).P01 (muV_R _ _) (unhide G18).g.rk).mono ?_
  rintro e w19 ⟨rfl, h, k⟩
  have G19 := hide ((unhide G18).kept k h)
  have hS19 := (unhide G19).g.src
  refine hK _ _ (fun _ => hS19) ?_
  clear hK K hS18
  clear h k G18
  iterate 1
    refine seq_read (v := ?_) rfl (fun _ _ _ h => h) (by rfl) hS19 ?_ ?_
    rotate_left 1
    · intro wx hwx
      have c0 := hwx.c0; have c1 := hwx.c1; have c2 := hwx.c2; have c3 := hwx.c3; have c4 := hwx.c4
      clear hwx
      go_simp <;> exact rfl
    go_frame
  obtain ⟨w20, e4, h, k⟩ := (unhide G19).nw.pP01 (sbC s.P01 (muV (divV s.P00 d) s.P01))
  have c := (unhide G19).nw.c3; have f := (unhide G19).nw.free 3
  refine seq_do rfl (fun K hK => ?_)
  go_simp
  rw [← e4]
  have G20 := hide ((unhide G19).put k h)
  refine hK _ _ (fun _ => (unhide G20).g.src) ?_
  clear hK K e4 h k c f hS19 G19
  refine seq_end ?_
  go_wp2_with fail
  have hS20 : SAt w20.drew w.heap.size s := (unhide G20).g.src
  refine region_by (S := fun u => SAt u w.heap.size s) [(0, false), (1, false), (2, false), (3, false), (4, false), (5, false), (6, false), (7, true), (8, true), (9, false), (10, true)] [] (by kernel_rfl) (by kernel_rfl) ?_
  iterate 7
    refine seq_read (v := ?_) rfl (fun _ _ _ h => h) (by rfl) hS20 ?_ ?_
    rotate_left 1
    · intro wx hwx
      have c0 := hwx.c0; have c1 := hwx.c1; have c2 := hwx.c2; have c3 := hwx.c3; have c4 := hwx.c4
      clear hwx
      go_simp <;> exact rfl
    go_frame
  refine seq_do rfl (fun K hK => ?_)
  go_simp
  have Gd := hide (unhide G20).drew
  refine (rMul _ _ (divV s.P01 d) s.P01 _ (quot_R _ _) (unhide OK).P01 (unhide Gd).g.rk).mono ?_
  rintro e w21 ⟨rfl, h, k⟩
  have G21 := hide ((unhide Gd).kept k h)
  have hS21 := (unhide G21).g.src
  refine hK _ _ (fun _ => hS21) ?_
  clear hK K hS20
  clear h k G20 Gd
  refine seq_do rfl (fun K hK => ?_)
  go_simp
  refine (rSub _ _ s.P11 (muV (divV s.P01 d) s.P01) _ (unhide OK).P11 (muV_R _ _) (unhide G21).g.rk).mono ?_
  rintro e w22 ⟨rfl, h, k⟩
  have G22 := hide ((unhide G21).kept k h)
  have hS22 := (unhide G22).g.src
  refine hK _ _ (fun _ => hS22) ?_
  clear hK K hS21
  clear h k G21
  iterate 1
    refine seq_read (v := ?_) rfl (fun _ _ _ h => h) (by rfl) hS22 ?_ ?_
    rotate_left 1
    · intro wx hwx
      have c0 := hwx.c0; have c1 := hwx.c1; have c2 := hwx.c2; have c3 := hwx.c3; have c4 := hwx.c4
      clear hwx
      go_simp <;> exact rfl
    go_frame
  obtain ⟨w23, e4, h, k⟩ := (unhide G22).nw.pP11 (sbC s.P11 (muV (divV s.P01 d) s.P01))
  have c := (unhide G22).nw.c4; have f := (unhide G22).nw.free 4
  refine seq_do rfl (fun K hK => ?_)
  go_simp
  rw [← e4]
  have G23 := hide ((unhide G22).put k h)
  refine hK _ _ (fun _ => (unhide G23).g.src) ?_
  clear hK K e4 h k c f hS22 G22
  refine seq_end ?_
  obtain ⟨w24, e4, h, k⟩ := (unhide G23).nw.pM 0
  have c := (unhide G23).nw.c6; have f := (unhide G23).nw.free 6
  have G24 := hide ((unhide G23).put k h); have E4 := hide e4
  clear h k e4
  go_upto_region 16 with fail
  rw [← unhide E4]
  clear c f E4 G23
  have rk0 := (unhide G24).g.rk.cell0
  obtain ⟨w25, e4, h, k⟩ := (unhide G24).nw.pB _
  have c := (unhide G24).nw.c5; have f := (unhide G24).nw.free 5
  have G25 := hide ((unhide G24).put k h); have E4 := hide e4
  clear h k e4
  go_upto_region 17 with fail
  rw [← unhide E4]
  clear c f E4 rk0 G24
  have OV : overB s z r gate = false := by apply overB_not <;> rw [← unhide ED] <;> first | (rw [← unhide EY]; omega) | omega
  have eT : updT s z r gate = true := by unfold updT; rw [OV]; rfl
  have eU : updS s z r gate = takeS ((((s.bend (sbE z s.X)).bend (adB s.P00 r)).bend (muB y y)).bend (muB gate d)) y d := by unfold updS; rw [OV, unhide EY, unhide ED]; rfl
  have EU := hide eU; have ETT := hide eT
  clear OV eT eU
  obtain ⟨t, et⟩ : ∃ t : St, t = takeS ((((s.bend (sbE z s.X)).bend (adB s.P00 r)).bend (muB y y)).bend (muB gate d)) y d := ⟨_, rfl⟩
  have N := hide (show SAt w25 bn t by rw [et]; exact (unhide G25).nw)
  have c0 := (unhide N).c0; have c1 := (unhide N).c1; have c2 := (unhide N).c2; have c3 := (unhide N).c3; have c4 := (unhide N).c4; have c5 := (unhide N).c5; have c6 := (unhide N).c6
  have b0 := (unhide G25).g.res.c0; have b1 := (unhide G25).g.res.c1; have b2 := (unhide G25).g.res.c2; have b3 := (unhide G25).g.res.c3; have b4 := (unhide G25).g.res.c4; have b5 := (unhide G25).g.res.c5; have b6 := (unhide G25).g.res.c6
  have f0 := (unhide G25).g.res.free 0; have f1 := (unhide G25).g.res.free 1; have f2 := (unhide G25).g.res.free 2; have f3 := (unhide G25).g.res.free 3; have f4 := (unhide G25).g.res.free 4; have f5 := (unhide G25).g.res.free 5; have f6 := (unhide G25).g.res.free 6
  have ln := (unhide G25).lt
  obtain ⟨u, e4, h4, k4⟩ := (unhide G25).g.res.put t
  have E4 := hide e4; have H4 := hide h4; have K4 := hide (below_of_kept (unhide G25).g.bel k4 (by omega) (unhide G25).g.bel.size)
  have ET := hide et
  clear e4 h4 k4 et
  go_wp2_with fail
  rw [← unhide E4]
  have p0 := (unhide H4).c0; have p1 := (unhide H4).c1; have p2 := (unhide H4).c2; have p3 := (unhide H4).c3; have p4 := (unhide H4).c4; have p5 := (unhide H4).c5; have p6 := (unhide H4).c6
  refine bodyPost_ret (v := .tuple #[stV t, .bool true]) (by simp [results, Tryz.results86, go_sem, p0, p1, p2, p3, p4, p5, p6]) rfl ⟨by rw [unhide EU, unhide ETT, unhide ET], unhide K4⟩

end Go.Proofs.YthimcecbgpamdaaGreat

namespace Go.Proofs.YthimcecbgpamdaaGreat
open Go.RowKit

theorem refUpdate_any (s : St) (z r gate : Int) (w : World) (hs : s.Ok) (hz : R64 z) (hr : R64 r) (hg : R64 gate) :
    Calls Tryz.prog 86 #[stV s, .int .i64 z, .int .i64 r, .int .i64 gate] w fun e w' => e = .returned (.tuple #[stV (updS s z r gate), .bool (updT s z r gate)]) ∧ Below w.heap.size w w' := by
  by_cases hd : offW s r ≤ 0
  · exact refUpdate_low s z r gate w hs hz hr hg hd
  · by_cases hp : muV gate (offW s r) < muV (offY s z) (offY s z)
    · exact refUpdate_high s z r gate w hs hz hr hg hd hp
    · exact refUpdate_take s z r gate w hs hz hr hg hd hp

end Go.Proofs.YthimcecbgpamdaaGreat

namespace Go.Proofs.YthimcecbgpamdaaGreat
open Go.RowKit

set_option maxHeartbeats 1000000 in
theorem refStep_any (s : St) (t : Tn) (z : Int) (w : World) (hs : s.Ok) (ht : t.Ok) (hz : R64 z) :
    Calls Tryz.prog 47 #[stV s, tnV t, .int .i64 z] w fun e w' => e = .returned (.tuple #[stV (stepS s t z), .bool (stepT s t z)]) ∧ Below w.heap.size w w' := by
  obtain ⟨w1, e1, d1, g1, k1⟩ := step_start w s t
  have OK := hide hs; have OT := hide ht; have RZ := hide hz; have E1 := hide e1; have G1 := hide g1; have K1 := hide k1
  have hS1 : ST w.heap.size (w.heap.size + 1) s t w1.drew := d1.drew
  clear hs ht hz e1 d1 g1 k1
  go_enter Tryz.func47, Tryz.ntmps47
  go_wp2_with fail
  rw [← unhide E1]
  refine region_by (S := ST w.heap.size (w.heap.size + 1) s t) [(0, false), (1, false), (2, false), (3, false), (4, false), (6, false), (7, false), (8, false), (9, false), (10, false), (5, true), (11, true), (12, false), (13, false), (14, true), (15, true)] [] (by kernel_rfl) (by kernel_rfl) ?_
  iterate 10
    refine seq_read (v := ?_) rfl (fun _ _ _ h => h) (by rfl) hS1 ?_ ?_
    rotate_left 1
    · intro wx hwx
      have q0 := hwx.tn.c0; have q1 := hwx.tn.c1; have q2 := hwx.tn.c2; have q3 := hwx.tn.c3
      have c0 := hwx.st.c0; have c1 := hwx.st.c1; have c2 := hwx.st.c2; have c3 := hwx.st.c3; have c4 := hwx.st.c4; have c5 := hwx.st.c5; have c6 := hwx.st.c6
      clear hwx
      go_simp <;> exact rfl
    go_frame
  refine seq_do rfl (fun K hK => ?_)
  go_simp
  refine (refPredict_any s t.Dt t.Q _ (unhide OK) (unhide OT).Dt (unhide OT).Q).mono ?_
  rintro e w2 ⟨rfl, k⟩
  have hS2 := hS1.below k
  refine hK _ _ (fun _ => hS2) ?_
  have G2 := hide (SAt.below (w := w1.drew) (unhide G1) k); have K2 := hide ((below_drew (unhide K1)).trans (k.mono (unhide K1).size))
  clear hK K hS1 k G1 K1
  refine seq_do rfl (fun K hK => ?_)
  go_simp
  refine (refUpdate_any (predS s t.Dt t.Q) z t.R t.G _ (predS_ok (unhide OK) _ _) (unhide RZ) (unhide OT).R (unhide OT).G).mono ?_
  rintro e w3 ⟨rfl, k⟩
  have hS3 := hS2.below k
  refine hK _ _ (fun _ => hS3) ?_
  have G3 := hide ((unhide G2).below k); have K3 := hide ((unhide K2).trans (k.mono (unhide K2).size))
  clear hK K hS2 k G2 K2
  rw [show updS (predS s t.Dt t.Q) z t.R t.G = stepS s t z from rfl, show updT (predS s t.Dt t.Q) z t.R t.G = stepT s t z from rfl]
  obtain ⟨p, ep⟩ : ∃ p, p = stepS s t z := ⟨_, rfl⟩
  obtain ⟨tk, ek⟩ : ∃ tk, tk = stepT s t z := ⟨_, rfl⟩
  rw [← ep, ← ek]
  have EP := hide ep; have EK := hide ek
  clear ep ek
  iterate 2
    refine seq_read (v := ?_) rfl (fun _ _ _ h => h) (by rfl) hS3 ?_ ?_
    rotate_left 1
    · intro wx hwx
      clear hwx
      go_simp <;> exact rfl
    go_frame
  have b0 := (unhide G3).c0; have b1 := (unhide G3).c1; have b2 := (unhide G3).c2; have b3 := (unhide G3).c3; have b4 := (unhide G3).c4; have b5 := (unhide G3).c5; have b6 := (unhide G3).c6
  have f0 := (unhide G3).free 0; have f1 := (unhide G3).free 1; have f2 := (unhide G3).free 2; have f3 := (unhide G3).free 3; have f4 := (unhide G3).free 4; have f5 := (unhide G3).free 5; have f6 := (unhide G3).free 6
  obtain ⟨w4, e4, h4, k4⟩ := (unhide G3).put p
  refine seq_do rfl (fun K hK => ?_)
  go_simp
  rw [← e4]
  have hS4 := hS3.kept k4 (by omega) (by omega)
  refine hK _ _ (fun _ => hS4) ?_
  have G4 := hide h4; have K4 := hide (below_of_kept (unhide K3) k4 (by omega) (unhide K3).size)
  clear hK K b0 b1 b2 b3 b4 b5 b6 f0 f1 f2 f3 f4 f5 f6 e4 h4 k4 hS3 G3 K3
  refine seq_do rfl (fun K hK => ?_)
  go_simp
  refine hK _ _ (fun _ => hS4) ?_
  clear hK K hS4
  refine seq_end ?_
  go_wp2_with fail
  have p0 := (unhide G4).c0; have p1 := (unhide G4).c1; have p2 := (unhide G4).c2; have p3 := (unhide G4).c3; have p4 := (unhide G4).c4; have p5 := (unhide G4).c5; have p6 := (unhide G4).c6
  refine bodyPost_ret (v := .tuple #[stV p, .bool tk]) (by simp [results, Tryz.results47, go_sem, p0, p1, p2, p3, p4, p5, p6]) rfl ⟨by rw [unhide EP, unhide EK], unhide K4⟩

end Go.Proofs.YthimcecbgpamdaaGreat

namespace Go.Proofs.YthimcecbgpamdaaGreat
open Go.RowKit

/-- The middle of a short list. -/
theorem refMid_any (ao : Option Addr) (cap : Nat) (l : List Int) (w : World) (hl : l.length ≤ 64) (hf : ∀ i, R64 (gL l i)) (hr : Rd w ao l.length (iF (gL l))) :
    Calls Tryz.prog 46 #[.slice ao l.length cap] w fun e w' => ∃ E, e = .returned (.tuple #[.int .i64 (midL l), .int .i64 E]) ∧ Below w.heap.size w w' := by
  rcases Nat.lt_or_ge l.length 1 with h | h
  · have e : l = [] := List.length_eq_zero_iff.1 (by omega)
    subst e
    refine (refMiddle_bad ao 0 cap w (Or.inl (by omega))).mono ?_
    rintro e w' ⟨rfl, k⟩
    exact ⟨8, rfl, k⟩
  · refine (refMiddle_good ao l.length cap (gL l) w h hl hf hr).mono ?_
    rintro e w' ⟨m, hm, rfl, k⟩
    have := midL_at h hl hm
    rw [lsN_gL] at this
    subst this
    exact ⟨0, rfl, k⟩
theorem enter_mid (x : Value) (w : World) : (callFunc 46 #[x]).run Tryz.prog w = .ok (.enter 46 #[x]) w := by go_simp
theorem enter_digest (x : Value) (w : World) : (callFunc 48 #[x]).run Tryz.prog w = .ok (.enter 48 #[x]) w := by go_simp
theorem enter_fstep (x y z : Value) (w : World) : (callFunc 47 #[x, y, z]).run Tryz.prog w = .ok (.enter 47 #[x, y, z]) w := by go_simp

end Go.Proofs.YthimcecbgpamdaaGreat
