/- Joined: RefPred, RefUpdA, RefUpdB, RefUpdC, RefUpd, RefStep, NodDec, AgrOK, RefAgr1, RefNod5. -/
import Derived.Test.YtngmeaaglogieaaGreatRefFil
import Derived.Deep.Cut
import Derived.Test.YtngmeaaglogieaaGreatNear65
import Derived.Test.YtngmeaaglogieaaGreatNear80
import Derived.Test.YtngmeaaglogieaaGreatNear83
import Derived.Test.YtngmeaaglogieaaGreatNear81
import Derived.Test.YtngmeaaglogieaaGreatNear44
import Derived.Test.YtngmeaaglogieaaGreatNear69
namespace Go.Proofs.YtngmeaaglogieaaGreat
open Go.RowKit

set_option maxHeartbeats 2000000 in
theorem refPredict_any (s : St) (dt q : Int) (w : World) (hs : s.Ok) (hdt : R64 dt) (hq : R64 q) :
    Calls Tryz.prog 45 #[stV s, .int .i64 dt, .int .i64 q] w fun e w' => e = .returned (stV (predS s dt q)) ∧ Below w.heap.size w w' := by
  obtain ⟨w1, e1, g1⟩ := rg_start w s
  have OK := hide hs; have E1 := hide e1; have G1 := hide g1
  have Rdt := hide hdt
  have Rq := hide hq
  clear hs e1 g1 hdt hq
  go_enter Tryz.func45, Tryz.ntmps45
  go_wp2_with fail
  rw [← unhide E1]
  refine (rMul _ _ s.P01 dt _ (unhide OK).P01 (unhide Rdt) (unhide G1).rk).mono ?_
  rintro e w2 ⟨rfl, h, k⟩
  have G2 := hide ((unhide G1).kept k h)
  clear h k G1
  have c4 := (unhide G2).src.c4
  go_wp2_with fail
  clear c4
  refine (rMul _ _ s.P11 dt _ (unhide OK).P11 (unhide Rdt) (unhide G2).rk).mono ?_
  rintro e w3 ⟨rfl, h, k⟩
  have G3 := hide ((unhide G2).kept k h)
  clear h k G2
  have c0 := (unhide G3).src.c0
  have c1 := (unhide G3).src.c1
  have c2 := (unhide G3).src.c2
  have c3 := (unhide G3).src.c3
  have c4 := (unhide G3).src.c4
  have c5 := (unhide G3).src.c5
  have c6 := (unhide G3).src.c6
  go_wp2_with fail
  clear c0 c1 c2 c3 c4 c5 c6
  obtain ⟨w4, e4, h⟩ := rh_start (unhide G3)
  rw [← e4]
  obtain ⟨bn, ebn⟩ : ∃ bn, bn = w3.heap.size := ⟨_, rfl⟩
  rw [← ebn] at h
  rw [← ebn]
  have G4 := hide h
  clear e4 h ebn G3
  have hS4 : SAt w4.drew w.heap.size s := (unhide G4).g.src
  refine region_by (S := fun u => SAt u w.heap.size s) [(0, false), (1, false), (2, false), (3, false), (4, false), (5, false), (6, false), (7, true), (8, true), (9, false), (10, true)] [] (by kernel_rfl) (by kernel_rfl) ?_
  iterate 7
    refine seq_read (v := ?_) rfl (fun _ _ _ h => h) (by rfl) hS4 ?_ ?_
    rotate_left 1
    · intro wx hwx
      have c0 := hwx.c0; have c1 := hwx.c1; have c2 := hwx.c2; have c3 := hwx.c3; have c4 := hwx.c4
      clear hwx
      go_simp <;> exact rfl
    go_frame
  refine seq_do rfl (fun K hK => ?_)
  go_simp
  have Gd := hide (unhide G4).drew
  refine (rMul _ _ s.V dt _ (unhide OK).V (unhide Rdt) (unhide Gd).g.rk).mono ?_
  rintro e w5 ⟨rfl, h, k⟩
  have G5 := hide ((unhide Gd).kept k h)
  have hS5 := (unhide G5).g.src
  refine hK _ _ (fun _ => hS5) ?_
  clear hK K hS4
  clear h k G4 Gd
  refine seq_do rfl (fun K hK => ?_)
  go_simp
  refine (rAdd _ _ s.X (muV s.V dt) _ (unhide OK).X (muV_R _ _) (unhide G5).g.rk).mono ?_
  rintro e w6 ⟨rfl, h, k⟩
  have G6 := hide ((unhide G5).kept k h)
  have hS6 := (unhide G6).g.src
  refine hK _ _ (fun _ => hS6) ?_
  clear hK K hS5
  clear h k G5
  iterate 1
    refine seq_read (v := ?_) rfl (fun _ _ _ h => h) (by rfl) hS6 ?_ ?_
    rotate_left 1
    · intro wx hwx
      have c0 := hwx.c0; have c1 := hwx.c1; have c2 := hwx.c2; have c3 := hwx.c3; have c4 := hwx.c4
      clear hwx
      go_simp <;> exact rfl
    go_frame
  obtain ⟨w7, e4, h, k⟩ := (unhide G6).nw.pX (adV s.X (muV s.V dt))
  have c := (unhide G6).nw.c0; have f := (unhide G6).nw.free 0
  refine seq_do rfl (fun K hK => ?_)
  go_simp
  rw [← e4]
  have G7 := hide ((unhide G6).put k h)
  refine hK _ _ (fun _ => (unhide G7).g.src) ?_
  clear hK K e4 h k c f hS6 G6
  refine seq_end ?_
  have c2 := (unhide G7).g.src.c2
  go_wp2_with fail
  clear c2
  refine (rAdd _ _ s.P00 (muV s.P01 dt) _ (unhide OK).P00 (muV_R _ _) (unhide G7).g.rk).mono ?_
  rintro e w8 ⟨rfl, h, k⟩
  have G8 := hide ((unhide G7).kept k h)
  clear h k G7
  go_wp2_with fail
  refine (rAdd _ _ (adV s.P00 (muV s.P01 dt)) (muV s.P01 dt) _ (adV_R _ _) (muV_R _ _) (unhide G8).g.rk).mono ?_
  rintro e w9 ⟨rfl, h, k⟩
  have G9 := hide ((unhide G8).kept k h)
  clear h k G8
  go_wp2_with fail
  refine (rMul _ _ (muV s.P11 dt) dt _ (muV_R _ _) (unhide Rdt) (unhide G9).g.rk).mono ?_
  rintro e w10 ⟨rfl, h, k⟩
  have G10 := hide ((unhide G9).kept k h)
  clear h k G9
  go_wp2_with fail
  refine (rAdd _ _ (adV (adV s.P00 (muV s.P01 dt)) (muV s.P01 dt)) (muV (muV s.P11 dt) dt) _ (adV_R _ _) (muV_R _ _) (unhide G10).g.rk).mono ?_
  rintro e w11 ⟨rfl, h, k⟩
  have G11 := hide ((unhide G10).kept k h)
  clear h k G10
  obtain ⟨w12, e4, h, k⟩ := (unhide G11).nw.pP00 (adV (adV (adV s.P00 (muV s.P01 dt)) (muV s.P01 dt)) (muV (muV s.P11 dt) dt))
  have c := (unhide G11).nw.c2; have f := (unhide G11).nw.free 2
  have G12 := hide ((unhide G11).put k h); have E4 := hide e4
  clear h k e4
  go_upto_region 7 with fail
  rw [← unhide E4]
  clear c f E4 G11
  have c3 := (unhide G12).g.src.c3
  go_wp2_with fail
  clear c3
  refine (rAdd _ _ s.P01 (muV s.P11 dt) _ (unhide OK).P01 (muV_R _ _) (unhide G12).g.rk).mono ?_
  rintro e w13 ⟨rfl, h, k⟩
  have G13 := hide ((unhide G12).kept k h)
  clear h k G12
  obtain ⟨w14, e4, h, k⟩ := (unhide G13).nw.pP01 (adV s.P01 (muV s.P11 dt))
  have c := (unhide G13).nw.c3; have f := (unhide G13).nw.free 3
  have G14 := hide ((unhide G13).put k h); have E4 := hide e4
  clear h k e4
  go_upto_region 8 with fail
  rw [← unhide E4]
  clear c f E4 G13
  have c4 := (unhide G14).g.src.c4
  go_wp2_with fail
  clear c4
  refine (rAdd _ _ s.P11 q _ (unhide OK).P11 (unhide Rq) (unhide G14).g.rk).mono ?_
  rintro e w15 ⟨rfl, h, k⟩
  have G15 := hide ((unhide G14).kept k h)
  clear h k G14
  obtain ⟨w16, e4, h, k⟩ := (unhide G15).nw.pP11 (adV s.P11 q)
  have c := (unhide G15).nw.c4; have f := (unhide G15).nw.free 4
  have G16 := hide ((unhide G15).put k h); have E4 := hide e4
  clear h k e4
  go_upto_region 9 with fail
  rw [← unhide E4]
  clear c f E4 G15
  have rk0 := (unhide G16).g.rk.cell0
  obtain ⟨w17, e4, h, k⟩ := (unhide G16).nw.pB _
  have c := (unhide G16).nw.c5; have f := (unhide G16).nw.free 5
  have G17 := hide ((unhide G16).put k h); have E4 := hide e4
  clear h k e4
  go_upto_region 10 with fail
  rw [← unhide E4]
  clear c f E4 rk0 G16
  obtain ⟨t, et⟩ : ∃ t : St, t = predS s dt q := ⟨_, rfl⟩
  have N := hide (show SAt w17 bn t by rw [et]; exact (unhide G17).nw)
  have c0 := (unhide N).c0; have c1 := (unhide N).c1; have c2 := (unhide N).c2; have c3 := (unhide N).c3; have c4 := (unhide N).c4; have c5 := (unhide N).c5; have c6 := (unhide N).c6
  have b0 := (unhide G17).g.res.c0; have b1 := (unhide G17).g.res.c1; have b2 := (unhide G17).g.res.c2; have b3 := (unhide G17).g.res.c3; have b4 := (unhide G17).g.res.c4; have b5 := (unhide G17).g.res.c5; have b6 := (unhide G17).g.res.c6
  have f0 := (unhide G17).g.res.free 0; have f1 := (unhide G17).g.res.free 1; have f2 := (unhide G17).g.res.free 2; have f3 := (unhide G17).g.res.free 3; have f4 := (unhide G17).g.res.free 4; have f5 := (unhide G17).g.res.free 5; have f6 := (unhide G17).g.res.free 6
  have ln := (unhide G17).lt
  obtain ⟨u, e4, h4, k4⟩ := (unhide G17).g.res.put t
  have E4 := hide e4; have H4 := hide h4; have K4 := hide (below_of_kept (unhide G17).g.bel k4 (by omega) (unhide G17).g.bel.size)
  have ET := hide et
  clear e4 h4 k4 et
  go_wp2_with fail
  rw [← unhide E4]
  have p0 := (unhide H4).c0; have p1 := (unhide H4).c1; have p2 := (unhide H4).c2; have p3 := (unhide H4).c3; have p4 := (unhide H4).c4; have p5 := (unhide H4).c5; have p6 := (unhide H4).c6
  refine bodyPost_ret (v := stV t) (by simp [results, Tryz.results45, go_sem, p0, p1, p2, p3, p4, p5, p6]) rfl ⟨by rw [unhide ET], unhide K4⟩

end Go.Proofs.YtngmeaaglogieaaGreat

namespace Go.Proofs.YtngmeaaglogieaaGreat
open Go.RowKit

set_option maxHeartbeats 4000000 in
theorem refUpdate_low (s : St) (z r gate : Int) (w : World) (hs : s.Ok) (hz : R64 z) (hr : R64 r) (hg : R64 gate) (hd : offW s r ≤ 0) :
    Calls Tryz.prog 44 #[stV s, .int .i64 z, .int .i64 r, .int .i64 gate] w fun e w' => e = .returned (.tuple #[stV (updS s z r gate), .bool (updT s z r gate)]) ∧ Below w.heap.size w w' := by
  obtain ⟨y, ey⟩ : ∃ y, y = offY s z := ⟨_, rfl⟩
  obtain ⟨d, ed⟩ : ∃ d, d = offW s r := ⟨_, rfl⟩
  rw [← ed] at hd
  have EY := hide ey; have ED := hide ed
  have RY := hide (show R64 y by rw [ey]; exact sbC_R _ _); have RD := hide (show R64 d by rw [ed]; exact adV_R _ _)
  clear ey ed
  obtain ⟨w1, e1, g1⟩ := rg_start w s
  have OK := hide hs; have E1 := hide e1; have G1 := hide g1
  have Rz := hide hz
  have Rr := hide hr
  have Rg := hide hg
  clear hs e1 g1 hz hr hg
  go_enter Tryz.func44, Tryz.ntmps44
  go_wp2_with fail
  rw [← unhide E1]
  refine (rSub _ _ z s.X _ (unhide Rz) (unhide OK).X (unhide G1).rk).mono ?_
  rintro e w2 ⟨rfl, h, k⟩
  have G2 := hide ((unhide G1).kept k h)
  clear h k G1
  have c2 := (unhide G2).src.c2
  go_wp2_with fail
  clear c2
  refine (rAdd _ _ s.P00 r _ (unhide OK).P00 (unhide Rr) (unhide G2).rk).mono ?_
  rintro e w3 ⟨rfl, h, k⟩
  have G3 := hide ((unhide G2).kept k h)
  clear h k G2
  rw [show sbC z s.X = y from (unhide EY).symm, show adV s.P00 r = d from (unhide ED).symm]
  have h1 : d < 1 := by omega
  obtain ⟨w4, e4, h, k⟩ := (unhide G3).src.pM (wrap64 (s.M + 1))
  have c := (unhide G3).src.c6; have f := (unhide G3).src.free 6
  have N := hide h; have RS := hide ((unhide G3).res.kept k (by omega)); have BL := hide (below_of_kept (unhide G3).bel k (Nat.le_refl _) (unhide G3).bel.size); have E4 := hide e4
  clear h k e4
  go_upto_region 6 with fail
  rw [← unhide E4]
  clear c f E4 G3
  obtain ⟨t, et⟩ : ∃ t : St, t = s.setM (wrap64 (s.M + 1)) := ⟨_, rfl⟩
  have N2 := hide (show SAt w4 w.heap.size t by rw [et]; exact unhide N)
  have c0 := (unhide N2).c0; have c1 := (unhide N2).c1; have c2 := (unhide N2).c2; have c3 := (unhide N2).c3; have c4 := (unhide N2).c4; have c5 := (unhide N2).c5; have c6 := (unhide N2).c6
  have b0 := (unhide RS).c0; have b1 := (unhide RS).c1; have b2 := (unhide RS).c2; have b3 := (unhide RS).c3; have b4 := (unhide RS).c4; have b5 := (unhide RS).c5; have b6 := (unhide RS).c6
  have f0 := (unhide RS).free 0; have f1 := (unhide RS).free 1; have f2 := (unhide RS).free 2; have f3 := (unhide RS).free 3; have f4 := (unhide RS).free 4; have f5 := (unhide RS).free 5; have f6 := (unhide RS).free 6
  obtain ⟨u, e4, h4, k4⟩ := (unhide RS).put t
  have E4 := hide e4; have H4 := hide h4; have K4 := hide (below_of_kept (unhide BL) k4 (by omega) (unhide BL).size); have ET := hide et
  clear e4 h4 k4 et
  go_wp2_with fail
  rw [← unhide E4]
  have p0 := (unhide H4).c0; have p1 := (unhide H4).c1; have p2 := (unhide H4).c2; have p3 := (unhide H4).c3; have p4 := (unhide H4).c4; have p5 := (unhide H4).c5; have p6 := (unhide H4).c6
  have OV : overB s z r gate = true := by apply overB_low; rw [← unhide ED]; omega
  have eU : updS s z r gate = t := by unfold updS; rw [OV, unhide ET]; rfl
  have eT : updT s z r gate = false := by unfold updT; rw [OV]; rfl
  refine bodyPost_ret (v := .tuple #[stV t, .bool false]) (by simp [results, Tryz.results44, go_sem, p0, p1, p2, p3, p4, p5, p6]) rfl ⟨by rw [eU, eT], unhide K4⟩

end Go.Proofs.YtngmeaaglogieaaGreat

namespace Go.Proofs.YtngmeaaglogieaaGreat
open Go.RowKit

set_option maxHeartbeats 4000000 in
theorem refUpdate_high (s : St) (z r gate : Int) (w : World) (hs : s.Ok) (hz : R64 z) (hr : R64 r) (hg : R64 gate) (hd : ¬ offW s r ≤ 0) (hp : muV gate (offW s r) < muV (offY s z) (offY s z)) :
    Calls Tryz.prog 44 #[stV s, .int .i64 z, .int .i64 r, .int .i64 gate] w fun e w' => e = .returned (.tuple #[stV (updS s z r gate), .bool (updT s z r gate)]) ∧ Below w.heap.size w w' := by
  obtain ⟨y, ey⟩ : ∃ y, y = offY s z := ⟨_, rfl⟩
  obtain ⟨d, ed⟩ : ∃ d, d = offW s r := ⟨_, rfl⟩
  rw [← ed] at hd
  rw [← ed, ← ey] at hp
  have EY := hide ey; have ED := hide ed
  have RY := hide (show R64 y by rw [ey]; exact sbC_R _ _); have RD := hide (show R64 d by rw [ed]; exact adV_R _ _)
  clear ey ed
  obtain ⟨w1, e1, g1⟩ := rg_start w s
  have OK := hide hs; have E1 := hide e1; have G1 := hide g1
  have Rz := hide hz
  have Rr := hide hr
  have Rg := hide hg
  clear hs e1 g1 hz hr hg
  go_enter Tryz.func44, Tryz.ntmps44
  go_wp2_with fail
  rw [← unhide E1]
  refine (rSub _ _ z s.X _ (unhide Rz) (unhide OK).X (unhide G1).rk).mono ?_
  rintro e w2 ⟨rfl, h, k⟩
  have G2 := hide ((unhide G1).kept k h)
  clear h k G1
  have c2 := (unhide G2).src.c2
  go_wp2_with fail
  clear c2
  refine (rAdd _ _ s.P00 r _ (unhide OK).P00 (unhide Rr) (unhide G2).rk).mono ?_
  rintro e w3 ⟨rfl, h, k⟩
  have G3 := hide ((unhide G2).kept k h)
  clear h k G2
  rw [show sbC z s.X = y from (unhide EY).symm, show adV s.P00 r = d from (unhide ED).symm]
  have h1 : ¬ d < 1 := by omega
  go_wp2_with fail
  refine (rMul _ _ y y _ (unhide RY) (unhide RY) (unhide G3).rk).mono ?_
  rintro e w4 ⟨rfl, h, k⟩
  have G4 := hide ((unhide G3).kept k h)
  clear h k G3
  go_wp2_with fail
  refine (rMul _ _ gate d _ (unhide Rg) (unhide RD) (unhide G4).rk).mono ?_
  rintro e w5 ⟨rfl, h, k⟩
  have G5 := hide ((unhide G4).kept k h)
  clear h k G4
  obtain ⟨w6, e4, h, k⟩ := (unhide G5).src.pM (wrap64 (s.M + 1))
  have c := (unhide G5).src.c6; have f := (unhide G5).src.free 6
  have N := hide h; have RS := hide ((unhide G5).res.kept k (by omega)); have BL := hide (below_of_kept (unhide G5).bel k (Nat.le_refl _) (unhide G5).bel.size); have E4 := hide e4
  clear h k e4
  go_upto_region 6 with fail
  rw [← unhide E4]
  clear c f E4 G5
  obtain ⟨t, et⟩ : ∃ t : St, t = s.setM (wrap64 (s.M + 1)) := ⟨_, rfl⟩
  have N2 := hide (show SAt w6 w.heap.size t by rw [et]; exact unhide N)
  have c0 := (unhide N2).c0; have c1 := (unhide N2).c1; have c2 := (unhide N2).c2; have c3 := (unhide N2).c3; have c4 := (unhide N2).c4; have c5 := (unhide N2).c5; have c6 := (unhide N2).c6
  have b0 := (unhide RS).c0; have b1 := (unhide RS).c1; have b2 := (unhide RS).c2; have b3 := (unhide RS).c3; have b4 := (unhide RS).c4; have b5 := (unhide RS).c5; have b6 := (unhide RS).c6
  have f0 := (unhide RS).free 0; have f1 := (unhide RS).free 1; have f2 := (unhide RS).free 2; have f3 := (unhide RS).free 3; have f4 := (unhide RS).free 4; have f5 := (unhide RS).free 5; have f6 := (unhide RS).free 6
  obtain ⟨u, e4, h4, k4⟩ := (unhide RS).put t
  have E4 := hide e4; have H4 := hide h4; have K4 := hide (below_of_kept (unhide BL) k4 (by omega) (unhide BL).size); have ET := hide et
  clear e4 h4 k4 et
  go_wp2_with fail
  rw [← unhide E4]
  have p0 := (unhide H4).c0; have p1 := (unhide H4).c1; have p2 := (unhide H4).c2; have p3 := (unhide H4).c3; have p4 := (unhide H4).c4; have p5 := (unhide H4).c5; have p6 := (unhide H4).c6
  have OV : overB s z r gate = true := by apply overB_high; rw [← unhide ED, ← unhide EY]; omega
  have eU : updS s z r gate = t := by unfold updS; rw [OV, unhide ET]; rfl
  have eT : updT s z r gate = false := by unfold updT; rw [OV]; rfl
  refine bodyPost_ret (v := .tuple #[stV t, .bool false]) (by simp [results, Tryz.results44, go_sem, p0, p1, p2, p3, p4, p5, p6]) rfl ⟨by rw [eU, eT], unhide K4⟩

end Go.Proofs.YtngmeaaglogieaaGreat

namespace Go.Proofs.YtngmeaaglogieaaGreat
open Go.RowKit

set_option maxHeartbeats 4000000 in
theorem refUpdate_take (s : St) (z r gate : Int) (w : World) (hs : s.Ok) (hz : R64 z) (hr : R64 r) (hg : R64 gate) (hd : ¬ offW s r ≤ 0) (hp : ¬ muV gate (offW s r) < muV (offY s z) (offY s z)) :
    Calls Tryz.prog 44 #[stV s, .int .i64 z, .int .i64 r, .int .i64 gate] w fun e w' => e = .returned (.tuple #[stV (updS s z r gate), .bool (updT s z r gate)]) ∧ Below w.heap.size w w' := by
  obtain ⟨y, ey⟩ : ∃ y, y = offY s z := ⟨_, rfl⟩
  obtain ⟨d, ed⟩ : ∃ d, d = offW s r := ⟨_, rfl⟩
  rw [← ed] at hd
  rw [← ed, ← ey] at hp
  have EY := hide ey; have ED := hide ed
  have RY := hide (show R64 y by rw [ey]; exact sbC_R _ _); have RD := hide (show R64 d by rw [ed]; exact adV_R _ _)
  clear ey ed
  obtain ⟨w1, e1, g1⟩ := rg_start w s
  have OK := hide hs; have E1 := hide e1; have G1 := hide g1
  have Rz := hide hz
  have Rr := hide hr
  have Rg := hide hg
  clear hs e1 g1 hz hr hg
  go_enter Tryz.func44, Tryz.ntmps44
  go_wp2_with fail
  rw [← unhide E1]
  refine (rSub _ _ z s.X _ (unhide Rz) (unhide OK).X (unhide G1).rk).mono ?_
  rintro e w2 ⟨rfl, h, k⟩
  have G2 := hide ((unhide G1).kept k h)
  clear h k G1
  have c2 := (unhide G2).src.c2
  go_wp2_with fail
  clear c2
  refine (rAdd _ _ s.P00 r _ (unhide OK).P00 (unhide Rr) (unhide G2).rk).mono ?_
  rintro e w3 ⟨rfl, h, k⟩
  have G3 := hide ((unhide G2).kept k h)
  clear h k G2
  rw [show sbC z s.X = y from (unhide EY).symm, show adV s.P00 r = d from (unhide ED).symm]
  have h1 : ¬ d < 1 := by omega
  go_wp2_with fail
  refine (rMul _ _ y y _ (unhide RY) (unhide RY) (unhide G3).rk).mono ?_
  rintro e w4 ⟨rfl, h, k⟩
  have G4 := hide ((unhide G3).kept k h)
  clear h k G3
  go_wp2_with fail
  refine (rMul _ _ gate d _ (unhide Rg) (unhide RD) (unhide G4).rk).mono ?_
  rintro e w5 ⟨rfl, h, k⟩
  have G5 := hide ((unhide G4).kept k h)
  clear h k G4
  have c2 := (unhide G5).src.c2
  go_wp2_with fail
  clear c2
  refine (rfDiv_ok _ _ s.P00 d _ (unhide OK).P00 (unhide RD) (unhide G5).rk).mono ?_
  rintro e w6 ⟨rfl, h, k⟩
  have G6 := hide ((unhide G5).kept k h)
  clear h k G5
  have c3 := (unhide G6).src.c3
  go_wp2_with fail
  clear c3
  refine (rfDiv_ok _ _ s.P01 d _ (unhide OK).P01 (unhide RD) (unhide G6).rk).mono ?_
  rintro e w7 ⟨rfl, h, k⟩
  have G7 := hide ((unhide G6).kept k h)
  clear h k G6
  have c0 := (unhide G7).src.c0
  have c1 := (unhide G7).src.c1
  have c2 := (unhide G7).src.c2
  have c3 := (unhide G7).src.c3
  have c4 := (unhide G7).src.c4
  have c5 := (unhide G7).src.c5
  have c6 := (unhide G7).src.c6
  go_wp2_with fail
  clear c0 c1 c2 c3 c4 c5 c6
  obtain ⟨w8, e4, h⟩ := rh_start (unhide G7)
  rw [← e4]
  obtain ⟨bn, ebn⟩ : ∃ bn, bn = w7.heap.size := ⟨_, rfl⟩
  rw [← ebn] at h
  rw [← ebn]
  have G8 := hide h
  clear e4 h ebn G7
  have hS8 : SAt w8.drew w.heap.size s := (unhide G8).g.src
  refine region_by (S := fun u => SAt u w.heap.size s) [(0, false), (1, false), (2, false), (3, false), (4, false), (5, false), (6, true), (7, true), (8, false), (9, true)] [] (by kernel_rfl) (by kernel_rfl) ?_
  iterate 6
    refine seq_read (v := ?_) rfl (fun _ _ _ h => h) (by rfl) hS8 ?_ ?_
    rotate_left 1
    · intro wx hwx
      have c0 := hwx.c0; have c1 := hwx.c1; have c2 := hwx.c2; have c3 := hwx.c3; have c4 := hwx.c4
      clear hwx
      go_simp <;> exact rfl
    go_frame
  refine seq_do rfl (fun K hK => ?_)
  go_simp
  have Gd := hide (unhide G8).drew
  refine (rMul _ _ (divV s.P00 d) y _ (quot_R _ _) (unhide RY) (unhide Gd).g.rk).mono ?_
  rintro e w9 ⟨rfl, h, k⟩
  have G9 := hide ((unhide Gd).kept k h)
  have hS9 := (unhide G9).g.src
  refine hK _ _ (fun _ => hS9) ?_
  clear hK K hS8
  clear h k G8 Gd
  refine seq_do rfl (fun K hK => ?_)
  go_simp
  refine (rAdd _ _ s.X (muV (divV s.P00 d) y) _ (unhide OK).X (muV_R _ _) (unhide G9).g.rk).mono ?_
  rintro e w10 ⟨rfl, h, k⟩
  have G10 := hide ((unhide G9).kept k h)
  have hS10 := (unhide G10).g.src
  refine hK _ _ (fun _ => hS10) ?_
  clear hK K hS9
  clear h k G9
  iterate 1
    refine seq_read (v := ?_) rfl (fun _ _ _ h => h) (by rfl) hS10 ?_ ?_
    rotate_left 1
    · intro wx hwx
      have c0 := hwx.c0; have c1 := hwx.c1; have c2 := hwx.c2; have c3 := hwx.c3; have c4 := hwx.c4
      clear hwx
      go_simp <;> exact rfl
    go_frame
  obtain ⟨w11, e4, h, k⟩ := (unhide G10).nw.pX (adV s.X (muV (divV s.P00 d) y))
  have c := (unhide G10).nw.c0; have f := (unhide G10).nw.free 0
  refine seq_do rfl (fun K hK => ?_)
  go_simp
  rw [← e4]
  have G11 := hide ((unhide G10).put k h)
  refine hK _ _ (fun _ => (unhide G11).g.src) ?_
  clear hK K e4 h k c f hS10 G10
  refine seq_end ?_
  go_wp2_with fail
  have hS11 : SAt w11.drew w.heap.size s := (unhide G11).g.src
  refine region_by (S := fun u => SAt u w.heap.size s) [(0, false), (1, false), (2, false), (3, false), (4, false), (5, false), (6, true), (7, true), (8, false), (9, true)] [] (by kernel_rfl) (by kernel_rfl) ?_
  iterate 6
    refine seq_read (v := ?_) rfl (fun _ _ _ h => h) (by rfl) hS11 ?_ ?_
    rotate_left 1
    · intro wx hwx
      have c0 := hwx.c0; have c1 := hwx.c1; have c2 := hwx.c2; have c3 := hwx.c3; have c4 := hwx.c4
      clear hwx
      go_simp <;> exact rfl
    go_frame
  refine seq_do rfl (fun K hK => ?_)
  go_simp
  have Gd := hide (unhide G11).drew
  refine (rMul _ _ (divV s.P01 d) y _ (quot_R _ _) (unhide RY) (unhide Gd).g.rk).mono ?_
  rintro e w12 ⟨rfl, h, k⟩
  have G12 := hide ((unhide Gd).kept k h)
  have hS12 := (unhide G12).g.src
  refine hK _ _ (fun _ => hS12) ?_
  clear hK K hS11
  clear h k G11 Gd
  refine seq_do rfl (fun K hK => ?_)
  go_simp
  refine (rAdd _ _ s.V (muV (divV s.P01 d) y) _ (unhide OK).V (muV_R _ _) (unhide G12).g.rk).mono ?_
  rintro e w13 ⟨rfl, h, k⟩
  have G13 := hide ((unhide G12).kept k h)
  have hS13 := (unhide G13).g.src
  refine hK _ _ (fun _ => hS13) ?_
  clear hK K hS12
  clear h k G12
  iterate 1
    refine seq_read (v := ?_) rfl (fun _ _ _ h => h) (by rfl) hS13 ?_ ?_
    rotate_left 1
    · intro wx hwx
      have c0 := hwx.c0; have c1 := hwx.c1; have c2 := hwx.c2; have c3 := hwx.c3; have c4 := hwx.c4
      clear hwx
      go_simp <;> exact rfl
    go_frame
  obtain ⟨w14, e4, h, k⟩ := (unhide G13).nw.pV (adV s.V (muV (divV s.P01 d) y))
  have c := (unhide G13).nw.c1; have f := (unhide G13).nw.free 1
  refine seq_do rfl (fun K hK => ?_)
  go_simp
  rw [← e4]
  have G14 := hide ((unhide G13).put k h)
  refine hK _ _ (fun _ => (unhide G14).g.src) ?_
  clear hK K e4 h k c f hS13 G13
  refine seq_end ?_
  go_wp2_with fail
  have hS14 : SAt w14.drew w.heap.size s := (unhide G14).g.src
  refine region_by (S := fun u => SAt u w.heap.size s) [(0, false), (1, false), (2, false), (3, false), (4, false), (5, false), (6, false), (7, true), (8, true), (9, false), (10, true)] [] (by kernel_rfl) (by kernel_rfl) ?_
  iterate 7
    refine seq_read (v := ?_) rfl (fun _ _ _ h => h) (by rfl) hS14 ?_ ?_
    rotate_left 1
    · intro wx hwx
      have c0 := hwx.c0; have c1 := hwx.c1; have c2 := hwx.c2; have c3 := hwx.c3; have c4 := hwx.c4
      clear hwx
      go_simp <;> exact rfl
    go_frame
  refine seq_do rfl (fun K hK => ?_)
  go_simp
  have Gd := hide (unhide G14).drew
  refine (rMul _ _ (divV s.P00 d) s.P00 _ (quot_R _ _) (unhide OK).P00 (unhide Gd).g.rk).mono ?_
  rintro e w15 ⟨rfl, h, k⟩
  have G15 := hide ((unhide Gd).kept k h)
  have hS15 := (unhide G15).g.src
  refine hK _ _ (fun _ => hS15) ?_
  clear hK K hS14
  clear h k G14 Gd
  refine seq_do rfl (fun K hK => ?_)
  go_simp
  refine (rSub _ _ s.P00 (muV (divV s.P00 d) s.P00) _ (unhide OK).P00 (muV_R _ _) (unhide G15).g.rk).mono ?_
  rintro e w16 ⟨rfl, h, k⟩
  have G16 := hide ((unhide G15).kept k h)
  have hS16 := (unhide G16).g.src
  refine hK _ _ (fun _ => hS16) ?_
  clear hK K hS15
  clear h k G15
  iterate 1
    refine seq_read (v := ?_) rfl (fun _ _ _ h => h) (by rfl) hS16 ?_ ?_
    rotate_left 1
    · intro wx hwx
      have c0 := hwx.c0; have c1 := hwx.c1; have c2 := hwx.c2; have c3 := hwx.c3; have c4 := hwx.c4
      clear hwx
      go_simp <;> exact rfl
    go_frame
  obtain ⟨w17, e4, h, k⟩ := (unhide G16).nw.pP00 (sbC s.P00 (muV (divV s.P00 d) s.P00))
  have c := (unhide G16).nw.c2; have f := (unhide G16).nw.free 2
  refine seq_do rfl (fun K hK => ?_)
  go_simp
  rw [← e4]
  have G17 := hide ((unhide G16).put k h)
  refine hK _ _ (fun _ => (unhide G17).g.src) ?_
  clear hK K e4 h k c f hS16 G16
  refine seq_end ?_
  go_wp2_with fail
  have hS17 : SAt w17.drew w.heap.size s := (unhide G17).g.src
  refine region_by (S := fun u => SAt u w.heap.size s) [(0, false), (1, false), (2, false), (3, false), (4, false), (5, false), (6, false), (7, true), (8, true), (9, false), (10, true)] [] (by kernel_rfl) (by kernel_rfl) ?_
  iterate 7
    refine seq_read (v := ?_) rfl (fun _ _ _ h => h) (by rfl) hS17 ?_ ?_
    rotate_left 1
    · intro wx hwx
      have c0 := hwx.c0; have c1 := hwx.c1; have c2 := hwx.c2; have c3 := hwx.c3; have c4 := hwx.c4
      clear hwx
      go_simp <;> exact rfl
    go_frame
  refine seq_do rfl (fun K hK => ?_)
  go_simp
  have Gd := hide (unhide G17).drew
  refine (rMul _ _ (divV s.P00 d) s.P01 _ (quot_R _ _) (unhide OK).P01 (unhide Gd).g.rk).mono ?_
  rintro e w18 ⟨rfl, h, k⟩
  have G18 := hide ((unhide Gd).kept k h)
  have hS18 := (unhide G18).g.src
  refine hK _ _ (fun _ => hS18) ?_
  clear hK K hS17
  clear h k G17 Gd
  refine seq_do rfl (fun K hK => ?_)
  go_simp
  refine (rSub _ _ s.P01 (muV (divV s.P00 d) s.P01) _ (unhide OK).P01 (muV_R _ _) (unhide G18).g.rk).mono ?_
  rintro e w19 ⟨rfl, h, k⟩
  have G19 := hide ((unhide G18).kept k h)
  have hS19 := (unhide G19).g.src
  refine hK _ _ (fun _ => hS19) ?_
  clear hK K hS18
  clear h k G18
  iterate 1
    refine seq_read (v := ?_) rfl (fun _ _ _ h => h) (by rfl) hS19 ?_ ?_
    rotate_left 1
    · intro wx hwx
      have c0 := hwx.c0; have c1 := hwx.c1; have c2 := hwx.c2; have c3 := hwx.c3; have c4 := hwx.c4
      clear hwx
      go_simp <;> exact rfl
    go_frame
  obtain ⟨w20, e4, h, k⟩ := (unhide G19).nw.pP01 (sbC s.P01 (muV (divV s.P00 d) s.P01))
  have c := (unhide G19).nw.c3; have f := (unhide G19).nw.free 3
  refine seq_do rfl (fun K hK => ?_)
  go_simp
  rw [← e4]
  have G20 := hide ((unhide G19).put k h)
  refine hK _ _ (fun _ => (unhide G20).g.src) ?_
  clear hK K e4 h k c f hS19 G19
  refine seq_end ?_
  go_wp2_with fail
  have hS20 : SAt w20.drew w.heap.size s := (unhide G20).g.src
  refine region_by (S := fun u => SAt u w.heap.size s) [(0, false), (1, false), (2, false), (3, false), (4, false), (5, false), (6, false), (7, true), (8, true), (9, false), (10, true)] [] (by kernel_rfl) (by kernel_rfl) ?_
  iterate 7
    refine seq_read (v := ?_) rfl (fun _ _ _ h => h) (by rfl) hS20 ?_ ?_
    rotate_left 1
    · intro wx hwx
      have c0 := hwx.c0; have c1 := hwx.c1; have c2 := hwx.c2; have c3 := hwx.c3; have c4 := hwx.c4
      clear hwx
      go_simp <;> exact rfl
    go_frame
  refine seq_do rfl (fun K hK => ?_)
  go_simp
  have Gd := hide (unhide G20).drew
  refine (rMul _ _ (divV s.P01 d) s.P01 _ (quot_R _ _) (unhide OK).P01 (unhide Gd).g.rk).mono ?_
  rintro e w21 ⟨rfl, h, k⟩
  have G21 := hide ((unhide Gd).kept k h)
  have hS21 := (unhide G21).g.src
  refine hK _ _ (fun _ => hS21) ?_
  clear hK K hS20
  clear h k G20 Gd
  refine seq_do rfl (fun K hK => ?_)
  go_simp
  refine (rSub _ _ s.P11 (muV (divV s.P01 d) s.P01) _ (unhide OK).P11 (muV_R _ _) (unhide G21).g.rk).mono ?_
  rintro e w22 ⟨rfl, h, k⟩
  have G22 := hide ((unhide G21).kept k h)
  have hS22 := (unhide G22).g.src
  refine hK _ _ (fun _ => hS22) ?_
  clear hK K hS21
  clear h k G21
  iterate 1
    refine seq_read (v := ?_) rfl (fun _ _ _ h => h) (by rfl) hS22 ?_ ?_
    rotate_left 1
    · intro wx hwx
      have c0 := hwx.c0; have c1 := hwx.c1; have c2 := hwx.c2; have c3 := hwx.c3; have c4 := hwx.c4
      clear hwx
      go_simp <;> exact rfl
    go_frame
  obtain ⟨w23, e4, h, k⟩ := (unhide G22).nw.pP11 (sbC s.P11 (muV (divV s.P01 d) s.P01))
  have c := (unhide G22).nw.c4; have f := (unhide G22).nw.free 4
  refine seq_do rfl (fun K hK => ?_)
  go_simp
  rw [← e4]
  have G23 := hide ((unhide G22).put k h)
  refine hK _ _ (fun _ => (unhide G23).g.src) ?_
  clear hK K e4 h k c f hS22 G22
  refine seq_end ?_
  obtain ⟨w24, e4, h, k⟩ := (unhide G23).nw.pM 0
  have c := (unhide G23).nw.c6; have f := (unhide G23).nw.free 6
  have G24 := hide ((unhide G23).put k h); have E4 := hide e4
  clear h k e4
  go_upto_region 16 with fail
  rw [← unhide E4]
  clear c f E4 G23
  have rk0 := (unhide G24).g.rk.cell0
  obtain ⟨w25, e4, h, k⟩ := (unhide G24).nw.pB _
  have c := (unhide G24).nw.c5; have f := (unhide G24).nw.free 5
  have G25 := hide ((unhide G24).put k h); have E4 := hide e4
  clear h k e4
  go_upto_region 17 with fail
  rw [← unhide E4]
  clear c f E4 rk0 G24
  have OV : overB s z r gate = false := by apply overB_not <;> rw [← unhide ED] <;> first | (rw [← unhide EY]; omega) | omega
  have eT : updT s z r gate = true := by unfold updT; rw [OV]; rfl
  have eU : updS s z r gate = takeS ((((s.bend (sbE z s.X)).bend (adB s.P00 r)).bend (muB y y)).bend (muB gate d)) y d := by unfold updS; rw [OV, unhide EY, unhide ED]; rfl
  have EU := hide eU; have ETT := hide eT
  clear OV eT eU
  obtain ⟨t, et⟩ : ∃ t : St, t = takeS ((((s.bend (sbE z s.X)).bend (adB s.P00 r)).bend (muB y y)).bend (muB gate d)) y d := ⟨_, rfl⟩
  have N := hide (show SAt w25 bn t by rw [et]; exact (unhide G25).nw)
  have c0 := (unhide N).c0; have c1 := (unhide N).c1; have c2 := (unhide N).c2; have c3 := (unhide N).c3; have c4 := (unhide N).c4; have c5 := (unhide N).c5; have c6 := (unhide N).c6
  have b0 := (unhide G25).g.res.c0; have b1 := (unhide G25).g.res.c1; have b2 := (unhide G25).g.res.c2; have b3 := (unhide G25).g.res.c3; have b4 := (unhide G25).g.res.c4; have b5 := (unhide G25).g.res.c5; have b6 := (unhide G25).g.res.c6
  have f0 := (unhide G25).g.res.free 0; have f1 := (unhide G25).g.res.free 1; have f2 := (unhide G25).g.res.free 2; have f3 := (unhide G25).g.res.free 3; have f4 := (unhide G25).g.res.free 4; have f5 := (unhide G25).g.res.free 5; have f6 := (unhide G25).g.res.free 6
  have ln := (unhide G25).lt
  obtain ⟨u, e4, h4, k4⟩ := (unhide G25).g.res.put t
  have E4 := hide e4; have H4 := hide h4; have K4 := hide (below_of_kept (unhide G25).g.bel k4 (by omega) (unhide G25).g.bel.size)
  have ET := hide et
  clear e4 h4 k4 et
  go_wp2_with fail
  rw [← unhide E4]
  have p0 := (unhide H4).c0; have p1 := (unhide H4).c1; have p2 := (unhide H4).c2; have p3 := (unhide H4).c3; have p4 := (unhide H4).c4; have p5 := (unhide H4).c5; have p6 := (unhide H4).c6
  refine bodyPost_ret (v := .tuple #[stV t, .bool true]) (by simp [results, Tryz.results44, go_sem, p0, p1, p2, p3, p4, p5, p6]) rfl ⟨by rw [unhide EU, unhide ETT, unhide ET], unhide K4⟩

end Go.Proofs.YtngmeaaglogieaaGreat

namespace Go.Proofs.YtngmeaaglogieaaGreat
open Go.RowKit

theorem refUpdate_any (s : St) (z r gate : Int) (w : World) (hs : s.Ok) (hz : R64 z) (hr : R64 r) (hg : R64 gate) :
    Calls Tryz.prog 44 #[stV s, .int .i64 z, .int .i64 r, .int .i64 gate] w fun e w' => e = .returned (.tuple #[stV (updS s z r gate), .bool (updT s z r gate)]) ∧ Below w.heap.size w w' := by
  by_cases hd : offW s r ≤ 0
  · exact refUpdate_low s z r gate w hs hz hr hg hd
  · by_cases hp : muV gate (offW s r) < muV (offY s z) (offY s z)
    · exact refUpdate_high s z r gate w hs hz hr hg hd hp
    · exact refUpdate_take s z r gate w hs hz hr hg hd hp

end Go.Proofs.YtngmeaaglogieaaGreat

namespace Go.Proofs.YtngmeaaglogieaaGreat
open Go.RowKit

set_option maxHeartbeats 1000000 in
theorem refStep_any (s : St) (t : Tn) (z : Int) (w : World) (hs : s.Ok) (ht : t.Ok) (hz : R64 z) :
    Calls Tryz.prog 24 #[stV s, tnV t, .int .i64 z] w fun e w' => e = .returned (.tuple #[stV (stepS s t z), .bool (stepT s t z)]) ∧ Below w.heap.size w w' := by
  obtain ⟨w1, e1, d1, g1, k1⟩ := step_start w s t
  have OK := hide hs; have OT := hide ht; have RZ := hide hz; have E1 := hide e1; have G1 := hide g1; have K1 := hide k1
  have hS1 : ST w.heap.size (w.heap.size + 1) s t w1.drew := d1.drew
  clear hs ht hz e1 d1 g1 k1
  go_enter Tryz.func24, Tryz.ntmps24
  go_wp2_with fail
  rw [← unhide E1]
  refine region_by (S := ST w.heap.size (w.heap.size + 1) s t) [(0, false), (1, false), (2, false), (3, false), (4, false), (6, false), (7, false), (8, false), (9, false), (10, false), (5, true), (11, true), (12, false), (13, false), (14, true), (15, true)] [] (by kernel_rfl) (by kernel_rfl) ?_
  iterate 10
    refine seq_read (v := ?_) rfl (fun _ _ _ h => h) (by rfl) hS1 ?_ ?_
    rotate_left 1
    · intro wx hwx
      have q0 := hwx.tn.c0; have q1 := hwx.tn.c1; have q2 := hwx.tn.c2; have q3 := hwx.tn.c3
      have c0 := hwx.st.c0; have c1 := hwx.st.c1; have c2 := hwx.st.c2; have c3 := hwx.st.c3; have c4 := hwx.st.c4; have c5 := hwx.st.c5; have c6 := hwx.st.c6
      clear hwx
      go_simp <;> exact rfl
    go_frame
  refine seq_do rfl (fun K hK => ?_)
  go_simp
  refine (refPredict_any s t.Dt t.Q _ (unhide OK) (unhide OT).Dt (unhide OT).Q).mono ?_
  rintro e w2 ⟨rfl, k⟩
  have hS2 := hS1.below k
  refine hK _ _ (fun _ => hS2) ?_
  have G2 := hide (SAt.below (w := w1.drew) (unhide G1) k); have K2 := hide ((below_drew (unhide K1)).trans (k.mono (unhide K1).size))
  clear hK K hS1 k G1 K1
  refine seq_do rfl (fun K hK => ?_)
  go_simp
  refine (refUpdate_any (predS s t.Dt t.Q) z t.R t.G _ (predS_ok (unhide OK) _ _) (unhide RZ) (unhide OT).R (unhide OT).G).mono ?_
  rintro e w3 ⟨rfl, k⟩
  have hS3 := hS2.below k
  refine hK _ _ (fun _ => hS3) ?_
  have G3 := hide ((unhide G2).below k); have K3 := hide ((unhide K2).trans (k.mono (unhide K2).size))
  clear hK K hS2 k G2 K2
  rw [show updS (predS s t.Dt t.Q) z t.R t.G = stepS s t z from rfl, show updT (predS s t.Dt t.Q) z t.R t.G = stepT s t z from rfl]
  obtain ⟨p, ep⟩ : ∃ p, p = stepS s t z := ⟨_, rfl⟩
  obtain ⟨tk, ek⟩ : ∃ tk, tk = stepT s t z := ⟨_, rfl⟩
  rw [← ep, ← ek]
  have EP := hide ep; have EK := hide ek
  clear ep ek
  iterate 2
    refine seq_read (v := ?_) rfl (fun _ _ _ h => h) (by rfl) hS3 ?_ ?_
    rotate_left 1
    · intro wx hwx
      clear hwx
      go_simp <;> exact rfl
    go_frame
  have b0 := (unhide G3).c0; have b1 := (unhide G3).c1; have b2 := (unhide G3).c2; have b3 := (unhide G3).c3; have b4 := (unhide G3).c4; have b5 := (unhide G3).c5; have b6 := (unhide G3).c6
  have f0 := (unhide G3).free 0; have f1 := (unhide G3).free 1; have f2 := (unhide G3).free 2; have f3 := (unhide G3).free 3; have f4 := (unhide G3).free 4; have f5 := (unhide G3).free 5; have f6 := (unhide G3).free 6
  obtain ⟨w4, e4, h4, k4⟩ := (unhide G3).put p
  refine seq_do rfl (fun K hK => ?_)
  go_simp
  rw [← e4]
  have hS4 := hS3.kept k4 (by omega) (by omega)
  refine hK _ _ (fun _ => hS4) ?_
  have G4 := hide h4; have K4 := hide (below_of_kept (unhide K3) k4 (by omega) (unhide K3).size)
  clear hK K b0 b1 b2 b3 b4 b5 b6 f0 f1 f2 f3 f4 f5 f6 e4 h4 k4 hS3 G3 K3
  refine seq_do rfl (fun K hK => ?_)
  go_simp
  refine hK _ _ (fun _ => hS4) ?_
  clear hK K hS4
  refine seq_end ?_
  go_wp2_with fail
  have p0 := (unhide G4).c0; have p1 := (unhide G4).c1; have p2 := (unhide G4).c2; have p3 := (unhide G4).c3; have p4 := (unhide G4).c4; have p5 := (unhide G4).c5; have p6 := (unhide G4).c6
  refine bodyPost_ret (v := .tuple #[stV p, .bool tk]) (by simp [results, Tryz.results24, go_sem, p0, p1, p2, p3, p4, p5, p6]) rfl ⟨by rw [unhide EP, unhide EK], unhide K4⟩

end Go.Proofs.YtngmeaaglogieaaGreat

namespace Go.Proofs.YtngmeaaglogieaaGreat
open Go.RowKit

theorem ndF_ag (n : Nd) (v : Value) {i a : Nat} (hi : i < 4) (ha : a < 3) : ndF n v (0 + 55 + i * 3 + a * 1) = .int .i64 (n.ag i a) := by
  unfold ndF
  rw [if_neg (by omega), if_neg (by omega), if_neg (by omega), if_neg (by omega), if_neg (by omega), if_neg (by omega), if_pos (by omega), show (0 + 55 + i * 3 + a * 1 - 55) / 3 = i by omega, show (0 + 55 + i * 3 + a * 1 - 55) % 3 = a by omega]
  rfl
theorem ndF_us (n : Nd) (v : Value) {a : Nat} (ha : a < 3) : ndF n v (0 + 67 + a * 1) = .int .i64 (n.us a) := by
  unfold ndF
  rw [if_neg (by omega), if_neg (by omega), if_neg (by omega), if_neg (by omega), if_neg (by omega), if_neg (by omega), if_neg (by omega), if_pos (by omega), show 0 + 67 + a * 1 - 67 = a by omega]
  rfl
/-- A computer with these axes, these numbers agreed and used; behind so many axes and nodes. -/
def NA (n : Nd) (ag : Nat → Nat → Int) (us : Nat → Int) (ax : Nat → St) : Nd := { n with ag := ag, us := us, ax := ax }
def agP (n : Nd) (l : List Ms) (x i s k : Nat) : Int := if s < 4 ∧ (k < x ∨ (k = x ∧ s < i)) then decG n l s k else n.ag s k
def usP (n : Nd) (l : List Ms) (x k : Nat) : Int := if k < x then decU n l k else n.us k
def axP (n : Nd) (l : List Ms) (x k : Nat) : St := if k < x then decA n l k else n.ax k
theorem NA_zero {n : Nd} {l : List Ms} : NA n (agP n l 0 0) (usP n l 0) (axP n l 0) = n := by
  have e1 : agP n l 0 0 = n.ag := by funext s k; unfold agP; rw [if_neg (by omega)]
  have e2 : usP n l 0 = n.us := by funext k; unfold usP; rw [if_neg (by omega)]
  have e3 : axP n l 0 = n.ax := by funext k; unfold axP; rw [if_neg (by omega)]
  rw [e1, e2, e3]
  rfl
theorem tkn_NA {n : Nd} {ag : Nat → Nat → Int} {us : Nat → Int} {ax : Nat → St} {l : List Ms} {s : Nat} {h : Int} {k many : Nat} : tkn (NA n ag us ax) l s h k many = tkn n l s h k many := rfl
theorem ag_next {n : Nd} {l : List Ms} {x i : Nat} (hi : i < 4) : (fun s k => if s = i ∧ k = x then tkn n l i (n.di i x) (3 * i + x) 12 else agP n l x i s k) = agP n l x (i + 1) := by
  funext s k
  unfold agP
  by_cases c : s = i ∧ k = x
  · obtain ⟨rfl, rfl⟩ := c
    rw [if_pos ⟨rfl, rfl⟩, if_pos (by omega)]
    rfl
  · rw [if_neg c]
    by_cases c2 : s < 4 ∧ (k < x ∨ (k = x ∧ s < i))
    · rw [if_pos c2, if_pos (by omega)]
    · rw [if_neg c2, if_neg (by omega)]
theorem agP_at {n : Nd} {l : List Ms} {x i : Nat} (hi : i < 4) : agP n l x (i + 1) i x = decG n l i x := by
  unfold agP
  rw [if_pos (by omega)]
theorem ag_wrap {n : Nd} {l : List Ms} {x : Nat} : agP n l x 4 = agP n l (x + 1) 0 := by
  funext s k
  unfold agP
  by_cases c : s < 4 ∧ (k < x ∨ (k = x ∧ s < 4))
  · rw [if_pos c, if_pos (by omega)]
  · rw [if_neg c, if_neg (by omega)]
theorem us_next {n : Nd} {l : List Ms} {x : Nat} : (fun k => if k = x then midL (insL n.rl.I (fun s => decG n l s x) 4) else usP n l x k) = usP n l (x + 1) := by
  funext k
  unfold usP
  by_cases c : k = x
  · subst c
    rw [if_pos rfl, if_pos (by omega)]
    rfl
  · rw [if_neg c]
    by_cases c2 : k < x
    · rw [if_pos c2, if_pos (by omega)]
    · rw [if_neg c2, if_neg (by omega)]
theorem usP_at {n : Nd} {l : List Ms} {x : Nat} : usP n l (x + 1) x = decU n l x := by
  unfold usP
  rw [if_pos (by omega)]
theorem axP_at {n : Nd} {l : List Ms} {x : Nat} : axP n l x x = n.ax x := by
  unfold axP
  rw [if_neg (by omega)]
theorem ax_next {n : Nd} {l : List Ms} {x : Nat} : (fun k => if k = x then decA n l x else axP n l x k) = axP n l (x + 1) := by
  funext k
  unfold axP
  by_cases c : k = x
  · subst c
    rw [if_pos rfl, if_pos (by omega)]
  · rw [if_neg c]
    by_cases c2 : k < x
    · rw [if_pos c2, if_pos (by omega)]
    · rw [if_neg c2, if_neg (by omega)]
theorem NA_done {n : Nd} {l : List Ms} {v : Value} : ndF (NA n (agP n l 3 0) (usP n l 3) (axP n l 3)) v = ndF (NA n (decG n l) (decU n l) (decA n l)) v := by
  have e1 : ∀ s k, s < 4 → k < 3 → agP n l 3 0 s k = decG n l s k := fun s k h1 h2 => by unfold agP; rw [if_pos (by omega)]
  have e2 : ∀ k, k < 3 → usP n l 3 k = decU n l k := fun k h => by unfold usP; rw [if_pos h]
  have e3 : ∀ k, k < 3 → axP n l 3 k = decA n l k := fun k h => by unfold axP; rw [if_pos h]
  funext j
  unfold ndF NA
  dsimp only
  by_cases c2 : j < 2
  · rw [if_pos c2, if_pos c2]
  · rw [if_neg c2, if_neg c2]
    by_cases c6 : j < 6
    · rw [if_pos c6, if_pos c6]
    · rw [if_neg c6, if_neg c6]
      by_cases c27 : j < 27
      · rw [if_pos c27, if_pos c27]
        rw [e3 _ (by omega)]
      · rw [if_neg c27, if_neg c27]
        by_cases c39 : j < 39
        · rw [if_pos c39, if_pos c39]
        · rw [if_neg c39, if_neg c39]
          by_cases c51 : j < 51
          · rw [if_pos c51, if_pos c51]
          · rw [if_neg c51, if_neg c51]
            by_cases c55 : j < 55
            · rw [if_pos c55, if_pos c55]
            · rw [if_neg c55, if_neg c55]
              by_cases c67 : j < 67
              · rw [if_pos c67, if_pos c67]
                rw [e1 _ _ (by omega) (by omega)]
              · rw [if_neg c67, if_neg c67]
                by_cases c70 : j < 70
                · rw [if_pos c70, if_pos c70]
                  rw [e2 _ (by omega)]
                · rw [if_neg c70, if_neg c70]
theorem dec_he {n : Nd} {I : Nat} {x : Int} (h : n.id = (I : Int)) : (fun s : Nat => if (s : Int) = n.id then x else n.he s) = fun s => if s = I then x else n.he s := by
  funext s
  rw [h]
  by_cases e : s = I
  · rw [if_pos (by omega), if_pos e]
  · rw [if_neg (by omega), if_neg e]
theorem ins_t {b : Nat → Bool} {f : Nat → Int} {i : Nat} (h : b i = true) : insL b f (i + 1) = insL b f i ++ [f i] := by
  show insL b f i ++ _ = _
  rw [h]; rfl
theorem ins_f {b : Nat → Bool} {f : Nat → Int} {i : Nat} (h : b i = false) : insL b f (i + 1) = insL b f i := by
  show insL b f i ++ _ = _
  rw [h]
  exact List.append_nil _
theorem ins_R {b : Nat → Bool} {f : Nat → Int} (h : ∀ s, R64 (f s)) (k i : Nat) : R64 (gL (insL b f k) i) := by
  refine gL_R ?_ i
  induction k with
  | zero => intro x hx; exact absurd hx (List.not_mem_nil)
  | succ k ih =>
    intro x hx
    rcases List.mem_append.1 hx with c | c
    · exact ih x c
    · split at c
      · rw [List.mem_singleton.1 c]; exact h k
      · exact absurd c (List.not_mem_nil)
theorem decG_R {n : Nd} {L : List Lm} (hok : NdOK n) (hRL : ∀ m, m ∈ L → ∀ i, R64 (gL m.m.L i)) (s a : Nat) : R64 (decG n (L.map Lm.m) s a) := tkn_R hRL (hok.di s a)
theorem srt_R {l : List Int} (h : ∀ x, x ∈ l → R64 x) (i : Nat) : R64 ((srt l).getD i 0) := by
  refine gL_R (l := srt l) (fun x hx => h x ?_) i
  unfold srt at hx
  exact (List.mem_mergeSort).1 hx
theorem midL_R {l : List Int} (h : ∀ x, x ∈ l → R64 x) : R64 (midL l) := by
  unfold midL
  split
  · have h1 := srt_R h ((l.length - 1) / 3)
    have h2 := srt_R h (l.length - 1 - (l.length - 1) / 3)
    unfold R64 at h1 h2 ⊢
    omega
  · exact R64_zero
theorem insL_mem {b : Nat → Bool} {f : Nat → Int} (h : ∀ s, R64 (f s)) (k : Nat) : ∀ x, x ∈ insL b f k → R64 x := by
  induction k with
  | zero => intro x hx; exact absurd hx (List.not_mem_nil)
  | succ k ih =>
    intro x hx
    rcases List.mem_append.1 hx with c | c
    · exact ih x c
    · split at c
      · rw [List.mem_singleton.1 c]; exact h k
      · exact absurd c (List.not_mem_nil)
theorem decU_R {n : Nd} {L : List Lm} (hok : NdOK n) (hRL : ∀ m, m ∈ L → ∀ i, R64 (gL m.m.L i)) (a : Nat) : R64 (decU n (L.map Lm.m) a) := midL_R (insL_mem (fun s => decG_R hok hRL s a) 4)
theorem lsN_gL (l : List Int) : lsN (gL l) l.length = l := by
  unfold lsN
  apply List.ext_getElem?
  intro i
  rcases Nat.lt_or_ge i l.length with c | c
  · rw [List.getElem?_map, List.getElem?_range c, List.getElem?_eq_getElem c]
    show some (gL l i) = _
    unfold gL
    rw [List.getD_eq_getElem?_getD, List.getElem?_eq_getElem c]
    rfl
  · rw [List.getElem?_eq_none c, List.getElem?_eq_none (by simpa using c)]
/-- The middle of a short list. -/
theorem refMid_any (ao : Option Addr) (cap : Nat) (l : List Int) (w : World) (hl : l.length ≤ 64) (hf : ∀ i, R64 (gL l i)) (hr : Rd w ao l.length (iF (gL l))) :
    Calls Tryz.prog 23 #[.slice ao l.length cap] w fun e w' => ∃ E, e = .returned (.tuple #[.int .i64 (midL l), .int .i64 E]) ∧ Below w.heap.size w w' := by
  rcases Nat.lt_or_ge l.length 1 with h | h
  · have e : l = [] := List.length_eq_zero_iff.1 (by omega)
    subst e
    refine (refMiddle_bad ao 0 cap w (Or.inl (by omega))).mono ?_
    rintro e w' ⟨rfl, k⟩
    exact ⟨8, rfl, k⟩
  · refine (refMiddle_good ao l.length cap (gL l) w h hl hf hr).mono ?_
    rintro e w' ⟨m, hm, rfl, k⟩
    have := midL_at h hl hm
    rw [lsN_gL] at this
    subst this
    exact ⟨0, rfl, k⟩
theorem enter_mid (x : Value) (w : World) : (callFunc 23 #[x]).run Tryz.prog w = .ok (.enter 23 #[x]) w := by go_simp
theorem enter_digest (x : Value) (w : World) : (callFunc 25 #[x]).run Tryz.prog w = .ok (.enter 25 #[x]) w := by go_simp
theorem enter_fstep (x y z : Value) (w : World) : (callFunc 24 #[x, y, z]).run Tryz.prog w = .ok (.enter 24 #[x, y, z]) w := by go_simp

end Go.Proofs.YtngmeaaglogieaaGreat

namespace Go.Proofs.YtngmeaaglogieaaGreat
open Go.RowKit

def MjOK (fn : Nat) : Prop := ∀ (ao : Option Addr) (n cap : Nat) (f : Nat → Int) (other : Int) (w : World), (∀ i, R64 (f i)) → R64 other → n * 8 ≤ 140737488351232 → n ≤ cap → Sr w ao n cap (iF f) →
  Calls Tryz.prog fn #[.slice ao n cap, .int .i64 other] w fun e w' => ∃ m, IsMaj f n other m ∧ e = .returned (.int .i64 m) ∧ Below w.heap.size w w'
def DeOK (fn : Nat) : Prop := ∀ (a b c : Int) (w : World), R64 a → R64 b → R64 c →
  Calls Tryz.prog fn #[.int .i64 a, .int .i64 b, .int .i64 c] w fun e w' => e = .returned (.int .i64 (dc3 a b c)) ∧ Below w.heap.size w w'
/-- The i-th lie. -/
def liF (g : Nat → Int) (n i : Nat) : Int := if i < n then g i else 0
/-- Four times four numbers as one value. -/
def gridV (x : Nat → Nat → Int) : Value := .agg #[.int .i64 (x 0 0), .int .i64 (x 0 1), .int .i64 (x 0 2), .int .i64 (x 0 3), .int .i64 (x 1 0), .int .i64 (x 1 1), .int .i64 (x 1 2), .int .i64 (x 1 3), .int .i64 (x 2 0), .int .i64 (x 2 1), .int .i64 (x 2 2), .int .i64 (x 2 3), .int .i64 (x 3 0), .int .i64 (x 3 1), .int .i64 (x 3 2), .int .i64 (x 3 3)]
def VcOK (fn : Nat) : Prop := ∀ (v : Nat → Int) (bad : Int) (lo : Option Addr) (ln lc : Nat) (g : Nat → Int) (w : World), (∀ i, R64 (v i)) → R64 bad → (∀ i, R64 (g i)) → ln * 8 ≤ 140737488351232 → ln ≤ lc → Sr w lo ln lc (iF g) →
  Calls Tryz.prog fn #[fourV v, .int .i64 bad, .slice lo ln lc] w fun e w' => e = .returned (gridV (vcF v bad (liF g ln))) ∧ Below w.heap.size w w'

end Go.Proofs.YtngmeaaglogieaaGreat

namespace Go.Proofs.YtngmeaaglogieaaGreat
open Go.RowKit

theorem ce_next (f : Nat → Int) (n : Nat) (v : Int) : ce f (n + 1) v = ce f n v + if f n = v then 1 else 0 := by
  show cn _ n + (if decide (f n = v) = true then 1 else 0) = _
  by_cases h : f n = v
  · rw [if_pos (decide_eq_true h), if_pos h]; rfl
  · rw [if_neg (by rw [decide_eq_false h]; decide), if_neg h]; rfl
theorem maj_none {f : Nat → Int} {n : Nat} (h : ∀ j, j < n → ¬ n < 2 * ce f n (f j)) (other : Int) : IsMaj f n other other := by
  refine Or.inr ⟨fun v hv => ?_, rfl⟩
  obtain ⟨i, hi, hp⟩ := cn_pos (p := fun i => decide (f i = v)) (n := n) (by show 0 < ce f n v; omega)
  have e := of_decide_eq_true hp
  have := h i hi
  rw [e] at this
  exact this hv

set_option maxHeartbeats 2000000 in
theorem refMajority_rd (ao : Option Addr) (n cap : Nat) (f : Nat → Int) (other : Int) (w : World) (hl : n ≤ 17592186043904) (hr : Rd w ao n (iF f)) :
    Calls Tryz.prog 38 #[.slice ao n cap, .int .i64 other] w fun e w' => ∃ m, IsMaj f n other m ∧ e = .returned (.int .i64 m) ∧ w' = w := by
  have HR := hide hr
  clear hr
  go_enter Tryz.func38, Tryz.ntmps38
  go_wp2_with fail
  go_loopw [6, 7, 9, 12] (fun _ _ _ is wr => w = wr ∧ ∃ i : Nat, is = .int .i64 i ∧ i ≤ n ∧ ∀ j, j < i → ¬ n < 2 * ce f n (f j)) (fun _ _ _ is _ => n - (intOf is).toNat)
  case atStart => exact ⟨rfl, 0, rfl, Nat.zero_le _, fun j hj => absurd hj (by omega)⟩
  case round =>
    obtain ⟨rfl, i, rfl, hi, hno⟩ := hrel
    have NO := hide hno
    clear hno
    by_cases hin : i < n
    · obtain ⟨b, o, rfl, hc⟩ := unhide HR (by omega)
      have HC := hide hc
      have ci : w.cell? ⟨b, o + i, none⟩ = some (.int .i64 (f i)) := hc i hin
      obtain ⟨v, ev⟩ : ∃ v, f i = v := ⟨_, rfl⟩
      rw [ev] at ci
      have EV := hide ev
      clear ev hc
      go_wp2_with fail
      clear ci
      go_loopw [7, 9, 18] (fun ns _ js wr => w = wr ∧ ∃ j : Nat, js = .int .i64 j ∧ j ≤ n ∧ ns = .int .i64 (ce f j v : Nat)) (fun _ _ js _ => n - (intOf js).toNat)
      case atStart => exact ⟨rfl, 0, rfl, Nat.zero_le _, rfl⟩
      case round =>
        obtain ⟨rfl, j, rfl, hj, rfl⟩ := hrel
        have b2 : ce f j v ≤ j := cn_le _ _
        by_cases hjn : j < n
        · have cj : w.cell? ⟨b, o + j, none⟩ = some (.int .i64 (f j)) := unhide HC j hjn
          have S2 := hide (ce_next f j v)
          obtain ⟨q, eq⟩ : ∃ q, ce f j v = q := ⟨_, rfl⟩
          obtain ⟨u, eu⟩ : ∃ u, f j = u := ⟨_, rfl⟩
          rw [eq] at b2 S2 ⊢
          rw [eu] at cj S2
          clear eq eu
          by_cases he : u = v
          · subst he
            have t1 : (u == u) = true := by simp
            have T2 := hide (show ce f (j + 1) u = q + 1 by rw [unhide S2, if_pos rfl])
            go_wp2_with fail
            go_roundw
            case rel => exact ⟨trivial, j + 1, by go_num, by omega, by rw [unhide T2]; go_num⟩
            case measure => simp [intOf] <;> omega
          · have t1 : (v == u) = false := by simp; omega
            have T2 := hide (show ce f (j + 1) v = q by rw [unhide S2, if_neg he]; rfl)
            go_wp2_with fail
            go_roundw
            case rel => exact ⟨trivial, j + 1, by go_num, by omega, by rw [unhide T2]⟩
            case measure => simp [intOf] <;> omega
        · have e9 : j = n := by omega
          subst e9
          have C := hide (show ce f j v = ce f j (f i) by rw [unhide EV])
          obtain ⟨q, eq⟩ : ∃ q, ce f j v = q := ⟨_, rfl⟩
          have EQ := hide eq
          rw [eq] at b2 ⊢
          clear eq
          by_cases h2 : j < 2 * q
          · have h2' : (j : Int) < 2 * (q : Int) := by omega
            go_wp2_with fail
            go_ret
            exact ⟨v, Or.inl (by rw [unhide EQ]; exact h2), rfl, rfl⟩
          · have h2' : ¬ (j : Int) < 2 * (q : Int) := by omega
            go_wp2_with fail
            go_roundw
            case rel => exact ⟨trivial, i + 1, by go_num, by omega, fun t ht => by
              by_cases e : t = i
              · subst e; rw [unhide EV, unhide EQ]; exact h2
              · exact unhide NO t (by omega)⟩
            case measure => simp [intOf] <;> omega
    · have e9 : i = n := by omega
      subst e9
      go_wp2_with fail
      go_ret
      exact ⟨other, maj_none (unhide NO) other, rfl, rfl⟩

theorem refMajority_ok : MjOK 38 := by
  intro ao n cap f other w _ _ hl _ hs
  refine (refMajority_rd ao n cap f other w (by omega) hs.rd).mono ?_
  rintro e w' ⟨m, hm, rfl, rfl⟩
  exact ⟨m, hm, rfl, Below.refl _ _⟩

end Go.Proofs.YtngmeaaglogieaaGreat

namespace Go.Proofs.YtngmeaaglogieaaGreat
open Go.RowKit

/-- The list that is voted on. -/
def tkL (I s : Nat) (T : Nat → Int) (h : Int) : Nat → List Int
  | 0 => [h]
  | i + 1 => tkL I s T h i ++ if i = I ∨ i = s then [] else [T i]
theorem tkL_len (I s : Nat) (T : Nat → Int) (h : Int) (i : Nat) : (tkL I s T h i).length ≤ i + 1 := by
  induction i with
  | zero => exact Nat.le_refl 1
  | succ i ih =>
    show (tkL I s T h i ++ _).length ≤ _
    rw [List.length_append]
    split
    · show _ + 0 ≤ _; omega
    · show _ + 1 ≤ _; omega
theorem tk_skip {I s i : Nat} {T : Nat → Int} {h : Int} (e : i = I ∨ i = s) : tkL I s T h (i + 1) = tkL I s T h i := by
  show tkL I s T h i ++ _ = _
  rw [if_pos e, List.append_nil]
theorem tk_take {I s i : Nat} {T : Nat → Int} {h x : Int} (e1 : i ≠ I) (e2 : i ≠ s) (ex : T i = x) : tkL I s T h (i + 1) = tkL I s T h i ++ [x] := by
  show tkL I s T h i ++ _ = _
  rw [if_neg (fun c => c.elim e1 e2), ex]
theorem tk_four {I s : Nat} {T : Nat → Int} {h : Int} (hI : I < 4) (hs : s < 4) (e : I ≠ s) : tkL I s T h 4 = [h, T (o1 I s), T (o2 I s)] := by
  have : I = 0 ∨ I = 1 ∨ I = 2 ∨ I = 3 := by omega
  have : s = 0 ∨ s = 1 ∨ s = 2 ∨ s = 3 := by omega
  rcases ‹I = 0 ∨ _› with rfl | rfl | rfl | rfl <;> rcases ‹s = 0 ∨ _› with rfl | rfl | rfl | rfl <;> first | (exact absurd rfl e) | rfl
theorem tld_some {n : Nd} {L : List Lm} {i k many : Nat} {c : Lm} (h : fL n.id n.fr L (i : Int) 2 (many : Int) = some c) : tldN n (L.map Lm.m) i k many = gL c.m.L k := by
  have := fL_frst n L i 2 many
  rw [h] at this
  unfold tldN
  rw [← this]
  rfl
theorem tld_none {n : Nd} {L : List Lm} {i k many : Nat} (h : fL n.id n.fr L (i : Int) 2 (many : Int) = none) : tldN n (L.map Lm.m) i k many = 0 := by
  have := fL_frst n L i 2 many
  rw [h] at this
  unfold tldN
  rw [← this]
  rfl
set_option maxHeartbeats 2000000 in
theorem refTaken_any (n : Nd) (nv : Value) (mo : Option Addr) (mc : Nat) (L : List Lm) (I s : Nat) (h : Int) (k many : Nat) (w : World) (hI : n.id = (I : Int)) (hI4 : I < 4) (hs4 : s < 4) (hk : k < many) (hmr : MRd w mo L) (hN : L.length ≤ 140737488351232) :
    Calls Tryz.prog 22 #[ndV n nv, .slice mo L.length mc, .int .i64 (s : Int), .int .i64 h, .int .i64 (k : Int), .int .i64 (many : Int)] w fun e w' => e = .returned (.int .i64 (tkn n (L.map Lm.m) s h k many)) ∧ Below w.heap.size w w' := by
  refine enterF Tryz.func22 rfl 58 rfl (of_decide_eq_true rfl) (fun A hs hd hb => ?_)
  have b0 : A.eval (.tmp 0) = ndV n nv := hb 0 _ rfl
  have b1 : A.eval (.tmp 1) = .slice mo L.length mc := hb 1 _ rfl
  have b2 : A.eval (.tmp 2) = .int .i64 (s : Int) := hb 2 _ rfl
  have b3 : A.eval (.tmp 3) = .int .i64 h := hb 3 _ rfl
  have b4 : A.eval (.tmp 4) = .int .i64 (k : Int) := hb 4 _ rfl
  have b5 : A.eval (.tmp 5) = .int .i64 (many : Int) := hb 5 _ rfl
  clear hb
  refine c_rs (m_start ?_)
  refine m_do rfl (wanted_rd rfl) (fun K hK => ?_)
  refine wp_boxG _ _ _ rfl (ev_out rfl b0) (of_decide_eq_true rfl) ?_
  intro w1 m1 k1 z1
  refine hK _ _ ?_
  clear hK K
  refine m_mv rfl (wanted_rd rfl) (run_assign _ rfl (ev_const _ _) _) ?_
  refine l_nx ?_
  refine c_nx ?_
  refine c_rs ?_
  by_cases hsi : (s : Int) = n.id
  · refine m_mv rfl (wanted_rd rfl) (run_move _ rfl (ev_out rfl b2) _) ?_
    refine m_mv rfl (wanted_rd rfl) (fldNd0 rfl (ev_in rfl (by omega)) _) ?_
    refine m_mv rfl (wanted_rd rfl) (run_lod1 _ _ rfl oneI (ev_in rfl (by omega)) m1 (by decide) rfl) ?_
    refine m_mv rfl (wanted_rd rfl) (run_eqlI (b := true) _ _ rfl (ev_in rfl (by omega)) (ev_in rfl (by omega)) (decide_eq_true hsi) _) ?_
    refine l_nx ?_
    refine c_true (ev_in rfl (by omega)) ?_
    refine c_rs ?_
    refine m_mv rfl (wanted_rd rfl) (run_move _ rfl (ev_out rfl b3) _) ?_
    refine m_mv rfl (wanted_rd rfl) (run_assign _ rfl (ev_in rfl (by omega)) _) ?_
    refine l_nx ?_
    refine c_ret ?_
    simp only [Nx, Exit.then]
    refine ret_of ((defL _ _).trans hd) (res_t rfl (ev_in rfl (by omega))) ⟨by unfold tkn; rw [if_pos hsi], k1⟩
  · refine m_mv rfl (wanted_rd rfl) (run_move _ rfl (ev_out rfl b2) _) ?_
    refine m_mv rfl (wanted_rd rfl) (fldNd0 rfl (ev_in rfl (by omega)) _) ?_
    refine m_mv rfl (wanted_rd rfl) (run_lod1 _ _ rfl oneI (ev_in rfl (by omega)) m1 (by decide) rfl) ?_
    refine m_mv rfl (wanted_rd rfl) (run_eqlI (b := false) _ _ rfl (ev_in rfl (by omega)) (ev_in rfl (by omega)) (decide_eq_false hsi) _) ?_
    refine l_nx ?_
    refine c_false (ev_in rfl (by omega)) (c_fin ?_)
    refine c_rs ?_
    refine m_mv rfl (wanted_rd rfl) (run_move _ rfl (ev_out rfl b3) _) ?_
    refine m_do rfl (wanted_rd rfl) (fun K hK => ?_)
    refine wp_row1 _ _ rfl (ev_in rfl (by omega)) ?_
    intro w2 m2 k2 z2
    have mn2 := m1.below k2
    refine hK _ _ ?_
    clear hK K
    refine m_mv rfl (wanted_rd rfl) (run_assign _ rfl (ev_in rfl (by omega)) _) ?_
    refine l_nx ?_
    refine c_nx ?_
    refine c_rs ?_
    refine m_mv rfl (wanted_rd rfl) (run_assign _ rfl (ev_const _ _) _) ?_
    refine l_nx ?_
    refine c_block ?_
    refine c_loop (fun r a W => ∃ (i : Nat) (v : Value), i ≤ 4 ∧ 4 - i ≤ r ∧ a.tmps.size = 58 ∧ a.defers = [] ∧ a.eval (.tmp 1) = .slice mo L.length mc ∧ a.eval (.tmp 2) = .int .i64 (s : Int) ∧ a.eval (.tmp 4) = .int .i64 (k : Int) ∧ a.eval (.tmp 5) = .int .i64 (many : Int) ∧ a.eval (.tmp 6) = .pointer (some ⟨w.heap.size, 0, none⟩) ∧ a.eval (.tmp 13) = v ∧ a.eval (.tmp 14) = .int .i64 (i : Int) ∧ Vh 37 W w.heap.size 74 74 (ndF n nv) ∧ W.ownsRow w1.heap.size 3 1 v (tkL I s (fun j => tldN n (L.map Lm.m) j k many) h i).length ((tkL I s (fun j => tldN n (L.map Lm.m) j k many) h i).map iV) ∧ Below w.heap.size w W ∧ w1.heap.size ≤ W.heap.size) 4 ⟨0, _, by omega, by omega, (szL _ _).trans hs, (defL _ _).trans hd, (ev_out rfl b1), (ev_out rfl b2), (ev_out rfl b4), (ev_out rfl b5), (ev_in rfl (by omega)), (ev_in rfl (by omega)), (ev_in rfl (by omega)), mn2, Vh.owns m2 (Nat.le_refl _), k1.trans (k2.mono (by omega)), by omega⟩ (fun r B W hI => ?_)
    clear b0 b1 b2 b3 b4 b5 hs hd
    obtain ⟨i, v, hi, hr2, hs, hd, b1, b2, b4, b5, b6, b13, b14, mn, ow, kB, hW⟩ := hI
    by_cases hin : i < 4
    · have hll := tkL_len I s (fun j => tldN n (L.map Lm.m) j k many) h i
      by_cases hci : (i : Int) = n.id
      · have hcs : True := trivial
        refine c_nx ?_
        refine c_rs (m_start ?_)
        refine m_mv rfl (wanted_rd rfl) (run_move _ rfl (ev_out rfl b14) _) ?_
        refine m_mv rfl (wanted_rd rfl) (run_lssI (b := true) _ _ rfl (ev_in rfl (by omega)) (ev_const _ _) (decide_eq_true (by omega)) _) ?_
        refine l_nx ?_
        refine c_true (ev_in rfl (by omega)) (c_fin ?_)
        refine c_nx (c_block ?_)
        refine c_nx ?_
        refine c_rs ?_
        refine m_mv rfl (wanted_rd rfl) (run_move _ rfl (ev_out rfl b14) _) ?_
        refine m_mv rfl (wanted_rd rfl) (fldNd0 rfl (ev_out rfl b6) _) ?_
        refine m_mv rfl (wanted_rd rfl) (run_lod1 _ _ rfl oneI (ev_in rfl (by omega)) mn (by decide) rfl) ?_
        refine m_mv rfl (wanted_rd rfl) (run_eqlI (b := true) _ _ rfl (ev_in rfl (by omega)) (ev_in rfl (by omega)) (decide_eq_true hci) _) ?_
        refine m_mv rfl (wanted_rd rfl) (run_move _ rfl (ev_in rfl (by omega)) _) ?_
        refine m_skip rfl (wanted_n (j := 4) rfl rfl rfl (ev_in rfl (by omega)) (by decide)) ?_
        refine m_skip rfl (wanted_n (j := 4) rfl rfl rfl (ev_in rfl (by omega)) (by decide)) ?_
        refine m_skip rfl (wanted_n (j := 4) rfl rfl rfl (ev_in rfl (by omega)) (by decide)) ?_
        refine m_mv rfl (wanted_rd rfl) (run_pickT' _ _ _ rfl (ev_in rfl (by omega)) (ev_const _ _) _) ?_
        refine l_nx ?_
        refine c_true (ev_in rfl (by omega)) (c_exit (x_in ?_))
        refine c_region ?_
        refine m_mv rfl (wanted_rd rfl) (run_move _ rfl (ev_out rfl b14) _) ?_
        refine m_mv rfl (wanted_rd rfl) (run_addI _ _ rfl (ev_in rfl (by omega)) (ev_const _ _) (by omega) (by omega) _) ?_
        refine m_mv rfl (wanted_rd rfl) (run_assign _ rfl (ev_in rfl (by omega)) _) ?_
        exact l_round ⟨4 - (i + 1), by omega, i + 1, _, by omega, by omega, (szL _ _).trans hs, (defL _ _).trans hd, (ev_out rfl b1), (ev_out rfl b2), (ev_out rfl b4), (ev_out rfl b5), (ev_out rfl b6), (ev_out rfl b13), (ev_in rfl (by omega)).trans (by rw [Int.natCast_add]; rfl), mn, by rw [(tk_skip (by omega))]; exact ow, kB, by omega⟩
      · by_cases hcs : (i : Int) = (s : Int)
        · refine c_nx ?_
          refine c_rs (m_start ?_)
          refine m_mv rfl (wanted_rd rfl) (run_move _ rfl (ev_out rfl b14) _) ?_
          refine m_mv rfl (wanted_rd rfl) (run_lssI (b := true) _ _ rfl (ev_in rfl (by omega)) (ev_const _ _) (decide_eq_true (by omega)) _) ?_
          refine l_nx ?_
          refine c_true (ev_in rfl (by omega)) (c_fin ?_)
          refine c_nx (c_block ?_)
          refine c_nx ?_
          refine c_rs ?_
          refine m_mv rfl (wanted_rd rfl) (run_move _ rfl (ev_out rfl b14) _) ?_
          refine m_mv rfl (wanted_rd rfl) (fldNd0 rfl (ev_out rfl b6) _) ?_
          refine m_mv rfl (wanted_rd rfl) (run_lod1 _ _ rfl oneI (ev_in rfl (by omega)) mn (by decide) rfl) ?_
          refine m_mv rfl (wanted_rd rfl) (run_eqlI (b := false) _ _ rfl (ev_in rfl (by omega)) (ev_in rfl (by omega)) (decide_eq_false hci) _) ?_
          refine m_mv rfl (wanted_rd rfl) (run_move _ rfl (ev_in rfl (by omega)) _) ?_
          refine m_mv rfl (wanted_g (j := 4) rfl rfl rfl (ev_in rfl (by omega))) (run_move _ rfl (ev_out rfl b14) _) ?_
          refine m_mv rfl (wanted_g (j := 4) rfl rfl rfl (ev_in rfl (by omega))) (run_move _ rfl (ev_out rfl b2) _) ?_
          refine m_mv rfl (wanted_g (j := 4) rfl rfl rfl (ev_in rfl (by omega))) (run_eqlI (b := true) _ _ rfl (ev_in rfl (by omega)) (ev_in rfl (by omega)) (decide_eq_true hcs) _) ?_
          refine m_mv rfl (wanted_rd rfl) (run_pickF _ _ _ rfl (ev_in rfl (by omega)) (ev_in rfl (by omega)) _) ?_
          refine l_nx ?_
          refine c_true (ev_in rfl (by omega)) (c_exit (x_in ?_))
          refine c_region ?_
          refine m_mv rfl (wanted_rd rfl) (run_move _ rfl (ev_out rfl b14) _) ?_
          refine m_mv rfl (wanted_rd rfl) (run_addI _ _ rfl (ev_in rfl (by omega)) (ev_const _ _) (by omega) (by omega) _) ?_
          refine m_mv rfl (wanted_rd rfl) (run_assign _ rfl (ev_in rfl (by omega)) _) ?_
          exact l_round ⟨4 - (i + 1), by omega, i + 1, _, by omega, by omega, (szL _ _).trans hs, (defL _ _).trans hd, (ev_out rfl b1), (ev_out rfl b2), (ev_out rfl b4), (ev_out rfl b5), (ev_out rfl b6), (ev_out rfl b13), (ev_in rfl (by omega)).trans (by rw [Int.natCast_add]; rfl), mn, by rw [(tk_skip (by omega))]; exact ow, kB, by omega⟩
        · rcases hfl : fL n.id n.fr L (i : Int) 2 (many : Int) with _ | cm
          · refine c_nx ?_
            refine c_rs (m_start ?_)
            refine m_mv rfl (wanted_rd rfl) (run_move _ rfl (ev_out rfl b14) _) ?_
            refine m_mv rfl (wanted_rd rfl) (run_lssI (b := true) _ _ rfl (ev_in rfl (by omega)) (ev_const _ _) (decide_eq_true (by omega)) _) ?_
            refine l_nx ?_
            refine c_true (ev_in rfl (by omega)) (c_fin ?_)
            refine c_nx (c_block ?_)
            refine c_nx ?_
            refine c_rs ?_
            refine m_mv rfl (wanted_rd rfl) (run_move _ rfl (ev_out rfl b14) _) ?_
            refine m_mv rfl (wanted_rd rfl) (fldNd0 rfl (ev_out rfl b6) _) ?_
            refine m_mv rfl (wanted_rd rfl) (run_lod1 _ _ rfl oneI (ev_in rfl (by omega)) mn (by decide) rfl) ?_
            refine m_mv rfl (wanted_rd rfl) (run_eqlI (b := false) _ _ rfl (ev_in rfl (by omega)) (ev_in rfl (by omega)) (decide_eq_false hci) _) ?_
            refine m_mv rfl (wanted_rd rfl) (run_move _ rfl (ev_in rfl (by omega)) _) ?_
            refine m_mv rfl (wanted_g (j := 4) rfl rfl rfl (ev_in rfl (by omega))) (run_move _ rfl (ev_out rfl b14) _) ?_
            refine m_mv rfl (wanted_g (j := 4) rfl rfl rfl (ev_in rfl (by omega))) (run_move _ rfl (ev_out rfl b2) _) ?_
            refine m_mv rfl (wanted_g (j := 4) rfl rfl rfl (ev_in rfl (by omega))) (run_eqlI (b := false) _ _ rfl (ev_in rfl (by omega)) (ev_in rfl (by omega)) (decide_eq_false hcs) _) ?_
            refine m_mv rfl (wanted_rd rfl) (run_pickF _ _ _ rfl (ev_in rfl (by omega)) (ev_in rfl (by omega)) _) ?_
            refine l_nx ?_
            refine c_false (ev_in rfl (by omega)) (c_fin ?_)
            refine c_rs ?_
            refine m_mv rfl (wanted_rd rfl) (run_loadP _ _ rfl manyNd (ev_out rfl b6) mn (by decide)) ?_
            refine m_mv rfl (wanted_rd rfl) (run_move _ rfl (ev_out rfl b1) _) ?_
            refine m_mv rfl (wanted_rd rfl) (run_move _ rfl (ev_out rfl b14) _) ?_
            refine m_mv rfl (wanted_rd rfl) (run_move _ rfl (ev_out rfl b5) _) ?_
            refine m_do rfl (wanted_rd rfl) (fun K hK => ?_)
            have C1 : Calls Tryz.prog 37 #[ndV n nv, .slice mo L.length mc, .int .i64 (i : Int), .int .i64 2, .int .i64 (many : Int)] W fun e w' => e = .returned (fstV (fL n.id n.fr L (i : Int) 2 (many : Int))) ∧ Below W.heap.size W w' := refFirst_any n _ mo mc L (i : Int) 2 (many : Int) _ (hmr.below kB) hN
            rw [hfl] at C1
            refine wp_call5 _ 37 _ _ _ _ _ _ rfl (ev_in rfl (by omega)) (ev_in rfl (by omega)) (ev_in rfl (by omega)) (ev_const _ _) (ev_in rfl (by omega)) (enter_first _ _ _ _ _ _) C1 ?_
            rintro e w7 ⟨rfl, k7⟩
            have n7 := k7.size
            have mn7 := mn.below k7
            have ow7 := rw_below ow k7
            refine ⟨_, rfl, ?_⟩
            refine hK _ _ ?_
            clear hK K
            refine m_mv rfl (wanted_rd rfl) (run_move _ rfl (ev_in rfl (by omega)) _) ?_
            refine m_mv rfl (wanted_rd rfl) (run_extA _ rfl (ev_in rfl (by omega)) _) ?_
            refine m_mv rfl (wanted_rd rfl) (run_extB _ rfl (ev_in rfl (by omega)) _) ?_
            refine m_mv rfl (wanted_rd rfl) (run_assign _ rfl (ev_in rfl (by omega)) _) ?_
            refine m_mv rfl (wanted_rd rfl) (run_assign _ rfl (ev_in rfl (by omega)) _) ?_
            refine l_nx ?_
            refine c_rs ?_
            refine m_mv rfl (wanted_rd rfl) (run_move _ rfl (ev_in rfl (by omega)) _) ?_
            refine l_nx ?_
            refine c_false (ev_in rfl (by omega)) ?_
            refine c_region ?_
            refine m_mv rfl (wanted_rd rfl) (run_move _ rfl (ev_out rfl b13) _) ?_
            refine m_do rfl (wanted_rd rfl) (fun K hK => ?_)
            refine wp_row1 _ _ rfl (ev_const _ _) ?_
            intro w8 m8 k8 z8
            have mn8 := mn7.below k8
            have ow8 := rw_below ow7 k8
            refine hK _ _ ?_
            clear hK K
            refine m_do rfl (wanted_rd rfl) (fun K hK => ?_)
            refine ⟨wp_joinI _ _ _ rfl w1.heap.size (by omega) v _ _ (ev_in rfl (by omega)) ow8 _ 1 1 _ (ev_in rfl (by omega)) (Or.inr ⟨_, rfl, fun i hi => by rw [add_at, Nat.zero_add]; exact m8.cell hi⟩) (fun i _ => rfl) (by omega) ?_⟩
            intro v9 w9 ov9 k9
            have n9 := k9.size
            have mn9 := mn8.same (k9.block _ (by omega))
            refine hK _ _ ?_
            clear hK K
            refine m_mv rfl (wanted_rd rfl) (run_assign _ rfl (ev_in rfl (by omega)) _) ?_
            refine l_finB ?_
            refine c_region ?_
            refine m_mv rfl (wanted_rd rfl) (run_move _ rfl (ev_out rfl b14) _) ?_
            refine m_mv rfl (wanted_rd rfl) (run_addI _ _ rfl (ev_in rfl (by omega)) (ev_const _ _) (by omega) (by omega) _) ?_
            refine m_mv rfl (wanted_rd rfl) (run_assign _ rfl (ev_in rfl (by omega)) _) ?_
            exact l_round ⟨4 - (i + 1), by omega, i + 1, _, by omega, by omega, (szL _ _).trans hs, (defL _ _).trans hd, (ev_out rfl b1), (ev_out rfl b2), (ev_out rfl b4), (ev_out rfl b5), (ev_out rfl b6), (ev_in rfl (by omega)), (ev_in rfl (by omega)).trans (by rw [Int.natCast_add]; rfl), mn9, by rw [(tk_take (T := fun j => tldN n (L.map Lm.m) j k many) (by omega) (by omega) (tld_none hfl)), List.length_append, List.map_append]; exact ov9, (((kB.trans (k7.mono (by omega))).trans (k8.mono (by omega))).trans (k9.mono (by omega))), by omega⟩
          · obtain ⟨cmem, cfit⟩ := fL_mem hfl
            have clen := fit_len cfit
            obtain ⟨ca, cmy, hy⟩ : ∃ y, cm.ao = some y ∧ ∀ W', Below w.heap.size w W' → ∀ i, i < cm.m.L.length → W'.cell? (y.add i) = some (.int .i64 (gL cm.m.L i)) := by
              obtain ⟨y, e, _⟩ := (hmr.2 cm cmem).at (by omega)
              refine ⟨y, e, fun W' k => ?_⟩
              obtain ⟨y', e', hy'⟩ := ((hmr.2 cm cmem).below k).at (by omega)
              rw [e] at e'; cases e'
              exact hy'
            obtain ⟨mm, mo2, mc2⟩ := cm
            dsimp only at cmy hy clen
            subst cmy
            have hl0 : k < mm.L.length := by omega
            refine c_nx ?_
            refine c_rs (m_start ?_)
            refine m_mv rfl (wanted_rd rfl) (run_move _ rfl (ev_out rfl b14) _) ?_
            refine m_mv rfl (wanted_rd rfl) (run_lssI (b := true) _ _ rfl (ev_in rfl (by omega)) (ev_const _ _) (decide_eq_true (by omega)) _) ?_
            refine l_nx ?_
            refine c_true (ev_in rfl (by omega)) (c_fin ?_)
            refine c_nx (c_block ?_)
            refine c_nx ?_
            refine c_rs ?_
            refine m_mv rfl (wanted_rd rfl) (run_move _ rfl (ev_out rfl b14) _) ?_
            refine m_mv rfl (wanted_rd rfl) (fldNd0 rfl (ev_out rfl b6) _) ?_
            refine m_mv rfl (wanted_rd rfl) (run_lod1 _ _ rfl oneI (ev_in rfl (by omega)) mn (by decide) rfl) ?_
            refine m_mv rfl (wanted_rd rfl) (run_eqlI (b := false) _ _ rfl (ev_in rfl (by omega)) (ev_in rfl (by omega)) (decide_eq_false hci) _) ?_
            refine m_mv rfl (wanted_rd rfl) (run_move _ rfl (ev_in rfl (by omega)) _) ?_
            refine m_mv rfl (wanted_g (j := 4) rfl rfl rfl (ev_in rfl (by omega))) (run_move _ rfl (ev_out rfl b14) _) ?_
            refine m_mv rfl (wanted_g (j := 4) rfl rfl rfl (ev_in rfl (by omega))) (run_move _ rfl (ev_out rfl b2) _) ?_
            refine m_mv rfl (wanted_g (j := 4) rfl rfl rfl (ev_in rfl (by omega))) (run_eqlI (b := false) _ _ rfl (ev_in rfl (by omega)) (ev_in rfl (by omega)) (decide_eq_false hcs) _) ?_
            refine m_mv rfl (wanted_rd rfl) (run_pickF _ _ _ rfl (ev_in rfl (by omega)) (ev_in rfl (by omega)) _) ?_
            refine l_nx ?_
            refine c_false (ev_in rfl (by omega)) (c_fin ?_)
            refine c_rs ?_
            refine m_mv rfl (wanted_rd rfl) (run_loadP _ _ rfl manyNd (ev_out rfl b6) mn (by decide)) ?_
            refine m_mv rfl (wanted_rd rfl) (run_move _ rfl (ev_out rfl b1) _) ?_
            refine m_mv rfl (wanted_rd rfl) (run_move _ rfl (ev_out rfl b14) _) ?_
            refine m_mv rfl (wanted_rd rfl) (run_move _ rfl (ev_out rfl b5) _) ?_
            refine m_do rfl (wanted_rd rfl) (fun K hK => ?_)
            have C1 : Calls Tryz.prog 37 #[ndV n nv, .slice mo L.length mc, .int .i64 (i : Int), .int .i64 2, .int .i64 (many : Int)] W fun e w' => e = .returned (fstV (fL n.id n.fr L (i : Int) 2 (many : Int))) ∧ Below W.heap.size W w' := refFirst_any n _ mo mc L (i : Int) 2 (many : Int) _ (hmr.below kB) hN
            rw [hfl] at C1
            refine wp_call5 _ 37 _ _ _ _ _ _ rfl (ev_in rfl (by omega)) (ev_in rfl (by omega)) (ev_in rfl (by omega)) (ev_const _ _) (ev_in rfl (by omega)) (enter_first _ _ _ _ _ _) C1 ?_
            rintro e w7 ⟨rfl, k7⟩
            have n7 := k7.size
            have mn7 := mn.below k7
            have ow7 := rw_below ow k7
            refine ⟨_, rfl, ?_⟩
            refine hK _ _ ?_
            clear hK K
            refine m_mv rfl (wanted_rd rfl) (run_move _ rfl (ev_in rfl (by omega)) _) ?_
            refine m_mv rfl (wanted_rd rfl) (run_extA _ rfl (ev_in rfl (by omega)) _) ?_
            refine m_mv rfl (wanted_rd rfl) (run_extB _ rfl (ev_in rfl (by omega)) _) ?_
            refine m_mv rfl (wanted_rd rfl) (run_assign _ rfl (ev_in rfl (by omega)) _) ?_
            refine m_mv rfl (wanted_rd rfl) (run_assign _ rfl (ev_in rfl (by omega)) _) ?_
            refine l_nx ?_
            refine c_rs ?_
            refine m_mv rfl (wanted_rd rfl) (run_move _ rfl (ev_in rfl (by omega)) _) ?_
            refine l_nx ?_
            refine c_true (ev_in rfl (by omega)) ?_
            refine c_region ?_
            refine m_mv rfl (wanted_rd rfl) (run_move _ rfl (ev_out rfl b13) _) ?_
            refine m_mv rfl (wanted_rd rfl) (run_move _ rfl (ev_in rfl (by omega)) _) ?_
            refine m_mv rfl (wanted_rd rfl) (run_move _ rfl (ev_out rfl b4) _) ?_
            refine m_mv rfl (wanted_rd rfl) (run_ixN _ _ rfl (a := ca) (n := mm.L.length) (cap := mc2) (ev_in rfl (by omega)) (ev_in rfl (by omega)) (i := k) rfl hl0 _) ?_
            refine m_mv rfl (wanted_rd rfl) (run_ldI _ rfl (ev_in rfl (by omega)) (hy _ (kB.trans (k7.mono (by omega))) k hl0)) ?_
            refine m_do rfl (wanted_rd rfl) (fun K hK => ?_)
            refine wp_row1 _ _ rfl (ev_in rfl (by omega)) ?_
            intro w8 m8 k8 z8
            have mn8 := mn7.below k8
            have ow8 := rw_below ow7 k8
            refine hK _ _ ?_
            clear hK K
            refine m_do rfl (wanted_rd rfl) (fun K hK => ?_)
            refine ⟨wp_joinI _ _ _ rfl w1.heap.size (by omega) v _ _ (ev_in rfl (by omega)) ow8 _ 1 1 _ (ev_in rfl (by omega)) (Or.inr ⟨_, rfl, fun i hi => by rw [add_at, Nat.zero_add]; exact m8.cell hi⟩) (fun i _ => rfl) (by omega) ?_⟩
            intro v9 w9 ov9 k9
            have n9 := k9.size
            have mn9 := mn8.same (k9.block _ (by omega))
            refine hK _ _ ?_
            clear hK K
            refine m_mv rfl (wanted_rd rfl) (run_assign _ rfl (ev_in rfl (by omega)) _) ?_
            refine l_finB ?_
            refine c_region ?_
            refine m_mv rfl (wanted_rd rfl) (run_move _ rfl (ev_out rfl b14) _) ?_
            refine m_mv rfl (wanted_rd rfl) (run_addI _ _ rfl (ev_in rfl (by omega)) (ev_const _ _) (by omega) (by omega) _) ?_
            refine m_mv rfl (wanted_rd rfl) (run_assign _ rfl (ev_in rfl (by omega)) _) ?_
            exact l_round ⟨4 - (i + 1), by omega, i + 1, _, by omega, by omega, (szL _ _).trans hs, (defL _ _).trans hd, (ev_out rfl b1), (ev_out rfl b2), (ev_out rfl b4), (ev_out rfl b5), (ev_out rfl b6), (ev_in rfl (by omega)), (ev_in rfl (by omega)).trans (by rw [Int.natCast_add]; rfl), mn9, by rw [(tk_take (T := fun j => tldN n (L.map Lm.m) j k many) (by omega) (by omega) (tld_some hfl)), List.length_append, List.map_append]; exact ov9, (((kB.trans (k7.mono (by omega))).trans (k8.mono (by omega))).trans (k9.mono (by omega))), by omega⟩
    · refine c_nx ?_
      refine c_rs (m_start ?_)
      refine m_mv rfl (wanted_rd rfl) (run_move _ rfl (ev_out rfl b14) _) ?_
      refine m_mv rfl (wanted_rd rfl) (run_lssI (b := false) _ _ rfl (ev_in rfl (by omega)) (ev_const _ _) (decide_eq_false (by omega)) _) ?_
      refine l_nx ?_
      refine c_false (ev_in rfl (by omega)) (c_exit (x_out ?_))
      refine c_rs ?_
      obtain rfl : i = 4 := by omega
      rw [tk_four (T := fun j => tldN n (L.map Lm.m) j k many) hI4 hs4 (by omega)] at ow
      obtain ⟨ao, cap, rfl, hcap⟩ := rw_slice ow
      refine m_mv rfl (wanted_rd rfl) (run_move _ rfl (ev_out rfl b13) _) ?_
      refine m_do rfl (wanted_rd rfl) (fun K hK => ?_)
      refine wp_call2 _ 38 _ _ _ rfl (ev_in rfl (by omega)) (ev_const _ _) (enter_major _ _ _) (refMajority_rd ao 3 cap (gL [h, tldN n (L.map Lm.m) (o1 I s) k many, tldN n (L.map Lm.m) (o2 I s) k many]) 0 _ (by omega) (owns_rd ow)) ?_
      rintro e w' ⟨m, hm, rfl, rfl⟩
      have em := maj_one hm (dc3_maj _)
      refine ⟨_, rfl, ?_⟩
      refine hK _ _ ?_
      clear hK K
      refine m_mv rfl (wanted_rd rfl) (run_assign _ rfl (ev_in rfl (by omega)) _) ?_
      refine l_nx ?_
      refine c_ret ?_
      refine ret_of ((defL _ _).trans hd) (res_t rfl (ev_in rfl (by omega))) ⟨by unfold tkn; rw [if_neg hsi, em, hI]; rfl, kB⟩

end Go.Proofs.YtngmeaaglogieaaGreat
