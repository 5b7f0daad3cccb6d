/- Contract of the reference: Predict. -/
import Derived.Test.YtblglojbghmphaaRefFil
import Derived.Deep.Cut
namespace Go.Proofs.Ytblglojbghmphaa
open Go.RowKit

set_option maxHeartbeats 2000000 in
theorem refPredict_any (s : St) (dt q : Int) (w : World) (hs : s.Ok) (hdt : R64 dt) (hq : R64 q) :
    Calls Try.prog 12 #[stV s, .int .i64 dt, .int .i64 q] w fun e w' => e = .returned (stV (predS s dt q)) ∧ Below w.heap.size w w' := by
  obtain ⟨w1, e1, g1⟩ := rg_start w s
  have OK := hide hs; have E1 := hide e1; have G1 := hide g1
  have Rdt := hide hdt
  have Rq := hide hq
  clear hs e1 g1 hdt hq
  go_enter Try.func12, Try.ntmps12
  go_wp2_with fail
  rw [← unhide E1]
  refine (rMul _ _ s.P01 dt _ (unhide OK).P01 (unhide Rdt) (unhide G1).rk).mono ?_
  rintro e w2 ⟨rfl, h, k⟩
  have G2 := hide ((unhide G1).kept k h)
  clear h k G1
  have c4 := (unhide G2).src.c4
  go_wp2_with fail
  clear c4
  refine (rMul _ _ s.P11 dt _ (unhide OK).P11 (unhide Rdt) (unhide G2).rk).mono ?_
  rintro e w3 ⟨rfl, h, k⟩
  have G3 := hide ((unhide G2).kept k h)
  clear h k G2
  have c0 := (unhide G3).src.c0
  have c1 := (unhide G3).src.c1
  have c2 := (unhide G3).src.c2
  have c3 := (unhide G3).src.c3
  have c4 := (unhide G3).src.c4
  have c5 := (unhide G3).src.c5
  have c6 := (unhide G3).src.c6
  go_wp2_with fail
  clear c0 c1 c2 c3 c4 c5 c6
  obtain ⟨w4, e4, h⟩ := rh_start (unhide G3)
  rw [← e4]
  obtain ⟨bn, ebn⟩ : ∃ bn, bn = w3.heap.size := ⟨_, rfl⟩
  rw [← ebn] at h
  rw [← ebn]
  have G4 := hide h
  clear e4 h ebn G3
  have hS4 : SAt w4.drew w.heap.size s := (unhide G4).g.src
  refine region_by (S := fun u => SAt u w.heap.size s) [(0, false), (1, false), (2, false), (3, false), (4, false), (5, false), (6, false), (7, true), (8, true), (9, false), (10, true)] [] (by kernel_rfl) (by kernel_rfl) ?_
  iterate 7
    refine seq_read (v := ?_) rfl (fun _ _ _ h => h) (by rfl) hS4 ?_ ?_
    rotate_left 1
    · intro wx hwx
      have c0 := hwx.c0; have c1 := hwx.c1; have c2 := hwx.c2; have c3 := hwx.c3; have c4 := hwx.c4
      clear hwx
      go_simp <;> exact rfl
    go_frame
  refine seq_do rfl (fun K hK => ?_)
  go_simp
  have Gd := hide (unhide G4).drew
  refine (rMul _ _ s.V dt _ (unhide OK).V (unhide Rdt) (unhide Gd).g.rk).mono ?_
  rintro e w5 ⟨rfl, h, k⟩
  have G5 := hide ((unhide Gd).kept k h)
  have hS5 := (unhide G5).g.src
  refine hK _ _ (fun _ => hS5) ?_
  clear hK K hS4
  clear h k G4 Gd
  refine seq_do rfl (fun K hK => ?_)
  go_simp
  refine (rAdd _ _ s.X (muV s.V dt) _ (unhide OK).X (muV_R _ _) (unhide G5).g.rk).mono ?_
  rintro e w6 ⟨rfl, h, k⟩
  have G6 := hide ((unhide G5).kept k h)
  have hS6 := (unhide G6).g.src
  refine hK _ _ (fun _ => hS6) ?_
  clear hK K hS5
  clear h k G5
  iterate 1
    refine seq_read (v := ?_) rfl (fun _ _ _ h => h) (by rfl) hS6 ?_ ?_
    rotate_left 1
    · intro wx hwx
      have c0 := hwx.c0; have c1 := hwx.c1; have c2 := hwx.c2; have c3 := hwx.c3; have c4 := hwx.c4
      clear hwx
      go_simp <;> exact rfl
    go_frame
  obtain ⟨w7, e4, h, k⟩ := (unhide G6).nw.pX (adV s.X (muV s.V dt))
  have c := (unhide G6).nw.c0; have f := (unhide G6).nw.free 0
  refine seq_do rfl (fun K hK => ?_)
  go_simp
  rw [← e4]
  have G7 := hide ((unhide G6).put k h)
  refine hK _ _ (fun _ => (unhide G7).g.src) ?_
  clear hK K e4 h k c f hS6 G6
  refine seq_end ?_
  have c2 := (unhide G7).g.src.c2
  go_wp2_with fail
  clear c2
  refine (rAdd _ _ s.P00 (muV s.P01 dt) _ (unhide OK).P00 (muV_R _ _) (unhide G7).g.rk).mono ?_
  rintro e w8 ⟨rfl, h, k⟩
  have G8 := hide ((unhide G7).kept k h)
  clear h k G7
  go_wp2_with fail
  refine (rAdd _ _ (adV s.P00 (muV s.P01 dt)) (muV s.P01 dt) _ (adV_R _ _) (muV_R _ _) (unhide G8).g.rk).mono ?_
  rintro e w9 ⟨rfl, h, k⟩
  have G9 := hide ((unhide G8).kept k h)
  clear h k G8
  go_wp2_with fail
  refine (rMul _ _ (muV s.P11 dt) dt _ (muV_R _ _) (unhide Rdt) (unhide G9).g.rk).mono ?_
  rintro e w10 ⟨rfl, h, k⟩
  have G10 := hide ((unhide G9).kept k h)
  clear h k G9
  go_wp2_with fail
  refine (rAdd _ _ (adV (adV s.P00 (muV s.P01 dt)) (muV s.P01 dt)) (muV (muV s.P11 dt) dt) _ (adV_R _ _) (muV_R _ _) (unhide G10).g.rk).mono ?_
  rintro e w11 ⟨rfl, h, k⟩
  have G11 := hide ((unhide G10).kept k h)
  clear h k G10
  obtain ⟨w12, e4, h, k⟩ := (unhide G11).nw.pP00 (adV (adV (adV s.P00 (muV s.P01 dt)) (muV s.P01 dt)) (muV (muV s.P11 dt) dt))
  have c := (unhide G11).nw.c2; have f := (unhide G11).nw.free 2
  have G12 := hide ((unhide G11).put k h); have E4 := hide e4
  clear h k e4
  go_upto_region 7 with fail
  rw [← unhide E4]
  clear c f E4 G11
  have c3 := (unhide G12).g.src.c3
  go_wp2_with fail
  clear c3
  refine (rAdd _ _ s.P01 (muV s.P11 dt) _ (unhide OK).P01 (muV_R _ _) (unhide G12).g.rk).mono ?_
  rintro e w13 ⟨rfl, h, k⟩
  have G13 := hide ((unhide G12).kept k h)
  clear h k G12
  obtain ⟨w14, e4, h, k⟩ := (unhide G13).nw.pP01 (adV s.P01 (muV s.P11 dt))
  have c := (unhide G13).nw.c3; have f := (unhide G13).nw.free 3
  have G14 := hide ((unhide G13).put k h); have E4 := hide e4
  clear h k e4
  go_upto_region 8 with fail
  rw [← unhide E4]
  clear c f E4 G13
  have c4 := (unhide G14).g.src.c4
  go_wp2_with fail
  clear c4
  refine (rAdd _ _ s.P11 q _ (unhide OK).P11 (unhide Rq) (unhide G14).g.rk).mono ?_
  rintro e w15 ⟨rfl, h, k⟩
  have G15 := hide ((unhide G14).kept k h)
  clear h k G14
  obtain ⟨w16, e4, h, k⟩ := (unhide G15).nw.pP11 (adV s.P11 q)
  have c := (unhide G15).nw.c4; have f := (unhide G15).nw.free 4
  have G16 := hide ((unhide G15).put k h); have E4 := hide e4
  clear h k e4
  go_upto_region 9 with fail
  rw [← unhide E4]
  clear c f E4 G15
  have rk0 := (unhide G16).g.rk.cell0
  obtain ⟨w17, e4, h, k⟩ := (unhide G16).nw.pB _
  have c := (unhide G16).nw.c5; have f := (unhide G16).nw.free 5
  have G17 := hide ((unhide G16).put k h); have E4 := hide e4
  clear h k e4
  go_upto_region 10 with fail
  rw [← unhide E4]
  clear c f E4 rk0 G16
  obtain ⟨t, et⟩ : ∃ t : St, t = predS s dt q := ⟨_, rfl⟩
  have N := hide (show SAt w17 bn t by rw [et]; exact (unhide G17).nw)
  have c0 := (unhide N).c0; have c1 := (unhide N).c1; have c2 := (unhide N).c2; have c3 := (unhide N).c3; have c4 := (unhide N).c4; have c5 := (unhide N).c5; have c6 := (unhide N).c6
  have b0 := (unhide G17).g.res.c0; have b1 := (unhide G17).g.res.c1; have b2 := (unhide G17).g.res.c2; have b3 := (unhide G17).g.res.c3; have b4 := (unhide G17).g.res.c4; have b5 := (unhide G17).g.res.c5; have b6 := (unhide G17).g.res.c6
  have f0 := (unhide G17).g.res.free 0; have f1 := (unhide G17).g.res.free 1; have f2 := (unhide G17).g.res.free 2; have f3 := (unhide G17).g.res.free 3; have f4 := (unhide G17).g.res.free 4; have f5 := (unhide G17).g.res.free 5; have f6 := (unhide G17).g.res.free 6
  have ln := (unhide G17).lt
  obtain ⟨u, e4, h4, k4⟩ := (unhide G17).g.res.put t
  have E4 := hide e4; have H4 := hide h4; have K4 := hide (below_of_kept (unhide G17).g.bel k4 (by omega) (unhide G17).g.bel.size)
  have ET := hide et
  clear e4 h4 k4 et
  go_wp2_with fail
  rw [← unhide E4]
  have p0 := (unhide H4).c0; have p1 := (unhide H4).c1; have p2 := (unhide H4).c2; have p3 := (unhide H4).c3; have p4 := (unhide H4).c4; have p5 := (unhide H4).c5; have p6 := (unhide H4).c6
  refine bodyPost_ret (v := stV t) (by simp [results, Try.results12, go_sem, p0, p1, p2, p3, p4, p5, p6]) rfl ⟨by rw [unhide ET], unhide K4⟩

end Go.Proofs.Ytblglojbghmphaa
