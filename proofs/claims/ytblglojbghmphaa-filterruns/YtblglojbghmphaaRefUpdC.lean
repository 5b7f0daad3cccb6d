/- Contract of the reference: Update (take). -/
import Derived.Test.YtblglojbghmphaaRefFil
import Derived.Deep.Cut
namespace Go.Proofs.Ytblglojbghmphaa
open Go.RowKit

set_option maxHeartbeats 4000000 in
theorem refUpdate_take (s : St) (z r gate : Int) (w : World) (hs : s.Ok) (hz : R64 z) (hr : R64 r) (hg : R64 gate) (hd : ¬ offW s r ≤ 0) (hp : ¬ muV gate (offW s r) < muV (offY s z) (offY s z)) :
    Calls Try.prog 14 #[stV s, .int .i64 z, .int .i64 r, .int .i64 gate] w fun e w' => e = .returned (.tuple #[stV (updS s z r gate), .bool (updT s z r gate)]) ∧ Below w.heap.size w w' := by
  obtain ⟨y, ey⟩ : ∃ y, y = offY s z := ⟨_, rfl⟩
  obtain ⟨d, ed⟩ : ∃ d, d = offW s r := ⟨_, rfl⟩
  rw [← ed] at hd
  rw [← ed, ← ey] at hp
  have EY := hide ey; have ED := hide ed
  have RY := hide (show R64 y by rw [ey]; exact sbC_R _ _); have RD := hide (show R64 d by rw [ed]; exact adV_R _ _)
  clear ey ed
  obtain ⟨w1, e1, g1⟩ := rg_start w s
  have OK := hide hs; have E1 := hide e1; have G1 := hide g1
  have Rz := hide hz
  have Rr := hide hr
  have Rg := hide hg
  clear hs e1 g1 hz hr hg
  go_enter Try.func14, Try.ntmps14
  go_wp2_with fail
  rw [← unhide E1]
  refine (rSub _ _ z s.X _ (unhide Rz) (unhide OK).X (unhide G1).rk).mono ?_
  rintro e w2 ⟨rfl, h, k⟩
  have G2 := hide ((unhide G1).kept k h)
  clear h k G1
  have c2 := (unhide G2).src.c2
  go_wp2_with fail
  clear c2
  refine (rAdd _ _ s.P00 r _ (unhide OK).P00 (unhide Rr) (unhide G2).rk).mono ?_
  rintro e w3 ⟨rfl, h, k⟩
  have G3 := hide ((unhide G2).kept k h)
  clear h k G2
  rw [show sbC z s.X = y from (unhide EY).symm, show adV s.P00 r = d from (unhide ED).symm]
  have h1 : ¬ d < 1 := by omega
  go_wp2_with fail
  refine (rMul _ _ y y _ (unhide RY) (unhide RY) (unhide G3).rk).mono ?_
  rintro e w4 ⟨rfl, h, k⟩
  have G4 := hide ((unhide G3).kept k h)
  clear h k G3
  go_wp2_with fail
  refine (rMul _ _ gate d _ (unhide Rg) (unhide RD) (unhide G4).rk).mono ?_
  rintro e w5 ⟨rfl, h, k⟩
  have G5 := hide ((unhide G4).kept k h)
  clear h k G4
  have c2 := (unhide G5).src.c2
  go_wp2_with fail
  clear c2
  refine (rfDiv_ok _ _ s.P00 d _ (unhide OK).P00 (unhide RD) (unhide G5).rk).mono ?_
  rintro e w6 ⟨rfl, h, k⟩
  have G6 := hide ((unhide G5).kept k h)
  clear h k G5
  have c3 := (unhide G6).src.c3
  go_wp2_with fail
  clear c3
  refine (rfDiv_ok _ _ s.P01 d _ (unhide OK).P01 (unhide RD) (unhide G6).rk).mono ?_
  rintro e w7 ⟨rfl, h, k⟩
  have G7 := hide ((unhide G6).kept k h)
  clear h k G6
  have c0 := (unhide G7).src.c0
  have c1 := (unhide G7).src.c1
  have c2 := (unhide G7).src.c2
  have c3 := (unhide G7).src.c3
  have c4 := (unhide G7).src.c4
  have c5 := (unhide G7).src.c5
  have c6 := (unhide G7).src.c6
  go_wp2_with fail
  clear c0 c1 c2 c3 c4 c5 c6
  obtain ⟨w8, e4, h⟩ := rh_start (unhide G7)
  rw [← e4]
  obtain ⟨bn, ebn⟩ : ∃ bn, bn = w7.heap.size := ⟨_, rfl⟩
  rw [← ebn] at h
  rw [← ebn]
  have G8 := hide h
  clear e4 h ebn G7
  have hS8 : SAt w8.drew w.heap.size s := (unhide G8).g.src
  refine region_by (S := fun u => SAt u w.heap.size s) [(0, false), (1, false), (2, false), (3, false), (4, false), (5, false), (6, true), (7, true), (8, false), (9, true)] [] (by kernel_rfl) (by kernel_rfl) ?_
  iterate 6
    refine seq_read (v := ?_) rfl (fun _ _ _ h => h) (by rfl) hS8 ?_ ?_
    rotate_left 1
    · intro wx hwx
      have c0 := hwx.c0; have c1 := hwx.c1; have c2 := hwx.c2; have c3 := hwx.c3; have c4 := hwx.c4
      clear hwx
      go_simp <;> exact rfl
    go_frame
  refine seq_do rfl (fun K hK => ?_)
  go_simp
  have Gd := hide (unhide G8).drew
  refine (rMul _ _ (divV s.P00 d) y _ (quot_R _ _) (unhide RY) (unhide Gd).g.rk).mono ?_
  rintro e w9 ⟨rfl, h, k⟩
  have G9 := hide ((unhide Gd).kept k h)
  have hS9 := (unhide G9).g.src
  refine hK _ _ (fun _ => hS9) ?_
  clear hK K hS8
  clear h k G8 Gd
  refine seq_do rfl (fun K hK => ?_)
  go_simp
  refine (rAdd _ _ s.X (muV (divV s.P00 d) y) _ (unhide OK).X (muV_R _ _) (unhide G9).g.rk).mono ?_
  rintro e w10 ⟨rfl, h, k⟩
  have G10 := hide ((unhide G9).kept k h)
  have hS10 := (unhide G10).g.src
  refine hK _ _ (fun _ => hS10) ?_
  clear hK K hS9
  clear h k G9
  iterate 1
    refine seq_read (v := ?_) rfl (fun _ _ _ h => h) (by rfl) hS10 ?_ ?_
    rotate_left 1
    · intro wx hwx
      have c0 := hwx.c0; have c1 := hwx.c1; have c2 := hwx.c2; have c3 := hwx.c3; have c4 := hwx.c4
      clear hwx
      go_simp <;> exact rfl
    go_frame
  obtain ⟨w11, e4, h, k⟩ := (unhide G10).nw.pX (adV s.X (muV (divV s.P00 d) y))
  have c := (unhide G10).nw.c0; have f := (unhide G10).nw.free 0
  refine seq_do rfl (fun K hK => ?_)
  go_simp
  rw [← e4]
  have G11 := hide ((unhide G10).put k h)
  refine hK _ _ (fun _ => (unhide G11).g.src) ?_
  clear hK K e4 h k c f hS10 G10
  refine seq_end ?_
  go_wp2_with fail
  have hS11 : SAt w11.drew w.heap.size s := (unhide G11).g.src
  refine region_by (S := fun u => SAt u w.heap.size s) [(0, false), (1, false), (2, false), (3, false), (4, false), (5, false), (6, true), (7, true), (8, false), (9, true)] [] (by kernel_rfl) (by kernel_rfl) ?_
  iterate 6
    refine seq_read (v := ?_) rfl (fun _ _ _ h => h) (by rfl) hS11 ?_ ?_
    rotate_left 1
    · intro wx hwx
      have c0 := hwx.c0; have c1 := hwx.c1; have c2 := hwx.c2; have c3 := hwx.c3; have c4 := hwx.c4
      clear hwx
      go_simp <;> exact rfl
    go_frame
  refine seq_do rfl (fun K hK => ?_)
  go_simp
  have Gd := hide (unhide G11).drew
  refine (rMul _ _ (divV s.P01 d) y _ (quot_R _ _) (unhide RY) (unhide Gd).g.rk).mono ?_
  rintro e w12 ⟨rfl, h, k⟩
  have G12 := hide ((unhide Gd).kept k h)
  have hS12 := (unhide G12).g.src
  refine hK _ _ (fun _ => hS12) ?_
  clear hK K hS11
  clear h k G11 Gd
  refine seq_do rfl (fun K hK => ?_)
  go_simp
  refine (rAdd _ _ s.V (muV (divV s.P01 d) y) _ (unhide OK).V (muV_R _ _) (unhide G12).g.rk).mono ?_
  rintro e w13 ⟨rfl, h, k⟩
  have G13 := hide ((unhide G12).kept k h)
  have hS13 := (unhide G13).g.src
  refine hK _ _ (fun _ => hS13) ?_
  clear hK K hS12
  clear h k G12
  iterate 1
    refine seq_read (v := ?_) rfl (fun _ _ _ h => h) (by rfl) hS13 ?_ ?_
    rotate_left 1
    · intro wx hwx
      have c0 := hwx.c0; have c1 := hwx.c1; have c2 := hwx.c2; have c3 := hwx.c3; have c4 := hwx.c4
      clear hwx
      go_simp <;> exact rfl
    go_frame
  obtain ⟨w14, e4, h, k⟩ := (unhide G13).nw.pV (adV s.V (muV (divV s.P01 d) y))
  have c := (unhide G13).nw.c1; have f := (unhide G13).nw.free 1
  refine seq_do rfl (fun K hK => ?_)
  go_simp
  rw [← e4]
  have G14 := hide ((unhide G13).put k h)
  refine hK _ _ (fun _ => (unhide G14).g.src) ?_
  clear hK K e4 h k c f hS13 G13
  refine seq_end ?_
  go_wp2_with fail
  have hS14 : SAt w14.drew w.heap.size s := (unhide G14).g.src
  refine region_by (S := fun u => SAt u w.heap.size s) [(0, false), (1, false), (2, false), (3, false), (4, false), (5, false), (6, false), (7, true), (8, true), (9, false), (10, true)] [] (by kernel_rfl) (by kernel_rfl) ?_
  iterate 7
    refine seq_read (v := ?_) rfl (fun _ _ _ h => h) (by rfl) hS14 ?_ ?_
    rotate_left 1
    · intro wx hwx
      have c0 := hwx.c0; have c1 := hwx.c1; have c2 := hwx.c2; have c3 := hwx.c3; have c4 := hwx.c4
      clear hwx
      go_simp <;> exact rfl
    go_frame
  refine seq_do rfl (fun K hK => ?_)
  go_simp
  have Gd := hide (unhide G14).drew
  refine (rMul _ _ (divV s.P00 d) s.P00 _ (quot_R _ _) (unhide OK).P00 (unhide Gd).g.rk).mono ?_
  rintro e w15 ⟨rfl, h, k⟩
  have G15 := hide ((unhide Gd).kept k h)
  have hS15 := (unhide G15).g.src
  refine hK _ _ (fun _ => hS15) ?_
  clear hK K hS14
  clear h k G14 Gd
  refine seq_do rfl (fun K hK => ?_)
  go_simp
  refine (rSub _ _ s.P00 (muV (divV s.P00 d) s.P00) _ (unhide OK).P00 (muV_R _ _) (unhide G15).g.rk).mono ?_
  rintro e w16 ⟨rfl, h, k⟩
  have G16 := hide ((unhide G15).kept k h)
  have hS16 := (unhide G16).g.src
  refine hK _ _ (fun _ => hS16) ?_
  clear hK K hS15
  clear h k G15
  iterate 1
    refine seq_read (v := ?_) rfl (fun _ _ _ h => h) (by rfl) hS16 ?_ ?_
    rotate_left 1
    · intro wx hwx
      have c0 := hwx.c0; have c1 := hwx.c1; have c2 := hwx.c2; have c3 := hwx.c3; have c4 := hwx.c4
      clear hwx
      go_simp <;> exact rfl
    go_frame
  obtain ⟨w17, e4, h, k⟩ := (unhide G16).nw.pP00 (sbC s.P00 (muV (divV s.P00 d) s.P00))
  have c := (unhide G16).nw.c2; have f := (unhide G16).nw.free 2
  refine seq_do rfl (fun K hK => ?_)
  go_simp
  rw [← e4]
  have G17 := hide ((unhide G16).put k h)
  refine hK _ _ (fun _ => (unhide G17).g.src) ?_
  clear hK K e4 h k c f hS16 G16
  refine seq_end ?_
  go_wp2_with fail
  have hS17 : SAt w17.drew w.heap.size s := (unhide G17).g.src
  refine region_by (S := fun u => SAt u w.heap.size s) [(0, false), (1, false), (2, false), (3, false), (4, false), (5, false), (6, false), (7, true), (8, true), (9, false), (10, true)] [] (by kernel_rfl) (by kernel_rfl) ?_
  iterate 7
    refine seq_read (v := ?_) rfl (fun _ _ _ h => h) (by rfl) hS17 ?_ ?_
    rotate_left 1
    · intro wx hwx
      have c0 := hwx.c0; have c1 := hwx.c1; have c2 := hwx.c2; have c3 := hwx.c3; have c4 := hwx.c4
      clear hwx
      go_simp <;> exact rfl
    go_frame
  refine seq_do rfl (fun K hK => ?_)
  go_simp
  have Gd := hide (unhide G17).drew
  refine (rMul _ _ (divV s.P00 d) s.P01 _ (quot_R _ _) (unhide OK).P01 (unhide Gd).g.rk).mono ?_
  rintro e w18 ⟨rfl, h, k⟩
  have G18 := hide ((unhide Gd).kept k h)
  have hS18 := (unhide G18).g.src
  refine hK _ _ (fun _ => hS18) ?_
  clear hK K hS17
  clear h k G17 Gd
  refine seq_do rfl (fun K hK => ?_)
  go_simp
  refine (rSub _ _ s.P01 (muV (divV s.P00 d) s.P01) _ (unhide OK).P01 (muV_R _ _) (unhide G18).g.rk).mono ?_
  rintro e w19 ⟨rfl, h, k⟩
  have G19 := hide ((unhide G18).kept k h)
  have hS19 := (unhide G19).g.src
  refine hK _ _ (fun _ => hS19) ?_
  clear hK K hS18
  clear h k G18
  iterate 1
    refine seq_read (v := ?_) rfl (fun _ _ _ h => h) (by rfl) hS19 ?_ ?_
    rotate_left 1
    · intro wx hwx
      have c0 := hwx.c0; have c1 := hwx.c1; have c2 := hwx.c2; have c3 := hwx.c3; have c4 := hwx.c4
      clear hwx
      go_simp <;> exact rfl
    go_frame
  obtain ⟨w20, e4, h, k⟩ := (unhide G19).nw.pP01 (sbC s.P01 (muV (divV s.P00 d) s.P01))
  have c := (unhide G19).nw.c3; have f := (unhide G19).nw.free 3
  refine seq_do rfl (fun K hK => ?_)
  go_simp
  rw [← e4]
  have G20 := hide ((unhide G19).put k h)
  refine hK _ _ (fun _ => (unhide G20).g.src) ?_
  clear hK K e4 h k c f hS19 G19
  refine seq_end ?_
  go_wp2_with fail
  have hS20 : SAt w20.drew w.heap.size s := (unhide G20).g.src
  refine region_by (S := fun u => SAt u w.heap.size s) [(0, false), (1, false), (2, false), (3, false), (4, false), (5, false), (6, false), (7, true), (8, true), (9, false), (10, true)] [] (by kernel_rfl) (by kernel_rfl) ?_
  iterate 7
    refine seq_read (v := ?_) rfl (fun _ _ _ h => h) (by rfl) hS20 ?_ ?_
    rotate_left 1
    · intro wx hwx
      have c0 := hwx.c0; have c1 := hwx.c1; have c2 := hwx.c2; have c3 := hwx.c3; have c4 := hwx.c4
      clear hwx
      go_simp <;> exact rfl
    go_frame
  refine seq_do rfl (fun K hK => ?_)
  go_simp
  have Gd := hide (unhide G20).drew
  refine (rMul _ _ (divV s.P01 d) s.P01 _ (quot_R _ _) (unhide OK).P01 (unhide Gd).g.rk).mono ?_
  rintro e w21 ⟨rfl, h, k⟩
  have G21 := hide ((unhide Gd).kept k h)
  have hS21 := (unhide G21).g.src
  refine hK _ _ (fun _ => hS21) ?_
  clear hK K hS20
  clear h k G20 Gd
  refine seq_do rfl (fun K hK => ?_)
  go_simp
  refine (rSub _ _ s.P11 (muV (divV s.P01 d) s.P01) _ (unhide OK).P11 (muV_R _ _) (unhide G21).g.rk).mono ?_
  rintro e w22 ⟨rfl, h, k⟩
  have G22 := hide ((unhide G21).kept k h)
  have hS22 := (unhide G22).g.src
  refine hK _ _ (fun _ => hS22) ?_
  clear hK K hS21
  clear h k G21
  iterate 1
    refine seq_read (v := ?_) rfl (fun _ _ _ h => h) (by rfl) hS22 ?_ ?_
    rotate_left 1
    · intro wx hwx
      have c0 := hwx.c0; have c1 := hwx.c1; have c2 := hwx.c2; have c3 := hwx.c3; have c4 := hwx.c4
      clear hwx
      go_simp <;> exact rfl
    go_frame
  obtain ⟨w23, e4, h, k⟩ := (unhide G22).nw.pP11 (sbC s.P11 (muV (divV s.P01 d) s.P01))
  have c := (unhide G22).nw.c4; have f := (unhide G22).nw.free 4
  refine seq_do rfl (fun K hK => ?_)
  go_simp
  rw [← e4]
  have G23 := hide ((unhide G22).put k h)
  refine hK _ _ (fun _ => (unhide G23).g.src) ?_
  clear hK K e4 h k c f hS22 G22
  refine seq_end ?_
  obtain ⟨w24, e4, h, k⟩ := (unhide G23).nw.pM 0
  have c := (unhide G23).nw.c6; have f := (unhide G23).nw.free 6
  have G24 := hide ((unhide G23).put k h); have E4 := hide e4
  clear h k e4
  go_upto_region 16 with fail
  rw [← unhide E4]
  clear c f E4 G23
  have rk0 := (unhide G24).g.rk.cell0
  obtain ⟨w25, e4, h, k⟩ := (unhide G24).nw.pB _
  have c := (unhide G24).nw.c5; have f := (unhide G24).nw.free 5
  have G25 := hide ((unhide G24).put k h); have E4 := hide e4
  clear h k e4
  go_upto_region 17 with fail
  rw [← unhide E4]
  clear c f E4 rk0 G24
  have OV : overB s z r gate = false := by apply overB_not <;> rw [← unhide ED] <;> first | (rw [← unhide EY]; omega) | omega
  have eT : updT s z r gate = true := by unfold updT; rw [OV]; rfl
  have eU : updS s z r gate = takeS ((((s.bend (sbE z s.X)).bend (adB s.P00 r)).bend (muB y y)).bend (muB gate d)) y d := by unfold updS; rw [OV, unhide EY, unhide ED]; rfl
  have EU := hide eU; have ETT := hide eT
  clear OV eT eU
  obtain ⟨t, et⟩ : ∃ t : St, t = takeS ((((s.bend (sbE z s.X)).bend (adB s.P00 r)).bend (muB y y)).bend (muB gate d)) y d := ⟨_, rfl⟩
  have N := hide (show SAt w25 bn t by rw [et]; exact (unhide G25).nw)
  have c0 := (unhide N).c0; have c1 := (unhide N).c1; have c2 := (unhide N).c2; have c3 := (unhide N).c3; have c4 := (unhide N).c4; have c5 := (unhide N).c5; have c6 := (unhide N).c6
  have b0 := (unhide G25).g.res.c0; have b1 := (unhide G25).g.res.c1; have b2 := (unhide G25).g.res.c2; have b3 := (unhide G25).g.res.c3; have b4 := (unhide G25).g.res.c4; have b5 := (unhide G25).g.res.c5; have b6 := (unhide G25).g.res.c6
  have f0 := (unhide G25).g.res.free 0; have f1 := (unhide G25).g.res.free 1; have f2 := (unhide G25).g.res.free 2; have f3 := (unhide G25).g.res.free 3; have f4 := (unhide G25).g.res.free 4; have f5 := (unhide G25).g.res.free 5; have f6 := (unhide G25).g.res.free 6
  have ln := (unhide G25).lt
  obtain ⟨u, e4, h4, k4⟩ := (unhide G25).g.res.put t
  have E4 := hide e4; have H4 := hide h4; have K4 := hide (below_of_kept (unhide G25).g.bel k4 (by omega) (unhide G25).g.bel.size)
  have ET := hide et
  clear e4 h4 k4 et
  go_wp2_with fail
  rw [← unhide E4]
  have p0 := (unhide H4).c0; have p1 := (unhide H4).c1; have p2 := (unhide H4).c2; have p3 := (unhide H4).c3; have p4 := (unhide H4).c4; have p5 := (unhide H4).c5; have p6 := (unhide H4).c6
  refine bodyPost_ret (v := .tuple #[stV t, .bool true]) (by simp [results, Try.results14, go_sem, p0, p1, p2, p3, p4, p5, p6]) rfl ⟨by rw [unhide EU, unhide ETT, unhide ET], unhide K4⟩

end Go.Proofs.Ytblglojbghmphaa
