/- Contract of the reference: Update (low). -/
import Derived.Test.YtblglojbghmphaaRefFil
import Derived.Deep.Cut
namespace Go.Proofs.Ytblglojbghmphaa
open Go.RowKit

set_option maxHeartbeats 4000000 in
theorem refUpdate_low (s : St) (z r gate : Int) (w : World) (hs : s.Ok) (hz : R64 z) (hr : R64 r) (hg : R64 gate) (hd : offW s r ≤ 0) :
    Calls Try.prog 14 #[stV s, .int .i64 z, .int .i64 r, .int .i64 gate] w fun e w' => e = .returned (.tuple #[stV (updS s z r gate), .bool (updT s z r gate)]) ∧ Below w.heap.size w w' := by
  obtain ⟨y, ey⟩ : ∃ y, y = offY s z := ⟨_, rfl⟩
  obtain ⟨d, ed⟩ : ∃ d, d = offW s r := ⟨_, rfl⟩
  rw [← ed] at hd
  have EY := hide ey; have ED := hide ed
  have RY := hide (show R64 y by rw [ey]; exact sbC_R _ _); have RD := hide (show R64 d by rw [ed]; exact adV_R _ _)
  clear ey ed
  obtain ⟨w1, e1, g1⟩ := rg_start w s
  have OK := hide hs; have E1 := hide e1; have G1 := hide g1
  have Rz := hide hz
  have Rr := hide hr
  have Rg := hide hg
  clear hs e1 g1 hz hr hg
  go_enter Try.func14, Try.ntmps14
  go_wp2_with fail
  rw [← unhide E1]
  refine (rSub _ _ z s.X _ (unhide Rz) (unhide OK).X (unhide G1).rk).mono ?_
  rintro e w2 ⟨rfl, h, k⟩
  have G2 := hide ((unhide G1).kept k h)
  clear h k G1
  have c2 := (unhide G2).src.c2
  go_wp2_with fail
  clear c2
  refine (rAdd _ _ s.P00 r _ (unhide OK).P00 (unhide Rr) (unhide G2).rk).mono ?_
  rintro e w3 ⟨rfl, h, k⟩
  have G3 := hide ((unhide G2).kept k h)
  clear h k G2
  rw [show sbC z s.X = y from (unhide EY).symm, show adV s.P00 r = d from (unhide ED).symm]
  have h1 : d < 1 := by omega
  obtain ⟨w4, e4, h, k⟩ := (unhide G3).src.pM (wrap64 (s.M + 1))
  have c := (unhide G3).src.c6; have f := (unhide G3).src.free 6
  have N := hide h; have RS := hide ((unhide G3).res.kept k (by omega)); have BL := hide (below_of_kept (unhide G3).bel k (Nat.le_refl _) (unhide G3).bel.size); have E4 := hide e4
  clear h k e4
  go_upto_region 6 with fail
  rw [← unhide E4]
  clear c f E4 G3
  obtain ⟨t, et⟩ : ∃ t : St, t = s.setM (wrap64 (s.M + 1)) := ⟨_, rfl⟩
  have N2 := hide (show SAt w4 w.heap.size t by rw [et]; exact unhide N)
  have c0 := (unhide N2).c0; have c1 := (unhide N2).c1; have c2 := (unhide N2).c2; have c3 := (unhide N2).c3; have c4 := (unhide N2).c4; have c5 := (unhide N2).c5; have c6 := (unhide N2).c6
  have b0 := (unhide RS).c0; have b1 := (unhide RS).c1; have b2 := (unhide RS).c2; have b3 := (unhide RS).c3; have b4 := (unhide RS).c4; have b5 := (unhide RS).c5; have b6 := (unhide RS).c6
  have f0 := (unhide RS).free 0; have f1 := (unhide RS).free 1; have f2 := (unhide RS).free 2; have f3 := (unhide RS).free 3; have f4 := (unhide RS).free 4; have f5 := (unhide RS).free 5; have f6 := (unhide RS).free 6
  obtain ⟨u, e4, h4, k4⟩ := (unhide RS).put t
  have E4 := hide e4; have H4 := hide h4; have K4 := hide (below_of_kept (unhide BL) k4 (by omega) (unhide BL).size); have ET := hide et
  clear e4 h4 k4 et
  go_wp2_with fail
  rw [← unhide E4]
  have p0 := (unhide H4).c0; have p1 := (unhide H4).c1; have p2 := (unhide H4).c2; have p3 := (unhide H4).c3; have p4 := (unhide H4).c4; have p5 := (unhide H4).c5; have p6 := (unhide H4).c6
  have OV : overB s z r gate = true := by apply overB_low; rw [← unhide ED]; omega
  have eU : updS s z r gate = t := by unfold updS; rw [OV, unhide ET]; rfl
  have eT : updT s z r gate = false := by unfold updT; rw [OV]; rfl
  refine bodyPost_ret (v := .tuple #[stV t, .bool false]) (by simp [results, Try.results14, go_sem, p0, p1, p2, p3, p4, p5, p6]) rfl ⟨by rw [eU, eT], unhide K4⟩

end Go.Proofs.Ytblglojbghmphaa
