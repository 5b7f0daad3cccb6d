/- Contract of the reference: FilterStep. -/
import Derived.Test.YtblglojbghmphaaRefPred
import Derived.Test.YtblglojbghmphaaRefUpd
namespace Go.Proofs.Ytblglojbghmphaa
open Go.RowKit

set_option maxHeartbeats 1000000 in
theorem refStep_any (s : St) (t : Tn) (z : Int) (w : World) (hs : s.Ok) (ht : t.Ok) (hz : R64 z) :
    Calls Try.prog 16 #[stV s, tnV t, .int .i64 z] w fun e w' => e = .returned (.tuple #[stV (stepS s t z), .bool (stepT s t z)]) ∧ Below w.heap.size w w' := by
  obtain ⟨w1, e1, d1, g1, k1⟩ := step_start w s t
  have OK := hide hs; have OT := hide ht; have RZ := hide hz; have E1 := hide e1; have G1 := hide g1; have K1 := hide k1
  have hS1 : ST w.heap.size (w.heap.size + 1) s t w1.drew := d1.drew
  clear hs ht hz e1 d1 g1 k1
  go_enter Try.func16, Try.ntmps16
  go_wp2_with fail
  rw [← unhide E1]
  refine region_by (S := ST w.heap.size (w.heap.size + 1) s t) [(0, false), (1, false), (2, false), (3, false), (4, false), (6, false), (7, false), (8, false), (9, false), (10, false), (5, true), (11, true), (12, false), (13, false), (14, true), (15, true)] [] (by kernel_rfl) (by kernel_rfl) ?_
  iterate 10
    refine seq_read (v := ?_) rfl (fun _ _ _ h => h) (by rfl) hS1 ?_ ?_
    rotate_left 1
    · intro wx hwx
      have q0 := hwx.tn.c0; have q1 := hwx.tn.c1; have q2 := hwx.tn.c2; have q3 := hwx.tn.c3
      have c0 := hwx.st.c0; have c1 := hwx.st.c1; have c2 := hwx.st.c2; have c3 := hwx.st.c3; have c4 := hwx.st.c4; have c5 := hwx.st.c5; have c6 := hwx.st.c6
      clear hwx
      go_simp <;> exact rfl
    go_frame
  refine seq_do rfl (fun K hK => ?_)
  go_simp
  refine (refPredict_any s t.Dt t.Q _ (unhide OK) (unhide OT).Dt (unhide OT).Q).mono ?_
  rintro e w2 ⟨rfl, k⟩
  have hS2 := hS1.below k
  refine hK _ _ (fun _ => hS2) ?_
  have G2 := hide (SAt.below (w := w1.drew) (unhide G1) k); have K2 := hide ((below_drew (unhide K1)).trans (k.mono (unhide K1).size))
  clear hK K hS1 k G1 K1
  refine seq_do rfl (fun K hK => ?_)
  go_simp
  refine (refUpdate_any (predS s t.Dt t.Q) z t.R t.G _ (predS_ok (unhide OK) _ _) (unhide RZ) (unhide OT).R (unhide OT).G).mono ?_
  rintro e w3 ⟨rfl, k⟩
  have hS3 := hS2.below k
  refine hK _ _ (fun _ => hS3) ?_
  have G3 := hide ((unhide G2).below k); have K3 := hide ((unhide K2).trans (k.mono (unhide K2).size))
  clear hK K hS2 k G2 K2
  rw [show updS (predS s t.Dt t.Q) z t.R t.G = stepS s t z from rfl, show updT (predS s t.Dt t.Q) z t.R t.G = stepT s t z from rfl]
  obtain ⟨p, ep⟩ : ∃ p, p = stepS s t z := ⟨_, rfl⟩
  obtain ⟨tk, ek⟩ : ∃ tk, tk = stepT s t z := ⟨_, rfl⟩
  rw [← ep, ← ek]
  have EP := hide ep; have EK := hide ek
  clear ep ek
  iterate 2
    refine seq_read (v := ?_) rfl (fun _ _ _ h => h) (by rfl) hS3 ?_ ?_
    rotate_left 1
    · intro wx hwx
      clear hwx
      go_simp <;> exact rfl
    go_frame
  have b0 := (unhide G3).c0; have b1 := (unhide G3).c1; have b2 := (unhide G3).c2; have b3 := (unhide G3).c3; have b4 := (unhide G3).c4; have b5 := (unhide G3).c5; have b6 := (unhide G3).c6
  have f0 := (unhide G3).free 0; have f1 := (unhide G3).free 1; have f2 := (unhide G3).free 2; have f3 := (unhide G3).free 3; have f4 := (unhide G3).free 4; have f5 := (unhide G3).free 5; have f6 := (unhide G3).free 6
  obtain ⟨w4, e4, h4, k4⟩ := (unhide G3).put p
  refine seq_do rfl (fun K hK => ?_)
  go_simp
  rw [← e4]
  have hS4 := hS3.kept k4 (by omega) (by omega)
  refine hK _ _ (fun _ => hS4) ?_
  have G4 := hide h4; have K4 := hide (below_of_kept (unhide K3) k4 (by omega) (unhide K3).size)
  clear hK K b0 b1 b2 b3 b4 b5 b6 f0 f1 f2 f3 f4 f5 f6 e4 h4 k4 hS3 G3 K3
  refine seq_do rfl (fun K hK => ?_)
  go_simp
  refine hK _ _ (fun _ => hS4) ?_
  clear hK K hS4
  refine seq_end ?_
  go_wp2_with fail
  have p0 := (unhide G4).c0; have p1 := (unhide G4).c1; have p2 := (unhide G4).c2; have p3 := (unhide G4).c3; have p4 := (unhide G4).c4; have p5 := (unhide G4).c5; have p6 := (unhide G4).c6
  refine bodyPost_ret (v := .tuple #[stV p, .bool tk]) (by simp [results, Try.results16, go_sem, p0, p1, p2, p3, p4, p5, p6]) rfl ⟨by rw [unhide EP, unhide EK], unhide K4⟩

end Go.Proofs.Ytblglojbghmphaa
