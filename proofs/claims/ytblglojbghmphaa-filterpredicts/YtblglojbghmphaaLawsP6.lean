/- Walk of the statement FilterPredicts. -/
import Derived.Test.YtblglojbghmphaaRefBeg
import Derived.Test.YtblglojbghmphaaRefPred
namespace Go.Proofs.Ytblglojbghmphaa
open Go.RowKit

theorem nil_ok : St.nil.Ok := ⟨R64_nought, R64_nought, R64_nought, R64_nought, R64_nought, R64_nought⟩
theorem predS_nil : stV (predS St.nil 0 3) = .agg #[.int .i64 0, .int .i64 0, .int .i64 0, .int .i64 0, .int .i64 3, .bool false, .int .i64 0] := by kernel_rfl
theorem field4 (w : World) : (Instr.field 23 (.agg #[.int .i64 0, .int .i64 0, .int .i64 0, .int .i64 0, .int .i64 3, .bool false, .int .i64 0]) 4).run Try.prog w = .ok (.int .i64 3) w := by kernel_rfl

set_option maxHeartbeats 2000000 in
set_option maxRecDepth 20000 in
theorem filterPredicts_walk {w : World} (s : St) (dt q : Int) (hs : s.Ok) (hd : R64 dt) (hq : R64 q) : Calls Try.prog 4 #[stV s, .int .i64 dt, .int .i64 q] w fun e w' => e = .returned (.bool true) ∧ Below w.heap.size w w' := by
  have Rs := hide hs
  have Rd := hide hd
  have Rq := hide hq
  obtain ⟨v0, ee, d0, k0, zz⟩ := one_state w s
  have E0 := hide ee; have Kv0 := hide k0; have Sv0 := hide d0
  clear ee d0 k0 zz hs hd hq
  go_enter Try.func4, Try.ntmps4
  go_wp2_with fail
  rw [← unhide E0]
  obtain ⟨t, et⟩ : ∃ t, t = predS s dt q := ⟨_, rfl⟩
  have ET := hide et
  clear et
  have hS : SAt v0.drew w.heap.size s := (unhide Sv0)
  have K0 := hide (below_drew (unhide Kv0))
  refine region_by (S := fun u => SAt u w.heap.size s) [(0, false), (1, false), (2, false), (4, false), (5, false), (6, false), (3, true), (7, true), (8, true), (9, true), (10, true), (11, true), (12, true), (13, true), (14, true), (15, true)] [] (by kernel_rfl) (by kernel_rfl) ?_
  generalize v0.drew = u at *
  iterate 6
    refine seq_read (v := ?_) rfl (fun _ _ _ h => h) (by rfl) hS ?_ ?_
    rotate_left 1
    · intro wx hwx
      have c0 := hwx.c0; have c1 := hwx.c1; have c2 := hwx.c2; have c3 := hwx.c3; have c4 := hwx.c4; have c5 := hwx.c5; have c6 := hwx.c6
      clear hwx
      go_simp <;> exact rfl
    go_frame
  refine seq_do rfl (fun K hK => ?_)
  go_simp
  refine (predict_any s dt q _ (unhide Rs) (unhide Rd) (unhide Rq)).mono ?_
  rintro e u1 ⟨rfl, kk⟩
  rw [← unhide ET]
  have hS1 := hS.below kk
  have K1 := hide ((unhide K0).trans (kk.mono (unhide K0).size))
  refine hK _ _ (fun _ => hS1) ?_
  clear hK K kk hS
  refine seq_do rfl (fun K hK => ?_)
  go_simp
  refine (refPredict_any s dt q _ (unhide Rs) (unhide Rd) (unhide Rq)).mono ?_
  rintro e u2 ⟨rfl, kk⟩
  rw [← unhide ET]
  have hS2 := hS1.below kk
  have K2 := hide ((unhide K1).trans (kk.mono (unhide K1).size))
  refine hK _ _ (fun _ => hS2) ?_
  clear hK K kk hS1
  refine seq_do rfl (fun K hK => ?_)
  go_simp
  refine hK _ _ (fun _ => hS2) ?_
  clear hK K
  refine seq_do rfl (fun K hK => ?_)
  go_simp
  refine hK _ _ (fun _ => hS2) ?_
  clear hK K
  refine seq_do rfl (fun K hK => ?_)
  go_simp
  refine hK _ _ (fun _ => hS2) ?_
  clear hK K
  refine seq_do rfl (fun K hK => ?_)
  go_simp
  refine (predict_any St.nil 0 3 _ nil_ok R64_nought (by unfold R64; omega)).mono ?_
  rintro e u3 ⟨rfl, kk⟩
  rw [predS_nil]
  have hS3 := hS2.below kk
  have K3 := hide ((unhide K2).trans (kk.mono (unhide K2).size))
  refine hK _ _ (fun _ => hS3) ?_
  clear hK K kk hS2
  have hfd := field4
  refine seq_do rfl (fun K hK => ?_)
  go_simp
  refine hK _ _ (fun _ => hS3) ?_
  clear hK K
  refine seq_do rfl (fun K hK => ?_)
  go_simp
  refine hK _ _ (fun _ => hS3) ?_
  clear hK K
  refine seq_do rfl (fun K hK => ?_)
  go_simp
  refine hK _ _ (fun _ => hS3) ?_
  clear hK K
  refine seq_do rfl (fun K hK => ?_)
  go_simp
  refine hK _ _ (fun _ => hS3) ?_
  clear hK K
  refine seq_end ?_
  go_wp2_with fail
  go_ret
  exact ⟨rfl, unhide K3⟩

end Go.Proofs.Ytblglojbghmphaa
