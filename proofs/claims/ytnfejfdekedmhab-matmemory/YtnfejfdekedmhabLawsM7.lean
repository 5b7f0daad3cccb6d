/- The walk of MatMemory. -/
import Derived.Test.YtnfejfdekedmhabMatMemo
namespace Go.Proofs.Ytnfejfdekedmhab
open Go.RowKit

set_option maxRecDepth 100000 in
set_option maxHeartbeats 16000000 in
theorem matMemory_walk {w : World} (N : Int) (ao : Option Addr) (len cap : Nat) (f : Nat → Int) (vo : Option Addr) (lv cv : Nat) (v : Nat → Int) (_rN : R64 N) (aa : ArgS w ao len cap f) (ab : ArgS w vo lv cv v) :
    Calls Try.prog 3 #[.agg #[.int .i64 N, .slice ao len cap], .slice vo lv cv] w fun e w' => e = .returned (.bool true) ∧ Below w.heap.size w w' := by
  obtain ⟨w1, e1, ma, k1, s1⟩ := mb_alloc w N (.slice ao len cap)
  have E1 := hide e1; have MAw1 := hide ma; have Kw1 := hide k1; have Zw1 := hide (Nat.le_of_eq s1.symm); have AA := hide aa; have AB := hide ab; have RF := hide aa.2.2; have RV := hide ab.2.2
  have hl := hide (show len ≤ 17592186043904 by have := aa.2.1; omega); have hlv := hide (show lv ≤ 17592186043904 by have := ab.2.1; omega)
  clear e1 ma k1 s1 aa ab _rN
  go_enter Try.func3, Try.ntmps3
  go_upto_region 1 with fail
  rw [← unhide E1]
  go_cut [5] (fun s5 wx => ∃ (L r : Nat), s5 = .pointer (some ⟨L, 0, none⟩) ∧ MbAt wx L N (.slice (some ⟨r, 0, none⟩) len (len + 2)) ∧ Nh wx r (len + 2) (len + 2) (rmF f len) ∧ MbAt wx w.heap.size N (.slice ao len cap) ∧ Below w.heap.size w wx)
  case first =>
    refine region_plan (S := Cl2 w.heap.size (.int .i64 N) (.slice ao len cap)) (.rd 0 (.rd 1 (.rd 2 (.rd 3 (.two 4 6 (.rd 5 (.go 6 (.go 7 .fin))) (.go 4 (.rd 5 (.go 7 .fin)))))))) [] (by kernel_rfl) (by kernel_rfl) ?_
    have MAu0 := hide (show MbAt w1.drew _ _ _ from unhide MAw1); have Ku0 := hide (below_drew (unhide Kw1)); have Zu0 := hide (show w.heap.size + 1 ≤ w1.drew.heap.size from unhide Zw1)
    clear E1 MAw1 Kw1 Zw1
    generalize w1.drew = u0 at *
    iterate 4
      refine plan_read (v := ?_) rfl (fun _ _ _ h => h) (by rfl) ⟨(unhide MAu0).cell0, (unhide MAu0).cell1⟩ ?_ ?_
      rotate_left 1
      · intro wx hwx
        obtain ⟨q1, q2⟩ := hwx
        go_simp <;> exact rfl
      go_frame
    refine plan_two rfl rfl (fun K hK => ?_) (fun K hK => ?_)
    · go_simp
      refine (roomy_ex ao len cap f _ ((unhide AA).below (unhide Ku0))).mono ?_
      rintro e v1 ⟨r, rfl, hr, nm, kk⟩
      have NMv1 := hide nm
      have MAv1 := hide ((unhide MAu0).below kk)
      have Kv1 := hide ((unhide Ku0).trans (Below.le kk (unhide Ku0).size))
      have Zv1 := hide (Nat.le_trans (unhide Zu0) kk.size)
      have CSv1 := hide kk.size
      clear kk MAu0 Ku0 Zu0
      clear hr nm
      refine hK _ _ (fun _ => ⟨(unhide MAv1).cell0, (unhide MAv1).cell1⟩) ?_
      clear hK K
      iterate 1
        refine plan_read (v := ?_) rfl (fun _ _ _ h => h) (by rfl) ⟨(unhide MAv1).cell0, (unhide MAv1).cell1⟩ ?_ ?_
        rotate_left 1
        · intro wx hwx
          obtain ⟨q1, q2⟩ := hwx
          go_simp <;> exact rfl
        go_frame
      refine plan_do rfl (fun K hK => ?_)
      go_simp
      obtain ⟨v2, ee, mm, kk, ss⟩ := mb_alloc v1 0 (.slice none 0 0)
      rw [← ee]
      have LVv2 := hide mm
      have LLv2 := hide (show v1.heap.size < v2.heap.size by omega)
      have ZL := hide (unhide Zv1)
      have NL := hide (Nat.ne_of_lt (unhide NMv1).lt)
      clear ee mm ss
      have MAv2 := hide ((unhide MAv1).below kk)
      have NMv2 := hide ((unhide NMv1).below kk)
      have Kv2 := hide ((unhide Kv1).trans (Below.le kk (unhide Kv1).size))
      have Zv2 := hide (Nat.le_trans (unhide Zv1) kk.size)
      have CSv2 := hide kk.size
      clear kk MAv1 NMv1 Kv1 Zv1
      refine hK _ _ (fun _ => ⟨(unhide MAv2).cell0, (unhide MAv2).cell1⟩) ?_
      clear hK K
      generalize v1.heap.size = L at *
      refine plan_do rfl (fun K hK => ?_)
      have z0 := (unhide LVv2).cell0; have z1 := (unhide LVv2).cell1; have f0 := (unhide LVv2).free 0; have f1 := (unhide LVv2).free 1
      go_simp
      obtain ⟨v3, ee, mm, kk⟩ := (unhide LVv2).put (N) (.slice (some ⟨r, 0, none⟩) len (len + 2))
      rw [← ee]
      have LVv3 := hide mm
      have MAv3 := hide ((unhide MAv2).kept kk (by have := unhide ZL; omega))
      have NMv3 := hide ((unhide NMv2).kept kk (unhide NL))
      have Kv3 := hide (below_of_kept (unhide Kv2) kk (by have := unhide ZL; omega) (unhide Kv2).size)
      have Zv3 := hide (Nat.le_trans (unhide Zv2) kk.size)
      clear kk
      refine hK _ _ (fun _ => ⟨(unhide MAv3).cell0, (unhide MAv3).cell1⟩) ?_
      clear hK K z0 z1 f0 f1 ee mm
      refine plan_end ?_
      go_wp2_with fail
      go_meet
      exact ⟨L, r, rfl, (unhide LVv3), (unhide NMv3), (unhide MAv3), (unhide Kv3)⟩
    · go_simp
      obtain ⟨v4, ee, mm, kk, ss⟩ := mb_alloc u0 0 (.slice none 0 0)
      rw [← ee]
      have LVv4 := hide mm
      have LLv4 := hide (show u0.heap.size < v4.heap.size by omega)
      have ZL := hide (unhide Zu0)
      clear ee mm ss
      have MAv4 := hide ((unhide MAu0).below kk)
      have Kv4 := hide ((unhide Ku0).trans (Below.le kk (unhide Ku0).size))
      have Zv4 := hide (Nat.le_trans (unhide Zu0) kk.size)
      have CSv4 := hide kk.size
      clear kk MAu0 Ku0 Zu0
      refine hK _ _ (fun _ => ⟨(unhide MAv4).cell0, (unhide MAv4).cell1⟩) ?_
      clear hK K
      generalize u0.heap.size = L at *
      refine plan_do rfl (fun K hK => ?_)
      go_simp
      refine (roomy_ex ao len cap f _ ((unhide AA).below (unhide Kv4))).mono ?_
      rintro e v5 ⟨r, rfl, hr, nm, kk⟩
      have NL := hide (show r ≠ L by have := unhide LLv4; omega)
      have NMv5 := hide nm
      have MAv5 := hide ((unhide MAv4).below kk)
      have LVv5 := hide ((unhide LVv4).below kk)
      have Kv5 := hide ((unhide Kv4).trans (Below.le kk (unhide Kv4).size))
      have Zv5 := hide (Nat.le_trans (unhide Zv4) kk.size)
      have CSv5 := hide kk.size
      clear kk MAv4 LVv4 Kv4 Zv4
      clear hr nm
      refine hK _ _ (fun _ => ⟨(unhide MAv5).cell0, (unhide MAv5).cell1⟩) ?_
      clear hK K
      have LLv5 := hide (Nat.lt_of_lt_of_le (unhide LLv4) (unhide CSv5))
      iterate 1
        refine plan_read (v := ?_) rfl (fun _ _ _ h => h) (by rfl) ⟨(unhide MAv5).cell0, (unhide MAv5).cell1⟩ ?_ ?_
        rotate_left 1
        · intro wx hwx
          obtain ⟨q1, q2⟩ := hwx
          go_simp <;> exact rfl
        go_frame
      refine plan_do rfl (fun K hK => ?_)
      have z0 := (unhide LVv5).cell0; have z1 := (unhide LVv5).cell1; have f0 := (unhide LVv5).free 0; have f1 := (unhide LVv5).free 1
      go_simp
      obtain ⟨v6, ee, mm, kk⟩ := (unhide LVv5).put (N) (.slice (some ⟨r, 0, none⟩) len (len + 2))
      rw [← ee]
      have LVv6 := hide mm
      have MAv6 := hide ((unhide MAv5).kept kk (by have := unhide ZL; omega))
      have NMv6 := hide ((unhide NMv5).kept kk (unhide NL))
      have Kv6 := hide (below_of_kept (unhide Kv5) kk (by have := unhide ZL; omega) (unhide Kv5).size)
      have Zv6 := hide (Nat.le_trans (unhide Zv5) kk.size)
      clear kk
      refine hK _ _ (fun _ => ⟨(unhide MAv6).cell0, (unhide MAv6).cell1⟩) ?_
      clear hK K z0 z1 f0 f1 ee mm
      refine plan_end ?_
      go_wp2_with fail
      go_meet
      exact ⟨L, r, rfl, (unhide LVv6), (unhide NMv6), (unhide MAv6), (unhide Kv6)⟩
  case rest =>
    obtain ⟨L, r, rfl, lv1, nm, ma, kc⟩ := hcut
    have LVwc := hide lv1; have NMwc := hide nm; have MAwc := hide ma; have Kwc := hide kc; have Zwc := hide (Nat.le_refl wc.heap.size)
    have BL := hide (show L < wc.heap.size from lv1.lt); have BR := hide (show r < wc.heap.size from nm.lt); have BM := hide (show w.heap.size < wc.heap.size from ma.lt)
    clear lv1 nm ma kc MAw1 Kw1 Zw1 E1
    go_wp2_with fail
    refine (roomy_ex vo lv cv v _ ((unhide AB).below (unhide Kwc))).mono ?_
    rintro e v7 ⟨bw, rfl, hbw, nw, kk⟩
    have NWv7 := hide nw
    have LVv7 := hide ((unhide LVwc).below kk)
    have NMv7 := hide ((unhide NMwc).below kk)
    have MAv7 := hide ((unhide MAwc).below kk)
    have Kv7 := hide ((unhide Kwc).trans (Below.le kk (unhide Kwc).size))
    have Zv7 := hide (Nat.le_trans (unhide Zwc) kk.size)
    have CSv7 := hide kk.size
    clear kk LVwc NMwc MAwc Kwc Zwc
    clear hbw nw
    have BW := hide (unhide NWv7).lt
    have LVx := (unhide LVv7).cell0; have LVy := (unhide LVv7).cell1; have LVl := (unhide LVv7).lt
    go_wp2_with fail
    clear LVx LVy LVl
    refine (turn_res N _ len _ (rmF f len) _ (rmF_R (unhide RF)) ((unhide NMv7).less (by omega)).rds).mono ?_
    rintro e v8 ⟨Ra, aoa, la, ca, qa, rfl, res, kk⟩
    have RAv8 := hide res
    have LVv8 := hide ((unhide LVv7).below kk)
    have NMv8 := hide ((unhide NMv7).below kk)
    have MAv8 := hide ((unhide MAv7).below kk)
    have NWv8 := hide ((unhide NWv7).below kk)
    have Kv8 := hide ((unhide Kv7).trans (Below.le kk (unhide Kv7).size))
    have Zv8 := hide (Nat.le_trans (unhide Zv7) kk.size)
    have CSv8 := hide kk.size
    clear kk LVv7 NMv7 MAv7 NWv7 Kv7 Zv7
    clear res
    have LVx := (unhide LVv8).cell0; have LVy := (unhide LVv8).cell1; have LVl := (unhide LVv8).lt
    go_wp2_with fail
    clear LVx LVy LVl
    obtain ⟨v9, ee, mm, kk, ss⟩ := mb_alloc v8 (Ra) (.slice aoa la ca)
    have Ev9 := hide ee
    have VAv9 := hide mm
    clear ee mm ss
    have LVv9 := hide ((unhide LVv8).below kk)
    have NMv9 := hide ((unhide NMv8).below kk)
    have MAv9 := hide ((unhide MAv8).below kk)
    have NWv9 := hide ((unhide NWv8).below kk)
    have RAv9 := hide ((unhide RAv8).below kk)
    have Kv9 := hide ((unhide Kv8).trans (Below.le kk (unhide Kv8).size))
    have Zv9 := hide (Nat.le_trans (unhide Zv8) kk.size)
    have CSv9 := hide kk.size
    clear kk LVv8 NMv8 MAv8 NWv8 RAv8 Kv8 Zv8
    rw [← unhide Ev9]
    have LTVA := hide (unhide VAv9).lt
    refine (mul_res N _ len _ (rmF f len) _ (rmF_R (unhide RF)) ((unhide NMv9).less (by omega)).rds).mono ?_
    rintro e v10 ⟨Rb, aob, lb, cb, pb, qb, rfl, res, kk⟩
    have RBv10 := hide res
    have LVv10 := hide ((unhide LVv9).below kk)
    have NMv10 := hide ((unhide NMv9).below kk)
    have MAv10 := hide ((unhide MAv9).below kk)
    have NWv10 := hide ((unhide NWv9).below kk)
    have RAv10 := hide ((unhide RAv9).below kk)
    have VAv10 := hide ((unhide VAv9).below kk)
    have Kv10 := hide ((unhide Kv9).trans (Below.le kk (unhide Kv9).size))
    have Zv10 := hide (Nat.le_trans (unhide Zv9) kk.size)
    have CSv10 := hide kk.size
    clear kk LVv9 NMv9 MAv9 NWv9 RAv9 VAv9 Kv9 Zv9
    clear res
    have LVx := (unhide LVv10).cell0; have LVy := (unhide LVv10).cell1; have LVl := (unhide LVv10).lt
    go_wp2_with fail
    clear LVx LVy LVl
    obtain ⟨v11, ee, mm, kk, ss⟩ := mb_alloc v10 (Rb) (.slice aob lb cb)
    have Ev11 := hide ee
    have VBv11 := hide mm
    clear ee mm ss
    have LVv11 := hide ((unhide LVv10).below kk)
    have NMv11 := hide ((unhide NMv10).below kk)
    have MAv11 := hide ((unhide MAv10).below kk)
    have NWv11 := hide ((unhide NWv10).below kk)
    have RAv11 := hide ((unhide RAv10).below kk)
    have VAv11 := hide ((unhide VAv10).below kk)
    have RBv11 := hide ((unhide RBv10).below kk)
    have Kv11 := hide ((unhide Kv10).trans (Below.le kk (unhide Kv10).size))
    have Zv11 := hide (Nat.le_trans (unhide Zv10) kk.size)
    have CSv11 := hide kk.size
    clear kk LVv10 NMv10 MAv10 NWv10 RAv10 VAv10 RBv10 Kv10 Zv10
    rw [← unhide Ev11]
    have LTVB := hide (unhide VBv11).lt
    refine (times_res N _ _ len _ lv _ (rmF f len) (rmF v lv) _ (rmF_R (unhide RF)) (rmF_R (unhide RV)) ((unhide NMv11).less (by omega)).rds ((unhide NWv11).less (by omega)).rds).mono ?_
    rintro e v12 ⟨aoc, lc, cc, pc, qc, rfl, res, kk⟩
    have RCv12 := hide res
    have LVv12 := hide ((unhide LVv11).below kk)
    have NMv12 := hide ((unhide NMv11).below kk)
    have MAv12 := hide ((unhide MAv11).below kk)
    have NWv12 := hide ((unhide NWv11).below kk)
    have RAv12 := hide ((unhide RAv11).below kk)
    have VAv12 := hide ((unhide VAv11).below kk)
    have RBv12 := hide ((unhide RBv11).below kk)
    have VBv12 := hide ((unhide VBv11).below kk)
    have Kv12 := hide ((unhide Kv11).trans (Below.le kk (unhide Kv11).size))
    have Zv12 := hide (Nat.le_trans (unhide Zv11) kk.size)
    have CSv12 := hide kk.size
    clear kk LVv11 NMv11 MAv11 NWv11 RAv11 VAv11 RBv11 VBv11 Kv11 Zv11
    clear res
    have LVx := (unhide LVv12).cell0; have LVy := (unhide LVv12).cell1; have LVl := (unhide LVv12).lt
    go_wp2_with fail
    clear LVx LVy LVl
    refine (factor_res N _ len _ (rmF f len) _ (rmF_R (unhide RF)) ((unhide NMv12).less (by omega)).rds).mono ?_
    rintro e v13 ⟨Rl, aol, aod, ll, cl, ld, cd, Bl, Ul, Bd, Ud, pl, ql, rfl, res, res2, bnd, kk⟩
    have RLv13 := hide res
    have RDv13 := hide res2
    have LVv13 := hide ((unhide LVv12).below kk)
    have NMv13 := hide ((unhide NMv12).below kk)
    have MAv13 := hide ((unhide MAv12).below kk)
    have NWv13 := hide ((unhide NWv12).below kk)
    have RAv13 := hide ((unhide RAv12).below kk)
    have VAv13 := hide ((unhide VAv12).below kk)
    have RBv13 := hide ((unhide RBv12).below kk)
    have VBv13 := hide ((unhide VBv12).below kk)
    have RCv13 := hide ((unhide RCv12).below kk)
    have Kv13 := hide ((unhide Kv12).trans (Below.le kk (unhide Kv12).size))
    have Zv13 := hide (Nat.le_trans (unhide Zv12) kk.size)
    have CSv13 := hide kk.size
    clear kk LVv12 NMv12 MAv12 NWv12 RAv12 VAv12 RBv12 VBv12 RCv12 Kv12 Zv12
    have BND := hide bnd
    clear res res2 bnd
    have LVx := (unhide LVv13).cell0; have LVy := (unhide LVv13).cell1; have LVl := (unhide LVv13).lt
    go_wp2_with fail
    clear LVx LVy LVl
    obtain ⟨v14, ee, mm, kk, ss⟩ := mb_alloc v13 (Rl) (.slice aol ll cl)
    have Ev14 := hide ee
    have VLv14 := hide mm
    clear ee mm ss
    have LVv14 := hide ((unhide LVv13).below kk)
    have NMv14 := hide ((unhide NMv13).below kk)
    have MAv14 := hide ((unhide MAv13).below kk)
    have NWv14 := hide ((unhide NWv13).below kk)
    have RAv14 := hide ((unhide RAv13).below kk)
    have VAv14 := hide ((unhide VAv13).below kk)
    have RBv14 := hide ((unhide RBv13).below kk)
    have VBv14 := hide ((unhide VBv13).below kk)
    have RCv14 := hide ((unhide RCv13).below kk)
    have RLv14 := hide ((unhide RLv13).below kk)
    have RDv14 := hide ((unhide RDv13).below kk)
    have Kv14 := hide ((unhide Kv13).trans (Below.le kk (unhide Kv13).size))
    have Zv14 := hide (Nat.le_trans (unhide Zv13) kk.size)
    have CSv14 := hide kk.size
    clear kk LVv13 NMv13 MAv13 NWv13 RAv13 VAv13 RBv13 VBv13 RCv13 RLv13 RDv13 Kv13 Zv13
    rw [← unhide Ev14]
    have LTVL := hide (unhide VLv14).lt
    refine (solve_res N _ _ len _ lv _ (rmF f len) (rmF v lv) _ (rmF_R (unhide RF)) (rmF_R (unhide RV)) ((unhide NMv14).less (by omega)).rds ((unhide NWv14).less (by omega)).rds).mono ?_
    rintro e v15 ⟨aox, lx, cx, px, qx, rfl, res, kk⟩
    have RXv15 := hide res
    have LVv15 := hide ((unhide LVv14).below kk)
    have NMv15 := hide ((unhide NMv14).below kk)
    have MAv15 := hide ((unhide MAv14).below kk)
    have NWv15 := hide ((unhide NWv14).below kk)
    have RAv15 := hide ((unhide RAv14).below kk)
    have VAv15 := hide ((unhide VAv14).below kk)
    have RBv15 := hide ((unhide RBv14).below kk)
    have VBv15 := hide ((unhide VBv14).below kk)
    have RCv15 := hide ((unhide RCv14).below kk)
    have RLv15 := hide ((unhide RLv14).below kk)
    have RDv15 := hide ((unhide RDv14).below kk)
    have VLv15 := hide ((unhide VLv14).below kk)
    have Kv15 := hide ((unhide Kv14).trans (Below.le kk (unhide Kv14).size))
    have Zv15 := hide (Nat.le_trans (unhide Zv14) kk.size)
    have CSv15 := hide kk.size
    clear kk LVv14 NMv14 MAv14 NWv14 RAv14 VAv14 RBv14 VBv14 RCv14 RLv14 RDv14 VLv14 Kv14 Zv14
    clear res
    have LVx := (unhide LVv15).cell0; have LVy := (unhide LVv15).cell1; have LVl := (unhide LVv15).lt
    go_wp2_with fail
    clear LVx LVy LVl
    refine (turn_res N _ len _ (rmF f len) _ (rmF_R (unhide RF)) ((unhide NMv15).less (by omega)).rds).mono ?_
    rintro e v16 ⟨Ry, aoy, ly, cy, qy, rfl, res, kk⟩
    have RYv16 := hide res
    have LVv16 := hide ((unhide LVv15).below kk)
    have NMv16 := hide ((unhide NMv15).below kk)
    have MAv16 := hide ((unhide MAv15).below kk)
    have NWv16 := hide ((unhide NWv15).below kk)
    have RAv16 := hide ((unhide RAv15).below kk)
    have VAv16 := hide ((unhide VAv15).below kk)
    have RBv16 := hide ((unhide RBv15).below kk)
    have VBv16 := hide ((unhide VBv15).below kk)
    have RCv16 := hide ((unhide RCv15).below kk)
    have RLv16 := hide ((unhide RLv15).below kk)
    have RDv16 := hide ((unhide RDv15).below kk)
    have VLv16 := hide ((unhide VLv15).below kk)
    have RXv16 := hide ((unhide RXv15).below kk)
    have Kv16 := hide ((unhide Kv15).trans (Below.le kk (unhide Kv15).size))
    have Zv16 := hide (Nat.le_trans (unhide Zv15) kk.size)
    have CSv16 := hide kk.size
    clear kk LVv15 NMv15 MAv15 NWv15 RAv15 VAv15 RBv15 VBv15 RCv15 RLv15 RDv15 VLv15 RXv15 Kv15 Zv15
    clear res
    obtain ⟨FY, fy, _⟩ := (unhide RYv16).told
    have FYv16 := hide fy
    clear fy RYv16
    obtain ⟨v17, ee, mm, kk, ss⟩ := mb_alloc v16 Ry (.slice aoy ly cy)
    have Ev17 := hide ee; have VYv17 := hide mm
    clear ee mm ss
    have LVv17 := hide ((unhide LVv16).below kk)
    have NMv17 := hide ((unhide NMv16).below kk)
    have MAv17 := hide ((unhide MAv16).below kk)
    have NWv17 := hide ((unhide NWv16).below kk)
    have RAv17 := hide ((unhide RAv16).below kk)
    have VAv17 := hide ((unhide VAv16).below kk)
    have RBv17 := hide ((unhide RBv16).below kk)
    have VBv17 := hide ((unhide VBv16).below kk)
    have RCv17 := hide ((unhide RCv16).below kk)
    have RLv17 := hide ((unhide RLv16).below kk)
    have RDv17 := hide ((unhide RDv16).below kk)
    have VLv17 := hide ((unhide VLv16).below kk)
    have RXv17 := hide ((unhide RXv16).below kk)
    have FYv17 := hide ((unhide FYv16).below kk)
    have Kv17 := hide ((unhide Kv16).trans (Below.le kk (unhide Kv16).size))
    have Zv17 := hide (Nat.le_trans (unhide Zv16) kk.size)
    have CSv17 := hide kk.size
    clear kk LVv16 NMv16 MAv16 NWv16 RAv16 VAv16 RBv16 VBv16 RCv16 RLv16 RDv16 VLv16 RXv16 FYv16 Kv16 Zv16
    have LTVY := hide (unhide VYv17).lt
    go_wp2_with (at_builtin; rw [← unhide Ev17]; refine wpList_cloneR _ rfl _ _ rfl rfl aoy ly cy FY rfl _ _ (unhide FYv17) ?_)
    intro aow capw v18 rw_ kk
    have RWv18 := hide rw_
    have LVv18 := hide ((unhide LVv17).below kk)
    have NMv18 := hide ((unhide NMv17).below kk)
    have MAv18 := hide ((unhide MAv17).below kk)
    have NWv18 := hide ((unhide NWv17).below kk)
    have RAv18 := hide ((unhide RAv17).below kk)
    have VAv18 := hide ((unhide VAv17).below kk)
    have RBv18 := hide ((unhide RBv17).below kk)
    have VBv18 := hide ((unhide VBv17).below kk)
    have RCv18 := hide ((unhide RCv17).below kk)
    have RLv18 := hide ((unhide RLv17).below kk)
    have RDv18 := hide ((unhide RDv17).below kk)
    have VLv18 := hide ((unhide VLv17).below kk)
    have RXv18 := hide ((unhide RXv17).below kk)
    have FYv18 := hide ((unhide FYv17).below kk)
    have VYv18 := hide ((unhide VYv17).below kk)
    have Kv18 := hide ((unhide Kv17).trans (Below.le kk (unhide Kv17).size))
    have Zv18 := hide (Nat.le_trans (unhide Zv17) kk.size)
    have CSv18 := hide kk.size
    clear kk LVv17 NMv17 MAv17 NWv17 RAv17 VAv17 RBv17 VBv17 RCv17 RLv17 RDv17 VLv17 RXv17 FYv17 VYv17 Kv17 Zv17
    clear rw_
    have VAx := (unhide VAv18).cell0; have VAy := (unhide VAv18).cell1; have VAl := (unhide VAv18).lt
    go_wp2_with fail
    clear VAx VAy VAl
    refine (scribble_any (v7.heap.size) (v8.heap.size) aoa la ca _ (unhide RAv18) (by have := unhide BL; have := unhide BR; have := unhide BM; have := unhide BW; have := unhide CSv7; have := unhide CSv8; have := unhide LTVA; have := unhide CSv9; have := unhide CSv10; have := unhide LTVB; have := unhide CSv11; have := unhide CSv12; have := unhide CSv13; have := unhide BND; have := unhide LTVL; have := unhide CSv14; have := unhide CSv15; have := unhide CSv16; have := unhide LTVY; have := unhide CSv17; have := unhide CSv18; omega)).mono ?_
    rintro e v19 ⟨rfl, kk⟩
    have LVv19 := hide ((unhide LVv18).ki kk (by have := unhide BL; have := unhide BR; have := unhide BM; have := unhide BW; have := unhide CSv7; have := unhide CSv8; have := unhide LTVA; have := unhide CSv9; have := unhide CSv10; have := unhide LTVB; have := unhide CSv11; have := unhide CSv12; have := unhide CSv13; have := unhide BND; have := unhide LTVL; have := unhide CSv14; have := unhide CSv15; have := unhide CSv16; have := unhide LTVY; have := unhide CSv17; have := unhide CSv18; omega))
    have NMv19 := hide ((unhide NMv18).ki kk (by have := unhide BL; have := unhide BR; have := unhide BM; have := unhide BW; have := unhide CSv7; have := unhide CSv8; have := unhide LTVA; have := unhide CSv9; have := unhide CSv10; have := unhide LTVB; have := unhide CSv11; have := unhide CSv12; have := unhide CSv13; have := unhide BND; have := unhide LTVL; have := unhide CSv14; have := unhide CSv15; have := unhide CSv16; have := unhide LTVY; have := unhide CSv17; have := unhide CSv18; omega))
    have MAv19 := hide ((unhide MAv18).ki kk (by have := unhide BL; have := unhide BR; have := unhide BM; have := unhide BW; have := unhide CSv7; have := unhide CSv8; have := unhide LTVA; have := unhide CSv9; have := unhide CSv10; have := unhide LTVB; have := unhide CSv11; have := unhide CSv12; have := unhide CSv13; have := unhide BND; have := unhide LTVL; have := unhide CSv14; have := unhide CSv15; have := unhide CSv16; have := unhide LTVY; have := unhide CSv17; have := unhide CSv18; omega))
    have NWv19 := hide ((unhide NWv18).ki kk (by have := unhide BL; have := unhide BR; have := unhide BM; have := unhide BW; have := unhide CSv7; have := unhide CSv8; have := unhide LTVA; have := unhide CSv9; have := unhide CSv10; have := unhide LTVB; have := unhide CSv11; have := unhide CSv12; have := unhide CSv13; have := unhide BND; have := unhide LTVL; have := unhide CSv14; have := unhide CSv15; have := unhide CSv16; have := unhide LTVY; have := unhide CSv17; have := unhide CSv18; omega))
    have VAv19 := hide ((unhide VAv18).ki kk (by have := unhide BL; have := unhide BR; have := unhide BM; have := unhide BW; have := unhide CSv7; have := unhide CSv8; have := unhide LTVA; have := unhide CSv9; have := unhide CSv10; have := unhide LTVB; have := unhide CSv11; have := unhide CSv12; have := unhide CSv13; have := unhide BND; have := unhide LTVL; have := unhide CSv14; have := unhide CSv15; have := unhide CSv16; have := unhide LTVY; have := unhide CSv17; have := unhide CSv18; omega))
    have RBv19 := hide ((unhide RBv18).ki kk (by have := unhide BL; have := unhide BR; have := unhide BM; have := unhide BW; have := unhide CSv7; have := unhide CSv8; have := unhide LTVA; have := unhide CSv9; have := unhide CSv10; have := unhide LTVB; have := unhide CSv11; have := unhide CSv12; have := unhide CSv13; have := unhide BND; have := unhide LTVL; have := unhide CSv14; have := unhide CSv15; have := unhide CSv16; have := unhide LTVY; have := unhide CSv17; have := unhide CSv18; omega))
    have VBv19 := hide ((unhide VBv18).ki kk (by have := unhide BL; have := unhide BR; have := unhide BM; have := unhide BW; have := unhide CSv7; have := unhide CSv8; have := unhide LTVA; have := unhide CSv9; have := unhide CSv10; have := unhide LTVB; have := unhide CSv11; have := unhide CSv12; have := unhide CSv13; have := unhide BND; have := unhide LTVL; have := unhide CSv14; have := unhide CSv15; have := unhide CSv16; have := unhide LTVY; have := unhide CSv17; have := unhide CSv18; omega))
    have RCv19 := hide ((unhide RCv18).ki kk (by have := unhide BL; have := unhide BR; have := unhide BM; have := unhide BW; have := unhide CSv7; have := unhide CSv8; have := unhide LTVA; have := unhide CSv9; have := unhide CSv10; have := unhide LTVB; have := unhide CSv11; have := unhide CSv12; have := unhide CSv13; have := unhide BND; have := unhide LTVL; have := unhide CSv14; have := unhide CSv15; have := unhide CSv16; have := unhide LTVY; have := unhide CSv17; have := unhide CSv18; omega))
    have RLv19 := hide ((unhide RLv18).ki kk (by have := unhide BL; have := unhide BR; have := unhide BM; have := unhide BW; have := unhide CSv7; have := unhide CSv8; have := unhide LTVA; have := unhide CSv9; have := unhide CSv10; have := unhide LTVB; have := unhide CSv11; have := unhide CSv12; have := unhide CSv13; have := unhide BND; have := unhide LTVL; have := unhide CSv14; have := unhide CSv15; have := unhide CSv16; have := unhide LTVY; have := unhide CSv17; have := unhide CSv18; omega))
    have RDv19 := hide ((unhide RDv18).ki kk (by have := unhide BL; have := unhide BR; have := unhide BM; have := unhide BW; have := unhide CSv7; have := unhide CSv8; have := unhide LTVA; have := unhide CSv9; have := unhide CSv10; have := unhide LTVB; have := unhide CSv11; have := unhide CSv12; have := unhide CSv13; have := unhide BND; have := unhide LTVL; have := unhide CSv14; have := unhide CSv15; have := unhide CSv16; have := unhide LTVY; have := unhide CSv17; have := unhide CSv18; omega))
    have VLv19 := hide ((unhide VLv18).ki kk (by have := unhide BL; have := unhide BR; have := unhide BM; have := unhide BW; have := unhide CSv7; have := unhide CSv8; have := unhide LTVA; have := unhide CSv9; have := unhide CSv10; have := unhide LTVB; have := unhide CSv11; have := unhide CSv12; have := unhide CSv13; have := unhide BND; have := unhide LTVL; have := unhide CSv14; have := unhide CSv15; have := unhide CSv16; have := unhide LTVY; have := unhide CSv17; have := unhide CSv18; omega))
    have RXv19 := hide ((unhide RXv18).ki kk (by have := unhide BL; have := unhide BR; have := unhide BM; have := unhide BW; have := unhide CSv7; have := unhide CSv8; have := unhide LTVA; have := unhide CSv9; have := unhide CSv10; have := unhide LTVB; have := unhide CSv11; have := unhide CSv12; have := unhide CSv13; have := unhide BND; have := unhide LTVL; have := unhide CSv14; have := unhide CSv15; have := unhide CSv16; have := unhide LTVY; have := unhide CSv17; have := unhide CSv18; omega))
    have FYv19 := hide ((unhide FYv18).ki kk (by have := unhide BL; have := unhide BR; have := unhide BM; have := unhide BW; have := unhide CSv7; have := unhide CSv8; have := unhide LTVA; have := unhide CSv9; have := unhide CSv10; have := unhide LTVB; have := unhide CSv11; have := unhide CSv12; have := unhide CSv13; have := unhide BND; have := unhide LTVL; have := unhide CSv14; have := unhide CSv15; have := unhide CSv16; have := unhide LTVY; have := unhide CSv17; have := unhide CSv18; omega))
    have VYv19 := hide ((unhide VYv18).ki kk (by have := unhide BL; have := unhide BR; have := unhide BM; have := unhide BW; have := unhide CSv7; have := unhide CSv8; have := unhide LTVA; have := unhide CSv9; have := unhide CSv10; have := unhide LTVB; have := unhide CSv11; have := unhide CSv12; have := unhide CSv13; have := unhide BND; have := unhide LTVL; have := unhide CSv14; have := unhide CSv15; have := unhide CSv16; have := unhide LTVY; have := unhide CSv17; have := unhide CSv18; omega))
    have RWv19 := hide ((unhide RWv18).ki kk (by have := unhide BL; have := unhide BR; have := unhide BM; have := unhide BW; have := unhide CSv7; have := unhide CSv8; have := unhide LTVA; have := unhide CSv9; have := unhide CSv10; have := unhide LTVB; have := unhide CSv11; have := unhide CSv12; have := unhide CSv13; have := unhide BND; have := unhide LTVL; have := unhide CSv14; have := unhide CSv15; have := unhide CSv16; have := unhide LTVY; have := unhide CSv17; have := unhide CSv18; omega))
    have Kv19 := hide (below_ki (unhide Kv18) kk (by have := (unhide Kv18).size; have := unhide BL; have := unhide BR; have := unhide BM; have := unhide BW; have := unhide CSv7; have := unhide CSv8; have := unhide LTVA; have := unhide CSv9; have := unhide CSv10; have := unhide LTVB; have := unhide CSv11; have := unhide CSv12; have := unhide CSv13; have := unhide BND; have := unhide LTVL; have := unhide CSv14; have := unhide CSv15; have := unhide CSv16; have := unhide LTVY; have := unhide CSv17; have := unhide CSv18; omega) (unhide Kv18).size)
    have Zv19 := hide (Nat.le_trans (unhide Zv18) kk.size)
    have CSv19 := hide kk.size
    clear kk LVv18 NMv18 MAv18 NWv18 RAv18 VAv18 RBv18 VBv18 RCv18 RLv18 RDv18 VLv18 RXv18 FYv18 VYv18 RWv18 Kv18 Zv18
    have VBx := (unhide VBv19).cell0; have VBy := (unhide VBv19).cell1; have VBl := (unhide VBv19).lt
    go_wp2_with fail
    clear VBx VBy VBl
    refine (scribble_any (v9.heap.size) (v10.heap.size) aob lb cb _ (unhide RBv19) (by have := unhide BL; have := unhide BR; have := unhide BM; have := unhide BW; have := unhide CSv7; have := unhide CSv8; have := unhide LTVA; have := unhide CSv9; have := unhide CSv10; have := unhide LTVB; have := unhide CSv11; have := unhide CSv12; have := unhide CSv13; have := unhide BND; have := unhide LTVL; have := unhide CSv14; have := unhide CSv15; have := unhide CSv16; have := unhide LTVY; have := unhide CSv17; have := unhide CSv18; have := unhide CSv19; omega)).mono ?_
    rintro e v20 ⟨rfl, kk⟩
    have LVv20 := hide ((unhide LVv19).ki kk (by have := unhide BL; have := unhide BR; have := unhide BM; have := unhide BW; have := unhide CSv7; have := unhide CSv8; have := unhide LTVA; have := unhide CSv9; have := unhide CSv10; have := unhide LTVB; have := unhide CSv11; have := unhide CSv12; have := unhide CSv13; have := unhide BND; have := unhide LTVL; have := unhide CSv14; have := unhide CSv15; have := unhide CSv16; have := unhide LTVY; have := unhide CSv17; have := unhide CSv18; have := unhide CSv19; omega))
    have NMv20 := hide ((unhide NMv19).ki kk (by have := unhide BL; have := unhide BR; have := unhide BM; have := unhide BW; have := unhide CSv7; have := unhide CSv8; have := unhide LTVA; have := unhide CSv9; have := unhide CSv10; have := unhide LTVB; have := unhide CSv11; have := unhide CSv12; have := unhide CSv13; have := unhide BND; have := unhide LTVL; have := unhide CSv14; have := unhide CSv15; have := unhide CSv16; have := unhide LTVY; have := unhide CSv17; have := unhide CSv18; have := unhide CSv19; omega))
    have MAv20 := hide ((unhide MAv19).ki kk (by have := unhide BL; have := unhide BR; have := unhide BM; have := unhide BW; have := unhide CSv7; have := unhide CSv8; have := unhide LTVA; have := unhide CSv9; have := unhide CSv10; have := unhide LTVB; have := unhide CSv11; have := unhide CSv12; have := unhide CSv13; have := unhide BND; have := unhide LTVL; have := unhide CSv14; have := unhide CSv15; have := unhide CSv16; have := unhide LTVY; have := unhide CSv17; have := unhide CSv18; have := unhide CSv19; omega))
    have NWv20 := hide ((unhide NWv19).ki kk (by have := unhide BL; have := unhide BR; have := unhide BM; have := unhide BW; have := unhide CSv7; have := unhide CSv8; have := unhide LTVA; have := unhide CSv9; have := unhide CSv10; have := unhide LTVB; have := unhide CSv11; have := unhide CSv12; have := unhide CSv13; have := unhide BND; have := unhide LTVL; have := unhide CSv14; have := unhide CSv15; have := unhide CSv16; have := unhide LTVY; have := unhide CSv17; have := unhide CSv18; have := unhide CSv19; omega))
    have VAv20 := hide ((unhide VAv19).ki kk (by have := unhide BL; have := unhide BR; have := unhide BM; have := unhide BW; have := unhide CSv7; have := unhide CSv8; have := unhide LTVA; have := unhide CSv9; have := unhide CSv10; have := unhide LTVB; have := unhide CSv11; have := unhide CSv12; have := unhide CSv13; have := unhide BND; have := unhide LTVL; have := unhide CSv14; have := unhide CSv15; have := unhide CSv16; have := unhide LTVY; have := unhide CSv17; have := unhide CSv18; have := unhide CSv19; omega))
    have VBv20 := hide ((unhide VBv19).ki kk (by have := unhide BL; have := unhide BR; have := unhide BM; have := unhide BW; have := unhide CSv7; have := unhide CSv8; have := unhide LTVA; have := unhide CSv9; have := unhide CSv10; have := unhide LTVB; have := unhide CSv11; have := unhide CSv12; have := unhide CSv13; have := unhide BND; have := unhide LTVL; have := unhide CSv14; have := unhide CSv15; have := unhide CSv16; have := unhide LTVY; have := unhide CSv17; have := unhide CSv18; have := unhide CSv19; omega))
    have RCv20 := hide ((unhide RCv19).ki kk (by have := unhide BL; have := unhide BR; have := unhide BM; have := unhide BW; have := unhide CSv7; have := unhide CSv8; have := unhide LTVA; have := unhide CSv9; have := unhide CSv10; have := unhide LTVB; have := unhide CSv11; have := unhide CSv12; have := unhide CSv13; have := unhide BND; have := unhide LTVL; have := unhide CSv14; have := unhide CSv15; have := unhide CSv16; have := unhide LTVY; have := unhide CSv17; have := unhide CSv18; have := unhide CSv19; omega))
    have RLv20 := hide ((unhide RLv19).ki kk (by have := unhide BL; have := unhide BR; have := unhide BM; have := unhide BW; have := unhide CSv7; have := unhide CSv8; have := unhide LTVA; have := unhide CSv9; have := unhide CSv10; have := unhide LTVB; have := unhide CSv11; have := unhide CSv12; have := unhide CSv13; have := unhide BND; have := unhide LTVL; have := unhide CSv14; have := unhide CSv15; have := unhide CSv16; have := unhide LTVY; have := unhide CSv17; have := unhide CSv18; have := unhide CSv19; omega))
    have RDv20 := hide ((unhide RDv19).ki kk (by have := unhide BL; have := unhide BR; have := unhide BM; have := unhide BW; have := unhide CSv7; have := unhide CSv8; have := unhide LTVA; have := unhide CSv9; have := unhide CSv10; have := unhide LTVB; have := unhide CSv11; have := unhide CSv12; have := unhide CSv13; have := unhide BND; have := unhide LTVL; have := unhide CSv14; have := unhide CSv15; have := unhide CSv16; have := unhide LTVY; have := unhide CSv17; have := unhide CSv18; have := unhide CSv19; omega))
    have VLv20 := hide ((unhide VLv19).ki kk (by have := unhide BL; have := unhide BR; have := unhide BM; have := unhide BW; have := unhide CSv7; have := unhide CSv8; have := unhide LTVA; have := unhide CSv9; have := unhide CSv10; have := unhide LTVB; have := unhide CSv11; have := unhide CSv12; have := unhide CSv13; have := unhide BND; have := unhide LTVL; have := unhide CSv14; have := unhide CSv15; have := unhide CSv16; have := unhide LTVY; have := unhide CSv17; have := unhide CSv18; have := unhide CSv19; omega))
    have RXv20 := hide ((unhide RXv19).ki kk (by have := unhide BL; have := unhide BR; have := unhide BM; have := unhide BW; have := unhide CSv7; have := unhide CSv8; have := unhide LTVA; have := unhide CSv9; have := unhide CSv10; have := unhide LTVB; have := unhide CSv11; have := unhide CSv12; have := unhide CSv13; have := unhide BND; have := unhide LTVL; have := unhide CSv14; have := unhide CSv15; have := unhide CSv16; have := unhide LTVY; have := unhide CSv17; have := unhide CSv18; have := unhide CSv19; omega))
    have FYv20 := hide ((unhide FYv19).ki kk (by have := unhide BL; have := unhide BR; have := unhide BM; have := unhide BW; have := unhide CSv7; have := unhide CSv8; have := unhide LTVA; have := unhide CSv9; have := unhide CSv10; have := unhide LTVB; have := unhide CSv11; have := unhide CSv12; have := unhide CSv13; have := unhide BND; have := unhide LTVL; have := unhide CSv14; have := unhide CSv15; have := unhide CSv16; have := unhide LTVY; have := unhide CSv17; have := unhide CSv18; have := unhide CSv19; omega))
    have VYv20 := hide ((unhide VYv19).ki kk (by have := unhide BL; have := unhide BR; have := unhide BM; have := unhide BW; have := unhide CSv7; have := unhide CSv8; have := unhide LTVA; have := unhide CSv9; have := unhide CSv10; have := unhide LTVB; have := unhide CSv11; have := unhide CSv12; have := unhide CSv13; have := unhide BND; have := unhide LTVL; have := unhide CSv14; have := unhide CSv15; have := unhide CSv16; have := unhide LTVY; have := unhide CSv17; have := unhide CSv18; have := unhide CSv19; omega))
    have RWv20 := hide ((unhide RWv19).ki kk (by have := unhide BL; have := unhide BR; have := unhide BM; have := unhide BW; have := unhide CSv7; have := unhide CSv8; have := unhide LTVA; have := unhide CSv9; have := unhide CSv10; have := unhide LTVB; have := unhide CSv11; have := unhide CSv12; have := unhide CSv13; have := unhide BND; have := unhide LTVL; have := unhide CSv14; have := unhide CSv15; have := unhide CSv16; have := unhide LTVY; have := unhide CSv17; have := unhide CSv18; have := unhide CSv19; omega))
    have Kv20 := hide (below_ki (unhide Kv19) kk (by have := (unhide Kv19).size; have := unhide BL; have := unhide BR; have := unhide BM; have := unhide BW; have := unhide CSv7; have := unhide CSv8; have := unhide LTVA; have := unhide CSv9; have := unhide CSv10; have := unhide LTVB; have := unhide CSv11; have := unhide CSv12; have := unhide CSv13; have := unhide BND; have := unhide LTVL; have := unhide CSv14; have := unhide CSv15; have := unhide CSv16; have := unhide LTVY; have := unhide CSv17; have := unhide CSv18; have := unhide CSv19; omega) (unhide Kv19).size)
    have Zv20 := hide (Nat.le_trans (unhide Zv19) kk.size)
    have CSv20 := hide kk.size
    clear kk LVv19 NMv19 MAv19 NWv19 VAv19 RBv19 VBv19 RCv19 RLv19 RDv19 VLv19 RXv19 FYv19 VYv19 RWv19 Kv19 Zv19
    go_wp2_with fail
    refine (scribble_any (v11.heap.size) (v12.heap.size) aoc lc cc _ (unhide RCv20) (by have := unhide BL; have := unhide BR; have := unhide BM; have := unhide BW; have := unhide CSv7; have := unhide CSv8; have := unhide LTVA; have := unhide CSv9; have := unhide CSv10; have := unhide LTVB; have := unhide CSv11; have := unhide CSv12; have := unhide CSv13; have := unhide BND; have := unhide LTVL; have := unhide CSv14; have := unhide CSv15; have := unhide CSv16; have := unhide LTVY; have := unhide CSv17; have := unhide CSv18; have := unhide CSv19; have := unhide CSv20; omega)).mono ?_
    rintro e v21 ⟨rfl, kk⟩
    have LVv21 := hide ((unhide LVv20).ki kk (by have := unhide BL; have := unhide BR; have := unhide BM; have := unhide BW; have := unhide CSv7; have := unhide CSv8; have := unhide LTVA; have := unhide CSv9; have := unhide CSv10; have := unhide LTVB; have := unhide CSv11; have := unhide CSv12; have := unhide CSv13; have := unhide BND; have := unhide LTVL; have := unhide CSv14; have := unhide CSv15; have := unhide CSv16; have := unhide LTVY; have := unhide CSv17; have := unhide CSv18; have := unhide CSv19; have := unhide CSv20; omega))
    have NMv21 := hide ((unhide NMv20).ki kk (by have := unhide BL; have := unhide BR; have := unhide BM; have := unhide BW; have := unhide CSv7; have := unhide CSv8; have := unhide LTVA; have := unhide CSv9; have := unhide CSv10; have := unhide LTVB; have := unhide CSv11; have := unhide CSv12; have := unhide CSv13; have := unhide BND; have := unhide LTVL; have := unhide CSv14; have := unhide CSv15; have := unhide CSv16; have := unhide LTVY; have := unhide CSv17; have := unhide CSv18; have := unhide CSv19; have := unhide CSv20; omega))
    have MAv21 := hide ((unhide MAv20).ki kk (by have := unhide BL; have := unhide BR; have := unhide BM; have := unhide BW; have := unhide CSv7; have := unhide CSv8; have := unhide LTVA; have := unhide CSv9; have := unhide CSv10; have := unhide LTVB; have := unhide CSv11; have := unhide CSv12; have := unhide CSv13; have := unhide BND; have := unhide LTVL; have := unhide CSv14; have := unhide CSv15; have := unhide CSv16; have := unhide LTVY; have := unhide CSv17; have := unhide CSv18; have := unhide CSv19; have := unhide CSv20; omega))
    have NWv21 := hide ((unhide NWv20).ki kk (by have := unhide BL; have := unhide BR; have := unhide BM; have := unhide BW; have := unhide CSv7; have := unhide CSv8; have := unhide LTVA; have := unhide CSv9; have := unhide CSv10; have := unhide LTVB; have := unhide CSv11; have := unhide CSv12; have := unhide CSv13; have := unhide BND; have := unhide LTVL; have := unhide CSv14; have := unhide CSv15; have := unhide CSv16; have := unhide LTVY; have := unhide CSv17; have := unhide CSv18; have := unhide CSv19; have := unhide CSv20; omega))
    have VAv21 := hide ((unhide VAv20).ki kk (by have := unhide BL; have := unhide BR; have := unhide BM; have := unhide BW; have := unhide CSv7; have := unhide CSv8; have := unhide LTVA; have := unhide CSv9; have := unhide CSv10; have := unhide LTVB; have := unhide CSv11; have := unhide CSv12; have := unhide CSv13; have := unhide BND; have := unhide LTVL; have := unhide CSv14; have := unhide CSv15; have := unhide CSv16; have := unhide LTVY; have := unhide CSv17; have := unhide CSv18; have := unhide CSv19; have := unhide CSv20; omega))
    have VBv21 := hide ((unhide VBv20).ki kk (by have := unhide BL; have := unhide BR; have := unhide BM; have := unhide BW; have := unhide CSv7; have := unhide CSv8; have := unhide LTVA; have := unhide CSv9; have := unhide CSv10; have := unhide LTVB; have := unhide CSv11; have := unhide CSv12; have := unhide CSv13; have := unhide BND; have := unhide LTVL; have := unhide CSv14; have := unhide CSv15; have := unhide CSv16; have := unhide LTVY; have := unhide CSv17; have := unhide CSv18; have := unhide CSv19; have := unhide CSv20; omega))
    have RLv21 := hide ((unhide RLv20).ki kk (by have := unhide BL; have := unhide BR; have := unhide BM; have := unhide BW; have := unhide CSv7; have := unhide CSv8; have := unhide LTVA; have := unhide CSv9; have := unhide CSv10; have := unhide LTVB; have := unhide CSv11; have := unhide CSv12; have := unhide CSv13; have := unhide BND; have := unhide LTVL; have := unhide CSv14; have := unhide CSv15; have := unhide CSv16; have := unhide LTVY; have := unhide CSv17; have := unhide CSv18; have := unhide CSv19; have := unhide CSv20; omega))
    have RDv21 := hide ((unhide RDv20).ki kk (by have := unhide BL; have := unhide BR; have := unhide BM; have := unhide BW; have := unhide CSv7; have := unhide CSv8; have := unhide LTVA; have := unhide CSv9; have := unhide CSv10; have := unhide LTVB; have := unhide CSv11; have := unhide CSv12; have := unhide CSv13; have := unhide BND; have := unhide LTVL; have := unhide CSv14; have := unhide CSv15; have := unhide CSv16; have := unhide LTVY; have := unhide CSv17; have := unhide CSv18; have := unhide CSv19; have := unhide CSv20; omega))
    have VLv21 := hide ((unhide VLv20).ki kk (by have := unhide BL; have := unhide BR; have := unhide BM; have := unhide BW; have := unhide CSv7; have := unhide CSv8; have := unhide LTVA; have := unhide CSv9; have := unhide CSv10; have := unhide LTVB; have := unhide CSv11; have := unhide CSv12; have := unhide CSv13; have := unhide BND; have := unhide LTVL; have := unhide CSv14; have := unhide CSv15; have := unhide CSv16; have := unhide LTVY; have := unhide CSv17; have := unhide CSv18; have := unhide CSv19; have := unhide CSv20; omega))
    have RXv21 := hide ((unhide RXv20).ki kk (by have := unhide BL; have := unhide BR; have := unhide BM; have := unhide BW; have := unhide CSv7; have := unhide CSv8; have := unhide LTVA; have := unhide CSv9; have := unhide CSv10; have := unhide LTVB; have := unhide CSv11; have := unhide CSv12; have := unhide CSv13; have := unhide BND; have := unhide LTVL; have := unhide CSv14; have := unhide CSv15; have := unhide CSv16; have := unhide LTVY; have := unhide CSv17; have := unhide CSv18; have := unhide CSv19; have := unhide CSv20; omega))
    have FYv21 := hide ((unhide FYv20).ki kk (by have := unhide BL; have := unhide BR; have := unhide BM; have := unhide BW; have := unhide CSv7; have := unhide CSv8; have := unhide LTVA; have := unhide CSv9; have := unhide CSv10; have := unhide LTVB; have := unhide CSv11; have := unhide CSv12; have := unhide CSv13; have := unhide BND; have := unhide LTVL; have := unhide CSv14; have := unhide CSv15; have := unhide CSv16; have := unhide LTVY; have := unhide CSv17; have := unhide CSv18; have := unhide CSv19; have := unhide CSv20; omega))
    have VYv21 := hide ((unhide VYv20).ki kk (by have := unhide BL; have := unhide BR; have := unhide BM; have := unhide BW; have := unhide CSv7; have := unhide CSv8; have := unhide LTVA; have := unhide CSv9; have := unhide CSv10; have := unhide LTVB; have := unhide CSv11; have := unhide CSv12; have := unhide CSv13; have := unhide BND; have := unhide LTVL; have := unhide CSv14; have := unhide CSv15; have := unhide CSv16; have := unhide LTVY; have := unhide CSv17; have := unhide CSv18; have := unhide CSv19; have := unhide CSv20; omega))
    have RWv21 := hide ((unhide RWv20).ki kk (by have := unhide BL; have := unhide BR; have := unhide BM; have := unhide BW; have := unhide CSv7; have := unhide CSv8; have := unhide LTVA; have := unhide CSv9; have := unhide CSv10; have := unhide LTVB; have := unhide CSv11; have := unhide CSv12; have := unhide CSv13; have := unhide BND; have := unhide LTVL; have := unhide CSv14; have := unhide CSv15; have := unhide CSv16; have := unhide LTVY; have := unhide CSv17; have := unhide CSv18; have := unhide CSv19; have := unhide CSv20; omega))
    have Kv21 := hide (below_ki (unhide Kv20) kk (by have := (unhide Kv20).size; have := unhide BL; have := unhide BR; have := unhide BM; have := unhide BW; have := unhide CSv7; have := unhide CSv8; have := unhide LTVA; have := unhide CSv9; have := unhide CSv10; have := unhide LTVB; have := unhide CSv11; have := unhide CSv12; have := unhide CSv13; have := unhide BND; have := unhide LTVL; have := unhide CSv14; have := unhide CSv15; have := unhide CSv16; have := unhide LTVY; have := unhide CSv17; have := unhide CSv18; have := unhide CSv19; have := unhide CSv20; omega) (unhide Kv20).size)
    have Zv21 := hide (Nat.le_trans (unhide Zv20) kk.size)
    have CSv21 := hide kk.size
    clear kk LVv20 NMv20 MAv20 NWv20 VAv20 VBv20 RCv20 RLv20 RDv20 VLv20 RXv20 FYv20 VYv20 RWv20 Kv20 Zv20
    have VLx := (unhide VLv21).cell0; have VLy := (unhide VLv21).cell1; have VLl := (unhide VLv21).lt
    go_wp2_with fail
    clear VLx VLy VLl
    refine (scribble_any (Bl) (Ul) aol ll cl _ (unhide RLv21) (by have := unhide BL; have := unhide BR; have := unhide BM; have := unhide BW; have := unhide CSv7; have := unhide CSv8; have := unhide LTVA; have := unhide CSv9; have := unhide CSv10; have := unhide LTVB; have := unhide CSv11; have := unhide CSv12; have := unhide CSv13; have := unhide BND; have := unhide LTVL; have := unhide CSv14; have := unhide CSv15; have := unhide CSv16; have := unhide LTVY; have := unhide CSv17; have := unhide CSv18; have := unhide CSv19; have := unhide CSv20; have := unhide CSv21; omega)).mono ?_
    rintro e v22 ⟨rfl, kk⟩
    have LVv22 := hide ((unhide LVv21).ki kk (by have := unhide BL; have := unhide BR; have := unhide BM; have := unhide BW; have := unhide CSv7; have := unhide CSv8; have := unhide LTVA; have := unhide CSv9; have := unhide CSv10; have := unhide LTVB; have := unhide CSv11; have := unhide CSv12; have := unhide CSv13; have := unhide BND; have := unhide LTVL; have := unhide CSv14; have := unhide CSv15; have := unhide CSv16; have := unhide LTVY; have := unhide CSv17; have := unhide CSv18; have := unhide CSv19; have := unhide CSv20; have := unhide CSv21; omega))
    have NMv22 := hide ((unhide NMv21).ki kk (by have := unhide BL; have := unhide BR; have := unhide BM; have := unhide BW; have := unhide CSv7; have := unhide CSv8; have := unhide LTVA; have := unhide CSv9; have := unhide CSv10; have := unhide LTVB; have := unhide CSv11; have := unhide CSv12; have := unhide CSv13; have := unhide BND; have := unhide LTVL; have := unhide CSv14; have := unhide CSv15; have := unhide CSv16; have := unhide LTVY; have := unhide CSv17; have := unhide CSv18; have := unhide CSv19; have := unhide CSv20; have := unhide CSv21; omega))
    have MAv22 := hide ((unhide MAv21).ki kk (by have := unhide BL; have := unhide BR; have := unhide BM; have := unhide BW; have := unhide CSv7; have := unhide CSv8; have := unhide LTVA; have := unhide CSv9; have := unhide CSv10; have := unhide LTVB; have := unhide CSv11; have := unhide CSv12; have := unhide CSv13; have := unhide BND; have := unhide LTVL; have := unhide CSv14; have := unhide CSv15; have := unhide CSv16; have := unhide LTVY; have := unhide CSv17; have := unhide CSv18; have := unhide CSv19; have := unhide CSv20; have := unhide CSv21; omega))
    have NWv22 := hide ((unhide NWv21).ki kk (by have := unhide BL; have := unhide BR; have := unhide BM; have := unhide BW; have := unhide CSv7; have := unhide CSv8; have := unhide LTVA; have := unhide CSv9; have := unhide CSv10; have := unhide LTVB; have := unhide CSv11; have := unhide CSv12; have := unhide CSv13; have := unhide BND; have := unhide LTVL; have := unhide CSv14; have := unhide CSv15; have := unhide CSv16; have := unhide LTVY; have := unhide CSv17; have := unhide CSv18; have := unhide CSv19; have := unhide CSv20; have := unhide CSv21; omega))
    have VAv22 := hide ((unhide VAv21).ki kk (by have := unhide BL; have := unhide BR; have := unhide BM; have := unhide BW; have := unhide CSv7; have := unhide CSv8; have := unhide LTVA; have := unhide CSv9; have := unhide CSv10; have := unhide LTVB; have := unhide CSv11; have := unhide CSv12; have := unhide CSv13; have := unhide BND; have := unhide LTVL; have := unhide CSv14; have := unhide CSv15; have := unhide CSv16; have := unhide LTVY; have := unhide CSv17; have := unhide CSv18; have := unhide CSv19; have := unhide CSv20; have := unhide CSv21; omega))
    have VBv22 := hide ((unhide VBv21).ki kk (by have := unhide BL; have := unhide BR; have := unhide BM; have := unhide BW; have := unhide CSv7; have := unhide CSv8; have := unhide LTVA; have := unhide CSv9; have := unhide CSv10; have := unhide LTVB; have := unhide CSv11; have := unhide CSv12; have := unhide CSv13; have := unhide BND; have := unhide LTVL; have := unhide CSv14; have := unhide CSv15; have := unhide CSv16; have := unhide LTVY; have := unhide CSv17; have := unhide CSv18; have := unhide CSv19; have := unhide CSv20; have := unhide CSv21; omega))
    have RDv22 := hide ((unhide RDv21).ki kk (by have := unhide BL; have := unhide BR; have := unhide BM; have := unhide BW; have := unhide CSv7; have := unhide CSv8; have := unhide LTVA; have := unhide CSv9; have := unhide CSv10; have := unhide LTVB; have := unhide CSv11; have := unhide CSv12; have := unhide CSv13; have := unhide BND; have := unhide LTVL; have := unhide CSv14; have := unhide CSv15; have := unhide CSv16; have := unhide LTVY; have := unhide CSv17; have := unhide CSv18; have := unhide CSv19; have := unhide CSv20; have := unhide CSv21; omega))
    have VLv22 := hide ((unhide VLv21).ki kk (by have := unhide BL; have := unhide BR; have := unhide BM; have := unhide BW; have := unhide CSv7; have := unhide CSv8; have := unhide LTVA; have := unhide CSv9; have := unhide CSv10; have := unhide LTVB; have := unhide CSv11; have := unhide CSv12; have := unhide CSv13; have := unhide BND; have := unhide LTVL; have := unhide CSv14; have := unhide CSv15; have := unhide CSv16; have := unhide LTVY; have := unhide CSv17; have := unhide CSv18; have := unhide CSv19; have := unhide CSv20; have := unhide CSv21; omega))
    have RXv22 := hide ((unhide RXv21).ki kk (by have := unhide BL; have := unhide BR; have := unhide BM; have := unhide BW; have := unhide CSv7; have := unhide CSv8; have := unhide LTVA; have := unhide CSv9; have := unhide CSv10; have := unhide LTVB; have := unhide CSv11; have := unhide CSv12; have := unhide CSv13; have := unhide BND; have := unhide LTVL; have := unhide CSv14; have := unhide CSv15; have := unhide CSv16; have := unhide LTVY; have := unhide CSv17; have := unhide CSv18; have := unhide CSv19; have := unhide CSv20; have := unhide CSv21; omega))
    have FYv22 := hide ((unhide FYv21).ki kk (by have := unhide BL; have := unhide BR; have := unhide BM; have := unhide BW; have := unhide CSv7; have := unhide CSv8; have := unhide LTVA; have := unhide CSv9; have := unhide CSv10; have := unhide LTVB; have := unhide CSv11; have := unhide CSv12; have := unhide CSv13; have := unhide BND; have := unhide LTVL; have := unhide CSv14; have := unhide CSv15; have := unhide CSv16; have := unhide LTVY; have := unhide CSv17; have := unhide CSv18; have := unhide CSv19; have := unhide CSv20; have := unhide CSv21; omega))
    have VYv22 := hide ((unhide VYv21).ki kk (by have := unhide BL; have := unhide BR; have := unhide BM; have := unhide BW; have := unhide CSv7; have := unhide CSv8; have := unhide LTVA; have := unhide CSv9; have := unhide CSv10; have := unhide LTVB; have := unhide CSv11; have := unhide CSv12; have := unhide CSv13; have := unhide BND; have := unhide LTVL; have := unhide CSv14; have := unhide CSv15; have := unhide CSv16; have := unhide LTVY; have := unhide CSv17; have := unhide CSv18; have := unhide CSv19; have := unhide CSv20; have := unhide CSv21; omega))
    have RWv22 := hide ((unhide RWv21).ki kk (by have := unhide BL; have := unhide BR; have := unhide BM; have := unhide BW; have := unhide CSv7; have := unhide CSv8; have := unhide LTVA; have := unhide CSv9; have := unhide CSv10; have := unhide LTVB; have := unhide CSv11; have := unhide CSv12; have := unhide CSv13; have := unhide BND; have := unhide LTVL; have := unhide CSv14; have := unhide CSv15; have := unhide CSv16; have := unhide LTVY; have := unhide CSv17; have := unhide CSv18; have := unhide CSv19; have := unhide CSv20; have := unhide CSv21; omega))
    have Kv22 := hide (below_ki (unhide Kv21) kk (by have := (unhide Kv21).size; have := unhide BL; have := unhide BR; have := unhide BM; have := unhide BW; have := unhide CSv7; have := unhide CSv8; have := unhide LTVA; have := unhide CSv9; have := unhide CSv10; have := unhide LTVB; have := unhide CSv11; have := unhide CSv12; have := unhide CSv13; have := unhide BND; have := unhide LTVL; have := unhide CSv14; have := unhide CSv15; have := unhide CSv16; have := unhide LTVY; have := unhide CSv17; have := unhide CSv18; have := unhide CSv19; have := unhide CSv20; have := unhide CSv21; omega) (unhide Kv21).size)
    have Zv22 := hide (Nat.le_trans (unhide Zv21) kk.size)
    have CSv22 := hide kk.size
    clear kk LVv21 NMv21 MAv21 NWv21 VAv21 VBv21 RLv21 RDv21 VLv21 RXv21 FYv21 VYv21 RWv21 Kv21 Zv21
    go_wp2_with fail
    refine (scribble_any (Bd) (Ud) aod ld cd _ (unhide RDv22) (by have := unhide BL; have := unhide BR; have := unhide BM; have := unhide BW; have := unhide CSv7; have := unhide CSv8; have := unhide LTVA; have := unhide CSv9; have := unhide CSv10; have := unhide LTVB; have := unhide CSv11; have := unhide CSv12; have := unhide CSv13; have := unhide BND; have := unhide LTVL; have := unhide CSv14; have := unhide CSv15; have := unhide CSv16; have := unhide LTVY; have := unhide CSv17; have := unhide CSv18; have := unhide CSv19; have := unhide CSv20; have := unhide CSv21; have := unhide CSv22; omega)).mono ?_
    rintro e v23 ⟨rfl, kk⟩
    have LVv23 := hide ((unhide LVv22).ki kk (by have := unhide BL; have := unhide BR; have := unhide BM; have := unhide BW; have := unhide CSv7; have := unhide CSv8; have := unhide LTVA; have := unhide CSv9; have := unhide CSv10; have := unhide LTVB; have := unhide CSv11; have := unhide CSv12; have := unhide CSv13; have := unhide BND; have := unhide LTVL; have := unhide CSv14; have := unhide CSv15; have := unhide CSv16; have := unhide LTVY; have := unhide CSv17; have := unhide CSv18; have := unhide CSv19; have := unhide CSv20; have := unhide CSv21; have := unhide CSv22; omega))
    have NMv23 := hide ((unhide NMv22).ki kk (by have := unhide BL; have := unhide BR; have := unhide BM; have := unhide BW; have := unhide CSv7; have := unhide CSv8; have := unhide LTVA; have := unhide CSv9; have := unhide CSv10; have := unhide LTVB; have := unhide CSv11; have := unhide CSv12; have := unhide CSv13; have := unhide BND; have := unhide LTVL; have := unhide CSv14; have := unhide CSv15; have := unhide CSv16; have := unhide LTVY; have := unhide CSv17; have := unhide CSv18; have := unhide CSv19; have := unhide CSv20; have := unhide CSv21; have := unhide CSv22; omega))
    have MAv23 := hide ((unhide MAv22).ki kk (by have := unhide BL; have := unhide BR; have := unhide BM; have := unhide BW; have := unhide CSv7; have := unhide CSv8; have := unhide LTVA; have := unhide CSv9; have := unhide CSv10; have := unhide LTVB; have := unhide CSv11; have := unhide CSv12; have := unhide CSv13; have := unhide BND; have := unhide LTVL; have := unhide CSv14; have := unhide CSv15; have := unhide CSv16; have := unhide LTVY; have := unhide CSv17; have := unhide CSv18; have := unhide CSv19; have := unhide CSv20; have := unhide CSv21; have := unhide CSv22; omega))
    have NWv23 := hide ((unhide NWv22).ki kk (by have := unhide BL; have := unhide BR; have := unhide BM; have := unhide BW; have := unhide CSv7; have := unhide CSv8; have := unhide LTVA; have := unhide CSv9; have := unhide CSv10; have := unhide LTVB; have := unhide CSv11; have := unhide CSv12; have := unhide CSv13; have := unhide BND; have := unhide LTVL; have := unhide CSv14; have := unhide CSv15; have := unhide CSv16; have := unhide LTVY; have := unhide CSv17; have := unhide CSv18; have := unhide CSv19; have := unhide CSv20; have := unhide CSv21; have := unhide CSv22; omega))
    have VAv23 := hide ((unhide VAv22).ki kk (by have := unhide BL; have := unhide BR; have := unhide BM; have := unhide BW; have := unhide CSv7; have := unhide CSv8; have := unhide LTVA; have := unhide CSv9; have := unhide CSv10; have := unhide LTVB; have := unhide CSv11; have := unhide CSv12; have := unhide CSv13; have := unhide BND; have := unhide LTVL; have := unhide CSv14; have := unhide CSv15; have := unhide CSv16; have := unhide LTVY; have := unhide CSv17; have := unhide CSv18; have := unhide CSv19; have := unhide CSv20; have := unhide CSv21; have := unhide CSv22; omega))
    have VBv23 := hide ((unhide VBv22).ki kk (by have := unhide BL; have := unhide BR; have := unhide BM; have := unhide BW; have := unhide CSv7; have := unhide CSv8; have := unhide LTVA; have := unhide CSv9; have := unhide CSv10; have := unhide LTVB; have := unhide CSv11; have := unhide CSv12; have := unhide CSv13; have := unhide BND; have := unhide LTVL; have := unhide CSv14; have := unhide CSv15; have := unhide CSv16; have := unhide LTVY; have := unhide CSv17; have := unhide CSv18; have := unhide CSv19; have := unhide CSv20; have := unhide CSv21; have := unhide CSv22; omega))
    have VLv23 := hide ((unhide VLv22).ki kk (by have := unhide BL; have := unhide BR; have := unhide BM; have := unhide BW; have := unhide CSv7; have := unhide CSv8; have := unhide LTVA; have := unhide CSv9; have := unhide CSv10; have := unhide LTVB; have := unhide CSv11; have := unhide CSv12; have := unhide CSv13; have := unhide BND; have := unhide LTVL; have := unhide CSv14; have := unhide CSv15; have := unhide CSv16; have := unhide LTVY; have := unhide CSv17; have := unhide CSv18; have := unhide CSv19; have := unhide CSv20; have := unhide CSv21; have := unhide CSv22; omega))
    have RXv23 := hide ((unhide RXv22).ki kk (by have := unhide BL; have := unhide BR; have := unhide BM; have := unhide BW; have := unhide CSv7; have := unhide CSv8; have := unhide LTVA; have := unhide CSv9; have := unhide CSv10; have := unhide LTVB; have := unhide CSv11; have := unhide CSv12; have := unhide CSv13; have := unhide BND; have := unhide LTVL; have := unhide CSv14; have := unhide CSv15; have := unhide CSv16; have := unhide LTVY; have := unhide CSv17; have := unhide CSv18; have := unhide CSv19; have := unhide CSv20; have := unhide CSv21; have := unhide CSv22; omega))
    have FYv23 := hide ((unhide FYv22).ki kk (by have := unhide BL; have := unhide BR; have := unhide BM; have := unhide BW; have := unhide CSv7; have := unhide CSv8; have := unhide LTVA; have := unhide CSv9; have := unhide CSv10; have := unhide LTVB; have := unhide CSv11; have := unhide CSv12; have := unhide CSv13; have := unhide BND; have := unhide LTVL; have := unhide CSv14; have := unhide CSv15; have := unhide CSv16; have := unhide LTVY; have := unhide CSv17; have := unhide CSv18; have := unhide CSv19; have := unhide CSv20; have := unhide CSv21; have := unhide CSv22; omega))
    have VYv23 := hide ((unhide VYv22).ki kk (by have := unhide BL; have := unhide BR; have := unhide BM; have := unhide BW; have := unhide CSv7; have := unhide CSv8; have := unhide LTVA; have := unhide CSv9; have := unhide CSv10; have := unhide LTVB; have := unhide CSv11; have := unhide CSv12; have := unhide CSv13; have := unhide BND; have := unhide LTVL; have := unhide CSv14; have := unhide CSv15; have := unhide CSv16; have := unhide LTVY; have := unhide CSv17; have := unhide CSv18; have := unhide CSv19; have := unhide CSv20; have := unhide CSv21; have := unhide CSv22; omega))
    have RWv23 := hide ((unhide RWv22).ki kk (by have := unhide BL; have := unhide BR; have := unhide BM; have := unhide BW; have := unhide CSv7; have := unhide CSv8; have := unhide LTVA; have := unhide CSv9; have := unhide CSv10; have := unhide LTVB; have := unhide CSv11; have := unhide CSv12; have := unhide CSv13; have := unhide BND; have := unhide LTVL; have := unhide CSv14; have := unhide CSv15; have := unhide CSv16; have := unhide LTVY; have := unhide CSv17; have := unhide CSv18; have := unhide CSv19; have := unhide CSv20; have := unhide CSv21; have := unhide CSv22; omega))
    have Kv23 := hide (below_ki (unhide Kv22) kk (by have := (unhide Kv22).size; have := unhide BL; have := unhide BR; have := unhide BM; have := unhide BW; have := unhide CSv7; have := unhide CSv8; have := unhide LTVA; have := unhide CSv9; have := unhide CSv10; have := unhide LTVB; have := unhide CSv11; have := unhide CSv12; have := unhide CSv13; have := unhide BND; have := unhide LTVL; have := unhide CSv14; have := unhide CSv15; have := unhide CSv16; have := unhide LTVY; have := unhide CSv17; have := unhide CSv18; have := unhide CSv19; have := unhide CSv20; have := unhide CSv21; have := unhide CSv22; omega) (unhide Kv22).size)
    have Zv23 := hide (Nat.le_trans (unhide Zv22) kk.size)
    have CSv23 := hide kk.size
    clear kk LVv22 NMv22 MAv22 NWv22 VAv22 VBv22 RDv22 VLv22 RXv22 FYv22 VYv22 RWv22 Kv22 Zv22
    go_wp2_with fail
    refine (scribble_any (v14.heap.size) (v15.heap.size) aox lx cx _ (unhide RXv23) (by have := unhide BL; have := unhide BR; have := unhide BM; have := unhide BW; have := unhide CSv7; have := unhide CSv8; have := unhide LTVA; have := unhide CSv9; have := unhide CSv10; have := unhide LTVB; have := unhide CSv11; have := unhide CSv12; have := unhide CSv13; have := unhide BND; have := unhide LTVL; have := unhide CSv14; have := unhide CSv15; have := unhide CSv16; have := unhide LTVY; have := unhide CSv17; have := unhide CSv18; have := unhide CSv19; have := unhide CSv20; have := unhide CSv21; have := unhide CSv22; have := unhide CSv23; omega)).mono ?_
    rintro e v24 ⟨rfl, kk⟩
    have LVv24 := hide ((unhide LVv23).ki kk (by have := unhide BL; have := unhide BR; have := unhide BM; have := unhide BW; have := unhide CSv7; have := unhide CSv8; have := unhide LTVA; have := unhide CSv9; have := unhide CSv10; have := unhide LTVB; have := unhide CSv11; have := unhide CSv12; have := unhide CSv13; have := unhide BND; have := unhide LTVL; have := unhide CSv14; have := unhide CSv15; have := unhide CSv16; have := unhide LTVY; have := unhide CSv17; have := unhide CSv18; have := unhide CSv19; have := unhide CSv20; have := unhide CSv21; have := unhide CSv22; have := unhide CSv23; omega))
    have NMv24 := hide ((unhide NMv23).ki kk (by have := unhide BL; have := unhide BR; have := unhide BM; have := unhide BW; have := unhide CSv7; have := unhide CSv8; have := unhide LTVA; have := unhide CSv9; have := unhide CSv10; have := unhide LTVB; have := unhide CSv11; have := unhide CSv12; have := unhide CSv13; have := unhide BND; have := unhide LTVL; have := unhide CSv14; have := unhide CSv15; have := unhide CSv16; have := unhide LTVY; have := unhide CSv17; have := unhide CSv18; have := unhide CSv19; have := unhide CSv20; have := unhide CSv21; have := unhide CSv22; have := unhide CSv23; omega))
    have MAv24 := hide ((unhide MAv23).ki kk (by have := unhide BL; have := unhide BR; have := unhide BM; have := unhide BW; have := unhide CSv7; have := unhide CSv8; have := unhide LTVA; have := unhide CSv9; have := unhide CSv10; have := unhide LTVB; have := unhide CSv11; have := unhide CSv12; have := unhide CSv13; have := unhide BND; have := unhide LTVL; have := unhide CSv14; have := unhide CSv15; have := unhide CSv16; have := unhide LTVY; have := unhide CSv17; have := unhide CSv18; have := unhide CSv19; have := unhide CSv20; have := unhide CSv21; have := unhide CSv22; have := unhide CSv23; omega))
    have NWv24 := hide ((unhide NWv23).ki kk (by have := unhide BL; have := unhide BR; have := unhide BM; have := unhide BW; have := unhide CSv7; have := unhide CSv8; have := unhide LTVA; have := unhide CSv9; have := unhide CSv10; have := unhide LTVB; have := unhide CSv11; have := unhide CSv12; have := unhide CSv13; have := unhide BND; have := unhide LTVL; have := unhide CSv14; have := unhide CSv15; have := unhide CSv16; have := unhide LTVY; have := unhide CSv17; have := unhide CSv18; have := unhide CSv19; have := unhide CSv20; have := unhide CSv21; have := unhide CSv22; have := unhide CSv23; omega))
    have VAv24 := hide ((unhide VAv23).ki kk (by have := unhide BL; have := unhide BR; have := unhide BM; have := unhide BW; have := unhide CSv7; have := unhide CSv8; have := unhide LTVA; have := unhide CSv9; have := unhide CSv10; have := unhide LTVB; have := unhide CSv11; have := unhide CSv12; have := unhide CSv13; have := unhide BND; have := unhide LTVL; have := unhide CSv14; have := unhide CSv15; have := unhide CSv16; have := unhide LTVY; have := unhide CSv17; have := unhide CSv18; have := unhide CSv19; have := unhide CSv20; have := unhide CSv21; have := unhide CSv22; have := unhide CSv23; omega))
    have VBv24 := hide ((unhide VBv23).ki kk (by have := unhide BL; have := unhide BR; have := unhide BM; have := unhide BW; have := unhide CSv7; have := unhide CSv8; have := unhide LTVA; have := unhide CSv9; have := unhide CSv10; have := unhide LTVB; have := unhide CSv11; have := unhide CSv12; have := unhide CSv13; have := unhide BND; have := unhide LTVL; have := unhide CSv14; have := unhide CSv15; have := unhide CSv16; have := unhide LTVY; have := unhide CSv17; have := unhide CSv18; have := unhide CSv19; have := unhide CSv20; have := unhide CSv21; have := unhide CSv22; have := unhide CSv23; omega))
    have VLv24 := hide ((unhide VLv23).ki kk (by have := unhide BL; have := unhide BR; have := unhide BM; have := unhide BW; have := unhide CSv7; have := unhide CSv8; have := unhide LTVA; have := unhide CSv9; have := unhide CSv10; have := unhide LTVB; have := unhide CSv11; have := unhide CSv12; have := unhide CSv13; have := unhide BND; have := unhide LTVL; have := unhide CSv14; have := unhide CSv15; have := unhide CSv16; have := unhide LTVY; have := unhide CSv17; have := unhide CSv18; have := unhide CSv19; have := unhide CSv20; have := unhide CSv21; have := unhide CSv22; have := unhide CSv23; omega))
    have FYv24 := hide ((unhide FYv23).ki kk (by have := unhide BL; have := unhide BR; have := unhide BM; have := unhide BW; have := unhide CSv7; have := unhide CSv8; have := unhide LTVA; have := unhide CSv9; have := unhide CSv10; have := unhide LTVB; have := unhide CSv11; have := unhide CSv12; have := unhide CSv13; have := unhide BND; have := unhide LTVL; have := unhide CSv14; have := unhide CSv15; have := unhide CSv16; have := unhide LTVY; have := unhide CSv17; have := unhide CSv18; have := unhide CSv19; have := unhide CSv20; have := unhide CSv21; have := unhide CSv22; have := unhide CSv23; omega))
    have VYv24 := hide ((unhide VYv23).ki kk (by have := unhide BL; have := unhide BR; have := unhide BM; have := unhide BW; have := unhide CSv7; have := unhide CSv8; have := unhide LTVA; have := unhide CSv9; have := unhide CSv10; have := unhide LTVB; have := unhide CSv11; have := unhide CSv12; have := unhide CSv13; have := unhide BND; have := unhide LTVL; have := unhide CSv14; have := unhide CSv15; have := unhide CSv16; have := unhide LTVY; have := unhide CSv17; have := unhide CSv18; have := unhide CSv19; have := unhide CSv20; have := unhide CSv21; have := unhide CSv22; have := unhide CSv23; omega))
    have RWv24 := hide ((unhide RWv23).ki kk (by have := unhide BL; have := unhide BR; have := unhide BM; have := unhide BW; have := unhide CSv7; have := unhide CSv8; have := unhide LTVA; have := unhide CSv9; have := unhide CSv10; have := unhide LTVB; have := unhide CSv11; have := unhide CSv12; have := unhide CSv13; have := unhide BND; have := unhide LTVL; have := unhide CSv14; have := unhide CSv15; have := unhide CSv16; have := unhide LTVY; have := unhide CSv17; have := unhide CSv18; have := unhide CSv19; have := unhide CSv20; have := unhide CSv21; have := unhide CSv22; have := unhide CSv23; omega))
    have Kv24 := hide (below_ki (unhide Kv23) kk (by have := (unhide Kv23).size; have := unhide BL; have := unhide BR; have := unhide BM; have := unhide BW; have := unhide CSv7; have := unhide CSv8; have := unhide LTVA; have := unhide CSv9; have := unhide CSv10; have := unhide LTVB; have := unhide CSv11; have := unhide CSv12; have := unhide CSv13; have := unhide BND; have := unhide LTVL; have := unhide CSv14; have := unhide CSv15; have := unhide CSv16; have := unhide LTVY; have := unhide CSv17; have := unhide CSv18; have := unhide CSv19; have := unhide CSv20; have := unhide CSv21; have := unhide CSv22; have := unhide CSv23; omega) (unhide Kv23).size)
    have Zv24 := hide (Nat.le_trans (unhide Zv23) kk.size)
    have CSv24 := hide kk.size
    clear kk LVv23 NMv23 MAv23 NWv23 VAv23 VBv23 VLv23 RXv23 FYv23 VYv23 RWv23 Kv23 Zv23
    go_wp2_with fail
    refine (stands_any _).mono ?_
    rintro e v25 ⟨rfl, kk⟩
    have LVv25 := hide ((unhide LVv24).below kk)
    have NMv25 := hide ((unhide NMv24).below kk)
    have MAv25 := hide ((unhide MAv24).below kk)
    have NWv25 := hide ((unhide NWv24).below kk)
    have VAv25 := hide ((unhide VAv24).below kk)
    have VBv25 := hide ((unhide VBv24).below kk)
    have VLv25 := hide ((unhide VLv24).below kk)
    have FYv25 := hide ((unhide FYv24).below kk)
    have VYv25 := hide ((unhide VYv24).below kk)
    have RWv25 := hide ((unhide RWv24).below kk)
    have Kv25 := hide ((unhide Kv24).trans (Below.le kk (unhide Kv24).size))
    have Zv25 := hide (Nat.le_trans (unhide Zv24) kk.size)
    have CSv25 := hide kk.size
    clear kk LVv24 NMv24 MAv24 NWv24 VAv24 VBv24 VLv24 FYv24 VYv24 RWv24 Kv24 Zv24
    have LVx := (unhide LVv25).cell0; have LVy := (unhide LVv25).cell1; have LVl := (unhide LVv25).lt
    have MAx := (unhide MAv25).cell0; have MAy := (unhide MAv25).cell1; have MAl := (unhide MAv25).lt
    have VYx := (unhide VYv25).cell0; have VYy := (unhide VYv25).cell1; have VYl := (unhide VYv25).lt
    go_wp2_with fail
    clear LVx LVy LVl MAx MAy MAl VYx VYy VYl
    refine (stayed_any _ len _ _ f _ (unhide hl) (unhide NMv25) ((unhide AA).rds.below (unhide Kv25))).mono ?_
    rintro e v26 ⟨rfl, kk⟩
    have LVv26 := hide ((unhide LVv25).below kk)
    have NMv26 := hide ((unhide NMv25).below kk)
    have MAv26 := hide ((unhide MAv25).below kk)
    have NWv26 := hide ((unhide NWv25).below kk)
    have VAv26 := hide ((unhide VAv25).below kk)
    have VBv26 := hide ((unhide VBv25).below kk)
    have VLv26 := hide ((unhide VLv25).below kk)
    have FYv26 := hide ((unhide FYv25).below kk)
    have VYv26 := hide ((unhide VYv25).below kk)
    have RWv26 := hide ((unhide RWv25).below kk)
    have Kv26 := hide ((unhide Kv25).trans (Below.le kk (unhide Kv25).size))
    have Zv26 := hide (Nat.le_trans (unhide Zv25) kk.size)
    have CSv26 := hide kk.size
    clear kk LVv25 NMv25 MAv25 NWv25 VAv25 VBv25 VLv25 FYv25 VYv25 RWv25 Kv25 Zv25
    have LVx := (unhide LVv26).cell0; have LVy := (unhide LVv26).cell1; have LVl := (unhide LVv26).lt
    have MAx := (unhide MAv26).cell0; have MAy := (unhide MAv26).cell1; have MAl := (unhide MAv26).lt
    have VYx := (unhide VYv26).cell0; have VYy := (unhide VYv26).cell1; have VYl := (unhide VYv26).lt
    go_wp2_with fail
    clear LVx LVy LVl MAx MAy MAl VYx VYy VYl
    refine (stayed_any _ lv _ _ v _ (unhide hlv) (unhide NWv26) ((unhide AB).rds.below (unhide Kv26))).mono ?_
    rintro e v27 ⟨rfl, kk⟩
    have LVv27 := hide ((unhide LVv26).below kk)
    have NMv27 := hide ((unhide NMv26).below kk)
    have MAv27 := hide ((unhide MAv26).below kk)
    have NWv27 := hide ((unhide NWv26).below kk)
    have VAv27 := hide ((unhide VAv26).below kk)
    have VBv27 := hide ((unhide VBv26).below kk)
    have VLv27 := hide ((unhide VLv26).below kk)
    have FYv27 := hide ((unhide FYv26).below kk)
    have VYv27 := hide ((unhide VYv26).below kk)
    have RWv27 := hide ((unhide RWv26).below kk)
    have Kv27 := hide ((unhide Kv26).trans (Below.le kk (unhide Kv26).size))
    have Zv27 := hide (Nat.le_trans (unhide Zv26) kk.size)
    have CSv27 := hide kk.size
    clear kk LVv26 NMv26 MAv26 NWv26 VAv26 VBv26 VLv26 FYv26 VYv26 RWv26 Kv26 Zv26
    have LVx := (unhide LVv27).cell0; have LVy := (unhide LVv27).cell1; have LVl := (unhide LVv27).lt
    have MAx := (unhide MAv27).cell0; have MAy := (unhide MAv27).cell1; have MAl := (unhide MAv27).lt
    have VYx := (unhide VYv27).cell0; have VYy := (unhide VYv27).cell1; have VYl := (unhide VYv27).lt
    go_wp2_with fail
    clear LVx LVy LVl MAx MAy MAl VYx VYy VYl
    refine (sameB_yes _ _ ly _ _ FY FY _ (by have := (unhide FYv27).len; omega) (unhide FYv27).rds (unhide RWv27).rds (fun _ _ => rfl)).mono ?_
    rintro e v28 ⟨rfl, kk⟩
    have LVv28 := hide ((unhide LVv27).below kk)
    have NMv28 := hide ((unhide NMv27).below kk)
    have MAv28 := hide ((unhide MAv27).below kk)
    have NWv28 := hide ((unhide NWv27).below kk)
    have VAv28 := hide ((unhide VAv27).below kk)
    have VBv28 := hide ((unhide VBv27).below kk)
    have VLv28 := hide ((unhide VLv27).below kk)
    have FYv28 := hide ((unhide FYv27).below kk)
    have VYv28 := hide ((unhide VYv27).below kk)
    have RWv28 := hide ((unhide RWv27).below kk)
    have Kv28 := hide ((unhide Kv27).trans (Below.le kk (unhide Kv27).size))
    have Zv28 := hide (Nat.le_trans (unhide Zv27) kk.size)
    have CSv28 := hide kk.size
    clear kk LVv27 NMv27 MAv27 NWv27 VAv27 VBv27 VLv27 FYv27 VYv27 RWv27 Kv27 Zv27
    go_wp2_with fail
    go_ret
    exact ⟨rfl, (unhide Kv28)⟩

end Go.Proofs.Ytnfejfdekedmhab
