/- Walk of the statement FilterCut (big lists). -/
import Derived.Test.YtblglojbghmphabFilSpot
import Derived.Test.YtblglojbghmphabFilEql
import Derived.Test.YtblglojbghmphabFilRun
import Derived.Test.YtblglojbghmphabRowCut
import Derived.Test.YtblglojbghmphabFork
import Derived.Deep.DeepCutAuto
namespace Go.Proofs.Ytblglojbghmphab
open Go.RowKit

set_option maxHeartbeats 16000000 in
set_option maxRecDepth 20000 in
theorem filterCut_big {w : World} (s : St) (t : Tn) (ao : Option Addr) (len cap : Nat) (f : Nat → Int) (k0 : Int) (hs : s.Ok) (ht : t.Ok) (ar : ArgS w ao len cap f) (rc : len ≤ cap) (_hk : R64 k0) (hb : 300 < len) : Calls Try.prog 3 #[stV s, tnV t, .slice ao len cap, .int .i64 k0] w fun e w' => e = .returned (.bool true) ∧ Below w.heap.size w w' := by
  have Rs := hide hs; have Rt := hide ht; have RF := hide ar.2.2
  obtain ⟨v0, ee, d0, k0'⟩ := st_start w s t
  have E0 := hide ee; have Kv0 := hide k0'; have Dv0 := hide d0
  clear ee d0 k0' hs ht _hk
  · have AR0 := hide (ar.head (show 300 ≤ len by omega))
    have hc : 300 ≤ cap := by omega
    clear ar rc
    go_enter Try.func3, Try.ntmps3
    go_wp2_with fail
    rw [← unhide E0]
    refine (spotN_any k0 301 (by omega) (by omega) _).mono ?_
    rintro e v1 ⟨j, hj0, rfl, rfl⟩
    have hj : j ≤ 300 := by omega
    have hjc : j ≤ cap := by omega
    have hj2 : (j : Int) ≤ 300 := by omega
    have hj3 : (j : Int) ≤ (cap : Int) := by omega
    clear hj0
    obtain ⟨cu, ecu⟩ : ∃ cu, cu = cutA ao cap j := ⟨_, rfl⟩
    have ECU := hide ecu
    have ART := hide (show ArgS w cu (300 - j) (cap - j) (fun i => f (j + i)) by rw [ecu]; exact (unhide AR0).tail hj hc)
    clear ecu
    obtain ⟨pa, e1⟩ : ∃ p, p = runS s t f 300 := ⟨_, rfl⟩
    obtain ⟨na, e2⟩ : ∃ n : Nat, n = runN s t f 300 := ⟨_, rfl⟩
    have EA := hide e1; have EAn := hide e2
    clear e1 e2
    obtain ⟨pb, e1⟩ : ∃ p, p = runS s t f j := ⟨_, rfl⟩
    obtain ⟨nb, e2⟩ : ∃ n : Nat, n = runN s t f j := ⟨_, rfl⟩
    have EB := hide e1; have EBn := hide e2
    clear e1 e2
    obtain ⟨pc, e1⟩ : ∃ p, p = runS pb t (fun i => f (j + i)) (300 - j) := ⟨_, rfl⟩
    obtain ⟨nc, e2⟩ : ∃ n : Nat, n = runN pb t (fun i => f (j + i)) (300 - j) := ⟨_, rfl⟩
    have EC := hide e1; have ECn := hide e2
    clear e1 e2
    have OB := hide (show pb.Ok by rw [unhide EB]; exact runS_ok (unhide Rs) _ _ _)
    have ac : pa = pc := by rw [unhide EA, unhide EC, unhide EB, ← runS_cut]; congr 1; omega
    have nn : na = nb + nc := by rw [unhide EAn, unhide ECn, unhide EBn, unhide EB, ← runN_cut]; congr 1; omega
    have nl : na ≤ 300 := by rw [unhide EAn]; exact runN_le _ _ _ _
    subst ac
    have NN := hide nn; have NLE := hide nl
    clear nn nl
    go_upto_region 4 with fail
    go_cut [9, 10] (fun s9 s10 wx => ∃ LA : Nat, s9 = .pointer (some ⟨LA, 0, none⟩) ∧ s10 = .int .i64 (na : Int) ∧ SAt wx LA pa ∧ ST w.heap.size (w.heap.size + 1) s t wx ∧ Below w.heap.size w wx)
    case first =>
      refine region_plan (S := ST w.heap.size (w.heap.size + 1) s t) (.rd 0 (.rd 1 (.rd 2 (.two 3 8 (.two 4 8 (.rd 5 (.rd 6 (.rd 7 (.go 8 (.go 9 (.go 10 .fin)))))) (.go 4 (.rd 5 (.rd 6 (.rd 7 (.go 9 (.go 10 .fin))))))) (.go 3 (.go 4 (.rd 5 (.rd 6 (.rd 7 (.go 9 (.go 10 .fin))))))))))) [] (by kernel_rfl) (by kernel_rfl) ?_
      have Du0 := hide (unhide Dv0).drew; have Ku0 := hide (below_drew (unhide Kv0))
      clear Dv0 Kv0
      generalize v1.drew = u0 at *
      iterate 3
        refine plan_read (v := ?_) rfl (fun _ _ _ h => h) (by rfl) (unhide Du0) ?_ ?_
        rotate_left 1
        · intro wx hwx
          have q0 := hwx.tn.c0; have q1 := hwx.tn.c1; have q2 := hwx.tn.c2; have q3 := hwx.tn.c3
          have c0 := hwx.st.c0; have c1 := hwx.st.c1; have c2 := hwx.st.c2; have c3 := hwx.st.c3; have c4 := hwx.st.c4; have c5 := hwx.st.c5; have c6 := hwx.st.c6
          clear hwx
          go_simp <;> exact rfl
        go_frame
      refine plan_two rfl rfl (fun K hK => ?_) (fun K hK => ?_)
      · rw [if_pos (by rfl)]
        refine wp_clone _ (.const (.slice none 0 0)) (.tmp 28) rfl rfl ao 300 cap f rfl ((unhide AR0).below (unhide Ku0)) ?_
        intro aoR capR v11 hrd kk
        have RDv11 := hide hrd
        clear hrd
        have Dv11 := hide ((unhide Du0).below kk)
        have Kv11 := hide ((unhide Ku0).trans (kk.mono (unhide Ku0).size))
        clear kk Du0 Ku0
        refine hK _ _ (fun _ => (unhide Dv11)) ?_
        clear hK K
        refine plan_two rfl rfl (fun K hK => ?_) (fun K hK => ?_)
        · go_simp
          refine (run_any s t _ 300 _ f _ (unhide Rs) (unhide Rt) (unhide RF) (by omega) (unhide RDv11)).mono ?_
          rintro e v12 ⟨rfl, kk⟩
          rw [← unhide EA, ← unhide EAn]
          have Dv12 := hide ((unhide Dv11).below kk)
          have RDv12 := hide ((unhide RDv11).below kk)
          have Kv12 := hide ((unhide Kv11).trans (kk.mono (unhide Kv11).size))
          clear kk Dv11 RDv11 Kv11
          refine hK _ _ (fun _ => (unhide Dv12)) ?_
          clear hK K
          iterate 3
            refine plan_read (v := ?_) rfl (fun _ _ _ h => h) (by rfl) (unhide Dv12) ?_ ?_
            rotate_left 1
            · intro wx hwx
              clear hwx
              go_simp <;> exact rfl
            go_frame
          refine plan_do rfl (fun K hK => ?_)
          go_simp
          obtain ⟨v13, ee, hh, kk, zz⟩ := one_state v12 St.nil
          rw [show (v12.alloc (.cells #[.int .i64 0, .int .i64 0, .int .i64 0, .int .i64 0, .int .i64 0, .bool false, .int .i64 0] 23)) = v13 from ee.symm]
          have LVv13 := hide hh
          have ND := hide (show w.heap.size + 1 < v12.heap.size from (unhide Dv12).tn.lt)
          have NK := hide (unhide Kv12).size
          clear ee hh zz
          have Dv13 := hide ((unhide Dv12).below kk)
          have Kv13 := hide ((unhide Kv12).trans (kk.mono (unhide Kv12).size))
          clear kk Dv12 Kv12
          refine hK _ _ (fun _ => (unhide Dv13)) ?_
          clear hK K
          generalize eL : v12.heap.size = LA at *
          clear eL
          refine plan_do rfl (fun K hK => ?_)
          have z0 := (unhide LVv13).c0; have f0 := (unhide LVv13).free 0; have z1 := (unhide LVv13).c1; have f1 := (unhide LVv13).free 1; have z2 := (unhide LVv13).c2; have f2 := (unhide LVv13).free 2; have z3 := (unhide LVv13).c3; have f3 := (unhide LVv13).free 3; have z4 := (unhide LVv13).c4; have f4 := (unhide LVv13).free 4; have z5 := (unhide LVv13).c5; have f5 := (unhide LVv13).free 5; have z6 := (unhide LVv13).c6; have f6 := (unhide LVv13).free 6
          go_simp
          obtain ⟨v14, ee, hh, kk⟩ := (unhide LVv13).put pa
          rw [← ee]
          clear ee z0 f0 z1 f1 z2 f2 z3 f3 z4 f4 z5 f5 z6 f6
          have LVv14 := hide hh
          have Dv14 := hide ((unhide Dv13).kept kk (by have := unhide ND; omega) (by have := unhide ND; omega))
          have Kv14 := hide (below_of_kept (unhide Kv13) kk (unhide NK) (unhide Kv13).size)
          clear hh kk
          refine hK _ _ (fun _ => (unhide Dv14)) ?_
          clear hK K
          refine plan_do rfl (fun K hK => ?_)
          go_simp
          refine hK _ _ (fun _ => (unhide Dv14)) ?_
          clear hK K
          refine plan_end ?_
          go_wp2_with fail
          go_meet
          exact ⟨LA, rfl, rfl, (unhide LVv14), (unhide Dv14), (unhide Kv14)⟩
        · go_simp
          obtain ⟨v15, ee, hh, kk, zz⟩ := one_state v11 St.nil
          rw [show (v11.alloc (.cells #[.int .i64 0, .int .i64 0, .int .i64 0, .int .i64 0, .int .i64 0, .bool false, .int .i64 0] 23)) = v15 from ee.symm]
          have LVv15 := hide hh
          have ND := hide (show w.heap.size + 1 < v11.heap.size from (unhide Dv11).tn.lt)
          have NK := hide (unhide Kv11).size
          clear ee hh zz
          have Dv15 := hide ((unhide Dv11).below kk)
          have RDv15 := hide ((unhide RDv11).below kk)
          have Kv15 := hide ((unhide Kv11).trans (kk.mono (unhide Kv11).size))
          clear kk Dv11 RDv11 Kv11
          refine hK _ _ (fun _ => (unhide Dv15)) ?_
          clear hK K
          generalize eL : v11.heap.size = LA at *
          clear eL
          refine plan_do rfl (fun K hK => ?_)
          go_simp
          refine (run_any s t _ 300 _ f _ (unhide Rs) (unhide Rt) (unhide RF) (by omega) (unhide RDv15)).mono ?_
          rintro e v16 ⟨rfl, kk⟩
          rw [← unhide EA, ← unhide EAn]
          have Dv16 := hide ((unhide Dv15).below kk)
          have RDv16 := hide ((unhide RDv15).below kk)
          have LVv16 := hide ((unhide LVv15).below kk)
          have Kv16 := hide ((unhide Kv15).trans (kk.mono (unhide Kv15).size))
          clear kk Dv15 RDv15 LVv15 Kv15
          refine hK _ _ (fun _ => (unhide Dv16)) ?_
          clear hK K
          iterate 3
            refine plan_read (v := ?_) rfl (fun _ _ _ h => h) (by rfl) (unhide Dv16) ?_ ?_
            rotate_left 1
            · intro wx hwx
              clear hwx
              go_simp <;> exact rfl
            go_frame
          refine plan_do rfl (fun K hK => ?_)
          have z0 := (unhide LVv16).c0; have f0 := (unhide LVv16).free 0; have z1 := (unhide LVv16).c1; have f1 := (unhide LVv16).free 1; have z2 := (unhide LVv16).c2; have f2 := (unhide LVv16).free 2; have z3 := (unhide LVv16).c3; have f3 := (unhide LVv16).free 3; have z4 := (unhide LVv16).c4; have f4 := (unhide LVv16).free 4; have z5 := (unhide LVv16).c5; have f5 := (unhide LVv16).free 5; have z6 := (unhide LVv16).c6; have f6 := (unhide LVv16).free 6
          go_simp
          obtain ⟨v17, ee, hh, kk⟩ := (unhide LVv16).put pa
          rw [← ee]
          clear ee z0 f0 z1 f1 z2 f2 z3 f3 z4 f4 z5 f5 z6 f6
          have LVv17 := hide hh
          have Dv17 := hide ((unhide Dv16).kept kk (by have := unhide ND; omega) (by have := unhide ND; omega))
          have Kv17 := hide (below_of_kept (unhide Kv16) kk (unhide NK) (unhide Kv16).size)
          clear hh kk
          refine hK _ _ (fun _ => (unhide Dv17)) ?_
          clear hK K
          refine plan_do rfl (fun K hK => ?_)
          go_simp
          refine hK _ _ (fun _ => (unhide Dv17)) ?_
          clear hK K
          refine plan_end ?_
          go_wp2_with fail
          go_meet
          exact ⟨LA, rfl, rfl, (unhide LVv17), (unhide Dv17), (unhide Kv17)⟩
      · go_simp
        obtain ⟨v18, ee, hh, kk, zz⟩ := one_state u0 St.nil
        rw [show (u0.alloc (.cells #[.int .i64 0, .int .i64 0, .int .i64 0, .int .i64 0, .int .i64 0, .bool false, .int .i64 0] 23)) = v18 from ee.symm]
        have LVv18 := hide hh
        have ND := hide (show w.heap.size + 1 < u0.heap.size from (unhide Du0).tn.lt)
        have NK := hide (unhide Ku0).size
        clear ee hh zz
        have Dv18 := hide ((unhide Du0).below kk)
        have Kv18 := hide ((unhide Ku0).trans (kk.mono (unhide Ku0).size))
        clear kk Du0 Ku0
        refine hK _ _ (fun _ => (unhide Dv18)) ?_
        clear hK K
        generalize eL : u0.heap.size = LA at *
        clear eL
        refine plan_do rfl (fun K hK => ?_)
        rw [if_pos (by rfl)]
        refine wp_clone _ (.const (.slice none 0 0)) (.tmp 28) rfl rfl ao 300 cap f rfl ((unhide AR0).below (unhide Kv18)) ?_
        intro aoR capR v19 hrd kk
        have RDv19 := hide hrd
        clear hrd
        have Dv19 := hide ((unhide Dv18).below kk)
        have LVv19 := hide ((unhide LVv18).below kk)
        have Kv19 := hide ((unhide Kv18).trans (kk.mono (unhide Kv18).size))
        clear kk Dv18 LVv18 Kv18
        refine hK _ _ (fun _ => (unhide Dv19)) ?_
        clear hK K
        refine plan_do rfl (fun K hK => ?_)
        go_simp
        refine (run_any s t _ 300 _ f _ (unhide Rs) (unhide Rt) (unhide RF) (by omega) (unhide RDv19)).mono ?_
        rintro e v20 ⟨rfl, kk⟩
        rw [← unhide EA, ← unhide EAn]
        have Dv20 := hide ((unhide Dv19).below kk)
        have LVv20 := hide ((unhide LVv19).below kk)
        have RDv20 := hide ((unhide RDv19).below kk)
        have Kv20 := hide ((unhide Kv19).trans (kk.mono (unhide Kv19).size))
        clear kk Dv19 LVv19 RDv19 Kv19
        refine hK _ _ (fun _ => (unhide Dv20)) ?_
        clear hK K
        iterate 3
          refine plan_read (v := ?_) rfl (fun _ _ _ h => h) (by rfl) (unhide Dv20) ?_ ?_
          rotate_left 1
          · intro wx hwx
            clear hwx
            go_simp <;> exact rfl
          go_frame
        refine plan_do rfl (fun K hK => ?_)
        have z0 := (unhide LVv20).c0; have f0 := (unhide LVv20).free 0; have z1 := (unhide LVv20).c1; have f1 := (unhide LVv20).free 1; have z2 := (unhide LVv20).c2; have f2 := (unhide LVv20).free 2; have z3 := (unhide LVv20).c3; have f3 := (unhide LVv20).free 3; have z4 := (unhide LVv20).c4; have f4 := (unhide LVv20).free 4; have z5 := (unhide LVv20).c5; have f5 := (unhide LVv20).free 5; have z6 := (unhide LVv20).c6; have f6 := (unhide LVv20).free 6
        go_simp
        obtain ⟨v21, ee, hh, kk⟩ := (unhide LVv20).put pa
        rw [← ee]
        clear ee z0 f0 z1 f1 z2 f2 z3 f3 z4 f4 z5 f5 z6 f6
        have LVv21 := hide hh
        have Dv21 := hide ((unhide Dv20).kept kk (by have := unhide ND; omega) (by have := unhide ND; omega))
        have Kv21 := hide (below_of_kept (unhide Kv20) kk (unhide NK) (unhide Kv20).size)
        clear hh kk
        refine hK _ _ (fun _ => (unhide Dv21)) ?_
        clear hK K
        refine plan_do rfl (fun K hK => ?_)
        go_simp
        refine hK _ _ (fun _ => (unhide Dv21)) ?_
        clear hK K
        refine plan_end ?_
        go_wp2_with fail
        go_meet
        exact ⟨LA, rfl, rfl, (unhide LVv21), (unhide Dv21), (unhide Kv21)⟩
    case rest =>
      obtain ⟨LA, rfl, rfl, lvv, dd, kc⟩ := hcut
      have Awc := hide lvv; have Dwc := hide dd; have Kwc := hide kc
      clear lvv dd kc Dv0 Kv0
      go_upto_region 5 with fail
      go_cut [11, 12] (fun s11 s12 wx => ∃ LB : Nat, s11 = .pointer (some ⟨LB, 0, none⟩) ∧ s12 = .int .i64 (nb : Int) ∧ SAt wx LB pb ∧ ST w.heap.size (w.heap.size + 1) s t wx ∧ SAt wx LA pa ∧ Below w.heap.size w wx)
      case first =>
        refine region_plan (S := ST w.heap.size (w.heap.size + 1) s t) (.rd 0 (.rd 1 (.rd 2 (.rd 3 (.rd 4 (.two 5 10 (.two 6 10 (.rd 7 (.rd 8 (.rd 9 (.go 10 (.go 11 (.go 12 .fin)))))) (.go 6 (.rd 7 (.rd 8 (.rd 9 (.go 11 (.go 12 .fin))))))) (.go 5 (.go 6 (.rd 7 (.rd 8 (.rd 9 (.go 11 (.go 12 .fin))))))))))))) [] (by kernel_rfl) (by kernel_rfl) ?_
        have Du1 := hide (unhide Dwc).drew; have Au1 := hide (unhide Awc).drew; have Ku1 := hide (below_drew (unhide Kwc))
        clear Dwc Awc Kwc
        generalize wc.drew = u1 at *
        iterate 5
          refine plan_read (v := ?_) rfl (fun _ _ _ h => h) (by rfl) (unhide Du1) ?_ ?_
          rotate_left 1
          · intro wx hwx
            have q0 := hwx.tn.c0; have q1 := hwx.tn.c1; have q2 := hwx.tn.c2; have q3 := hwx.tn.c3
            have c0 := hwx.st.c0; have c1 := hwx.st.c1; have c2 := hwx.st.c2; have c3 := hwx.st.c3; have c4 := hwx.st.c4; have c5 := hwx.st.c5; have c6 := hwx.st.c6
            clear hwx
            go_simp <;> exact rfl
          go_frame
        refine plan_two rfl rfl (fun K hK => ?_) (fun K hK => ?_)
        · rw [if_pos (by rfl)]
          refine wp_clone _ (.const (.slice none 0 0)) (.tmp 38) rfl rfl ao j cap f rfl (((unhide AR0).head hj).below (unhide Ku1)) ?_
          intro aoR capR v41 hrd kk
          have RDv41 := hide hrd
          clear hrd
          have Dv41 := hide ((unhide Du1).below kk)
          have Av41 := hide ((unhide Au1).below kk)
          have Kv41 := hide ((unhide Ku1).trans (kk.mono (unhide Ku1).size))
          clear kk Du1 Au1 Ku1
          refine hK _ _ (fun _ => (unhide Dv41)) ?_
          clear hK K
          refine plan_two rfl rfl (fun K hK => ?_) (fun K hK => ?_)
          · go_simp
            refine (run_any s t _ j _ f _ (unhide Rs) (unhide Rt) (unhide RF) (by omega) (unhide RDv41)).mono ?_
            rintro e v42 ⟨rfl, kk⟩
            rw [← unhide EB, ← unhide EBn]
            have Dv42 := hide ((unhide Dv41).below kk)
            have Av42 := hide ((unhide Av41).below kk)
            have RDv42 := hide ((unhide RDv41).below kk)
            have Kv42 := hide ((unhide Kv41).trans (kk.mono (unhide Kv41).size))
            clear kk Dv41 Av41 RDv41 Kv41
            refine hK _ _ (fun _ => (unhide Dv42)) ?_
            clear hK K
            iterate 3
              refine plan_read (v := ?_) rfl (fun _ _ _ h => h) (by rfl) (unhide Dv42) ?_ ?_
              rotate_left 1
              · intro wx hwx
                clear hwx
                go_simp <;> exact rfl
              go_frame
            refine plan_do rfl (fun K hK => ?_)
            go_simp
            obtain ⟨v43, ee, hh, kk, zz⟩ := one_state v42 St.nil
            rw [show (v42.alloc (.cells #[.int .i64 0, .int .i64 0, .int .i64 0, .int .i64 0, .int .i64 0, .bool false, .int .i64 0] 23)) = v43 from ee.symm]
            have LVv43 := hide hh
            have ND := hide (show w.heap.size + 1 < v42.heap.size from (unhide Dv42).tn.lt)
            have NA := hide ((unhide Av42).lt)
            have NK := hide (unhide Kv42).size
            clear ee hh zz
            have Dv43 := hide ((unhide Dv42).below kk)
            have Av43 := hide ((unhide Av42).below kk)
            have Kv43 := hide ((unhide Kv42).trans (kk.mono (unhide Kv42).size))
            clear kk Dv42 Av42 Kv42
            refine hK _ _ (fun _ => (unhide Dv43)) ?_
            clear hK K
            generalize eL : v42.heap.size = LB at *
            clear eL
            refine plan_do rfl (fun K hK => ?_)
            have z0 := (unhide LVv43).c0; have f0 := (unhide LVv43).free 0; have z1 := (unhide LVv43).c1; have f1 := (unhide LVv43).free 1; have z2 := (unhide LVv43).c2; have f2 := (unhide LVv43).free 2; have z3 := (unhide LVv43).c3; have f3 := (unhide LVv43).free 3; have z4 := (unhide LVv43).c4; have f4 := (unhide LVv43).free 4; have z5 := (unhide LVv43).c5; have f5 := (unhide LVv43).free 5; have z6 := (unhide LVv43).c6; have f6 := (unhide LVv43).free 6
            go_simp
            obtain ⟨v44, ee, hh, kk⟩ := (unhide LVv43).put pb
            rw [← ee]
            clear ee z0 f0 z1 f1 z2 f2 z3 f3 z4 f4 z5 f5 z6 f6
            have LVv44 := hide hh
            have Dv44 := hide ((unhide Dv43).kept kk (by have := unhide ND; omega) (by have := unhide ND; omega))
            have Av44 := hide ((unhide Av43).kept kk (Nat.ne_of_lt (unhide NA)))
            have Kv44 := hide (below_of_kept (unhide Kv43) kk (unhide NK) (unhide Kv43).size)
            clear hh kk
            refine hK _ _ (fun _ => (unhide Dv44)) ?_
            clear hK K
            refine plan_do rfl (fun K hK => ?_)
            go_simp
            refine hK _ _ (fun _ => (unhide Dv44)) ?_
            clear hK K
            refine plan_end ?_
            go_wp2_with fail
            go_meet
            exact ⟨LB, rfl, rfl, (unhide LVv44), (unhide Dv44), (unhide Av44), (unhide Kv44)⟩
          · go_simp
            obtain ⟨v45, ee, hh, kk, zz⟩ := one_state v41 St.nil
            rw [show (v41.alloc (.cells #[.int .i64 0, .int .i64 0, .int .i64 0, .int .i64 0, .int .i64 0, .bool false, .int .i64 0] 23)) = v45 from ee.symm]
            have LVv45 := hide hh
            have ND := hide (show w.heap.size + 1 < v41.heap.size from (unhide Dv41).tn.lt)
            have NA := hide ((unhide Av41).lt)
            have NK := hide (unhide Kv41).size
            clear ee hh zz
            have Dv45 := hide ((unhide Dv41).below kk)
            have Av45 := hide ((unhide Av41).below kk)
            have RDv45 := hide ((unhide RDv41).below kk)
            have Kv45 := hide ((unhide Kv41).trans (kk.mono (unhide Kv41).size))
            clear kk Dv41 Av41 RDv41 Kv41
            refine hK _ _ (fun _ => (unhide Dv45)) ?_
            clear hK K
            generalize eL : v41.heap.size = LB at *
            clear eL
            refine plan_do rfl (fun K hK => ?_)
            go_simp
            refine (run_any s t _ j _ f _ (unhide Rs) (unhide Rt) (unhide RF) (by omega) (unhide RDv45)).mono ?_
            rintro e v46 ⟨rfl, kk⟩
            rw [← unhide EB, ← unhide EBn]
            have Dv46 := hide ((unhide Dv45).below kk)
            have Av46 := hide ((unhide Av45).below kk)
            have RDv46 := hide ((unhide RDv45).below kk)
            have LVv46 := hide ((unhide LVv45).below kk)
            have Kv46 := hide ((unhide Kv45).trans (kk.mono (unhide Kv45).size))
            clear kk Dv45 Av45 RDv45 LVv45 Kv45
            refine hK _ _ (fun _ => (unhide Dv46)) ?_
            clear hK K
            iterate 3
              refine plan_read (v := ?_) rfl (fun _ _ _ h => h) (by rfl) (unhide Dv46) ?_ ?_
              rotate_left 1
              · intro wx hwx
                clear hwx
                go_simp <;> exact rfl
              go_frame
            refine plan_do rfl (fun K hK => ?_)
            have z0 := (unhide LVv46).c0; have f0 := (unhide LVv46).free 0; have z1 := (unhide LVv46).c1; have f1 := (unhide LVv46).free 1; have z2 := (unhide LVv46).c2; have f2 := (unhide LVv46).free 2; have z3 := (unhide LVv46).c3; have f3 := (unhide LVv46).free 3; have z4 := (unhide LVv46).c4; have f4 := (unhide LVv46).free 4; have z5 := (unhide LVv46).c5; have f5 := (unhide LVv46).free 5; have z6 := (unhide LVv46).c6; have f6 := (unhide LVv46).free 6
            go_simp
            obtain ⟨v47, ee, hh, kk⟩ := (unhide LVv46).put pb
            rw [← ee]
            clear ee z0 f0 z1 f1 z2 f2 z3 f3 z4 f4 z5 f5 z6 f6
            have LVv47 := hide hh
            have Dv47 := hide ((unhide Dv46).kept kk (by have := unhide ND; omega) (by have := unhide ND; omega))
            have Av47 := hide ((unhide Av46).kept kk (Nat.ne_of_lt (unhide NA)))
            have Kv47 := hide (below_of_kept (unhide Kv46) kk (unhide NK) (unhide Kv46).size)
            clear hh kk
            refine hK _ _ (fun _ => (unhide Dv47)) ?_
            clear hK K
            refine plan_do rfl (fun K hK => ?_)
            go_simp
            refine hK _ _ (fun _ => (unhide Dv47)) ?_
            clear hK K
            refine plan_end ?_
            go_wp2_with fail
            go_meet
            exact ⟨LB, rfl, rfl, (unhide LVv47), (unhide Dv47), (unhide Av47), (unhide Kv47)⟩
        · go_simp
          obtain ⟨v48, ee, hh, kk, zz⟩ := one_state u1 St.nil
          rw [show (u1.alloc (.cells #[.int .i64 0, .int .i64 0, .int .i64 0, .int .i64 0, .int .i64 0, .bool false, .int .i64 0] 23)) = v48 from ee.symm]
          have LVv48 := hide hh
          have ND := hide (show w.heap.size + 1 < u1.heap.size from (unhide Du1).tn.lt)
          have NA := hide ((unhide Au1).lt)
          have NK := hide (unhide Ku1).size
          clear ee hh zz
          have Dv48 := hide ((unhide Du1).below kk)
          have Av48 := hide ((unhide Au1).below kk)
          have Kv48 := hide ((unhide Ku1).trans (kk.mono (unhide Ku1).size))
          clear kk Du1 Au1 Ku1
          refine hK _ _ (fun _ => (unhide Dv48)) ?_
          clear hK K
          generalize eL : u1.heap.size = LB at *
          clear eL
          refine plan_do rfl (fun K hK => ?_)
          rw [if_pos (by rfl)]
          refine wp_clone _ (.const (.slice none 0 0)) (.tmp 38) rfl rfl ao j cap f rfl (((unhide AR0).head hj).below (unhide Kv48)) ?_
          intro aoR capR v49 hrd kk
          have RDv49 := hide hrd
          clear hrd
          have Dv49 := hide ((unhide Dv48).below kk)
          have Av49 := hide ((unhide Av48).below kk)
          have LVv49 := hide ((unhide LVv48).below kk)
          have Kv49 := hide ((unhide Kv48).trans (kk.mono (unhide Kv48).size))
          clear kk Dv48 Av48 LVv48 Kv48
          refine hK _ _ (fun _ => (unhide Dv49)) ?_
          clear hK K
          refine plan_do rfl (fun K hK => ?_)
          go_simp
          refine (run_any s t _ j _ f _ (unhide Rs) (unhide Rt) (unhide RF) (by omega) (unhide RDv49)).mono ?_
          rintro e v50 ⟨rfl, kk⟩
          rw [← unhide EB, ← unhide EBn]
          have Dv50 := hide ((unhide Dv49).below kk)
          have Av50 := hide ((unhide Av49).below kk)
          have LVv50 := hide ((unhide LVv49).below kk)
          have RDv50 := hide ((unhide RDv49).below kk)
          have Kv50 := hide ((unhide Kv49).trans (kk.mono (unhide Kv49).size))
          clear kk Dv49 Av49 LVv49 RDv49 Kv49
          refine hK _ _ (fun _ => (unhide Dv50)) ?_
          clear hK K
          iterate 3
            refine plan_read (v := ?_) rfl (fun _ _ _ h => h) (by rfl) (unhide Dv50) ?_ ?_
            rotate_left 1
            · intro wx hwx
              clear hwx
              go_simp <;> exact rfl
            go_frame
          refine plan_do rfl (fun K hK => ?_)
          have z0 := (unhide LVv50).c0; have f0 := (unhide LVv50).free 0; have z1 := (unhide LVv50).c1; have f1 := (unhide LVv50).free 1; have z2 := (unhide LVv50).c2; have f2 := (unhide LVv50).free 2; have z3 := (unhide LVv50).c3; have f3 := (unhide LVv50).free 3; have z4 := (unhide LVv50).c4; have f4 := (unhide LVv50).free 4; have z5 := (unhide LVv50).c5; have f5 := (unhide LVv50).free 5; have z6 := (unhide LVv50).c6; have f6 := (unhide LVv50).free 6
          go_simp
          obtain ⟨v51, ee, hh, kk⟩ := (unhide LVv50).put pb
          rw [← ee]
          clear ee z0 f0 z1 f1 z2 f2 z3 f3 z4 f4 z5 f5 z6 f6
          have LVv51 := hide hh
          have Dv51 := hide ((unhide Dv50).kept kk (by have := unhide ND; omega) (by have := unhide ND; omega))
          have Av51 := hide ((unhide Av50).kept kk (Nat.ne_of_lt (unhide NA)))
          have Kv51 := hide (below_of_kept (unhide Kv50) kk (unhide NK) (unhide Kv50).size)
          clear hh kk
          refine hK _ _ (fun _ => (unhide Dv51)) ?_
          clear hK K
          refine plan_do rfl (fun K hK => ?_)
          go_simp
          refine hK _ _ (fun _ => (unhide Dv51)) ?_
          clear hK K
          refine plan_end ?_
          go_wp2_with fail
          go_meet
          exact ⟨LB, rfl, rfl, (unhide LVv51), (unhide Dv51), (unhide Av51), (unhide Kv51)⟩
      case rest =>
        rename World => wd
        obtain ⟨LB, rfl, rfl, lvv, dd, aa, kc⟩ := hcut
        have Bwd := hide lvv; have Dwd := hide dd; have Awd := hide aa; have Kwd := hide kc
        clear lvv dd aa kc Dwc Awc Kwc
        go_upto_region 6 with fail
        go_cut [13, 14] (fun s13 s14 wx => ∃ LC : Nat, s13 = .pointer (some ⟨LC, 0, none⟩) ∧ s14 = .int .i64 (nc : Int) ∧ SAt wx LC pa ∧ SAt wx LA pa ∧ Below w.heap.size w wx)
        case first =>
          refine region_plan (S := fun u => SAt u LB pb ∧ TAt u (w.heap.size + 1) t) (.rd 0 (.rd 1 (.rd 2 (.rd 3 (.rd 4 (.two 5 10 (.two 6 10 (.rd 7 (.rd 8 (.rd 9 (.go 10 (.go 11 (.go 12 .fin)))))) (.go 6 (.rd 7 (.rd 8 (.rd 9 (.go 11 (.go 12 .fin))))))) (.go 5 (.go 6 (.rd 7 (.rd 8 (.rd 9 (.go 11 (.go 12 .fin))))))))))))) [] (by kernel_rfl) (by kernel_rfl) ?_
          have Bu2 := hide (unhide Bwd).drew; have Tu2 := hide (unhide Dwd).drew.tn; have Au2 := hide (unhide Awd).drew; have Ku2 := hide (below_drew (unhide Kwd))
          clear Dwd Awd Bwd Kwd
          generalize wd.drew = u2 at *
          iterate 4
            refine plan_read (v := ?_) rfl (fun _ _ _ h => h) (by rfl) ⟨(unhide Bu2), (unhide Tu2)⟩ ?_ ?_
            rotate_left 1
            · intro wx hwx
              obtain ⟨ha, hb2⟩ := hwx
              have q0 := hb2.c0; have q1 := hb2.c1; have q2 := hb2.c2; have q3 := hb2.c3
              have c0 := ha.c0; have c1 := ha.c1; have c2 := ha.c2; have c3 := ha.c3; have c4 := ha.c4; have c5 := ha.c5; have c6 := ha.c6
              clear ha hb2
              go_simp <;> exact rfl
            go_frame
          refine plan_read (v := .slice cu (300 - j) (cap - j)) rfl (fun _ _ _ h => h) (by rfl) ⟨(unhide Bu2), (unhide Tu2)⟩ ?_ ?_
          · intro wx hwx
            clear hwx
            rw [show cu = (if cap = j then ao else Option.map (fun x => x.add j) ao) from unhide ECU]
            go_simp
          show SeqP _ _ _ _ _ _ (Act.put _ (some 48) _) _
          go_frame
          refine plan_two rfl rfl (fun K hK => ?_) (fun K hK => ?_)
          · rw [if_pos (by rfl)]
            refine wp_clone _ (.const (.slice none 0 0)) (.tmp 48) rfl rfl cu (300 - j) (cap - j) (fun i => f (j + i)) rfl ((unhide ART).below (unhide Ku2)) ?_
            intro aoR capR v71 hrd kk
            have RDv71 := hide hrd
            clear hrd
            have Bv71 := hide ((unhide Bu2).below kk)
            have Tv71 := hide ((unhide Tu2).below kk)
            have Av71 := hide ((unhide Au2).below kk)
            have Kv71 := hide ((unhide Ku2).trans (kk.mono (unhide Ku2).size))
            clear kk Bu2 Tu2 Au2 Ku2
            refine hK _ _ (fun _ => ⟨(unhide Bv71), (unhide Tv71)⟩) ?_
            clear hK K
            refine plan_two rfl rfl (fun K hK => ?_) (fun K hK => ?_)
            · go_simp
              refine (run_any pb t _ (300 - j) _ (fun i => f (j + i)) _ (unhide OB) (unhide Rt) (fun i => unhide RF _) (by omega) (unhide RDv71)).mono ?_
              rintro e v72 ⟨rfl, kk⟩
              rw [← unhide EC, ← unhide ECn]
              have Bv72 := hide ((unhide Bv71).below kk)
              have Tv72 := hide ((unhide Tv71).below kk)
              have Av72 := hide ((unhide Av71).below kk)
              have RDv72 := hide ((unhide RDv71).below kk)
              have Kv72 := hide ((unhide Kv71).trans (kk.mono (unhide Kv71).size))
              clear kk Bv71 Tv71 Av71 RDv71 Kv71
              refine hK _ _ (fun _ => ⟨(unhide Bv72), (unhide Tv72)⟩) ?_
              clear hK K
              iterate 3
                refine plan_read (v := ?_) rfl (fun _ _ _ h => h) (by rfl) ⟨(unhide Bv72), (unhide Tv72)⟩ ?_ ?_
                rotate_left 1
                · intro wx hwx
                  clear hwx
                  go_simp <;> exact rfl
                go_frame
              refine plan_do rfl (fun K hK => ?_)
              go_simp
              obtain ⟨v73, ee, hh, kk, zz⟩ := one_state v72 St.nil
              rw [show (v72.alloc (.cells #[.int .i64 0, .int .i64 0, .int .i64 0, .int .i64 0, .int .i64 0, .bool false, .int .i64 0] 23)) = v73 from ee.symm]
              have LVv73 := hide hh
              have NB := hide ((unhide Bv72).lt)
              have NT := hide ((unhide Tv72).lt)
              have NA := hide ((unhide Av72).lt)
              have NK := hide (unhide Kv72).size
              clear ee hh zz
              have Bv73 := hide ((unhide Bv72).below kk)
              have Tv73 := hide ((unhide Tv72).below kk)
              have Av73 := hide ((unhide Av72).below kk)
              have Kv73 := hide ((unhide Kv72).trans (kk.mono (unhide Kv72).size))
              clear kk Bv72 Tv72 Av72 Kv72
              refine hK _ _ (fun _ => ⟨(unhide Bv73), (unhide Tv73)⟩) ?_
              clear hK K
              generalize eL : v72.heap.size = LC at *
              clear eL
              refine plan_do rfl (fun K hK => ?_)
              have z0 := (unhide LVv73).c0; have f0 := (unhide LVv73).free 0; have z1 := (unhide LVv73).c1; have f1 := (unhide LVv73).free 1; have z2 := (unhide LVv73).c2; have f2 := (unhide LVv73).free 2; have z3 := (unhide LVv73).c3; have f3 := (unhide LVv73).free 3; have z4 := (unhide LVv73).c4; have f4 := (unhide LVv73).free 4; have z5 := (unhide LVv73).c5; have f5 := (unhide LVv73).free 5; have z6 := (unhide LVv73).c6; have f6 := (unhide LVv73).free 6
              go_simp
              obtain ⟨v74, ee, hh, kk⟩ := (unhide LVv73).put pa
              rw [← ee]
              clear ee z0 f0 z1 f1 z2 f2 z3 f3 z4 f4 z5 f5 z6 f6
              have LVv74 := hide hh
              have Bv74 := hide ((unhide Bv73).kept kk (Nat.ne_of_lt (unhide NB)))
              have Tv74 := hide ((unhide Tv73).kept kk (Nat.ne_of_lt (unhide NT)))
              have Av74 := hide ((unhide Av73).kept kk (Nat.ne_of_lt (unhide NA)))
              have Kv74 := hide (below_of_kept (unhide Kv73) kk (unhide NK) (unhide Kv73).size)
              clear hh kk
              refine hK _ _ (fun _ => ⟨(unhide Bv74), (unhide Tv74)⟩) ?_
              clear hK K
              refine plan_do rfl (fun K hK => ?_)
              go_simp
              refine hK _ _ (fun _ => ⟨(unhide Bv74), (unhide Tv74)⟩) ?_
              clear hK K
              refine plan_end ?_
              go_wp2_with fail
              go_meet
              exact ⟨LC, rfl, rfl, (unhide LVv74), (unhide Av74), (unhide Kv74)⟩
            · go_simp
              obtain ⟨v75, ee, hh, kk, zz⟩ := one_state v71 St.nil
              rw [show (v71.alloc (.cells #[.int .i64 0, .int .i64 0, .int .i64 0, .int .i64 0, .int .i64 0, .bool false, .int .i64 0] 23)) = v75 from ee.symm]
              have LVv75 := hide hh
              have NB := hide ((unhide Bv71).lt)
              have NT := hide ((unhide Tv71).lt)
              have NA := hide ((unhide Av71).lt)
              have NK := hide (unhide Kv71).size
              clear ee hh zz
              have Bv75 := hide ((unhide Bv71).below kk)
              have Tv75 := hide ((unhide Tv71).below kk)
              have Av75 := hide ((unhide Av71).below kk)
              have RDv75 := hide ((unhide RDv71).below kk)
              have Kv75 := hide ((unhide Kv71).trans (kk.mono (unhide Kv71).size))
              clear kk Bv71 Tv71 Av71 RDv71 Kv71
              refine hK _ _ (fun _ => ⟨(unhide Bv75), (unhide Tv75)⟩) ?_
              clear hK K
              generalize eL : v71.heap.size = LC at *
              clear eL
              refine plan_do rfl (fun K hK => ?_)
              go_simp
              refine (run_any pb t _ (300 - j) _ (fun i => f (j + i)) _ (unhide OB) (unhide Rt) (fun i => unhide RF _) (by omega) (unhide RDv75)).mono ?_
              rintro e v76 ⟨rfl, kk⟩
              rw [← unhide EC, ← unhide ECn]
              have Bv76 := hide ((unhide Bv75).below kk)
              have Tv76 := hide ((unhide Tv75).below kk)
              have Av76 := hide ((unhide Av75).below kk)
              have RDv76 := hide ((unhide RDv75).below kk)
              have LVv76 := hide ((unhide LVv75).below kk)
              have Kv76 := hide ((unhide Kv75).trans (kk.mono (unhide Kv75).size))
              clear kk Bv75 Tv75 Av75 RDv75 LVv75 Kv75
              refine hK _ _ (fun _ => ⟨(unhide Bv76), (unhide Tv76)⟩) ?_
              clear hK K
              iterate 3
                refine plan_read (v := ?_) rfl (fun _ _ _ h => h) (by rfl) ⟨(unhide Bv76), (unhide Tv76)⟩ ?_ ?_
                rotate_left 1
                · intro wx hwx
                  clear hwx
                  go_simp <;> exact rfl
                go_frame
              refine plan_do rfl (fun K hK => ?_)
              have z0 := (unhide LVv76).c0; have f0 := (unhide LVv76).free 0; have z1 := (unhide LVv76).c1; have f1 := (unhide LVv76).free 1; have z2 := (unhide LVv76).c2; have f2 := (unhide LVv76).free 2; have z3 := (unhide LVv76).c3; have f3 := (unhide LVv76).free 3; have z4 := (unhide LVv76).c4; have f4 := (unhide LVv76).free 4; have z5 := (unhide LVv76).c5; have f5 := (unhide LVv76).free 5; have z6 := (unhide LVv76).c6; have f6 := (unhide LVv76).free 6
              go_simp
              obtain ⟨v77, ee, hh, kk⟩ := (unhide LVv76).put pa
              rw [← ee]
              clear ee z0 f0 z1 f1 z2 f2 z3 f3 z4 f4 z5 f5 z6 f6
              have LVv77 := hide hh
              have Bv77 := hide ((unhide Bv76).kept kk (Nat.ne_of_lt (unhide NB)))
              have Tv77 := hide ((unhide Tv76).kept kk (Nat.ne_of_lt (unhide NT)))
              have Av77 := hide ((unhide Av76).kept kk (Nat.ne_of_lt (unhide NA)))
              have Kv77 := hide (below_of_kept (unhide Kv76) kk (unhide NK) (unhide Kv76).size)
              clear hh kk
              refine hK _ _ (fun _ => ⟨(unhide Bv77), (unhide Tv77)⟩) ?_
              clear hK K
              refine plan_do rfl (fun K hK => ?_)
              go_simp
              refine hK _ _ (fun _ => ⟨(unhide Bv77), (unhide Tv77)⟩) ?_
              clear hK K
              refine plan_end ?_
              go_wp2_with fail
              go_meet
              exact ⟨LC, rfl, rfl, (unhide LVv77), (unhide Av77), (unhide Kv77)⟩
          · go_simp
            obtain ⟨v78, ee, hh, kk, zz⟩ := one_state u2 St.nil
            rw [show (u2.alloc (.cells #[.int .i64 0, .int .i64 0, .int .i64 0, .int .i64 0, .int .i64 0, .bool false, .int .i64 0] 23)) = v78 from ee.symm]
            have LVv78 := hide hh
            have NB := hide ((unhide Bu2).lt)
            have NT := hide ((unhide Tu2).lt)
            have NA := hide ((unhide Au2).lt)
            have NK := hide (unhide Ku2).size
            clear ee hh zz
            have Bv78 := hide ((unhide Bu2).below kk)
            have Tv78 := hide ((unhide Tu2).below kk)
            have Av78 := hide ((unhide Au2).below kk)
            have Kv78 := hide ((unhide Ku2).trans (kk.mono (unhide Ku2).size))
            clear kk Bu2 Tu2 Au2 Ku2
            refine hK _ _ (fun _ => ⟨(unhide Bv78), (unhide Tv78)⟩) ?_
            clear hK K
            generalize eL : u2.heap.size = LC at *
            clear eL
            refine plan_do rfl (fun K hK => ?_)
            rw [if_pos (by rfl)]
            refine wp_clone _ (.const (.slice none 0 0)) (.tmp 48) rfl rfl cu (300 - j) (cap - j) (fun i => f (j + i)) rfl ((unhide ART).below (unhide Kv78)) ?_
            intro aoR capR v79 hrd kk
            have RDv79 := hide hrd
            clear hrd
            have Bv79 := hide ((unhide Bv78).below kk)
            have Tv79 := hide ((unhide Tv78).below kk)
            have Av79 := hide ((unhide Av78).below kk)
            have LVv79 := hide ((unhide LVv78).below kk)
            have Kv79 := hide ((unhide Kv78).trans (kk.mono (unhide Kv78).size))
            clear kk Bv78 Tv78 Av78 LVv78 Kv78
            refine hK _ _ (fun _ => ⟨(unhide Bv79), (unhide Tv79)⟩) ?_
            clear hK K
            refine plan_do rfl (fun K hK => ?_)
            go_simp
            refine (run_any pb t _ (300 - j) _ (fun i => f (j + i)) _ (unhide OB) (unhide Rt) (fun i => unhide RF _) (by omega) (unhide RDv79)).mono ?_
            rintro e v80 ⟨rfl, kk⟩
            rw [← unhide EC, ← unhide ECn]
            have Bv80 := hide ((unhide Bv79).below kk)
            have Tv80 := hide ((unhide Tv79).below kk)
            have Av80 := hide ((unhide Av79).below kk)
            have LVv80 := hide ((unhide LVv79).below kk)
            have RDv80 := hide ((unhide RDv79).below kk)
            have Kv80 := hide ((unhide Kv79).trans (kk.mono (unhide Kv79).size))
            clear kk Bv79 Tv79 Av79 LVv79 RDv79 Kv79
            refine hK _ _ (fun _ => ⟨(unhide Bv80), (unhide Tv80)⟩) ?_
            clear hK K
            iterate 3
              refine plan_read (v := ?_) rfl (fun _ _ _ h => h) (by rfl) ⟨(unhide Bv80), (unhide Tv80)⟩ ?_ ?_
              rotate_left 1
              · intro wx hwx
                clear hwx
                go_simp <;> exact rfl
              go_frame
            refine plan_do rfl (fun K hK => ?_)
            have z0 := (unhide LVv80).c0; have f0 := (unhide LVv80).free 0; have z1 := (unhide LVv80).c1; have f1 := (unhide LVv80).free 1; have z2 := (unhide LVv80).c2; have f2 := (unhide LVv80).free 2; have z3 := (unhide LVv80).c3; have f3 := (unhide LVv80).free 3; have z4 := (unhide LVv80).c4; have f4 := (unhide LVv80).free 4; have z5 := (unhide LVv80).c5; have f5 := (unhide LVv80).free 5; have z6 := (unhide LVv80).c6; have f6 := (unhide LVv80).free 6
            go_simp
            obtain ⟨v81, ee, hh, kk⟩ := (unhide LVv80).put pa
            rw [← ee]
            clear ee z0 f0 z1 f1 z2 f2 z3 f3 z4 f4 z5 f5 z6 f6
            have LVv81 := hide hh
            have Bv81 := hide ((unhide Bv80).kept kk (Nat.ne_of_lt (unhide NB)))
            have Tv81 := hide ((unhide Tv80).kept kk (Nat.ne_of_lt (unhide NT)))
            have Av81 := hide ((unhide Av80).kept kk (Nat.ne_of_lt (unhide NA)))
            have Kv81 := hide (below_of_kept (unhide Kv80) kk (unhide NK) (unhide Kv80).size)
            clear hh kk
            refine hK _ _ (fun _ => ⟨(unhide Bv81), (unhide Tv81)⟩) ?_
            clear hK K
            refine plan_do rfl (fun K hK => ?_)
            go_simp
            refine hK _ _ (fun _ => ⟨(unhide Bv81), (unhide Tv81)⟩) ?_
            clear hK K
            refine plan_end ?_
            go_wp2_with fail
            go_meet
            exact ⟨LC, rfl, rfl, (unhide LVv81), (unhide Av81), (unhide Kv81)⟩
        case rest =>
          rename World => we
          obtain ⟨LC, rfl, rfl, lvv, aa, kc⟩ := hcut
          have Cwe := hide lvv; have Awe := hide aa; have Kwe := hide kc
          clear lvv aa kc Dwd Awd Bwd Kwd
          go_wp2_with fail
          refine (follows_any _).mono ?_
          rintro e v96 ⟨rfl, kk⟩
          have Cv96 := hide ((unhide Cwe).below kk)
          have Av96 := hide ((unhide Awe).below kk)
          have Kv96 := hide ((unhide Kwe).trans (kk.mono (unhide Kwe).size))
          clear kk Cwe Awe Kwe
          have nn := unhide NN; have nl := unhide NLE
          have n1 : (nb : Int) + (nc : Int) = (na : Int) := by omega
          have n2 : (na : Int) ≤ 300 := by omega
          clear nn nl
          have aq0 := (unhide Av96).c0; have aq1 := (unhide Av96).c1; have aq2 := (unhide Av96).c2; have aq3 := (unhide Av96).c3; have aq4 := (unhide Av96).c4; have aq5 := (unhide Av96).c5; have aq6 := (unhide Av96).c6; have alt := (unhide Av96).lt
          have cq0 := (unhide Cv96).c0; have cq1 := (unhide Cv96).c1; have cq2 := (unhide Cv96).c2; have cq3 := (unhide Cv96).c3; have cq4 := (unhide Cv96).c4; have cq5 := (unhide Cv96).c5; have cq6 := (unhide Cv96).c6; have clt := (unhide Cv96).lt
          go_wp2_with fail
          clear aq0 aq1 aq2 aq3 aq4 aq5 aq6 alt
          clear cq0 cq1 cq2 cq3 cq4 cq5 cq6 clt
          go_ret
          exact ⟨rfl, (unhide Kv96)⟩

end Go.Proofs.Ytblglojbghmphab
