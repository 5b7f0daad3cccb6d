/- Walk of the statement FilterRuns. -/
import Derived.Test.YtblglojbghmphaaRefRun2
import Derived.Test.YtblglojbghmphaaRefBeg
import Derived.Test.YtblglojbghmphaaFilRun
import Derived.Test.YtblglojbghmphaaRowClone
import Derived.Test.YtblglojbghmphaaFork
import Derived.Deep.DeepCutAuto
namespace Go.Proofs.Ytblglojbghmphaa
open Go.RowKit

def tnNil : Tn := ⟨0, 0, 0, 0⟩
theorem tnNil_ok : tnNil.Ok := ⟨R64_nought, R64_nought, R64_nought, R64_nought⟩

set_option maxHeartbeats 8000000 in
set_option maxRecDepth 20000 in
theorem filterRuns_walk {w : World} (s : St) (t : Tn) (ao : Option Addr) (len cap : Nat) (f : Nat → Int) (hs : s.Ok) (ht : t.Ok) (ar : ArgS w ao len cap f) (rc : len ≤ cap) : Calls Try.prog 7 #[stV s, tnV t, .slice ao len cap] w fun e w' => e = .returned (.bool true) ∧ Below w.heap.size w w' := by
  have Rs := hide hs; have Rt := hide ht; have RF := hide ar.2.2
  obtain ⟨v0, ee, d0, k0⟩ := st_start w s t
  have E0 := hide ee; have Kv0 := hide k0; have Dv0 := hide d0
  clear ee d0 k0 hs ht
  by_cases hb : 300 < len
  · have AR0 := hide (ar.head (show 300 ≤ len by omega))
    have hc : 300 ≤ cap := by omega
    clear ar rc
    go_enter Try.func7, Try.ntmps7
    go_upto_region 3 with fail
    rw [← unhide E0]
    obtain ⟨p, ep⟩ : ∃ p, p = runS s t f 300 := ⟨_, rfl⟩
    obtain ⟨n, en⟩ : ∃ n : Nat, n = runN s t f 300 := ⟨_, rfl⟩
    have EP := hide ep; have EN := hide en
    clear ep en
    go_cut [7, 8] (fun s7 s8 wx => ∃ LL : Nat, s7 = .pointer (some ⟨LL, 0, none⟩) ∧ s8 = .int .i64 (n : Int) ∧ SAt wx LL p ∧ ST w.heap.size (w.heap.size + 1) s t wx ∧ Below w.heap.size w wx)
    case first =>
      refine region_plan (S := ST w.heap.size (w.heap.size + 1) s t) (.rd 0 (.rd 1 (.rd 2 (.two 3 8 (.two 4 8 (.rd 5 (.rd 6 (.rd 7 (.go 8 (.go 9 (.go 10 .fin)))))) (.go 4 (.rd 5 (.rd 6 (.rd 7 (.go 9 (.go 10 .fin))))))) (.go 3 (.go 4 (.rd 5 (.rd 6 (.rd 7 (.go 9 (.go 10 .fin))))))))))) [] (by kernel_rfl) (by kernel_rfl) ?_
      have Du0 := hide (unhide Dv0).drew; have Ku0 := hide (below_drew (unhide Kv0)); have ARu0 := hide (ArgS.below (unhide AR0) (below_drew (unhide Kv0)))
      clear Dv0 Kv0
      generalize v0.drew = u0 at *
      iterate 3
        refine plan_read (v := ?_) rfl (fun _ _ _ h => h) (by rfl) (unhide Du0) ?_ ?_
        rotate_left 1
        · intro wx hwx
          have q0 := hwx.tn.c0; have q1 := hwx.tn.c1; have q2 := hwx.tn.c2; have q3 := hwx.tn.c3
          have c0 := hwx.st.c0; have c1 := hwx.st.c1; have c2 := hwx.st.c2; have c3 := hwx.st.c3; have c4 := hwx.st.c4; have c5 := hwx.st.c5; have c6 := hwx.st.c6
          clear hwx
          go_simp <;> exact rfl
        go_frame
      refine plan_two rfl rfl (fun K hK => ?_) (fun K hK => ?_)
      · rw [if_pos (by rfl)]
        refine wp_clone _ (.const (.slice none 0 0)) (.tmp 21) rfl rfl ao 300 cap f rfl (unhide ARu0) ?_
        intro aoR capR v11 hrd kk
        have RDv11 := hide hrd
        clear hrd
        have Dv11 := hide ((unhide Du0).below kk)
        have ARv11 := hide ((unhide ARu0).below kk)
        have Kv11 := hide ((unhide Ku0).trans (kk.mono (unhide Ku0).size))
        clear kk Du0 ARu0 Ku0
        refine hK _ _ (fun _ => (unhide Dv11)) ?_
        clear hK K
        refine plan_two rfl rfl (fun K hK => ?_) (fun K hK => ?_)
        · go_simp
          refine (run_any s t _ 300 _ f _ (unhide Rs) (unhide Rt) (unhide RF) (by omega) (unhide RDv11)).mono ?_
          rintro e v12 ⟨rfl, kk⟩
          rw [← unhide EP, ← unhide EN]
          have Dv12 := hide ((unhide Dv11).below kk)
          have ARv12 := hide ((unhide ARv11).below kk)
          have RDv12 := hide ((unhide RDv11).below kk)
          have Kv12 := hide ((unhide Kv11).trans (kk.mono (unhide Kv11).size))
          clear kk Dv11 ARv11 RDv11 Kv11
          refine hK _ _ (fun _ => (unhide Dv12)) ?_
          clear hK K
          iterate 3
            refine plan_read (v := ?_) rfl (fun _ _ _ h => h) (by rfl) (unhide Dv12) ?_ ?_
            rotate_left 1
            · intro wx hwx
              have q0 := hwx.tn.c0; have q1 := hwx.tn.c1; have q2 := hwx.tn.c2; have q3 := hwx.tn.c3
              have c0 := hwx.st.c0; have c1 := hwx.st.c1; have c2 := hwx.st.c2; have c3 := hwx.st.c3; have c4 := hwx.st.c4; have c5 := hwx.st.c5; have c6 := hwx.st.c6
              clear hwx
              go_simp <;> exact rfl
            go_frame
          refine plan_do rfl (fun K hK => ?_)
          go_simp
          obtain ⟨v13, ee, hh, kk, zz⟩ := one_state v12 St.nil
          rw [show (v12.alloc (.cells #[.int .i64 0, .int .i64 0, .int .i64 0, .int .i64 0, .int .i64 0, .bool false, .int .i64 0] 23)) = v13 from ee.symm]
          have LVv13 := hide hh
          have ND := hide (show w.heap.size + 1 < v12.heap.size from (unhide Dv12).tn.lt)
          have NK := hide (unhide Kv12).size
          clear ee hh zz
          have Dv13 := hide ((unhide Dv12).below kk)
          have ARv13 := hide ((unhide ARv12).below kk)
          have Kv13 := hide ((unhide Kv12).trans (kk.mono (unhide Kv12).size))
          clear kk Dv12 ARv12 Kv12
          refine hK _ _ (fun _ => (unhide Dv13)) ?_
          clear hK K
          generalize eL : v12.heap.size = LL at *
          clear eL
          refine plan_do rfl (fun K hK => ?_)
          have z0 := (unhide LVv13).c0; have f0 := (unhide LVv13).free 0; have z1 := (unhide LVv13).c1; have f1 := (unhide LVv13).free 1; have z2 := (unhide LVv13).c2; have f2 := (unhide LVv13).free 2; have z3 := (unhide LVv13).c3; have f3 := (unhide LVv13).free 3; have z4 := (unhide LVv13).c4; have f4 := (unhide LVv13).free 4; have z5 := (unhide LVv13).c5; have f5 := (unhide LVv13).free 5; have z6 := (unhide LVv13).c6; have f6 := (unhide LVv13).free 6
          go_simp
          obtain ⟨v14, ee, hh, kk⟩ := (unhide LVv13).put p
          rw [← ee]
          clear ee z0 f0 z1 f1 z2 f2 z3 f3 z4 f4 z5 f5 z6 f6
          have LVv14 := hide hh
          have Dv14 := hide ((unhide Dv13).kept kk (by have := unhide ND; omega) (by have := unhide ND; omega))
          have Kv14 := hide (below_of_kept (unhide Kv13) kk (unhide NK) (unhide Kv13).size)
          clear hh kk
          refine hK _ _ (fun _ => (unhide Dv14)) ?_
          clear hK K
          refine plan_do rfl (fun K hK => ?_)
          go_simp
          refine hK _ _ (fun _ => (unhide Dv14)) ?_
          clear hK K
          refine plan_end ?_
          go_wp2_with fail
          go_meet
          exact ⟨LL, rfl, rfl, (unhide LVv14), (unhide Dv14), (unhide Kv14)⟩
        · go_simp
          obtain ⟨v15, ee, hh, kk, zz⟩ := one_state v11 St.nil
          rw [show (v11.alloc (.cells #[.int .i64 0, .int .i64 0, .int .i64 0, .int .i64 0, .int .i64 0, .bool false, .int .i64 0] 23)) = v15 from ee.symm]
          have LVv15 := hide hh
          have ND := hide (show w.heap.size + 1 < v11.heap.size from (unhide Dv11).tn.lt)
          have NK := hide (unhide Kv11).size
          clear ee hh zz
          have Dv15 := hide ((unhide Dv11).below kk)
          have ARv15 := hide ((unhide ARv11).below kk)
          have RDv15 := hide ((unhide RDv11).below kk)
          have Kv15 := hide ((unhide Kv11).trans (kk.mono (unhide Kv11).size))
          clear kk Dv11 ARv11 RDv11 Kv11
          refine hK _ _ (fun _ => (unhide Dv15)) ?_
          clear hK K
          generalize eL : v11.heap.size = LL at *
          clear eL
          refine plan_do rfl (fun K hK => ?_)
          go_simp
          refine (run_any s t _ 300 _ f _ (unhide Rs) (unhide Rt) (unhide RF) (by omega) (unhide RDv15)).mono ?_
          rintro e v16 ⟨rfl, kk⟩
          rw [← unhide EP, ← unhide EN]
          have Dv16 := hide ((unhide Dv15).below kk)
          have ARv16 := hide ((unhide ARv15).below kk)
          have RDv16 := hide ((unhide RDv15).below kk)
          have LVv16 := hide ((unhide LVv15).below kk)
          have Kv16 := hide ((unhide Kv15).trans (kk.mono (unhide Kv15).size))
          clear kk Dv15 ARv15 RDv15 LVv15 Kv15
          refine hK _ _ (fun _ => (unhide Dv16)) ?_
          clear hK K
          iterate 3
            refine plan_read (v := ?_) rfl (fun _ _ _ h => h) (by rfl) (unhide Dv16) ?_ ?_
            rotate_left 1
            · intro wx hwx
              have q0 := hwx.tn.c0; have q1 := hwx.tn.c1; have q2 := hwx.tn.c2; have q3 := hwx.tn.c3
              have c0 := hwx.st.c0; have c1 := hwx.st.c1; have c2 := hwx.st.c2; have c3 := hwx.st.c3; have c4 := hwx.st.c4; have c5 := hwx.st.c5; have c6 := hwx.st.c6
              clear hwx
              go_simp <;> exact rfl
            go_frame
          refine plan_do rfl (fun K hK => ?_)
          have z0 := (unhide LVv16).c0; have f0 := (unhide LVv16).free 0; have z1 := (unhide LVv16).c1; have f1 := (unhide LVv16).free 1; have z2 := (unhide LVv16).c2; have f2 := (unhide LVv16).free 2; have z3 := (unhide LVv16).c3; have f3 := (unhide LVv16).free 3; have z4 := (unhide LVv16).c4; have f4 := (unhide LVv16).free 4; have z5 := (unhide LVv16).c5; have f5 := (unhide LVv16).free 5; have z6 := (unhide LVv16).c6; have f6 := (unhide LVv16).free 6
          go_simp
          obtain ⟨v17, ee, hh, kk⟩ := (unhide LVv16).put p
          rw [← ee]
          clear ee z0 f0 z1 f1 z2 f2 z3 f3 z4 f4 z5 f5 z6 f6
          have LVv17 := hide hh
          have Dv17 := hide ((unhide Dv16).kept kk (by have := unhide ND; omega) (by have := unhide ND; omega))
          have Kv17 := hide (below_of_kept (unhide Kv16) kk (unhide NK) (unhide Kv16).size)
          clear hh kk
          refine hK _ _ (fun _ => (unhide Dv17)) ?_
          clear hK K
          refine plan_do rfl (fun K hK => ?_)
          go_simp
          refine hK _ _ (fun _ => (unhide Dv17)) ?_
          clear hK K
          refine plan_end ?_
          go_wp2_with fail
          go_meet
          exact ⟨LL, rfl, rfl, (unhide LVv17), (unhide Dv17), (unhide Kv17)⟩
      · go_simp
        obtain ⟨v18, ee, hh, kk, zz⟩ := one_state u0 St.nil
        rw [show (u0.alloc (.cells #[.int .i64 0, .int .i64 0, .int .i64 0, .int .i64 0, .int .i64 0, .bool false, .int .i64 0] 23)) = v18 from ee.symm]
        have LVv18 := hide hh
        have ND := hide (show w.heap.size + 1 < u0.heap.size from (unhide Du0).tn.lt)
        have NK := hide (unhide Ku0).size
        clear ee hh zz
        have Dv18 := hide ((unhide Du0).below kk)
        have ARv18 := hide ((unhide ARu0).below kk)
        have Kv18 := hide ((unhide Ku0).trans (kk.mono (unhide Ku0).size))
        clear kk Du0 ARu0 Ku0
        refine hK _ _ (fun _ => (unhide Dv18)) ?_
        clear hK K
        generalize eL : u0.heap.size = LL at *
        clear eL
        refine plan_do rfl (fun K hK => ?_)
        rw [if_pos (by rfl)]
        refine wp_clone _ (.const (.slice none 0 0)) (.tmp 21) rfl rfl ao 300 cap f rfl (unhide ARv18) ?_
        intro aoR capR v19 hrd kk
        have RDv19 := hide hrd
        clear hrd
        have Dv19 := hide ((unhide Dv18).below kk)
        have ARv19 := hide ((unhide ARv18).below kk)
        have LVv19 := hide ((unhide LVv18).below kk)
        have Kv19 := hide ((unhide Kv18).trans (kk.mono (unhide Kv18).size))
        clear kk Dv18 ARv18 LVv18 Kv18
        refine hK _ _ (fun _ => (unhide Dv19)) ?_
        clear hK K
        refine plan_do rfl (fun K hK => ?_)
        go_simp
        refine (run_any s t _ 300 _ f _ (unhide Rs) (unhide Rt) (unhide RF) (by omega) (unhide RDv19)).mono ?_
        rintro e v20 ⟨rfl, kk⟩
        rw [← unhide EP, ← unhide EN]
        have Dv20 := hide ((unhide Dv19).below kk)
        have ARv20 := hide ((unhide ARv19).below kk)
        have LVv20 := hide ((unhide LVv19).below kk)
        have RDv20 := hide ((unhide RDv19).below kk)
        have Kv20 := hide ((unhide Kv19).trans (kk.mono (unhide Kv19).size))
        clear kk Dv19 ARv19 LVv19 RDv19 Kv19
        refine hK _ _ (fun _ => (unhide Dv20)) ?_
        clear hK K
        iterate 3
          refine plan_read (v := ?_) rfl (fun _ _ _ h => h) (by rfl) (unhide Dv20) ?_ ?_
          rotate_left 1
          · intro wx hwx
            have q0 := hwx.tn.c0; have q1 := hwx.tn.c1; have q2 := hwx.tn.c2; have q3 := hwx.tn.c3
            have c0 := hwx.st.c0; have c1 := hwx.st.c1; have c2 := hwx.st.c2; have c3 := hwx.st.c3; have c4 := hwx.st.c4; have c5 := hwx.st.c5; have c6 := hwx.st.c6
            clear hwx
            go_simp <;> exact rfl
          go_frame
        refine plan_do rfl (fun K hK => ?_)
        have z0 := (unhide LVv20).c0; have f0 := (unhide LVv20).free 0; have z1 := (unhide LVv20).c1; have f1 := (unhide LVv20).free 1; have z2 := (unhide LVv20).c2; have f2 := (unhide LVv20).free 2; have z3 := (unhide LVv20).c3; have f3 := (unhide LVv20).free 3; have z4 := (unhide LVv20).c4; have f4 := (unhide LVv20).free 4; have z5 := (unhide LVv20).c5; have f5 := (unhide LVv20).free 5; have z6 := (unhide LVv20).c6; have f6 := (unhide LVv20).free 6
        go_simp
        obtain ⟨v21, ee, hh, kk⟩ := (unhide LVv20).put p
        rw [← ee]
        clear ee z0 f0 z1 f1 z2 f2 z3 f3 z4 f4 z5 f5 z6 f6
        have LVv21 := hide hh
        have Dv21 := hide ((unhide Dv20).kept kk (by have := unhide ND; omega) (by have := unhide ND; omega))
        have Kv21 := hide (below_of_kept (unhide Kv20) kk (unhide NK) (unhide Kv20).size)
        clear hh kk
        refine hK _ _ (fun _ => (unhide Dv21)) ?_
        clear hK K
        refine plan_do rfl (fun K hK => ?_)
        go_simp
        refine hK _ _ (fun _ => (unhide Dv21)) ?_
        clear hK K
        refine plan_end ?_
        go_wp2_with fail
        go_meet
        exact ⟨LL, rfl, rfl, (unhide LVv21), (unhide Dv21), (unhide Kv21)⟩
    case rest =>
      obtain ⟨LL, rfl, rfl, lvv, dd, kc⟩ := hcut
      have Awc := hide lvv; have Dwc := hide dd; have Kwc := hide kc
      clear lvv dd kc Kv0 Dv0
      have dq0 := (unhide Dwc).st.c0; have dq1 := (unhide Dwc).st.c1; have dq2 := (unhide Dwc).st.c2; have dq3 := (unhide Dwc).st.c3; have dq4 := (unhide Dwc).st.c4; have dq5 := (unhide Dwc).st.c5; have dq6 := (unhide Dwc).st.c6; have tq0 := (unhide Dwc).tn.c0; have tq1 := (unhide Dwc).tn.c1; have tq2 := (unhide Dwc).tn.c2; have tq3 := (unhide Dwc).tn.c3; have dlt := (unhide Dwc).st.lt; have tlt := (unhide Dwc).tn.lt
      go_wp2_with fail
      clear dq0 dq1 dq2 dq3 dq4 dq5 dq6 tq0 tq1 tq2 tq3 dlt tlt
      refine (refRun_any s t ao cap f (unhide Rs) (unhide Rt) (unhide RF) 300 _ (by omega) (by omega) ((unhide AR0).below (unhide Kwc)).rds).mono ?_
      rintro e v91 ⟨rfl, kk⟩
      rw [← unhide EP, ← unhide EN]
      have Av91 := hide ((unhide Awc).below kk)
      have Dv91 := hide ((unhide Dwc).below kk)
      have Kv91 := hide ((unhide Kwc).trans (kk.mono (unhide Kwc).size))
      clear kk Awc Dwc Kwc
      go_wp2_with fail
      obtain ⟨v92, ee, hh, kk, zz⟩ := one_state v91 p
      rw [← ee]
      clear ee zz
      have Cv92 := hide hh
      clear hh
      have Av92 := hide ((unhide Av91).below kk)
      have Dv92 := hide ((unhide Dv91).below kk)
      have Kv92 := hide ((unhide Kv91).trans (kk.mono (unhide Kv91).size))
      clear kk Av91 Dv91 Kv91
      generalize eBC : v91.heap.size = BC at *
      clear eBC
      refine (begin_any 5 _).mono ?_
      rintro e v93 ⟨rfl, kk⟩
      have Av93 := hide ((unhide Av92).below kk)
      have Dv93 := hide ((unhide Dv92).below kk)
      have Cv93 := hide ((unhide Cv92).below kk)
      have Kv93 := hide ((unhide Kv92).trans (kk.mono (unhide Kv92).size))
      clear kk Av92 Dv92 Cv92 Kv92
      go_wp2_with fail
      refine (run_any (begS 5) tnNil none 0 0 (fun _ => 0) _ (begS_ok (by unfold R64; omega)) tnNil_ok (fun _ => R64_nought) (by omega) (fun h => absurd h (by omega))).mono ?_
      rintro e v94 ⟨rfl, kk⟩
      rw [show runS (begS 5) tnNil (fun _ => 0) 0 = begS 5 from rfl, show runN (begS 5) tnNil (fun _ => 0) 0 = 0 from rfl]
      rw [show stV (begS 5) = .agg #[.int .i64 5, .int .i64 0, .int .i64 4294967296, .int .i64 0, .int .i64 4294967296, .bool false, .int .i64 0] from rfl]
      have Av94 := hide ((unhide Av93).below kk)
      have Dv94 := hide ((unhide Dv93).below kk)
      have Cv94 := hide ((unhide Cv93).below kk)
      have Kv94 := hide ((unhide Kv93).trans (kk.mono (unhide Kv93).size))
      clear kk Av93 Dv93 Cv93 Kv93
      have nn : ((n : Int) == (n : Int)) = true := by simp
      have K2 := hide ((unhide Kv94).alloc (unhide Kv94).size (.cells #[.int .i64 5, .int .i64 0, .int .i64 4294967296, .int .i64 0, .int .i64 4294967296, .bool false, .int .i64 0] 23))
      have aq0 := (unhide Av94).c0; have aq1 := (unhide Av94).c1; have aq2 := (unhide Av94).c2; have aq3 := (unhide Av94).c3; have aq4 := (unhide Av94).c4; have aq5 := (unhide Av94).c5; have aq6 := (unhide Av94).c6; have alt := (unhide Av94).lt
      have cq0 := (unhide Cv94).c0; have cq1 := (unhide Cv94).c1; have cq2 := (unhide Cv94).c2; have cq3 := (unhide Cv94).c3; have cq4 := (unhide Cv94).c4; have cq5 := (unhide Cv94).c5; have cq6 := (unhide Cv94).c6; have clt := (unhide Cv94).lt
      go_wp2_with fail
      clear aq0 aq1 aq2 aq3 aq4 aq5 aq6 alt
      clear cq0 cq1 cq2 cq3 cq4 cq5 cq6 clt
      go_ret
      exact ⟨rfl, unhide K2⟩
  · have AR0 := hide ar
    have hc : len ≤ cap := by omega
    clear ar rc
    go_enter Try.func7, Try.ntmps7
    go_upto_region 3 with fail
    rw [← unhide E0]
    obtain ⟨p, ep⟩ : ∃ p, p = runS s t f len := ⟨_, rfl⟩
    obtain ⟨n, en⟩ : ∃ n : Nat, n = runN s t f len := ⟨_, rfl⟩
    have EP := hide ep; have EN := hide en
    clear ep en
    go_cut [7, 8] (fun s7 s8 wx => ∃ LL : Nat, s7 = .pointer (some ⟨LL, 0, none⟩) ∧ s8 = .int .i64 (n : Int) ∧ SAt wx LL p ∧ ST w.heap.size (w.heap.size + 1) s t wx ∧ Below w.heap.size w wx)
    case first =>
      refine region_plan (S := ST w.heap.size (w.heap.size + 1) s t) (.rd 0 (.rd 1 (.rd 2 (.two 3 8 (.two 4 8 (.rd 5 (.rd 6 (.rd 7 (.go 8 (.go 9 (.go 10 .fin)))))) (.go 4 (.rd 5 (.rd 6 (.rd 7 (.go 9 (.go 10 .fin))))))) (.go 3 (.go 4 (.rd 5 (.rd 6 (.rd 7 (.go 9 (.go 10 .fin))))))))))) [] (by kernel_rfl) (by kernel_rfl) ?_
      have Du0 := hide (unhide Dv0).drew; have Ku0 := hide (below_drew (unhide Kv0)); have ARu0 := hide (ArgS.below (unhide AR0) (below_drew (unhide Kv0)))
      clear Dv0 Kv0
      generalize v0.drew = u0 at *
      iterate 3
        refine plan_read (v := ?_) rfl (fun _ _ _ h => h) (by rfl) (unhide Du0) ?_ ?_
        rotate_left 1
        · intro wx hwx
          have q0 := hwx.tn.c0; have q1 := hwx.tn.c1; have q2 := hwx.tn.c2; have q3 := hwx.tn.c3
          have c0 := hwx.st.c0; have c1 := hwx.st.c1; have c2 := hwx.st.c2; have c3 := hwx.st.c3; have c4 := hwx.st.c4; have c5 := hwx.st.c5; have c6 := hwx.st.c6
          clear hwx
          go_simp <;> exact rfl
        go_frame
      refine plan_two rfl rfl (fun K hK => ?_) (fun K hK => ?_)
      · rw [if_pos (by rfl)]
        refine wp_clone _ (.const (.slice none 0 0)) (.tmp 21) rfl rfl ao len cap f rfl (unhide ARu0) ?_
        intro aoR capR v11 hrd kk
        have RDv11 := hide hrd
        clear hrd
        have Dv11 := hide ((unhide Du0).below kk)
        have ARv11 := hide ((unhide ARu0).below kk)
        have Kv11 := hide ((unhide Ku0).trans (kk.mono (unhide Ku0).size))
        clear kk Du0 ARu0 Ku0
        refine hK _ _ (fun _ => (unhide Dv11)) ?_
        clear hK K
        refine plan_two rfl rfl (fun K hK => ?_) (fun K hK => ?_)
        · go_simp
          refine (run_any s t _ len _ f _ (unhide Rs) (unhide Rt) (unhide RF) (by omega) (unhide RDv11)).mono ?_
          rintro e v12 ⟨rfl, kk⟩
          rw [← unhide EP, ← unhide EN]
          have Dv12 := hide ((unhide Dv11).below kk)
          have ARv12 := hide ((unhide ARv11).below kk)
          have RDv12 := hide ((unhide RDv11).below kk)
          have Kv12 := hide ((unhide Kv11).trans (kk.mono (unhide Kv11).size))
          clear kk Dv11 ARv11 RDv11 Kv11
          refine hK _ _ (fun _ => (unhide Dv12)) ?_
          clear hK K
          iterate 3
            refine plan_read (v := ?_) rfl (fun _ _ _ h => h) (by rfl) (unhide Dv12) ?_ ?_
            rotate_left 1
            · intro wx hwx
              have q0 := hwx.tn.c0; have q1 := hwx.tn.c1; have q2 := hwx.tn.c2; have q3 := hwx.tn.c3
              have c0 := hwx.st.c0; have c1 := hwx.st.c1; have c2 := hwx.st.c2; have c3 := hwx.st.c3; have c4 := hwx.st.c4; have c5 := hwx.st.c5; have c6 := hwx.st.c6
              clear hwx
              go_simp <;> exact rfl
            go_frame
          refine plan_do rfl (fun K hK => ?_)
          go_simp
          obtain ⟨v13, ee, hh, kk, zz⟩ := one_state v12 St.nil
          rw [show (v12.alloc (.cells #[.int .i64 0, .int .i64 0, .int .i64 0, .int .i64 0, .int .i64 0, .bool false, .int .i64 0] 23)) = v13 from ee.symm]
          have LVv13 := hide hh
          have ND := hide (show w.heap.size + 1 < v12.heap.size from (unhide Dv12).tn.lt)
          have NK := hide (unhide Kv12).size
          clear ee hh zz
          have Dv13 := hide ((unhide Dv12).below kk)
          have ARv13 := hide ((unhide ARv12).below kk)
          have Kv13 := hide ((unhide Kv12).trans (kk.mono (unhide Kv12).size))
          clear kk Dv12 ARv12 Kv12
          refine hK _ _ (fun _ => (unhide Dv13)) ?_
          clear hK K
          generalize eL : v12.heap.size = LL at *
          clear eL
          refine plan_do rfl (fun K hK => ?_)
          have z0 := (unhide LVv13).c0; have f0 := (unhide LVv13).free 0; have z1 := (unhide LVv13).c1; have f1 := (unhide LVv13).free 1; have z2 := (unhide LVv13).c2; have f2 := (unhide LVv13).free 2; have z3 := (unhide LVv13).c3; have f3 := (unhide LVv13).free 3; have z4 := (unhide LVv13).c4; have f4 := (unhide LVv13).free 4; have z5 := (unhide LVv13).c5; have f5 := (unhide LVv13).free 5; have z6 := (unhide LVv13).c6; have f6 := (unhide LVv13).free 6
          go_simp
          obtain ⟨v14, ee, hh, kk⟩ := (unhide LVv13).put p
          rw [← ee]
          clear ee z0 f0 z1 f1 z2 f2 z3 f3 z4 f4 z5 f5 z6 f6
          have LVv14 := hide hh
          have Dv14 := hide ((unhide Dv13).kept kk (by have := unhide ND; omega) (by have := unhide ND; omega))
          have Kv14 := hide (below_of_kept (unhide Kv13) kk (unhide NK) (unhide Kv13).size)
          clear hh kk
          refine hK _ _ (fun _ => (unhide Dv14)) ?_
          clear hK K
          refine plan_do rfl (fun K hK => ?_)
          go_simp
          refine hK _ _ (fun _ => (unhide Dv14)) ?_
          clear hK K
          refine plan_end ?_
          go_wp2_with fail
          go_meet
          exact ⟨LL, rfl, rfl, (unhide LVv14), (unhide Dv14), (unhide Kv14)⟩
        · go_simp
          obtain ⟨v15, ee, hh, kk, zz⟩ := one_state v11 St.nil
          rw [show (v11.alloc (.cells #[.int .i64 0, .int .i64 0, .int .i64 0, .int .i64 0, .int .i64 0, .bool false, .int .i64 0] 23)) = v15 from ee.symm]
          have LVv15 := hide hh
          have ND := hide (show w.heap.size + 1 < v11.heap.size from (unhide Dv11).tn.lt)
          have NK := hide (unhide Kv11).size
          clear ee hh zz
          have Dv15 := hide ((unhide Dv11).below kk)
          have ARv15 := hide ((unhide ARv11).below kk)
          have RDv15 := hide ((unhide RDv11).below kk)
          have Kv15 := hide ((unhide Kv11).trans (kk.mono (unhide Kv11).size))
          clear kk Dv11 ARv11 RDv11 Kv11
          refine hK _ _ (fun _ => (unhide Dv15)) ?_
          clear hK K
          generalize eL : v11.heap.size = LL at *
          clear eL
          refine plan_do rfl (fun K hK => ?_)
          go_simp
          refine (run_any s t _ len _ f _ (unhide Rs) (unhide Rt) (unhide RF) (by omega) (unhide RDv15)).mono ?_
          rintro e v16 ⟨rfl, kk⟩
          rw [← unhide EP, ← unhide EN]
          have Dv16 := hide ((unhide Dv15).below kk)
          have ARv16 := hide ((unhide ARv15).below kk)
          have RDv16 := hide ((unhide RDv15).below kk)
          have LVv16 := hide ((unhide LVv15).below kk)
          have Kv16 := hide ((unhide Kv15).trans (kk.mono (unhide Kv15).size))
          clear kk Dv15 ARv15 RDv15 LVv15 Kv15
          refine hK _ _ (fun _ => (unhide Dv16)) ?_
          clear hK K
          iterate 3
            refine plan_read (v := ?_) rfl (fun _ _ _ h => h) (by rfl) (unhide Dv16) ?_ ?_
            rotate_left 1
            · intro wx hwx
              have q0 := hwx.tn.c0; have q1 := hwx.tn.c1; have q2 := hwx.tn.c2; have q3 := hwx.tn.c3
              have c0 := hwx.st.c0; have c1 := hwx.st.c1; have c2 := hwx.st.c2; have c3 := hwx.st.c3; have c4 := hwx.st.c4; have c5 := hwx.st.c5; have c6 := hwx.st.c6
              clear hwx
              go_simp <;> exact rfl
            go_frame
          refine plan_do rfl (fun K hK => ?_)
          have z0 := (unhide LVv16).c0; have f0 := (unhide LVv16).free 0; have z1 := (unhide LVv16).c1; have f1 := (unhide LVv16).free 1; have z2 := (unhide LVv16).c2; have f2 := (unhide LVv16).free 2; have z3 := (unhide LVv16).c3; have f3 := (unhide LVv16).free 3; have z4 := (unhide LVv16).c4; have f4 := (unhide LVv16).free 4; have z5 := (unhide LVv16).c5; have f5 := (unhide LVv16).free 5; have z6 := (unhide LVv16).c6; have f6 := (unhide LVv16).free 6
          go_simp
          obtain ⟨v17, ee, hh, kk⟩ := (unhide LVv16).put p
          rw [← ee]
          clear ee z0 f0 z1 f1 z2 f2 z3 f3 z4 f4 z5 f5 z6 f6
          have LVv17 := hide hh
          have Dv17 := hide ((unhide Dv16).kept kk (by have := unhide ND; omega) (by have := unhide ND; omega))
          have Kv17 := hide (below_of_kept (unhide Kv16) kk (unhide NK) (unhide Kv16).size)
          clear hh kk
          refine hK _ _ (fun _ => (unhide Dv17)) ?_
          clear hK K
          refine plan_do rfl (fun K hK => ?_)
          go_simp
          refine hK _ _ (fun _ => (unhide Dv17)) ?_
          clear hK K
          refine plan_end ?_
          go_wp2_with fail
          go_meet
          exact ⟨LL, rfl, rfl, (unhide LVv17), (unhide Dv17), (unhide Kv17)⟩
      · go_simp
        obtain ⟨v18, ee, hh, kk, zz⟩ := one_state u0 St.nil
        rw [show (u0.alloc (.cells #[.int .i64 0, .int .i64 0, .int .i64 0, .int .i64 0, .int .i64 0, .bool false, .int .i64 0] 23)) = v18 from ee.symm]
        have LVv18 := hide hh
        have ND := hide (show w.heap.size + 1 < u0.heap.size from (unhide Du0).tn.lt)
        have NK := hide (unhide Ku0).size
        clear ee hh zz
        have Dv18 := hide ((unhide Du0).below kk)
        have ARv18 := hide ((unhide ARu0).below kk)
        have Kv18 := hide ((unhide Ku0).trans (kk.mono (unhide Ku0).size))
        clear kk Du0 ARu0 Ku0
        refine hK _ _ (fun _ => (unhide Dv18)) ?_
        clear hK K
        generalize eL : u0.heap.size = LL at *
        clear eL
        refine plan_do rfl (fun K hK => ?_)
        rw [if_pos (by rfl)]
        refine wp_clone _ (.const (.slice none 0 0)) (.tmp 21) rfl rfl ao len cap f rfl (unhide ARv18) ?_
        intro aoR capR v19 hrd kk
        have RDv19 := hide hrd
        clear hrd
        have Dv19 := hide ((unhide Dv18).below kk)
        have ARv19 := hide ((unhide ARv18).below kk)
        have LVv19 := hide ((unhide LVv18).below kk)
        have Kv19 := hide ((unhide Kv18).trans (kk.mono (unhide Kv18).size))
        clear kk Dv18 ARv18 LVv18 Kv18
        refine hK _ _ (fun _ => (unhide Dv19)) ?_
        clear hK K
        refine plan_do rfl (fun K hK => ?_)
        go_simp
        refine (run_any s t _ len _ f _ (unhide Rs) (unhide Rt) (unhide RF) (by omega) (unhide RDv19)).mono ?_
        rintro e v20 ⟨rfl, kk⟩
        rw [← unhide EP, ← unhide EN]
        have Dv20 := hide ((unhide Dv19).below kk)
        have ARv20 := hide ((unhide ARv19).below kk)
        have LVv20 := hide ((unhide LVv19).below kk)
        have RDv20 := hide ((unhide RDv19).below kk)
        have Kv20 := hide ((unhide Kv19).trans (kk.mono (unhide Kv19).size))
        clear kk Dv19 ARv19 LVv19 RDv19 Kv19
        refine hK _ _ (fun _ => (unhide Dv20)) ?_
        clear hK K
        iterate 3
          refine plan_read (v := ?_) rfl (fun _ _ _ h => h) (by rfl) (unhide Dv20) ?_ ?_
          rotate_left 1
          · intro wx hwx
            have q0 := hwx.tn.c0; have q1 := hwx.tn.c1; have q2 := hwx.tn.c2; have q3 := hwx.tn.c3
            have c0 := hwx.st.c0; have c1 := hwx.st.c1; have c2 := hwx.st.c2; have c3 := hwx.st.c3; have c4 := hwx.st.c4; have c5 := hwx.st.c5; have c6 := hwx.st.c6
            clear hwx
            go_simp <;> exact rfl
          go_frame
        refine plan_do rfl (fun K hK => ?_)
        have z0 := (unhide LVv20).c0; have f0 := (unhide LVv20).free 0; have z1 := (unhide LVv20).c1; have f1 := (unhide LVv20).free 1; have z2 := (unhide LVv20).c2; have f2 := (unhide LVv20).free 2; have z3 := (unhide LVv20).c3; have f3 := (unhide LVv20).free 3; have z4 := (unhide LVv20).c4; have f4 := (unhide LVv20).free 4; have z5 := (unhide LVv20).c5; have f5 := (unhide LVv20).free 5; have z6 := (unhide LVv20).c6; have f6 := (unhide LVv20).free 6
        go_simp
        obtain ⟨v21, ee, hh, kk⟩ := (unhide LVv20).put p
        rw [← ee]
        clear ee z0 f0 z1 f1 z2 f2 z3 f3 z4 f4 z5 f5 z6 f6
        have LVv21 := hide hh
        have Dv21 := hide ((unhide Dv20).kept kk (by have := unhide ND; omega) (by have := unhide ND; omega))
        have Kv21 := hide (below_of_kept (unhide Kv20) kk (unhide NK) (unhide Kv20).size)
        clear hh kk
        refine hK _ _ (fun _ => (unhide Dv21)) ?_
        clear hK K
        refine plan_do rfl (fun K hK => ?_)
        go_simp
        refine hK _ _ (fun _ => (unhide Dv21)) ?_
        clear hK K
        refine plan_end ?_
        go_wp2_with fail
        go_meet
        exact ⟨LL, rfl, rfl, (unhide LVv21), (unhide Dv21), (unhide Kv21)⟩
    case rest =>
      obtain ⟨LL, rfl, rfl, lvv, dd, kc⟩ := hcut
      have Awc := hide lvv; have Dwc := hide dd; have Kwc := hide kc
      clear lvv dd kc Kv0 Dv0
      have dq0 := (unhide Dwc).st.c0; have dq1 := (unhide Dwc).st.c1; have dq2 := (unhide Dwc).st.c2; have dq3 := (unhide Dwc).st.c3; have dq4 := (unhide Dwc).st.c4; have dq5 := (unhide Dwc).st.c5; have dq6 := (unhide Dwc).st.c6; have tq0 := (unhide Dwc).tn.c0; have tq1 := (unhide Dwc).tn.c1; have tq2 := (unhide Dwc).tn.c2; have tq3 := (unhide Dwc).tn.c3; have dlt := (unhide Dwc).st.lt; have tlt := (unhide Dwc).tn.lt
      go_wp2_with fail
      clear dq0 dq1 dq2 dq3 dq4 dq5 dq6 tq0 tq1 tq2 tq3 dlt tlt
      refine (refRun_any s t ao cap f (unhide Rs) (unhide Rt) (unhide RF) len _ (by omega) (by omega) ((unhide AR0).below (unhide Kwc)).rds).mono ?_
      rintro e v91 ⟨rfl, kk⟩
      rw [← unhide EP, ← unhide EN]
      have Av91 := hide ((unhide Awc).below kk)
      have Dv91 := hide ((unhide Dwc).below kk)
      have Kv91 := hide ((unhide Kwc).trans (kk.mono (unhide Kwc).size))
      clear kk Awc Dwc Kwc
      go_wp2_with fail
      obtain ⟨v92, ee, hh, kk, zz⟩ := one_state v91 p
      rw [← ee]
      clear ee zz
      have Cv92 := hide hh
      clear hh
      have Av92 := hide ((unhide Av91).below kk)
      have Dv92 := hide ((unhide Dv91).below kk)
      have Kv92 := hide ((unhide Kv91).trans (kk.mono (unhide Kv91).size))
      clear kk Av91 Dv91 Kv91
      generalize eBC : v91.heap.size = BC at *
      clear eBC
      refine (begin_any 5 _).mono ?_
      rintro e v93 ⟨rfl, kk⟩
      have Av93 := hide ((unhide Av92).below kk)
      have Dv93 := hide ((unhide Dv92).below kk)
      have Cv93 := hide ((unhide Cv92).below kk)
      have Kv93 := hide ((unhide Kv92).trans (kk.mono (unhide Kv92).size))
      clear kk Av92 Dv92 Cv92 Kv92
      go_wp2_with fail
      refine (run_any (begS 5) tnNil none 0 0 (fun _ => 0) _ (begS_ok (by unfold R64; omega)) tnNil_ok (fun _ => R64_nought) (by omega) (fun h => absurd h (by omega))).mono ?_
      rintro e v94 ⟨rfl, kk⟩
      rw [show runS (begS 5) tnNil (fun _ => 0) 0 = begS 5 from rfl, show runN (begS 5) tnNil (fun _ => 0) 0 = 0 from rfl]
      rw [show stV (begS 5) = .agg #[.int .i64 5, .int .i64 0, .int .i64 4294967296, .int .i64 0, .int .i64 4294967296, .bool false, .int .i64 0] from rfl]
      have Av94 := hide ((unhide Av93).below kk)
      have Dv94 := hide ((unhide Dv93).below kk)
      have Cv94 := hide ((unhide Cv93).below kk)
      have Kv94 := hide ((unhide Kv93).trans (kk.mono (unhide Kv93).size))
      clear kk Av93 Dv93 Cv93 Kv93
      have nn : ((n : Int) == (n : Int)) = true := by simp
      have K2 := hide ((unhide Kv94).alloc (unhide Kv94).size (.cells #[.int .i64 5, .int .i64 0, .int .i64 4294967296, .int .i64 0, .int .i64 4294967296, .bool false, .int .i64 0] 23))
      have aq0 := (unhide Av94).c0; have aq1 := (unhide Av94).c1; have aq2 := (unhide Av94).c2; have aq3 := (unhide Av94).c3; have aq4 := (unhide Av94).c4; have aq5 := (unhide Av94).c5; have aq6 := (unhide Av94).c6; have alt := (unhide Av94).lt
      have cq0 := (unhide Cv94).c0; have cq1 := (unhide Cv94).c1; have cq2 := (unhide Cv94).c2; have cq3 := (unhide Cv94).c3; have cq4 := (unhide Cv94).c4; have cq5 := (unhide Cv94).c5; have cq6 := (unhide Cv94).c6; have clt := (unhide Cv94).lt
      go_wp2_with fail
      clear aq0 aq1 aq2 aq3 aq4 aq5 aq6 alt
      clear cq0 cq1 cq2 cq3 cq4 cq5 cq6 clt
      go_ret
      exact ⟨rfl, unhide K2⟩

end Go.Proofs.Ytblglojbghmphaa
