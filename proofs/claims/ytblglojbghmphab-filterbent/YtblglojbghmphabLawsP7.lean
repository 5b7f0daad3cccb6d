/- Walk of the statement FilterBent. -/
import Derived.Test.YtblglojbghmphabFilKeep
import Derived.Test.YtblglojbghmphabFilEql
import Derived.Test.YtblglojbghmphabFilRun
import Derived.Test.YtblglojbghmphabRowClone
import Derived.Test.YtblglojbghmphabFork
import Derived.Deep.DeepCutAuto
namespace Go.Proofs.Ytblglojbghmphab
open Go.RowKit

set_option maxHeartbeats 8000000 in
set_option maxRecDepth 20000 in
theorem filterBent_go {w : World} (s : St) (t : Tn) (ao : Option Addr) (len cap : Nat) (f : Nat → Int) (s1 : St) (hs : s.Ok) (ht : t.Ok) (ar : ArgS w ao len cap f) (rc : len ≤ cap) (es : s1 = ⟨s.X, s.V, s.P00, s.P01, s.P11, true, s.M⟩) : Calls Try.prog 5 #[stV s, tnV t, .slice ao len cap] w fun e w' => e = .returned (.bool true) ∧ Below w.heap.size w w' := by
  have R1 := hide (show s1.Ok by rw [es]; exact ⟨hs.X, hs.V, hs.P00, hs.P01, hs.P11, hs.M⟩); have Rt := hide ht; have RF := hide ar.2.2
  have EB := hide (show s1.B = true by rw [es])
  obtain ⟨v0, ee, d0, k0⟩ := st_start w s1 t
  have E0 := hide (show v0 = (w.alloc (.cells #[.int .i64 s.X, .int .i64 s.V, .int .i64 s.P00, .int .i64 s.P01, .int .i64 s.P11, .bool true, .int .i64 s.M] 23)).alloc (.cells #[.int .i64 t.Dt, .int .i64 t.Q, .int .i64 t.R, .int .i64 t.G] 25) by rw [ee, es])
  have Kv0 := hide k0; have Dv0 := hide d0
  clear ee d0 k0 hs ht es
  by_cases hb : 300 < len
  · have AR0 := hide (ar.head (show 300 ≤ len by omega))
    have hc : 300 ≤ cap := by omega
    clear ar rc
    go_enter Try.func5, Try.ntmps5
    go_upto_region 4 with fail
    rw [← unhide E0]
    obtain ⟨p, ep⟩ : ∃ p, p = runS s1 t f 300 := ⟨_, rfl⟩
    obtain ⟨n, en⟩ : ∃ n : Nat, n = runN s1 t f 300 := ⟨_, rfl⟩
    have EP := hide ep; have EN := hide en
    have PB := hide (show p.B = true by rw [ep]; exact runS_bent (unhide EB) _ _ _)
    clear ep en
    go_cut [7, 8] (fun s7 s8 wx => ∃ LL : Nat, s7 = .pointer (some ⟨LL, 0, none⟩) ∧ s8 = .int .i64 (n : Int) ∧ SAt wx LL p ∧ ST w.heap.size (w.heap.size + 1) s1 t wx ∧ Below w.heap.size w wx)
    case first =>
      refine region_plan (S := ST w.heap.size (w.heap.size + 1) s1 t) (.rd 0 (.rd 1 (.rd 2 (.two 3 8 (.two 4 8 (.rd 5 (.rd 6 (.rd 7 (.go 8 (.go 9 (.go 10 .fin)))))) (.go 4 (.rd 5 (.rd 6 (.rd 7 (.go 9 (.go 10 .fin))))))) (.go 3 (.go 4 (.rd 5 (.rd 6 (.rd 7 (.go 9 (.go 10 .fin))))))))))) [] (by kernel_rfl) (by kernel_rfl) ?_
      have Du0 := hide (unhide Dv0).drew; have Ku0 := hide (below_drew (unhide Kv0)); have ARu0 := hide (ArgS.below (unhide AR0) (below_drew (unhide Kv0)))
      clear Dv0 Kv0 AR0
      generalize v0.drew = u0 at *
      iterate 3
        refine plan_read (v := ?_) rfl (fun _ _ _ h => h) (by rfl) (unhide Du0) ?_ ?_
        rotate_left 1
        · intro wx hwx
          have q0 := hwx.tn.c0; have q1 := hwx.tn.c1; have q2 := hwx.tn.c2; have q3 := hwx.tn.c3
          have c0 := hwx.st.c0; have c1 := hwx.st.c1; have c2 := hwx.st.c2; have c3 := hwx.st.c3; have c4 := hwx.st.c4; have c5 := hwx.st.c5; have c6 := hwx.st.c6
          clear hwx
          go_simp <;> exact rfl
        go_frame
      refine plan_two rfl rfl (fun K hK => ?_) (fun K hK => ?_)
      · rw [if_pos (by rfl)]
        refine wp_clone _ (.const (.slice none 0 0)) (.tmp 18) rfl rfl ao 300 cap f rfl (unhide ARu0) ?_
        intro aoR capR v11 hrd kk
        have RDv11 := hide hrd
        clear hrd
        have Dv11 := hide ((unhide Du0).below kk)
        have ARv11 := hide ((unhide ARu0).below kk)
        have Kv11 := hide ((unhide Ku0).trans (kk.mono (unhide Ku0).size))
        clear kk Du0 ARu0 Ku0
        refine hK _ _ (fun _ => (unhide Dv11)) ?_
        clear hK K
        refine plan_two rfl rfl (fun K hK => ?_) (fun K hK => ?_)
        · go_simp
          refine (run_any s1 t _ 300 _ f _ (unhide R1) (unhide Rt) (unhide RF) (by omega) (unhide RDv11)).mono ?_
          rintro e v12 ⟨rfl, kk⟩
          rw [← unhide EP, ← unhide EN]
          have Dv12 := hide ((unhide Dv11).below kk)
          have ARv12 := hide ((unhide ARv11).below kk)
          have RDv12 := hide ((unhide RDv11).below kk)
          have Kv12 := hide ((unhide Kv11).trans (kk.mono (unhide Kv11).size))
          clear kk Dv11 ARv11 RDv11 Kv11
          refine hK _ _ (fun _ => (unhide Dv12)) ?_
          clear hK K
          iterate 3
            refine plan_read (v := ?_) rfl (fun _ _ _ h => h) (by rfl) (unhide Dv12) ?_ ?_
            rotate_left 1
            · intro wx hwx
              have q0 := hwx.tn.c0; have q1 := hwx.tn.c1; have q2 := hwx.tn.c2; have q3 := hwx.tn.c3
              have c0 := hwx.st.c0; have c1 := hwx.st.c1; have c2 := hwx.st.c2; have c3 := hwx.st.c3; have c4 := hwx.st.c4; have c5 := hwx.st.c5; have c6 := hwx.st.c6
              clear hwx
              go_simp <;> exact rfl
            go_frame
          refine plan_do rfl (fun K hK => ?_)
          go_simp
          obtain ⟨v13, ee, hh, kk, zz⟩ := one_state v12 St.nil
          rw [show (v12.alloc (.cells #[.int .i64 0, .int .i64 0, .int .i64 0, .int .i64 0, .int .i64 0, .bool false, .int .i64 0] 23)) = v13 from ee.symm]
          have LVv13 := hide hh
          have ND := hide (show w.heap.size + 1 < v12.heap.size from (unhide Dv12).tn.lt)
          have NK := hide (unhide Kv12).size
          clear ee hh zz
          have Dv13 := hide ((unhide Dv12).below kk)
          have ARv13 := hide ((unhide ARv12).below kk)
          have Kv13 := hide ((unhide Kv12).trans (kk.mono (unhide Kv12).size))
          clear kk Dv12 ARv12 Kv12
          refine hK _ _ (fun _ => (unhide Dv13)) ?_
          clear hK K
          generalize eL : v12.heap.size = LL at *
          clear eL
          refine plan_do rfl (fun K hK => ?_)
          have z0 := (unhide LVv13).c0; have f0 := (unhide LVv13).free 0; have z1 := (unhide LVv13).c1; have f1 := (unhide LVv13).free 1; have z2 := (unhide LVv13).c2; have f2 := (unhide LVv13).free 2; have z3 := (unhide LVv13).c3; have f3 := (unhide LVv13).free 3; have z4 := (unhide LVv13).c4; have f4 := (unhide LVv13).free 4; have z5 := (unhide LVv13).c5; have f5 := (unhide LVv13).free 5; have z6 := (unhide LVv13).c6; have f6 := (unhide LVv13).free 6
          go_simp
          obtain ⟨v14, ee, hh, kk⟩ := (unhide LVv13).put p
          rw [← ee]
          clear ee z0 f0 z1 f1 z2 f2 z3 f3 z4 f4 z5 f5 z6 f6
          have LVv14 := hide hh
          have Dv14 := hide ((unhide Dv13).kept kk (by have := unhide ND; omega) (by have := unhide ND; omega))
          have Kv14 := hide (below_of_kept (unhide Kv13) kk (unhide NK) (unhide Kv13).size)
          clear hh kk
          refine hK _ _ (fun _ => (unhide Dv14)) ?_
          clear hK K
          refine plan_do rfl (fun K hK => ?_)
          go_simp
          refine hK _ _ (fun _ => (unhide Dv14)) ?_
          clear hK K
          refine plan_end ?_
          go_wp2_with fail
          go_meet
          exact ⟨LL, rfl, rfl, (unhide LVv14), (unhide Dv14), (unhide Kv14)⟩
        · go_simp
          obtain ⟨v15, ee, hh, kk, zz⟩ := one_state v11 St.nil
          rw [show (v11.alloc (.cells #[.int .i64 0, .int .i64 0, .int .i64 0, .int .i64 0, .int .i64 0, .bool false, .int .i64 0] 23)) = v15 from ee.symm]
          have LVv15 := hide hh
          have ND := hide (show w.heap.size + 1 < v11.heap.size from (unhide Dv11).tn.lt)
          have NK := hide (unhide Kv11).size
          clear ee hh zz
          have Dv15 := hide ((unhide Dv11).below kk)
          have ARv15 := hide ((unhide ARv11).below kk)
          have RDv15 := hide ((unhide RDv11).below kk)
          have Kv15 := hide ((unhide Kv11).trans (kk.mono (unhide Kv11).size))
          clear kk Dv11 ARv11 RDv11 Kv11
          refine hK _ _ (fun _ => (unhide Dv15)) ?_
          clear hK K
          generalize eL : v11.heap.size = LL at *
          clear eL
          refine plan_do rfl (fun K hK => ?_)
          go_simp
          refine (run_any s1 t _ 300 _ f _ (unhide R1) (unhide Rt) (unhide RF) (by omega) (unhide RDv15)).mono ?_
          rintro e v16 ⟨rfl, kk⟩
          rw [← unhide EP, ← unhide EN]
          have Dv16 := hide ((unhide Dv15).below kk)
          have ARv16 := hide ((unhide ARv15).below kk)
          have RDv16 := hide ((unhide RDv15).below kk)
          have LVv16 := hide ((unhide LVv15).below kk)
          have Kv16 := hide ((unhide Kv15).trans (kk.mono (unhide Kv15).size))
          clear kk Dv15 ARv15 RDv15 LVv15 Kv15
          refine hK _ _ (fun _ => (unhide Dv16)) ?_
          clear hK K
          iterate 3
            refine plan_read (v := ?_) rfl (fun _ _ _ h => h) (by rfl) (unhide Dv16) ?_ ?_
            rotate_left 1
            · intro wx hwx
              have q0 := hwx.tn.c0; have q1 := hwx.tn.c1; have q2 := hwx.tn.c2; have q3 := hwx.tn.c3
              have c0 := hwx.st.c0; have c1 := hwx.st.c1; have c2 := hwx.st.c2; have c3 := hwx.st.c3; have c4 := hwx.st.c4; have c5 := hwx.st.c5; have c6 := hwx.st.c6
              clear hwx
              go_simp <;> exact rfl
            go_frame
          refine plan_do rfl (fun K hK => ?_)
          have z0 := (unhide LVv16).c0; have f0 := (unhide LVv16).free 0; have z1 := (unhide LVv16).c1; have f1 := (unhide LVv16).free 1; have z2 := (unhide LVv16).c2; have f2 := (unhide LVv16).free 2; have z3 := (unhide LVv16).c3; have f3 := (unhide LVv16).free 3; have z4 := (unhide LVv16).c4; have f4 := (unhide LVv16).free 4; have z5 := (unhide LVv16).c5; have f5 := (unhide LVv16).free 5; have z6 := (unhide LVv16).c6; have f6 := (unhide LVv16).free 6
          go_simp
          obtain ⟨v17, ee, hh, kk⟩ := (unhide LVv16).put p
          rw [← ee]
          clear ee z0 f0 z1 f1 z2 f2 z3 f3 z4 f4 z5 f5 z6 f6
          have LVv17 := hide hh
          have Dv17 := hide ((unhide Dv16).kept kk (by have := unhide ND; omega) (by have := unhide ND; omega))
          have Kv17 := hide (below_of_kept (unhide Kv16) kk (unhide NK) (unhide Kv16).size)
          clear hh kk
          refine hK _ _ (fun _ => (unhide Dv17)) ?_
          clear hK K
          refine plan_do rfl (fun K hK => ?_)
          go_simp
          refine hK _ _ (fun _ => (unhide Dv17)) ?_
          clear hK K
          refine plan_end ?_
          go_wp2_with fail
          go_meet
          exact ⟨LL, rfl, rfl, (unhide LVv17), (unhide Dv17), (unhide Kv17)⟩
      · go_simp
        obtain ⟨v18, ee, hh, kk, zz⟩ := one_state u0 St.nil
        rw [show (u0.alloc (.cells #[.int .i64 0, .int .i64 0, .int .i64 0, .int .i64 0, .int .i64 0, .bool false, .int .i64 0] 23)) = v18 from ee.symm]
        have LVv18 := hide hh
        have ND := hide (show w.heap.size + 1 < u0.heap.size from (unhide Du0).tn.lt)
        have NK := hide (unhide Ku0).size
        clear ee hh zz
        have Dv18 := hide ((unhide Du0).below kk)
        have ARv18 := hide ((unhide ARu0).below kk)
        have Kv18 := hide ((unhide Ku0).trans (kk.mono (unhide Ku0).size))
        clear kk Du0 ARu0 Ku0
        refine hK _ _ (fun _ => (unhide Dv18)) ?_
        clear hK K
        generalize eL : u0.heap.size = LL at *
        clear eL
        refine plan_do rfl (fun K hK => ?_)
        rw [if_pos (by rfl)]
        refine wp_clone _ (.const (.slice none 0 0)) (.tmp 18) rfl rfl ao 300 cap f rfl (unhide ARv18) ?_
        intro aoR capR v19 hrd kk
        have RDv19 := hide hrd
        clear hrd
        have Dv19 := hide ((unhide Dv18).below kk)
        have ARv19 := hide ((unhide ARv18).below kk)
        have LVv19 := hide ((unhide LVv18).below kk)
        have Kv19 := hide ((unhide Kv18).trans (kk.mono (unhide Kv18).size))
        clear kk Dv18 ARv18 LVv18 Kv18
        refine hK _ _ (fun _ => (unhide Dv19)) ?_
        clear hK K
        refine plan_do rfl (fun K hK => ?_)
        go_simp
        refine (run_any s1 t _ 300 _ f _ (unhide R1) (unhide Rt) (unhide RF) (by omega) (unhide RDv19)).mono ?_
        rintro e v20 ⟨rfl, kk⟩
        rw [← unhide EP, ← unhide EN]
        have Dv20 := hide ((unhide Dv19).below kk)
        have ARv20 := hide ((unhide ARv19).below kk)
        have LVv20 := hide ((unhide LVv19).below kk)
        have RDv20 := hide ((unhide RDv19).below kk)
        have Kv20 := hide ((unhide Kv19).trans (kk.mono (unhide Kv19).size))
        clear kk Dv19 ARv19 LVv19 RDv19 Kv19
        refine hK _ _ (fun _ => (unhide Dv20)) ?_
        clear hK K
        iterate 3
          refine plan_read (v := ?_) rfl (fun _ _ _ h => h) (by rfl) (unhide Dv20) ?_ ?_
          rotate_left 1
          · intro wx hwx
            have q0 := hwx.tn.c0; have q1 := hwx.tn.c1; have q2 := hwx.tn.c2; have q3 := hwx.tn.c3
            have c0 := hwx.st.c0; have c1 := hwx.st.c1; have c2 := hwx.st.c2; have c3 := hwx.st.c3; have c4 := hwx.st.c4; have c5 := hwx.st.c5; have c6 := hwx.st.c6
            clear hwx
            go_simp <;> exact rfl
          go_frame
        refine plan_do rfl (fun K hK => ?_)
        have z0 := (unhide LVv20).c0; have f0 := (unhide LVv20).free 0; have z1 := (unhide LVv20).c1; have f1 := (unhide LVv20).free 1; have z2 := (unhide LVv20).c2; have f2 := (unhide LVv20).free 2; have z3 := (unhide LVv20).c3; have f3 := (unhide LVv20).free 3; have z4 := (unhide LVv20).c4; have f4 := (unhide LVv20).free 4; have z5 := (unhide LVv20).c5; have f5 := (unhide LVv20).free 5; have z6 := (unhide LVv20).c6; have f6 := (unhide LVv20).free 6
        go_simp
        obtain ⟨v21, ee, hh, kk⟩ := (unhide LVv20).put p
        rw [← ee]
        clear ee z0 f0 z1 f1 z2 f2 z3 f3 z4 f4 z5 f5 z6 f6
        have LVv21 := hide hh
        have Dv21 := hide ((unhide Dv20).kept kk (by have := unhide ND; omega) (by have := unhide ND; omega))
        have Kv21 := hide (below_of_kept (unhide Kv20) kk (unhide NK) (unhide Kv20).size)
        clear hh kk
        refine hK _ _ (fun _ => (unhide Dv21)) ?_
        clear hK K
        refine plan_do rfl (fun K hK => ?_)
        go_simp
        refine hK _ _ (fun _ => (unhide Dv21)) ?_
        clear hK K
        refine plan_end ?_
        go_wp2_with fail
        go_meet
        exact ⟨LL, rfl, rfl, (unhide LVv21), (unhide Dv21), (unhide Kv21)⟩
    case rest =>
      obtain ⟨LL, rfl, rfl, lvv, dd, kc⟩ := hcut
      have Awc := hide lvv; have Dwc := hide dd; have Kwc := hide kc
      clear lvv dd kc
      go_wp2_with fail
      refine (follows_any _).mono ?_
      rintro e v91 ⟨rfl, kk⟩
      have Av91 := hide ((unhide Awc).below kk)
      have Dv91 := hide ((unhide Dwc).below kk)
      have Kv91 := hide ((unhide Kwc).trans (kk.mono (unhide Kwc).size))
      clear kk Awc Dwc Kwc
      have a5 := (unhide Av91).c5
      rw [unhide PB] at a5
      go_wp2_with fail
      go_ret
      exact ⟨rfl, (unhide Kv91)⟩
  · have AR0 := hide ar
    clear ar rc
    go_enter Try.func5, Try.ntmps5
    go_upto_region 4 with fail
    rw [← unhide E0]
    obtain ⟨p, ep⟩ : ∃ p, p = runS s1 t f len := ⟨_, rfl⟩
    obtain ⟨n, en⟩ : ∃ n : Nat, n = runN s1 t f len := ⟨_, rfl⟩
    have EP := hide ep; have EN := hide en
    have PB := hide (show p.B = true by rw [ep]; exact runS_bent (unhide EB) _ _ _)
    clear ep en
    go_cut [7, 8] (fun s7 s8 wx => ∃ LL : Nat, s7 = .pointer (some ⟨LL, 0, none⟩) ∧ s8 = .int .i64 (n : Int) ∧ SAt wx LL p ∧ ST w.heap.size (w.heap.size + 1) s1 t wx ∧ Below w.heap.size w wx)
    case first =>
      refine region_plan (S := ST w.heap.size (w.heap.size + 1) s1 t) (.rd 0 (.rd 1 (.rd 2 (.two 3 8 (.two 4 8 (.rd 5 (.rd 6 (.rd 7 (.go 8 (.go 9 (.go 10 .fin)))))) (.go 4 (.rd 5 (.rd 6 (.rd 7 (.go 9 (.go 10 .fin))))))) (.go 3 (.go 4 (.rd 5 (.rd 6 (.rd 7 (.go 9 (.go 10 .fin))))))))))) [] (by kernel_rfl) (by kernel_rfl) ?_
      have Du0 := hide (unhide Dv0).drew; have Ku0 := hide (below_drew (unhide Kv0)); have ARu0 := hide (ArgS.below (unhide AR0) (below_drew (unhide Kv0)))
      clear Dv0 Kv0 AR0
      generalize v0.drew = u0 at *
      iterate 3
        refine plan_read (v := ?_) rfl (fun _ _ _ h => h) (by rfl) (unhide Du0) ?_ ?_
        rotate_left 1
        · intro wx hwx
          have q0 := hwx.tn.c0; have q1 := hwx.tn.c1; have q2 := hwx.tn.c2; have q3 := hwx.tn.c3
          have c0 := hwx.st.c0; have c1 := hwx.st.c1; have c2 := hwx.st.c2; have c3 := hwx.st.c3; have c4 := hwx.st.c4; have c5 := hwx.st.c5; have c6 := hwx.st.c6
          clear hwx
          go_simp <;> exact rfl
        go_frame
      refine plan_two rfl rfl (fun K hK => ?_) (fun K hK => ?_)
      · rw [if_pos (by rfl)]
        refine wp_clone _ (.const (.slice none 0 0)) (.tmp 18) rfl rfl ao len cap f rfl (unhide ARu0) ?_
        intro aoR capR v11 hrd kk
        have RDv11 := hide hrd
        clear hrd
        have Dv11 := hide ((unhide Du0).below kk)
        have ARv11 := hide ((unhide ARu0).below kk)
        have Kv11 := hide ((unhide Ku0).trans (kk.mono (unhide Ku0).size))
        clear kk Du0 ARu0 Ku0
        refine hK _ _ (fun _ => (unhide Dv11)) ?_
        clear hK K
        refine plan_two rfl rfl (fun K hK => ?_) (fun K hK => ?_)
        · go_simp
          refine (run_any s1 t _ len _ f _ (unhide R1) (unhide Rt) (unhide RF) (by omega) (unhide RDv11)).mono ?_
          rintro e v12 ⟨rfl, kk⟩
          rw [← unhide EP, ← unhide EN]
          have Dv12 := hide ((unhide Dv11).below kk)
          have ARv12 := hide ((unhide ARv11).below kk)
          have RDv12 := hide ((unhide RDv11).below kk)
          have Kv12 := hide ((unhide Kv11).trans (kk.mono (unhide Kv11).size))
          clear kk Dv11 ARv11 RDv11 Kv11
          refine hK _ _ (fun _ => (unhide Dv12)) ?_
          clear hK K
          iterate 3
            refine plan_read (v := ?_) rfl (fun _ _ _ h => h) (by rfl) (unhide Dv12) ?_ ?_
            rotate_left 1
            · intro wx hwx
              have q0 := hwx.tn.c0; have q1 := hwx.tn.c1; have q2 := hwx.tn.c2; have q3 := hwx.tn.c3
              have c0 := hwx.st.c0; have c1 := hwx.st.c1; have c2 := hwx.st.c2; have c3 := hwx.st.c3; have c4 := hwx.st.c4; have c5 := hwx.st.c5; have c6 := hwx.st.c6
              clear hwx
              go_simp <;> exact rfl
            go_frame
          refine plan_do rfl (fun K hK => ?_)
          go_simp
          obtain ⟨v13, ee, hh, kk, zz⟩ := one_state v12 St.nil
          rw [show (v12.alloc (.cells #[.int .i64 0, .int .i64 0, .int .i64 0, .int .i64 0, .int .i64 0, .bool false, .int .i64 0] 23)) = v13 from ee.symm]
          have LVv13 := hide hh
          have ND := hide (show w.heap.size + 1 < v12.heap.size from (unhide Dv12).tn.lt)
          have NK := hide (unhide Kv12).size
          clear ee hh zz
          have Dv13 := hide ((unhide Dv12).below kk)
          have ARv13 := hide ((unhide ARv12).below kk)
          have Kv13 := hide ((unhide Kv12).trans (kk.mono (unhide Kv12).size))
          clear kk Dv12 ARv12 Kv12
          refine hK _ _ (fun _ => (unhide Dv13)) ?_
          clear hK K
          generalize eL : v12.heap.size = LL at *
          clear eL
          refine plan_do rfl (fun K hK => ?_)
          have z0 := (unhide LVv13).c0; have f0 := (unhide LVv13).free 0; have z1 := (unhide LVv13).c1; have f1 := (unhide LVv13).free 1; have z2 := (unhide LVv13).c2; have f2 := (unhide LVv13).free 2; have z3 := (unhide LVv13).c3; have f3 := (unhide LVv13).free 3; have z4 := (unhide LVv13).c4; have f4 := (unhide LVv13).free 4; have z5 := (unhide LVv13).c5; have f5 := (unhide LVv13).free 5; have z6 := (unhide LVv13).c6; have f6 := (unhide LVv13).free 6
          go_simp
          obtain ⟨v14, ee, hh, kk⟩ := (unhide LVv13).put p
          rw [← ee]
          clear ee z0 f0 z1 f1 z2 f2 z3 f3 z4 f4 z5 f5 z6 f6
          have LVv14 := hide hh
          have Dv14 := hide ((unhide Dv13).kept kk (by have := unhide ND; omega) (by have := unhide ND; omega))
          have Kv14 := hide (below_of_kept (unhide Kv13) kk (unhide NK) (unhide Kv13).size)
          clear hh kk
          refine hK _ _ (fun _ => (unhide Dv14)) ?_
          clear hK K
          refine plan_do rfl (fun K hK => ?_)
          go_simp
          refine hK _ _ (fun _ => (unhide Dv14)) ?_
          clear hK K
          refine plan_end ?_
          go_wp2_with fail
          go_meet
          exact ⟨LL, rfl, rfl, (unhide LVv14), (unhide Dv14), (unhide Kv14)⟩
        · go_simp
          obtain ⟨v15, ee, hh, kk, zz⟩ := one_state v11 St.nil
          rw [show (v11.alloc (.cells #[.int .i64 0, .int .i64 0, .int .i64 0, .int .i64 0, .int .i64 0, .bool false, .int .i64 0] 23)) = v15 from ee.symm]
          have LVv15 := hide hh
          have ND := hide (show w.heap.size + 1 < v11.heap.size from (unhide Dv11).tn.lt)
          have NK := hide (unhide Kv11).size
          clear ee hh zz
          have Dv15 := hide ((unhide Dv11).below kk)
          have ARv15 := hide ((unhide ARv11).below kk)
          have RDv15 := hide ((unhide RDv11).below kk)
          have Kv15 := hide ((unhide Kv11).trans (kk.mono (unhide Kv11).size))
          clear kk Dv11 ARv11 RDv11 Kv11
          refine hK _ _ (fun _ => (unhide Dv15)) ?_
          clear hK K
          generalize eL : v11.heap.size = LL at *
          clear eL
          refine plan_do rfl (fun K hK => ?_)
          go_simp
          refine (run_any s1 t _ len _ f _ (unhide R1) (unhide Rt) (unhide RF) (by omega) (unhide RDv15)).mono ?_
          rintro e v16 ⟨rfl, kk⟩
          rw [← unhide EP, ← unhide EN]
          have Dv16 := hide ((unhide Dv15).below kk)
          have ARv16 := hide ((unhide ARv15).below kk)
          have RDv16 := hide ((unhide RDv15).below kk)
          have LVv16 := hide ((unhide LVv15).below kk)
          have Kv16 := hide ((unhide Kv15).trans (kk.mono (unhide Kv15).size))
          clear kk Dv15 ARv15 RDv15 LVv15 Kv15
          refine hK _ _ (fun _ => (unhide Dv16)) ?_
          clear hK K
          iterate 3
            refine plan_read (v := ?_) rfl (fun _ _ _ h => h) (by rfl) (unhide Dv16) ?_ ?_
            rotate_left 1
            · intro wx hwx
              have q0 := hwx.tn.c0; have q1 := hwx.tn.c1; have q2 := hwx.tn.c2; have q3 := hwx.tn.c3
              have c0 := hwx.st.c0; have c1 := hwx.st.c1; have c2 := hwx.st.c2; have c3 := hwx.st.c3; have c4 := hwx.st.c4; have c5 := hwx.st.c5; have c6 := hwx.st.c6
              clear hwx
              go_simp <;> exact rfl
            go_frame
          refine plan_do rfl (fun K hK => ?_)
          have z0 := (unhide LVv16).c0; have f0 := (unhide LVv16).free 0; have z1 := (unhide LVv16).c1; have f1 := (unhide LVv16).free 1; have z2 := (unhide LVv16).c2; have f2 := (unhide LVv16).free 2; have z3 := (unhide LVv16).c3; have f3 := (unhide LVv16).free 3; have z4 := (unhide LVv16).c4; have f4 := (unhide LVv16).free 4; have z5 := (unhide LVv16).c5; have f5 := (unhide LVv16).free 5; have z6 := (unhide LVv16).c6; have f6 := (unhide LVv16).free 6
          go_simp
          obtain ⟨v17, ee, hh, kk⟩ := (unhide LVv16).put p
          rw [← ee]
          clear ee z0 f0 z1 f1 z2 f2 z3 f3 z4 f4 z5 f5 z6 f6
          have LVv17 := hide hh
          have Dv17 := hide ((unhide Dv16).kept kk (by have := unhide ND; omega) (by have := unhide ND; omega))
          have Kv17 := hide (below_of_kept (unhide Kv16) kk (unhide NK) (unhide Kv16).size)
          clear hh kk
          refine hK _ _ (fun _ => (unhide Dv17)) ?_
          clear hK K
          refine plan_do rfl (fun K hK => ?_)
          go_simp
          refine hK _ _ (fun _ => (unhide Dv17)) ?_
          clear hK K
          refine plan_end ?_
          go_wp2_with fail
          go_meet
          exact ⟨LL, rfl, rfl, (unhide LVv17), (unhide Dv17), (unhide Kv17)⟩
      · go_simp
        obtain ⟨v18, ee, hh, kk, zz⟩ := one_state u0 St.nil
        rw [show (u0.alloc (.cells #[.int .i64 0, .int .i64 0, .int .i64 0, .int .i64 0, .int .i64 0, .bool false, .int .i64 0] 23)) = v18 from ee.symm]
        have LVv18 := hide hh
        have ND := hide (show w.heap.size + 1 < u0.heap.size from (unhide Du0).tn.lt)
        have NK := hide (unhide Ku0).size
        clear ee hh zz
        have Dv18 := hide ((unhide Du0).below kk)
        have ARv18 := hide ((unhide ARu0).below kk)
        have Kv18 := hide ((unhide Ku0).trans (kk.mono (unhide Ku0).size))
        clear kk Du0 ARu0 Ku0
        refine hK _ _ (fun _ => (unhide Dv18)) ?_
        clear hK K
        generalize eL : u0.heap.size = LL at *
        clear eL
        refine plan_do rfl (fun K hK => ?_)
        rw [if_pos (by rfl)]
        refine wp_clone _ (.const (.slice none 0 0)) (.tmp 18) rfl rfl ao len cap f rfl (unhide ARv18) ?_
        intro aoR capR v19 hrd kk
        have RDv19 := hide hrd
        clear hrd
        have Dv19 := hide ((unhide Dv18).below kk)
        have ARv19 := hide ((unhide ARv18).below kk)
        have LVv19 := hide ((unhide LVv18).below kk)
        have Kv19 := hide ((unhide Kv18).trans (kk.mono (unhide Kv18).size))
        clear kk Dv18 ARv18 LVv18 Kv18
        refine hK _ _ (fun _ => (unhide Dv19)) ?_
        clear hK K
        refine plan_do rfl (fun K hK => ?_)
        go_simp
        refine (run_any s1 t _ len _ f _ (unhide R1) (unhide Rt) (unhide RF) (by omega) (unhide RDv19)).mono ?_
        rintro e v20 ⟨rfl, kk⟩
        rw [← unhide EP, ← unhide EN]
        have Dv20 := hide ((unhide Dv19).below kk)
        have ARv20 := hide ((unhide ARv19).below kk)
        have LVv20 := hide ((unhide LVv19).below kk)
        have RDv20 := hide ((unhide RDv19).below kk)
        have Kv20 := hide ((unhide Kv19).trans (kk.mono (unhide Kv19).size))
        clear kk Dv19 ARv19 LVv19 RDv19 Kv19
        refine hK _ _ (fun _ => (unhide Dv20)) ?_
        clear hK K
        iterate 3
          refine plan_read (v := ?_) rfl (fun _ _ _ h => h) (by rfl) (unhide Dv20) ?_ ?_
          rotate_left 1
          · intro wx hwx
            have q0 := hwx.tn.c0; have q1 := hwx.tn.c1; have q2 := hwx.tn.c2; have q3 := hwx.tn.c3
            have c0 := hwx.st.c0; have c1 := hwx.st.c1; have c2 := hwx.st.c2; have c3 := hwx.st.c3; have c4 := hwx.st.c4; have c5 := hwx.st.c5; have c6 := hwx.st.c6
            clear hwx
            go_simp <;> exact rfl
          go_frame
        refine plan_do rfl (fun K hK => ?_)
        have z0 := (unhide LVv20).c0; have f0 := (unhide LVv20).free 0; have z1 := (unhide LVv20).c1; have f1 := (unhide LVv20).free 1; have z2 := (unhide LVv20).c2; have f2 := (unhide LVv20).free 2; have z3 := (unhide LVv20).c3; have f3 := (unhide LVv20).free 3; have z4 := (unhide LVv20).c4; have f4 := (unhide LVv20).free 4; have z5 := (unhide LVv20).c5; have f5 := (unhide LVv20).free 5; have z6 := (unhide LVv20).c6; have f6 := (unhide LVv20).free 6
        go_simp
        obtain ⟨v21, ee, hh, kk⟩ := (unhide LVv20).put p
        rw [← ee]
        clear ee z0 f0 z1 f1 z2 f2 z3 f3 z4 f4 z5 f5 z6 f6
        have LVv21 := hide hh
        have Dv21 := hide ((unhide Dv20).kept kk (by have := unhide ND; omega) (by have := unhide ND; omega))
        have Kv21 := hide (below_of_kept (unhide Kv20) kk (unhide NK) (unhide Kv20).size)
        clear hh kk
        refine hK _ _ (fun _ => (unhide Dv21)) ?_
        clear hK K
        refine plan_do rfl (fun K hK => ?_)
        go_simp
        refine hK _ _ (fun _ => (unhide Dv21)) ?_
        clear hK K
        refine plan_end ?_
        go_wp2_with fail
        go_meet
        exact ⟨LL, rfl, rfl, (unhide LVv21), (unhide Dv21), (unhide Kv21)⟩
    case rest =>
      obtain ⟨LL, rfl, rfl, lvv, dd, kc⟩ := hcut
      have Awc := hide lvv; have Dwc := hide dd; have Kwc := hide kc
      clear lvv dd kc
      go_wp2_with fail
      refine (follows_any _).mono ?_
      rintro e v91 ⟨rfl, kk⟩
      have Av91 := hide ((unhide Awc).below kk)
      have Dv91 := hide ((unhide Dwc).below kk)
      have Kv91 := hide ((unhide Kwc).trans (kk.mono (unhide Kwc).size))
      clear kk Awc Dwc Kwc
      have a5 := (unhide Av91).c5
      rw [unhide PB] at a5
      go_wp2_with fail
      go_ret
      exact ⟨rfl, (unhide Kv91)⟩

theorem filterBent_walk {w : World} (s : St) (t : Tn) (ao : Option Addr) (len cap : Nat) (f : Nat → Int) (hs : s.Ok) (ht : t.Ok) (ar : ArgS w ao len cap f) (rc : len ≤ cap) : Calls Try.prog 5 #[stV s, tnV t, .slice ao len cap] w fun e w' => e = .returned (.bool true) ∧ Below w.heap.size w w' :=
  filterBent_go s t ao len cap f _ hs ht ar rc rfl


end Go.Proofs.Ytblglojbghmphab
