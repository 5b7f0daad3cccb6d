/- Contract of the reference: FilterRun of one number more, and so of every list. -/
import Derived.Test.YtblglojbghmphaaRefRun
namespace Go.Proofs.Ytblglojbghmphaa
open Go.RowKit

/-- A number of a list, where it lies. -/
def CzAt (w : World) (b i : Nat) (x : Int) : Prop := w.cell? ⟨b, i, none⟩ = some (.int .i64 x)
theorem CzAt.lt {w : World} {b i : Nat} {x : Int} (h : CzAt w b i x) : b < w.heap.size := World.block_lt_of_cell? w _ h
theorem CzAt.below {w w' : World} {b i : Nat} {x : Int} (h : CzAt w b i x) (k : Below w.heap.size w w') : CzAt w' b i x := at_below h k
theorem CzAt.kept {z : Nat} {w w' : World} {b i : Nat} {x : Int} (h : CzAt w b i x) (k : Kept z w w') (hz : b ≠ z) : CzAt w' b i x := at_kept h k hz

set_option maxHeartbeats 8000000 in
set_option maxRecDepth 20000 in
theorem refRun_more (s : St) (t : Tn) (ao : Option Addr) (cap : Nat) (f : Nat → Int) (m k : Nat) (hm : m = k + 1) (hs : s.Ok) (ht : t.Ok) (hf : ∀ i, R64 (f i)) (hk : m ≤ cap) (hl : k ≤ 1000000) (ih : RunAt s t ao cap f k) : RunAt s t ao cap f m := by
  intro w hr
  obtain ⟨b, o, rfl, hc⟩ := hr (by omega)
  obtain ⟨v0, ee, d0, g0, k0⟩ := step_start w s t
  have E0 := hide ee; have Kv0 := hide k0; have Dv0 := hide d0; have Gv0 := hide g0
  have Cv0 := hide (show CzAt v0 b (o + k) (f k) from at_below (hc k (by omega)) k0)
  have RDv0 := hide (show Rds v0 (some ⟨b, o, none⟩) k f from fun _ => ⟨b, o, rfl, fun i hi => at_below (hc i (by omega)) k0⟩)
  have IH := hide ih; have Rs := hide hs; have Rt := hide ht; have RF := hide hf
  clear ee d0 g0 k0 hr hc ih hs ht hf
  obtain ⟨p, ep⟩ : ∃ p, p = runS s t f k := ⟨_, rfl⟩
  obtain ⟨n, en⟩ : ∃ n : Nat, n = runN s t f k := ⟨_, rfl⟩
  have nk : n ≤ k := by rw [en]; exact runN_le _ _ _ _
  have OP := hide (show p.Ok by rw [ep]; exact runS_ok (unhide Rs) _ _ _)
  have EP := hide ep; have EN := hide en
  clear ep en
  have hne : ¬ (m : Int) = 0 := by omega
  have hne2 : ((m : Int) == 0) = false := by simp; omega
  have hsub : (m : Int) - 1 = (k : Int) := by omega
  have hkc : (k : Int) ≤ (cap : Int) := by omega
  have hkm : (k : Int) < (m : Int) := by omega
  have hkm2 : k < m := by omega
  have hc0 : ¬ cap = 0 := by omega
  have hm1 : (1 : Int) ≤ (m : Int) := by omega
  have hm2 : (m : Int) ≤ 1000001 := by omega
  have HM := hide hm
  clear hm hk hl
  go_enter Try.func18, Try.ntmps18
  go_upto_region 4 with fail
  rw [← unhide E0]
  go_cut [9, 10] (fun s9 s10 wx => ∃ LL : Nat, s9 = .pointer (some ⟨LL, 0, none⟩) ∧ s10 = .int .i64 (n : Int) ∧ SAt wx LL p ∧ ST w.heap.size (w.heap.size + 1) s t wx ∧ SAt wx (w.heap.size + 1 + 1) St.nil ∧ CzAt wx b (o + k) (f k) ∧ Below w.heap.size w wx)
  case first =>
    refine region_plan (S := ST w.heap.size (w.heap.size + 1) s t) (.rd 0 (.rd 1 (.rd 2 (.rd 3 (.rd 4 (.two 5 9 (.rd 6 (.rd 7 (.rd 8 (.go 9 (.go 10 (.go 11 .fin)))))) (.go 5 (.rd 6 (.rd 7 (.rd 8 (.go 10 (.go 11 .fin)))))))))))) [] (by kernel_rfl) (by kernel_rfl) ?_
    have Du0 := hide (unhide Dv0).drew; have Gu0 := hide (unhide Gv0).drew; have Cu0 := hide (show CzAt v0.drew b (o + k) (f k) from unhide Cv0); have RDu0 := hide (show Rds v0.drew (some ⟨b, o, none⟩) k f from unhide RDv0); have Ku0 := hide (below_drew (unhide Kv0))
    clear Dv0 Gv0 Cv0 RDv0 Kv0
    generalize v0.drew = u0 at *
    iterate 5
      refine plan_read (v := ?_) rfl (fun _ _ _ h => h) (by rfl) (unhide Du0) ?_ ?_
      rotate_left 1
      · intro wx hwx
        have q0 := hwx.tn.c0; have q1 := hwx.tn.c1; have q2 := hwx.tn.c2; have q3 := hwx.tn.c3
        have c0 := hwx.st.c0; have c1 := hwx.st.c1; have c2 := hwx.st.c2; have c3 := hwx.st.c3; have c4 := hwx.st.c4; have c5 := hwx.st.c5; have c6 := hwx.st.c6
        clear hwx
        go_simp <;> exact rfl
      go_frame
    refine plan_two rfl rfl (fun K hK => ?_) (fun K hK => ?_)
    · go_simp
      refine (unhide IH _ (unhide RDu0)).mono ?_
      rintro e v11 ⟨rfl, kk⟩
      rw [← unhide EP, ← unhide EN]
      have Dv11 := hide ((unhide Du0).below kk)
      have Gv11 := hide ((unhide Gu0).below kk)
      have Cv11 := hide ((unhide Cu0).below kk)
      have RDv11 := hide ((unhide RDu0).below kk)
      have Kv11 := hide ((unhide Ku0).trans (kk.mono (unhide Ku0).size))
      clear kk Du0 Gu0 Cu0 RDu0 Ku0
      refine hK _ _ (fun _ => (unhide Dv11)) ?_
      clear hK K
      iterate 3
        refine plan_read (v := ?_) rfl (fun _ _ _ h => h) (by rfl) (unhide Dv11) ?_ ?_
        rotate_left 1
        · intro wx hwx
          clear hwx
          go_simp <;> exact rfl
        go_frame
      refine plan_do rfl (fun K hK => ?_)
      go_simp
      obtain ⟨v12, ee, hh, kk, zz⟩ := one_state v11 St.nil
      rw [show (v11.alloc (.cells #[.int .i64 0, .int .i64 0, .int .i64 0, .int .i64 0, .int .i64 0, .bool false, .int .i64 0] 23)) = v12 from ee.symm]
      have LVv12 := hide hh
      have ND := hide (show w.heap.size + 1 < v11.heap.size from (unhide Dv11).tn.lt)
      have NG := hide ((unhide Gv11).lt)
      have NC := hide ((unhide Cv11).lt)
      have NK := hide (unhide Kv11).size
      clear ee hh zz
      have Dv12 := hide ((unhide Dv11).below kk)
      have Gv12 := hide ((unhide Gv11).below kk)
      have Cv12 := hide ((unhide Cv11).below kk)
      have Kv12 := hide ((unhide Kv11).trans (kk.mono (unhide Kv11).size))
      clear kk Dv11 Gv11 Cv11 Kv11
      refine hK _ _ (fun _ => (unhide Dv12)) ?_
      clear hK K
      generalize eL : v11.heap.size = LL at *
      clear eL
      refine plan_do rfl (fun K hK => ?_)
      have z0 := (unhide LVv12).c0; have f0 := (unhide LVv12).free 0; have z1 := (unhide LVv12).c1; have f1 := (unhide LVv12).free 1; have z2 := (unhide LVv12).c2; have f2 := (unhide LVv12).free 2; have z3 := (unhide LVv12).c3; have f3 := (unhide LVv12).free 3; have z4 := (unhide LVv12).c4; have f4 := (unhide LVv12).free 4; have z5 := (unhide LVv12).c5; have f5 := (unhide LVv12).free 5; have z6 := (unhide LVv12).c6; have f6 := (unhide LVv12).free 6
      go_simp
      obtain ⟨v13, ee, hh, kk⟩ := (unhide LVv12).put p
      rw [← ee]
      clear ee z0 f0 z1 f1 z2 f2 z3 f3 z4 f4 z5 f5 z6 f6
      have LVv13 := hide hh
      have Dv13 := hide ((unhide Dv12).kept kk (by have := unhide ND; omega) (by have := unhide ND; omega))
      have Gv13 := hide ((unhide Gv12).kept kk (Nat.ne_of_lt (unhide NG)))
      have Cv13 := hide ((unhide Cv12).kept kk (Nat.ne_of_lt (unhide NC)))
      have Kv13 := hide (below_of_kept (unhide Kv12) kk (unhide NK) (unhide Kv12).size)
      clear hh kk
      refine hK _ _ (fun _ => (unhide Dv13)) ?_
      clear hK K
      refine plan_do rfl (fun K hK => ?_)
      go_simp
      refine hK _ _ (fun _ => (unhide Dv13)) ?_
      clear hK K
      refine plan_end ?_
      go_wp2_with fail
      go_meet
      exact ⟨LL, rfl, rfl, (unhide LVv13), (unhide Dv13), (unhide Gv13), (unhide Cv13), (unhide Kv13)⟩
    · go_simp
      obtain ⟨v14, ee, hh, kk, zz⟩ := one_state u0 St.nil
      rw [show (u0.alloc (.cells #[.int .i64 0, .int .i64 0, .int .i64 0, .int .i64 0, .int .i64 0, .bool false, .int .i64 0] 23)) = v14 from ee.symm]
      have LVv14 := hide hh
      have ND := hide (show w.heap.size + 1 < u0.heap.size from (unhide Du0).tn.lt)
      have NG := hide ((unhide Gu0).lt)
      have NC := hide ((unhide Cu0).lt)
      have NK := hide (unhide Ku0).size
      clear ee hh zz
      have Dv14 := hide ((unhide Du0).below kk)
      have Gv14 := hide ((unhide Gu0).below kk)
      have Cv14 := hide ((unhide Cu0).below kk)
      have RDv14 := hide ((unhide RDu0).below kk)
      have Kv14 := hide ((unhide Ku0).trans (kk.mono (unhide Ku0).size))
      clear kk Du0 Gu0 Cu0 RDu0 Ku0
      refine hK _ _ (fun _ => (unhide Dv14)) ?_
      clear hK K
      generalize eL : u0.heap.size = LL at *
      clear eL
      refine plan_do rfl (fun K hK => ?_)
      go_simp
      refine (unhide IH _ (unhide RDv14)).mono ?_
      rintro e v15 ⟨rfl, kk⟩
      rw [← unhide EP, ← unhide EN]
      have Dv15 := hide ((unhide Dv14).below kk)
      have Gv15 := hide ((unhide Gv14).below kk)
      have Cv15 := hide ((unhide Cv14).below kk)
      have RDv15 := hide ((unhide RDv14).below kk)
      have LVv15 := hide ((unhide LVv14).below kk)
      have Kv15 := hide ((unhide Kv14).trans (kk.mono (unhide Kv14).size))
      clear kk Dv14 Gv14 Cv14 RDv14 LVv14 Kv14
      refine hK _ _ (fun _ => (unhide Dv15)) ?_
      clear hK K
      iterate 3
        refine plan_read (v := ?_) rfl (fun _ _ _ h => h) (by rfl) (unhide Dv15) ?_ ?_
        rotate_left 1
        · intro wx hwx
          clear hwx
          go_simp <;> exact rfl
        go_frame
      refine plan_do rfl (fun K hK => ?_)
      have z0 := (unhide LVv15).c0; have f0 := (unhide LVv15).free 0; have z1 := (unhide LVv15).c1; have f1 := (unhide LVv15).free 1; have z2 := (unhide LVv15).c2; have f2 := (unhide LVv15).free 2; have z3 := (unhide LVv15).c3; have f3 := (unhide LVv15).free 3; have z4 := (unhide LVv15).c4; have f4 := (unhide LVv15).free 4; have z5 := (unhide LVv15).c5; have f5 := (unhide LVv15).free 5; have z6 := (unhide LVv15).c6; have f6 := (unhide LVv15).free 6
      go_simp
      obtain ⟨v16, ee, hh, kk⟩ := (unhide LVv15).put p
      rw [← ee]
      clear ee z0 f0 z1 f1 z2 f2 z3 f3 z4 f4 z5 f5 z6 f6
      have LVv16 := hide hh
      have Dv16 := hide ((unhide Dv15).kept kk (by have := unhide ND; omega) (by have := unhide ND; omega))
      have Gv16 := hide ((unhide Gv15).kept kk (Nat.ne_of_lt (unhide NG)))
      have Cv16 := hide ((unhide Cv15).kept kk (Nat.ne_of_lt (unhide NC)))
      have Kv16 := hide (below_of_kept (unhide Kv15) kk (unhide NK) (unhide Kv15).size)
      clear hh kk
      refine hK _ _ (fun _ => (unhide Dv16)) ?_
      clear hK K
      refine plan_do rfl (fun K hK => ?_)
      go_simp
      refine hK _ _ (fun _ => (unhide Dv16)) ?_
      clear hK K
      refine plan_end ?_
      go_wp2_with fail
      go_meet
      exact ⟨LL, rfl, rfl, (unhide LVv16), (unhide Dv16), (unhide Gv16), (unhide Cv16), (unhide Kv16)⟩
  case rest =>
    obtain ⟨LL, rfl, rfl, lvv, dd, gg, cc, kc⟩ := hcut
    have Pwc := hide lvv; have Dwc := hide dd; have Gwc := hide gg; have Cwc := hide cc; have Kwc := hide kc
    clear lvv dd gg cc kc Dv0 Gv0 Cv0 RDv0 Kv0
    obtain ⟨q, eq⟩ : ∃ q, q = stepS p t (f k) := ⟨_, rfl⟩
    obtain ⟨tk, ek⟩ : ∃ tk, tk = stepT p t (f k) := ⟨_, rfl⟩
    have EQ := hide eq; have EK := hide ek
    clear eq ek
    go_upto_region 5 with fail
    go_cut [11, 12] (fun s11 s12 wx => ∃ L2 : Nat, s11 = .pointer (some ⟨L2, 0, none⟩) ∧ s12 = .bool tk ∧ SAt wx L2 q ∧ SAt wx (w.heap.size + 1 + 1) St.nil ∧ Below w.heap.size w wx)
    case first =>
      refine region_plan (S := fun u => SAt u LL p ∧ TAt u (w.heap.size + 1) t ∧ CzAt u b (o + k) (f k)) (.rd 0 (.rd 1 (.rd 2 (.rd 3 (.rd 4 (.rd 5 (.two 6 10 (.rd 7 (.rd 8 (.rd 9 (.go 10 (.go 11 (.go 12 .fin)))))) (.go 6 (.rd 7 (.rd 8 (.rd 9 (.go 11 (.go 12 .fin))))))))))))) [] (by kernel_rfl) (by kernel_rfl) ?_
      have Pu1 := hide (unhide Pwc).drew; have Tu1 := hide (unhide Dwc).drew.tn; have Gu1 := hide (unhide Gwc).drew; have Cu1 := hide (show CzAt wc.drew b (o + k) (f k) from unhide Cwc); have Ku1 := hide (below_drew (unhide Kwc))
      clear Dwc Pwc Gwc Cwc Kwc
      generalize wc.drew = u1 at *
      iterate 6
        refine plan_read (v := ?_) rfl (fun _ _ _ h => h) (by rfl) ⟨(unhide Pu1), (unhide Tu1), (unhide Cu1)⟩ ?_ ?_
        rotate_left 1
        · intro wx hwx
          obtain ⟨ha, hb, hcz⟩ := hwx
          have q0 := hb.c0; have q1 := hb.c1; have q2 := hb.c2; have q3 := hb.c3
          have c0 := ha.c0; have c1 := ha.c1; have c2 := ha.c2; have c3 := ha.c3; have c4 := ha.c4; have c5 := ha.c5; have c6 := ha.c6
          have cz : wx.cell? ⟨b, o + k, none⟩ = some (.int .i64 (f k)) := hcz
          clear ha hb hcz
          go_simp <;> exact rfl
        go_frame
      refine plan_two rfl rfl (fun K hK => ?_) (fun K hK => ?_)
      · go_simp
        refine (refStep_any p t (f k) _ (unhide OP) (unhide Rt) (unhide RF k)).mono ?_
        rintro e v61 ⟨rfl, kk⟩
        rw [← unhide EQ, ← unhide EK]
        have Pv61 := hide ((unhide Pu1).below kk)
        have Tv61 := hide ((unhide Tu1).below kk)
        have Gv61 := hide ((unhide Gu1).below kk)
        have Cv61 := hide ((unhide Cu1).below kk)
        have Kv61 := hide ((unhide Ku1).trans (kk.mono (unhide Ku1).size))
        clear kk Pu1 Tu1 Gu1 Cu1 Ku1
        refine hK _ _ (fun _ => ⟨(unhide Pv61), (unhide Tv61), (unhide Cv61)⟩) ?_
        clear hK K
        iterate 3
          refine plan_read (v := ?_) rfl (fun _ _ _ h => h) (by rfl) ⟨(unhide Pv61), (unhide Tv61), (unhide Cv61)⟩ ?_ ?_
          rotate_left 1
          · intro wx hwx
            clear hwx
            go_simp <;> exact rfl
          go_frame
        refine plan_do rfl (fun K hK => ?_)
        go_simp
        obtain ⟨v62, ee, hh, kk, zz⟩ := one_state v61 St.nil
        rw [show (v61.alloc (.cells #[.int .i64 0, .int .i64 0, .int .i64 0, .int .i64 0, .int .i64 0, .bool false, .int .i64 0] 23)) = v62 from ee.symm]
        have LVv62 := hide hh
        have NP := hide ((unhide Pv61).lt)
        have NT := hide ((unhide Tv61).lt)
        have NG := hide ((unhide Gv61).lt)
        have NC := hide ((unhide Cv61).lt)
        have NK := hide (unhide Kv61).size
        clear ee hh zz
        have Pv62 := hide ((unhide Pv61).below kk)
        have Tv62 := hide ((unhide Tv61).below kk)
        have Gv62 := hide ((unhide Gv61).below kk)
        have Cv62 := hide ((unhide Cv61).below kk)
        have Kv62 := hide ((unhide Kv61).trans (kk.mono (unhide Kv61).size))
        clear kk Pv61 Tv61 Gv61 Cv61 Kv61
        refine hK _ _ (fun _ => ⟨(unhide Pv62), (unhide Tv62), (unhide Cv62)⟩) ?_
        clear hK K
        generalize eL : v61.heap.size = L2 at *
        clear eL
        refine plan_do rfl (fun K hK => ?_)
        have z0 := (unhide LVv62).c0; have f0 := (unhide LVv62).free 0; have z1 := (unhide LVv62).c1; have f1 := (unhide LVv62).free 1; have z2 := (unhide LVv62).c2; have f2 := (unhide LVv62).free 2; have z3 := (unhide LVv62).c3; have f3 := (unhide LVv62).free 3; have z4 := (unhide LVv62).c4; have f4 := (unhide LVv62).free 4; have z5 := (unhide LVv62).c5; have f5 := (unhide LVv62).free 5; have z6 := (unhide LVv62).c6; have f6 := (unhide LVv62).free 6
        go_simp
        obtain ⟨v63, ee, hh, kk⟩ := (unhide LVv62).put q
        rw [← ee]
        clear ee z0 f0 z1 f1 z2 f2 z3 f3 z4 f4 z5 f5 z6 f6
        have LVv63 := hide hh
        have Pv63 := hide ((unhide Pv62).kept kk (Nat.ne_of_lt (unhide NP)))
        have Tv63 := hide ((unhide Tv62).kept kk (Nat.ne_of_lt (unhide NT)))
        have Gv63 := hide ((unhide Gv62).kept kk (Nat.ne_of_lt (unhide NG)))
        have Cv63 := hide ((unhide Cv62).kept kk (Nat.ne_of_lt (unhide NC)))
        have Kv63 := hide (below_of_kept (unhide Kv62) kk (unhide NK) (unhide Kv62).size)
        clear hh kk
        refine hK _ _ (fun _ => ⟨(unhide Pv63), (unhide Tv63), (unhide Cv63)⟩) ?_
        clear hK K
        refine plan_do rfl (fun K hK => ?_)
        go_simp
        refine hK _ _ (fun _ => ⟨(unhide Pv63), (unhide Tv63), (unhide Cv63)⟩) ?_
        clear hK K
        refine plan_end ?_
        go_wp2_with fail
        go_meet
        exact ⟨L2, rfl, rfl, (unhide LVv63), (unhide Gv63), (unhide Kv63)⟩
      · go_simp
        obtain ⟨v64, ee, hh, kk, zz⟩ := one_state u1 St.nil
        rw [show (u1.alloc (.cells #[.int .i64 0, .int .i64 0, .int .i64 0, .int .i64 0, .int .i64 0, .bool false, .int .i64 0] 23)) = v64 from ee.symm]
        have LVv64 := hide hh
        have NP := hide ((unhide Pu1).lt)
        have NT := hide ((unhide Tu1).lt)
        have NG := hide ((unhide Gu1).lt)
        have NC := hide ((unhide Cu1).lt)
        have NK := hide (unhide Ku1).size
        clear ee hh zz
        have Pv64 := hide ((unhide Pu1).below kk)
        have Tv64 := hide ((unhide Tu1).below kk)
        have Gv64 := hide ((unhide Gu1).below kk)
        have Cv64 := hide ((unhide Cu1).below kk)
        have Kv64 := hide ((unhide Ku1).trans (kk.mono (unhide Ku1).size))
        clear kk Pu1 Tu1 Gu1 Cu1 Ku1
        refine hK _ _ (fun _ => ⟨(unhide Pv64), (unhide Tv64), (unhide Cv64)⟩) ?_
        clear hK K
        generalize eL : u1.heap.size = L2 at *
        clear eL
        refine plan_do rfl (fun K hK => ?_)
        go_simp
        refine (refStep_any p t (f k) _ (unhide OP) (unhide Rt) (unhide RF k)).mono ?_
        rintro e v65 ⟨rfl, kk⟩
        rw [← unhide EQ, ← unhide EK]
        have Pv65 := hide ((unhide Pv64).below kk)
        have Tv65 := hide ((unhide Tv64).below kk)
        have Gv65 := hide ((unhide Gv64).below kk)
        have Cv65 := hide ((unhide Cv64).below kk)
        have LVv65 := hide ((unhide LVv64).below kk)
        have Kv65 := hide ((unhide Kv64).trans (kk.mono (unhide Kv64).size))
        clear kk Pv64 Tv64 Gv64 Cv64 LVv64 Kv64
        refine hK _ _ (fun _ => ⟨(unhide Pv65), (unhide Tv65), (unhide Cv65)⟩) ?_
        clear hK K
        iterate 3
          refine plan_read (v := ?_) rfl (fun _ _ _ h => h) (by rfl) ⟨(unhide Pv65), (unhide Tv65), (unhide Cv65)⟩ ?_ ?_
          rotate_left 1
          · intro wx hwx
            clear hwx
            go_simp <;> exact rfl
          go_frame
        refine plan_do rfl (fun K hK => ?_)
        have z0 := (unhide LVv65).c0; have f0 := (unhide LVv65).free 0; have z1 := (unhide LVv65).c1; have f1 := (unhide LVv65).free 1; have z2 := (unhide LVv65).c2; have f2 := (unhide LVv65).free 2; have z3 := (unhide LVv65).c3; have f3 := (unhide LVv65).free 3; have z4 := (unhide LVv65).c4; have f4 := (unhide LVv65).free 4; have z5 := (unhide LVv65).c5; have f5 := (unhide LVv65).free 5; have z6 := (unhide LVv65).c6; have f6 := (unhide LVv65).free 6
        go_simp
        obtain ⟨v66, ee, hh, kk⟩ := (unhide LVv65).put q
        rw [← ee]
        clear ee z0 f0 z1 f1 z2 f2 z3 f3 z4 f4 z5 f5 z6 f6
        have LVv66 := hide hh
        have Pv66 := hide ((unhide Pv65).kept kk (Nat.ne_of_lt (unhide NP)))
        have Tv66 := hide ((unhide Tv65).kept kk (Nat.ne_of_lt (unhide NT)))
        have Gv66 := hide ((unhide Gv65).kept kk (Nat.ne_of_lt (unhide NG)))
        have Cv66 := hide ((unhide Cv65).kept kk (Nat.ne_of_lt (unhide NC)))
        have Kv66 := hide (below_of_kept (unhide Kv65) kk (unhide NK) (unhide Kv65).size)
        clear hh kk
        refine hK _ _ (fun _ => ⟨(unhide Pv66), (unhide Tv66), (unhide Cv66)⟩) ?_
        clear hK K
        refine plan_do rfl (fun K hK => ?_)
        go_simp
        refine hK _ _ (fun _ => ⟨(unhide Pv66), (unhide Tv66), (unhide Cv66)⟩) ?_
        clear hK K
        refine plan_end ?_
        go_wp2_with fail
        go_meet
        exact ⟨L2, rfl, rfl, (unhide LVv66), (unhide Gv66), (unhide Kv66)⟩
    case rest =>
      rename World => wd
      obtain ⟨L2, rfl, rfl, lvv, gg, kc⟩ := hcut
      have Q2 := hide lvv; have G2 := hide gg; have K2 := hide kc
      clear lvv gg kc
      have eS : runS s t f m = q := by rw [unhide HM, unhide EQ, unhide EP]; rfl
      have eN : runN s t f m = n + (if tk then 1 else 0) := by rw [unhide HM, unhide EN, unhide EK, unhide EP]; rfl
      have ES := hide eS; have ENN := hide eN
      clear eS eN
      have c0 := (unhide Q2).c0; have c1 := (unhide Q2).c1; have c2 := (unhide Q2).c2; have c3 := (unhide Q2).c3; have c4 := (unhide Q2).c4; have c5 := (unhide Q2).c5; have c6 := (unhide Q2).c6
      have b0 := (unhide G2).c0; have b1 := (unhide G2).c1; have b2 := (unhide G2).c2; have b3 := (unhide G2).c3; have b4 := (unhide G2).c4; have b5 := (unhide G2).c5; have b6 := (unhide G2).c6
      have f0 := (unhide G2).free 0; have f1 := (unhide G2).free 1; have f2 := (unhide G2).free 2; have f3 := (unhide G2).free 3; have f4 := (unhide G2).free 4; have f5 := (unhide G2).free 5; have f6 := (unhide G2).free 6
      obtain ⟨w4, e4, h4, k4⟩ := (unhide G2).put q
      have E4 := hide e4; have H4 := hide h4; have K4 := hide (below_of_kept (unhide K2) k4 (by omega) (unhide K2).size)
      clear e4 h4 k4
      have p0 := (unhide H4).c0; have p1 := (unhide H4).c1; have p2 := (unhide H4).c2; have p3 := (unhide H4).c3; have p4 := (unhide H4).c4; have p5 := (unhide H4).c5; have p6 := (unhide H4).c6
      cases tk
      · go_wp2_with fail
        rw [← unhide E4]
        refine bodyPost_ret (v := .tuple #[stV q, .int .i64 (n : Int)]) (by simp [results, Try.results18, go_sem, p0, p1, p2, p3, p4, p5, p6]) rfl ⟨by rw [unhide ES, unhide ENN]; rfl, unhide K4⟩
      · go_wp2_with fail
        rw [← unhide E4]
        refine bodyPost_ret (v := .tuple #[stV q, .int .i64 ((n : Int) + 1)]) (by simp [results, Try.results18, go_sem, p0, p1, p2, p3, p4, p5, p6]) rfl ⟨by rw [unhide ES, unhide ENN]; rfl, unhide K4⟩

theorem refRun_any (s : St) (t : Tn) (ao : Option Addr) (cap : Nat) (f : Nat → Int) (hs : s.Ok) (ht : t.Ok) (hf : ∀ i, R64 (f i)) : ∀ (k : Nat) (w : World), k ≤ cap → k ≤ 1000000 → Rds w ao k f →
    Calls Try.prog 18 #[stV s, tnV t, .slice ao k cap] w fun e w' => e = .returned (.tuple #[stV (runS s t f k), .int .i64 (runN s t f k : Nat)]) ∧ Below w.heap.size w w' := by
  have all : ∀ k, k ≤ cap → k ≤ 1000000 → RunAt s t ao cap f k := by
    intro k
    induction k with
    | zero => intro _ _; exact refRun_none s t ao cap f
    | succ k ih => intro h1 h2; exact refRun_more s t ao cap f (k + 1) k rfl hs ht hf h1 (by omega) (ih (by omega) (by omega))
  intro k w h1 h2 hr
  exact all k h1 h2 w hr

end Go.Proofs.Ytblglojbghmphaa
