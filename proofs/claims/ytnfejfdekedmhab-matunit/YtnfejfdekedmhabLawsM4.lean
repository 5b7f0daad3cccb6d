/- The walk of MatUnit. -/
import Derived.Test.YtnfejfdekedmhabMatTwo
import Derived.Test.YtnfejfdekedmhabLawsM1
namespace Go.Proofs.Ytnfejfdekedmhab
open Go.RowKit

set_option maxHeartbeats 8000000 in
theorem matUnit_walk {w : World} (N : Int) (ao : Option Addr) (len cap : Nat) (f : Nat → Int) (_rN : R64 N) (aa : ArgS w ao len cap f) :
    Calls Try.prog 5 #[.agg #[.int .i64 N, .slice ao len cap]] w fun e w' => e = .returned (.bool true) ∧ Below w.heap.size w w' := by
  obtain ⟨w1, e1, ma, k1, s1⟩ := mb_alloc w N (.slice ao len cap)
  have E1 := hide e1; have MAw1 := hide ma; have Kw1 := hide k1; have Zw1 := hide (Nat.le_of_eq s1.symm); have AA := hide aa; have RF := hide aa.2.2
  clear e1 ma k1 s1 aa _rN
  cases hg : goodM N len
  · have G := hide hg
    clear hg
    go_enter Try.func5, Try.ntmps5
    go_wp2_with fail
    rw [← unhide E1]
    have MAx := (unhide MAw1).cell0; have MAy := (unhide MAw1).cell1; have MAl := (unhide MAw1).lt
    go_wp2_with fail
    clear MAx MAy MAl
    refine (ownK_any (N) ao len cap f _ (((unhide AA)).below (unhide Kw1))).mono ?_
    rintro e v1 ⟨aoA, capA, rfl, ra, kk⟩
    have RAv1 := hide ra
    have MAv1 := hide ((unhide MAw1).below kk)
    have Kv1 := hide ((unhide Kw1).trans (Below.le kk (unhide Kw1).size))
    have Zv1 := hide (Nat.le_trans (unhide Zw1) kk.size)
    have CSv1 := hide kk.size
    clear kk MAw1 Kw1 Zw1
    clear ra
    go_wp2_with fail
    refine (good_any N _ len _ _).mono ?_
    rintro e v2 ⟨rfl, kk⟩
    have MAv2 := hide ((unhide MAv1).below kk)
    have RAv2 := hide ((unhide RAv1).below kk)
    have Kv2 := hide ((unhide Kv1).trans (Below.le kk (unhide Kv1).size))
    have Zv2 := hide (Nat.le_trans (unhide Zv1) kk.size)
    have CSv2 := hide kk.size
    clear kk MAv1 RAv1 Kv1 Zv1
    rw [unhide G]
    go_wp2_with fail
    refine (stands_any _).mono ?_
    rintro e v3 ⟨rfl, kk⟩
    have MAv3 := hide ((unhide MAv2).below kk)
    have RAv3 := hide ((unhide RAv2).below kk)
    have Kv3 := hide ((unhide Kv2).trans (Below.le kk (unhide Kv2).size))
    have Zv3 := hide (Nat.le_trans (unhide Zv2) kk.size)
    have CSv3 := hide kk.size
    clear kk MAv2 RAv2 Kv2 Zv2
    go_wp2_with fail
    go_ret
    exact ⟨rfl, (unhide Kv3)⟩
  · obtain ⟨n, rfl, h1, h6, rfl⟩ := goodM_of hg
    have H1 := hide h1; have H6 := hide h6; have h36 := hide (sq_le h6); have G := hide hg
    clear hg h1 h6
    go_enter Try.func5, Try.ntmps5
    go_wp2_with fail
    rw [← unhide E1]
    have MAx := (unhide MAw1).cell0; have MAy := (unhide MAw1).cell1; have MAl := (unhide MAw1).lt
    go_wp2_with fail
    clear MAx MAy MAl
    refine (ownK_any ((n : Int)) ao (n * n) cap f _ (((unhide AA)).below (unhide Kw1))).mono ?_
    rintro e v4 ⟨aoA, capA, rfl, ra, kk⟩
    have RAv4 := hide ra
    have MAv4 := hide ((unhide MAw1).below kk)
    have Kv4 := hide ((unhide Kw1).trans (Below.le kk (unhide Kw1).size))
    have Zv4 := hide (Nat.le_trans (unhide Zw1) kk.size)
    have CSv4 := hide kk.size
    clear kk MAw1 Kw1 Zw1
    clear ra
    go_wp2_with fail
    refine (good_any (n : Int) _ (n * n) _ _).mono ?_
    rintro e v5 ⟨rfl, kk⟩
    have MAv5 := hide ((unhide MAv4).below kk)
    have RAv5 := hide ((unhide RAv4).below kk)
    have Kv5 := hide ((unhide Kv4).trans (Below.le kk (unhide Kv4).size))
    have Zv5 := hide (Nat.le_trans (unhide Zv4) kk.size)
    have CSv5 := hide kk.size
    clear kk MAv4 RAv4 Kv4 Zv4
    rw [unhide G]
    clear RAv5
    go_upto_region 3 with fail
    go_cut [3, 4, 5] (fun s5 s6 s7 wx => ∃ (L r c : Nat) (h : Nat → Int), s5 = .pointer (some ⟨L, 0, none⟩) ∧ s6 = .bool false ∧ s7 = .int .i64 0 ∧ MbAt wx L (n : Int) (.slice (some ⟨r, 0, none⟩) (n * n) c) ∧ Nh wx r (n * n) c h ∧ (∀ i, i < n * n → h i = f i) ∧ MbAt wx w.heap.size (n : Int) (.slice ao (n * n) cap) ∧ Below w.heap.size w wx)
    case first =>
      refine region_plan (S := Cl2 w.heap.size (.int .i64 (n : Int)) (.slice ao (n * n) cap)) (.rd 0 (.rd 2 (.rd 3 (.two 1 10 (.two 4 10 (.two 5 10 (.rd 6 (.rd 7 (.rd 8 (.rd 9 (.go 10 (.go 11 (.go 12 (.go 13 .fin)))))))) (.go 5 (.rd 6 (.rd 7 (.rd 8 (.rd 9 (.go 11 (.go 12 (.go 13 .fin))))))))) (.go 4 (.go 5 (.rd 6 (.rd 7 (.rd 8 (.rd 9 (.go 11 (.go 12 (.go 13 .fin)))))))))) (.go 1 (.go 4 (.go 5 (.rd 6 (.rd 7 (.rd 8 (.rd 9 (.go 11 (.go 12 (.go 13 .fin)))))))))))))) [] (by kernel_rfl) (by kernel_rfl) ?_
      have MAu0 := hide (show _ from (unhide MAv5).below (below_drew (Below.refl _ _)))
      have Ku0 := hide (below_drew (unhide Kv5))
      have Zu0 := hide (Nat.le_refl v5.drew.heap.size)
      have BK := hide (show w.heap.size ≤ v5.drew.heap.size from (unhide Kv5).size)
      have BMA := hide (show _ < v5.drew.heap.size from (unhide MAv5).lt)
      clear MAv5 Kv5 Zv5
      generalize hu0 : v5.drew = u0 at *
      clear hu0
      iterate 3
        refine plan_read (v := ?_) rfl (fun _ _ _ h => h) (by rfl) ⟨(unhide MAu0).cell0, (unhide MAu0).cell1⟩ ?_ ?_
        rotate_left 1
        · intro wx hwx
          obtain ⟨q1, q2⟩ := hwx
          go_simp <;> exact rfl
        go_frame
      refine plan_two rfl rfl (fun K hK => ?_) (fun K hK => ?_)
      · go_simp
        refine (ownK_any ((n : Int)) ao (n * n) cap f _ (((unhide AA)).below (unhide Ku0))).mono ?_
        rintro e v6 ⟨aoA, capA, rfl, ra, kk⟩
        have RAv6 := hide ra
        have MAv6 := hide ((unhide MAu0).below kk)
        have Kv6 := hide ((unhide Ku0).trans (Below.le kk (unhide Ku0).size))
        have Zv6 := hide (Nat.le_trans (unhide Zu0) kk.size)
        have CSv6 := hide kk.size
        clear kk MAu0 Ku0 Zu0
        clear ra
        refine hK _ _ (fun _ => ⟨(unhide MAv6).cell0, (unhide MAv6).cell1⟩) ?_
        clear hK K
        refine plan_two rfl rfl (fun K hK => ?_) (fun K hK => ?_)
        · go_simp
          refine (unit_any n (n : Int) rfl (unhide H6) _).mono ?_
          rintro e v7 ⟨mU, rU, uU, emU, rfl, nu, ru, iu, kk⟩
          obtain rfl : n = mU := emU.symm
          have NUv7 := hide nu
          have MAv7 := hide ((unhide MAv6).below kk)
          have RAv7 := hide ((unhide RAv6).below kk)
          have Kv7 := hide ((unhide Kv6).trans (Below.le kk (unhide Kv6).size))
          have Zv7 := hide (Nat.le_trans (unhide Zv6) kk.size)
          have CSv7 := hide kk.size
          clear kk MAv6 RAv6 Kv6 Zv6
          have RU := hide ru; have IU := hide iu
          clear nu ru iu
          refine hK _ _ (fun _ => ⟨(unhide MAv7).cell0, (unhide MAv7).cell1⟩) ?_
          clear hK K
          refine plan_two rfl rfl (fun K hK => ?_) (fun K hK => ?_)
          · go_simp
            refine (mul_good n _ _ _ _ f uU _ (unhide H1) (unhide H6) (unhide RF) (unhide RU) (unhide RAv7) (unhide NUv7).rds).mono ?_
            rintro e v8 ⟨r, c, h, rfl, hr, nm, rh, im, kk⟩
            have NMv8 := hide nm
            have MAv8 := hide ((unhide MAv7).below kk)
            have RAv8 := hide ((unhide RAv7).below kk)
            have NUv8 := hide ((unhide NUv7).below kk)
            have Kv8 := hide ((unhide Kv7).trans (Below.le kk (unhide Kv7).size))
            have Zv8 := hide (Nat.le_trans (unhide Zv7) kk.size)
            have CSv8 := hide kk.size
            clear kk MAv7 RAv7 NUv7 Kv7 Zv7
            have EQ := hide (mul_unit (unhide IU) (unhide RF) im)
            clear hr nm rh im
            refine hK _ _ (fun _ => ⟨(unhide MAv8).cell0, (unhide MAv8).cell1⟩) ?_
            clear hK K
            iterate 4
              refine plan_read (v := ?_) rfl (fun _ _ _ h => h) (by rfl) ⟨(unhide MAv8).cell0, (unhide MAv8).cell1⟩ ?_ ?_
              rotate_left 1
              · intro wx hwx
                obtain ⟨q1, q2⟩ := hwx
                go_simp <;> exact rfl
              go_frame
            refine plan_do rfl (fun K hK => ?_)
            go_simp
            obtain ⟨v9, ee, mm, kk, ss⟩ := mb_alloc v8 0 (.slice none 0 0)
            rw [← ee]
            have LVv9 := hide mm
            have LLv9 := hide (show v8.heap.size < v9.heap.size by omega)
            have ZL := hide (unhide Zv8)
            have NL := hide (Nat.ne_of_lt (unhide NMv8).lt)
            clear ee mm ss
            have MAv9 := hide ((unhide MAv8).below kk)
            have RAv9 := hide ((unhide RAv8).below kk)
            have NUv9 := hide ((unhide NUv8).below kk)
            have NMv9 := hide ((unhide NMv8).below kk)
            have Kv9 := hide ((unhide Kv8).trans (Below.le kk (unhide Kv8).size))
            have Zv9 := hide (Nat.le_trans (unhide Zv8) kk.size)
            have CSv9 := hide kk.size
            clear kk MAv8 RAv8 NUv8 NMv8 Kv8 Zv8
            refine hK _ _ (fun _ => ⟨(unhide MAv9).cell0, (unhide MAv9).cell1⟩) ?_
            clear hK K
            generalize v8.heap.size = L at *
            refine plan_do rfl (fun K hK => ?_)
            have z0 := (unhide LVv9).cell0; have z1 := (unhide LVv9).cell1; have f0 := (unhide LVv9).free 0; have f1 := (unhide LVv9).free 1
            go_simp
            obtain ⟨v10, ee, mm, kk⟩ := (unhide LVv9).put (n) (.slice (some ⟨r, 0, none⟩) (n * n) c)
            rw [← ee]
            have LVv10 := hide mm
            have MAv10 := hide ((unhide MAv9).kept kk (by have := unhide ZL; have := unhide BMA; omega))
            have NMv10 := hide ((unhide NMv9).kept kk (unhide NL))
            have Kv10 := hide (below_of_kept (unhide Kv9) kk (by have := unhide ZL; have := unhide BK; omega) (unhide Kv9).size)
            have Zv10 := hide (Nat.le_trans (unhide Zv9) kk.size)
            clear kk
            refine hK _ _ (fun _ => ⟨(unhide MAv10).cell0, (unhide MAv10).cell1⟩) ?_
            clear hK K z0 z1 f0 f1 ee mm
            refine plan_do rfl (fun K hK => ?_)
            go_simp
            refine hK _ _ (fun _ => ⟨(unhide MAv10).cell0, (unhide MAv10).cell1⟩) ?_
            clear hK K
            refine plan_do rfl (fun K hK => ?_)
            go_simp
            refine hK _ _ (fun _ => ⟨(unhide MAv10).cell0, (unhide MAv10).cell1⟩) ?_
            clear hK K
            refine plan_end ?_
            go_wp2_with fail
            go_meet
            exact ⟨L, r, c, h, rfl, by rw [(unhide EQ).2], rfl, (unhide LVv10), (unhide NMv10), (unhide EQ).1, (unhide MAv10), (unhide Kv10)⟩
          · go_simp
            obtain ⟨v11, ee, mm, kk, ss⟩ := mb_alloc v7 0 (.slice none 0 0)
            rw [← ee]
            have LVv11 := hide mm
            have LLv11 := hide (show v7.heap.size < v11.heap.size by omega)
            have ZL := hide (unhide Zv7)
            clear ee mm ss
            have MAv11 := hide ((unhide MAv7).below kk)
            have RAv11 := hide ((unhide RAv7).below kk)
            have NUv11 := hide ((unhide NUv7).below kk)
            have Kv11 := hide ((unhide Kv7).trans (Below.le kk (unhide Kv7).size))
            have Zv11 := hide (Nat.le_trans (unhide Zv7) kk.size)
            have CSv11 := hide kk.size
            clear kk MAv7 RAv7 NUv7 Kv7 Zv7
            refine hK _ _ (fun _ => ⟨(unhide MAv11).cell0, (unhide MAv11).cell1⟩) ?_
            clear hK K
            generalize v7.heap.size = L at *
            refine plan_do rfl (fun K hK => ?_)
            go_simp
            refine (mul_good n _ _ _ _ f uU _ (unhide H1) (unhide H6) (unhide RF) (unhide RU) (unhide RAv11) (unhide NUv11).rds).mono ?_
            rintro e v12 ⟨r, c, h, rfl, hr, nm, rh, im, kk⟩
            have NL := hide (show r ≠ L by have := unhide LLv11; omega)
            have NMv12 := hide nm
            have MAv12 := hide ((unhide MAv11).below kk)
            have RAv12 := hide ((unhide RAv11).below kk)
            have NUv12 := hide ((unhide NUv11).below kk)
            have LVv12 := hide ((unhide LVv11).below kk)
            have Kv12 := hide ((unhide Kv11).trans (Below.le kk (unhide Kv11).size))
            have Zv12 := hide (Nat.le_trans (unhide Zv11) kk.size)
            have CSv12 := hide kk.size
            clear kk MAv11 RAv11 NUv11 LVv11 Kv11 Zv11
            have EQ := hide (mul_unit (unhide IU) (unhide RF) im)
            clear hr nm rh im
            refine hK _ _ (fun _ => ⟨(unhide MAv12).cell0, (unhide MAv12).cell1⟩) ?_
            clear hK K
            have LLv12 := hide (Nat.lt_of_lt_of_le (unhide LLv11) (unhide CSv12))
            iterate 4
              refine plan_read (v := ?_) rfl (fun _ _ _ h => h) (by rfl) ⟨(unhide MAv12).cell0, (unhide MAv12).cell1⟩ ?_ ?_
              rotate_left 1
              · intro wx hwx
                obtain ⟨q1, q2⟩ := hwx
                go_simp <;> exact rfl
              go_frame
            refine plan_do rfl (fun K hK => ?_)
            have z0 := (unhide LVv12).cell0; have z1 := (unhide LVv12).cell1; have f0 := (unhide LVv12).free 0; have f1 := (unhide LVv12).free 1
            go_simp
            obtain ⟨v13, ee, mm, kk⟩ := (unhide LVv12).put (n) (.slice (some ⟨r, 0, none⟩) (n * n) c)
            rw [← ee]
            have LVv13 := hide mm
            have MAv13 := hide ((unhide MAv12).kept kk (by have := unhide ZL; have := unhide BMA; omega))
            have NMv13 := hide ((unhide NMv12).kept kk (unhide NL))
            have Kv13 := hide (below_of_kept (unhide Kv12) kk (by have := unhide ZL; have := unhide BK; omega) (unhide Kv12).size)
            have Zv13 := hide (Nat.le_trans (unhide Zv12) kk.size)
            clear kk
            refine hK _ _ (fun _ => ⟨(unhide MAv13).cell0, (unhide MAv13).cell1⟩) ?_
            clear hK K z0 z1 f0 f1 ee mm
            refine plan_do rfl (fun K hK => ?_)
            go_simp
            refine hK _ _ (fun _ => ⟨(unhide MAv13).cell0, (unhide MAv13).cell1⟩) ?_
            clear hK K
            refine plan_do rfl (fun K hK => ?_)
            go_simp
            refine hK _ _ (fun _ => ⟨(unhide MAv13).cell0, (unhide MAv13).cell1⟩) ?_
            clear hK K
            refine plan_end ?_
            go_wp2_with fail
            go_meet
            exact ⟨L, r, c, h, rfl, by rw [(unhide EQ).2], rfl, (unhide LVv13), (unhide NMv13), (unhide EQ).1, (unhide MAv13), (unhide Kv13)⟩
        · go_simp
          obtain ⟨v14, ee, mm, kk, ss⟩ := mb_alloc v6 0 (.slice none 0 0)
          rw [← ee]
          have LVv14 := hide mm
          have LLv14 := hide (show v6.heap.size < v14.heap.size by omega)
          have ZL := hide (unhide Zv6)
          clear ee mm ss
          have MAv14 := hide ((unhide MAv6).below kk)
          have RAv14 := hide ((unhide RAv6).below kk)
          have Kv14 := hide ((unhide Kv6).trans (Below.le kk (unhide Kv6).size))
          have Zv14 := hide (Nat.le_trans (unhide Zv6) kk.size)
          have CSv14 := hide kk.size
          clear kk MAv6 RAv6 Kv6 Zv6
          refine hK _ _ (fun _ => ⟨(unhide MAv14).cell0, (unhide MAv14).cell1⟩) ?_
          clear hK K
          generalize v6.heap.size = L at *
          refine plan_do rfl (fun K hK => ?_)
          go_simp
          refine (unit_any n (n : Int) rfl (unhide H6) _).mono ?_
          rintro e v15 ⟨mU, rU, uU, emU, rfl, nu, ru, iu, kk⟩
          obtain rfl : n = mU := emU.symm
          have NUv15 := hide nu
          have MAv15 := hide ((unhide MAv14).below kk)
          have RAv15 := hide ((unhide RAv14).below kk)
          have LVv15 := hide ((unhide LVv14).below kk)
          have Kv15 := hide ((unhide Kv14).trans (Below.le kk (unhide Kv14).size))
          have Zv15 := hide (Nat.le_trans (unhide Zv14) kk.size)
          have CSv15 := hide kk.size
          clear kk MAv14 RAv14 LVv14 Kv14 Zv14
          have RU := hide ru; have IU := hide iu
          clear nu ru iu
          refine hK _ _ (fun _ => ⟨(unhide MAv15).cell0, (unhide MAv15).cell1⟩) ?_
          clear hK K
          have LLv15 := hide (Nat.lt_of_lt_of_le (unhide LLv14) (unhide CSv15))
          refine plan_do rfl (fun K hK => ?_)
          go_simp
          refine (mul_good n _ _ _ _ f uU _ (unhide H1) (unhide H6) (unhide RF) (unhide RU) (unhide RAv15) (unhide NUv15).rds).mono ?_
          rintro e v16 ⟨r, c, h, rfl, hr, nm, rh, im, kk⟩
          have NL := hide (show r ≠ L by have := unhide LLv15; omega)
          have NMv16 := hide nm
          have MAv16 := hide ((unhide MAv15).below kk)
          have RAv16 := hide ((unhide RAv15).below kk)
          have LVv16 := hide ((unhide LVv15).below kk)
          have NUv16 := hide ((unhide NUv15).below kk)
          have Kv16 := hide ((unhide Kv15).trans (Below.le kk (unhide Kv15).size))
          have Zv16 := hide (Nat.le_trans (unhide Zv15) kk.size)
          have CSv16 := hide kk.size
          clear kk MAv15 RAv15 LVv15 NUv15 Kv15 Zv15
          have EQ := hide (mul_unit (unhide IU) (unhide RF) im)
          clear hr nm rh im
          refine hK _ _ (fun _ => ⟨(unhide MAv16).cell0, (unhide MAv16).cell1⟩) ?_
          clear hK K
          have LLv16 := hide (Nat.lt_of_lt_of_le (unhide LLv15) (unhide CSv16))
          iterate 4
            refine plan_read (v := ?_) rfl (fun _ _ _ h => h) (by rfl) ⟨(unhide MAv16).cell0, (unhide MAv16).cell1⟩ ?_ ?_
            rotate_left 1
            · intro wx hwx
              obtain ⟨q1, q2⟩ := hwx
              go_simp <;> exact rfl
            go_frame
          refine plan_do rfl (fun K hK => ?_)
          have z0 := (unhide LVv16).cell0; have z1 := (unhide LVv16).cell1; have f0 := (unhide LVv16).free 0; have f1 := (unhide LVv16).free 1
          go_simp
          obtain ⟨v17, ee, mm, kk⟩ := (unhide LVv16).put (n) (.slice (some ⟨r, 0, none⟩) (n * n) c)
          rw [← ee]
          have LVv17 := hide mm
          have MAv17 := hide ((unhide MAv16).kept kk (by have := unhide ZL; have := unhide BMA; omega))
          have NMv17 := hide ((unhide NMv16).kept kk (unhide NL))
          have Kv17 := hide (below_of_kept (unhide Kv16) kk (by have := unhide ZL; have := unhide BK; omega) (unhide Kv16).size)
          have Zv17 := hide (Nat.le_trans (unhide Zv16) kk.size)
          clear kk
          refine hK _ _ (fun _ => ⟨(unhide MAv17).cell0, (unhide MAv17).cell1⟩) ?_
          clear hK K z0 z1 f0 f1 ee mm
          refine plan_do rfl (fun K hK => ?_)
          go_simp
          refine hK _ _ (fun _ => ⟨(unhide MAv17).cell0, (unhide MAv17).cell1⟩) ?_
          clear hK K
          refine plan_do rfl (fun K hK => ?_)
          go_simp
          refine hK _ _ (fun _ => ⟨(unhide MAv17).cell0, (unhide MAv17).cell1⟩) ?_
          clear hK K
          refine plan_end ?_
          go_wp2_with fail
          go_meet
          exact ⟨L, r, c, h, rfl, by rw [(unhide EQ).2], rfl, (unhide LVv17), (unhide NMv17), (unhide EQ).1, (unhide MAv17), (unhide Kv17)⟩
      · go_simp
        obtain ⟨v18, ee, mm, kk, ss⟩ := mb_alloc u0 0 (.slice none 0 0)
        rw [← ee]
        have LVv18 := hide mm
        have LLv18 := hide (show u0.heap.size < v18.heap.size by omega)
        have ZL := hide (unhide Zu0)
        clear ee mm ss
        have MAv18 := hide ((unhide MAu0).below kk)
        have Kv18 := hide ((unhide Ku0).trans (Below.le kk (unhide Ku0).size))
        have Zv18 := hide (Nat.le_trans (unhide Zu0) kk.size)
        have CSv18 := hide kk.size
        clear kk MAu0 Ku0 Zu0
        refine hK _ _ (fun _ => ⟨(unhide MAv18).cell0, (unhide MAv18).cell1⟩) ?_
        clear hK K
        generalize u0.heap.size = L at *
        refine plan_do rfl (fun K hK => ?_)
        go_simp
        refine (ownK_any ((n : Int)) ao (n * n) cap f _ (((unhide AA)).below (unhide Kv18))).mono ?_
        rintro e v19 ⟨aoA, capA, rfl, ra, kk⟩
        have RAv19 := hide ra
        have MAv19 := hide ((unhide MAv18).below kk)
        have LVv19 := hide ((unhide LVv18).below kk)
        have Kv19 := hide ((unhide Kv18).trans (Below.le kk (unhide Kv18).size))
        have Zv19 := hide (Nat.le_trans (unhide Zv18) kk.size)
        have CSv19 := hide kk.size
        clear kk MAv18 LVv18 Kv18 Zv18
        clear ra
        refine hK _ _ (fun _ => ⟨(unhide MAv19).cell0, (unhide MAv19).cell1⟩) ?_
        clear hK K
        have LLv19 := hide (Nat.lt_of_lt_of_le (unhide LLv18) (unhide CSv19))
        refine plan_do rfl (fun K hK => ?_)
        go_simp
        refine (unit_any n (n : Int) rfl (unhide H6) _).mono ?_
        rintro e v20 ⟨mU, rU, uU, emU, rfl, nu, ru, iu, kk⟩
        obtain rfl : n = mU := emU.symm
        have NUv20 := hide nu
        have MAv20 := hide ((unhide MAv19).below kk)
        have LVv20 := hide ((unhide LVv19).below kk)
        have RAv20 := hide ((unhide RAv19).below kk)
        have Kv20 := hide ((unhide Kv19).trans (Below.le kk (unhide Kv19).size))
        have Zv20 := hide (Nat.le_trans (unhide Zv19) kk.size)
        have CSv20 := hide kk.size
        clear kk MAv19 LVv19 RAv19 Kv19 Zv19
        have RU := hide ru; have IU := hide iu
        clear nu ru iu
        refine hK _ _ (fun _ => ⟨(unhide MAv20).cell0, (unhide MAv20).cell1⟩) ?_
        clear hK K
        have LLv20 := hide (Nat.lt_of_lt_of_le (unhide LLv19) (unhide CSv20))
        refine plan_do rfl (fun K hK => ?_)
        go_simp
        refine (mul_good n _ _ _ _ f uU _ (unhide H1) (unhide H6) (unhide RF) (unhide RU) (unhide RAv20) (unhide NUv20).rds).mono ?_
        rintro e v21 ⟨r, c, h, rfl, hr, nm, rh, im, kk⟩
        have NL := hide (show r ≠ L by have := unhide LLv20; omega)
        have NMv21 := hide nm
        have MAv21 := hide ((unhide MAv20).below kk)
        have LVv21 := hide ((unhide LVv20).below kk)
        have RAv21 := hide ((unhide RAv20).below kk)
        have NUv21 := hide ((unhide NUv20).below kk)
        have Kv21 := hide ((unhide Kv20).trans (Below.le kk (unhide Kv20).size))
        have Zv21 := hide (Nat.le_trans (unhide Zv20) kk.size)
        have CSv21 := hide kk.size
        clear kk MAv20 LVv20 RAv20 NUv20 Kv20 Zv20
        have EQ := hide (mul_unit (unhide IU) (unhide RF) im)
        clear hr nm rh im
        refine hK _ _ (fun _ => ⟨(unhide MAv21).cell0, (unhide MAv21).cell1⟩) ?_
        clear hK K
        have LLv21 := hide (Nat.lt_of_lt_of_le (unhide LLv20) (unhide CSv21))
        iterate 4
          refine plan_read (v := ?_) rfl (fun _ _ _ h => h) (by rfl) ⟨(unhide MAv21).cell0, (unhide MAv21).cell1⟩ ?_ ?_
          rotate_left 1
          · intro wx hwx
            obtain ⟨q1, q2⟩ := hwx
            go_simp <;> exact rfl
          go_frame
        refine plan_do rfl (fun K hK => ?_)
        have z0 := (unhide LVv21).cell0; have z1 := (unhide LVv21).cell1; have f0 := (unhide LVv21).free 0; have f1 := (unhide LVv21).free 1
        go_simp
        obtain ⟨v22, ee, mm, kk⟩ := (unhide LVv21).put (n) (.slice (some ⟨r, 0, none⟩) (n * n) c)
        rw [← ee]
        have LVv22 := hide mm
        have MAv22 := hide ((unhide MAv21).kept kk (by have := unhide ZL; have := unhide BMA; omega))
        have NMv22 := hide ((unhide NMv21).kept kk (unhide NL))
        have Kv22 := hide (below_of_kept (unhide Kv21) kk (by have := unhide ZL; have := unhide BK; omega) (unhide Kv21).size)
        have Zv22 := hide (Nat.le_trans (unhide Zv21) kk.size)
        clear kk
        refine hK _ _ (fun _ => ⟨(unhide MAv22).cell0, (unhide MAv22).cell1⟩) ?_
        clear hK K z0 z1 f0 f1 ee mm
        refine plan_do rfl (fun K hK => ?_)
        go_simp
        refine hK _ _ (fun _ => ⟨(unhide MAv22).cell0, (unhide MAv22).cell1⟩) ?_
        clear hK K
        refine plan_do rfl (fun K hK => ?_)
        go_simp
        refine hK _ _ (fun _ => ⟨(unhide MAv22).cell0, (unhide MAv22).cell1⟩) ?_
        clear hK K
        refine plan_end ?_
        go_wp2_with fail
        go_meet
        exact ⟨L, r, c, h, rfl, by rw [(unhide EQ).2], rfl, (unhide LVv22), (unhide NMv22), (unhide EQ).1, (unhide MAv22), (unhide Kv22)⟩
    case rest =>
      obtain ⟨L1, r1, c1, hh1, rfl, rfl, rfl, lv, nm, q1, ma, kc⟩ := hcut
      have OVwc := hide lv; have ONwc := hide nm; have Q1 := hide q1; have MAwc := hide ma; have Kwc := hide kc; have Zwc := hide (Nat.le_refl 0)
      clear lv nm q1 ma kc
      go_upto_region 4 with fail
      go_cut [6, 7, 8] (fun s5 s6 s7 wx => ∃ (L r c : Nat) (h : Nat → Int), s5 = .pointer (some ⟨L, 0, none⟩) ∧ s6 = .bool false ∧ s7 = .int .i64 0 ∧ MbAt wx L (n : Int) (.slice (some ⟨r, 0, none⟩) (n * n) c) ∧ Nh wx r (n * n) c h ∧ (∀ i, i < n * n → h i = f i) ∧ MbAt wx w.heap.size (n : Int) (.slice ao (n * n) cap) ∧ Below w.heap.size w wx ∧ MbAt wx L1 (n : Int) (.slice (some ⟨r1, 0, none⟩) (n * n) c1) ∧ Nh wx r1 (n * n) c1 hh1)
      case first =>
        refine region_plan (S := Cl2 w.heap.size (.int .i64 (n : Int)) (.slice ao (n * n) cap)) (.rd 0 (.rd 1 (.rd 3 (.two 2 10 (.two 4 10 (.two 5 10 (.rd 6 (.rd 7 (.rd 8 (.rd 9 (.go 10 (.go 11 (.go 12 (.go 13 .fin)))))))) (.go 5 (.rd 6 (.rd 7 (.rd 8 (.rd 9 (.go 11 (.go 12 (.go 13 .fin))))))))) (.go 4 (.go 5 (.rd 6 (.rd 7 (.rd 8 (.rd 9 (.go 11 (.go 12 (.go 13 .fin)))))))))) (.go 2 (.go 4 (.go 5 (.rd 6 (.rd 7 (.rd 8 (.rd 9 (.go 11 (.go 12 (.go 13 .fin)))))))))))))) [] (by kernel_rfl) (by kernel_rfl) ?_
        have OVu0 := hide (show _ from (unhide OVwc).below (below_drew (Below.refl _ _)))
        have ONu0 := hide (show _ from (unhide ONwc).below (below_drew (Below.refl _ _)))
        have MAu0 := hide (show _ from (unhide MAwc).below (below_drew (Below.refl _ _)))
        have Ku0 := hide (below_drew (unhide Kwc))
        have Zu0 := hide (Nat.le_refl wc.drew.heap.size)
        have BK := hide (show w.heap.size ≤ wc.drew.heap.size from (unhide Kwc).size)
        have BOV := hide (show _ < wc.drew.heap.size from (unhide OVwc).lt)
        have BON := hide (show _ < wc.drew.heap.size from (unhide ONwc).lt)
        have BMA := hide (show _ < wc.drew.heap.size from (unhide MAwc).lt)
        clear OVwc ONwc MAwc Kwc Zwc
        generalize hu0 : wc.drew = u0 at *
        clear hu0
        iterate 3
          refine plan_read (v := ?_) rfl (fun _ _ _ h => h) (by rfl) ⟨(unhide MAu0).cell0, (unhide MAu0).cell1⟩ ?_ ?_
          rotate_left 1
          · intro wx hwx
            obtain ⟨q1, q2⟩ := hwx
            go_simp <;> exact rfl
          go_frame
        refine plan_two rfl rfl (fun K hK => ?_) (fun K hK => ?_)
        · go_simp
          refine (unit_any n (n : Int) rfl (unhide H6) _).mono ?_
          rintro e v23 ⟨mU, rU, uU, emU, rfl, nu, ru, iu, kk⟩
          obtain rfl : n = mU := emU.symm
          have NUv23 := hide nu
          have OVv23 := hide ((unhide OVu0).below kk)
          have ONv23 := hide ((unhide ONu0).below kk)
          have MAv23 := hide ((unhide MAu0).below kk)
          have Kv23 := hide ((unhide Ku0).trans (Below.le kk (unhide Ku0).size))
          have Zv23 := hide (Nat.le_trans (unhide Zu0) kk.size)
          have CSv23 := hide kk.size
          clear kk OVu0 ONu0 MAu0 Ku0 Zu0
          have RU := hide ru; have IU := hide iu
          clear nu ru iu
          refine hK _ _ (fun _ => ⟨(unhide MAv23).cell0, (unhide MAv23).cell1⟩) ?_
          clear hK K
          refine plan_two rfl rfl (fun K hK => ?_) (fun K hK => ?_)
          · go_simp
            refine (ownK_any ((n : Int)) ao (n * n) cap f _ (((unhide AA)).below (unhide Kv23))).mono ?_
            rintro e v24 ⟨aoA, capA, rfl, ra, kk⟩
            have RAv24 := hide ra
            have OVv24 := hide ((unhide OVv23).below kk)
            have ONv24 := hide ((unhide ONv23).below kk)
            have MAv24 := hide ((unhide MAv23).below kk)
            have NUv24 := hide ((unhide NUv23).below kk)
            have Kv24 := hide ((unhide Kv23).trans (Below.le kk (unhide Kv23).size))
            have Zv24 := hide (Nat.le_trans (unhide Zv23) kk.size)
            have CSv24 := hide kk.size
            clear kk OVv23 ONv23 MAv23 NUv23 Kv23 Zv23
            clear ra
            refine hK _ _ (fun _ => ⟨(unhide MAv24).cell0, (unhide MAv24).cell1⟩) ?_
            clear hK K
            refine plan_two rfl rfl (fun K hK => ?_) (fun K hK => ?_)
            · go_simp
              refine (mul_good n _ _ _ _ uU f _ (unhide H1) (unhide H6) (unhide RU) (unhide RF) (unhide NUv24).rds (unhide RAv24)).mono ?_
              rintro e v25 ⟨r, c, h, rfl, hr, nm, rh, im, kk⟩
              have NMv25 := hide nm
              have OVv25 := hide ((unhide OVv24).below kk)
              have ONv25 := hide ((unhide ONv24).below kk)
              have MAv25 := hide ((unhide MAv24).below kk)
              have NUv25 := hide ((unhide NUv24).below kk)
              have RAv25 := hide ((unhide RAv24).below kk)
              have Kv25 := hide ((unhide Kv24).trans (Below.le kk (unhide Kv24).size))
              have Zv25 := hide (Nat.le_trans (unhide Zv24) kk.size)
              have CSv25 := hide kk.size
              clear kk OVv24 ONv24 MAv24 NUv24 RAv24 Kv24 Zv24
              have EQ := hide (unit_mul (unhide IU) (unhide RF) im)
              clear hr nm rh im
              refine hK _ _ (fun _ => ⟨(unhide MAv25).cell0, (unhide MAv25).cell1⟩) ?_
              clear hK K
              iterate 4
                refine plan_read (v := ?_) rfl (fun _ _ _ h => h) (by rfl) ⟨(unhide MAv25).cell0, (unhide MAv25).cell1⟩ ?_ ?_
                rotate_left 1
                · intro wx hwx
                  obtain ⟨q1, q2⟩ := hwx
                  go_simp <;> exact rfl
                go_frame
              refine plan_do rfl (fun K hK => ?_)
              go_simp
              obtain ⟨v26, ee, mm, kk, ss⟩ := mb_alloc v25 0 (.slice none 0 0)
              rw [← ee]
              have LVv26 := hide mm
              have LLv26 := hide (show v25.heap.size < v26.heap.size by omega)
              have ZL := hide (unhide Zv25)
              have NL := hide (Nat.ne_of_lt (unhide NMv25).lt)
              clear ee mm ss
              have OVv26 := hide ((unhide OVv25).below kk)
              have ONv26 := hide ((unhide ONv25).below kk)
              have MAv26 := hide ((unhide MAv25).below kk)
              have NUv26 := hide ((unhide NUv25).below kk)
              have RAv26 := hide ((unhide RAv25).below kk)
              have NMv26 := hide ((unhide NMv25).below kk)
              have Kv26 := hide ((unhide Kv25).trans (Below.le kk (unhide Kv25).size))
              have Zv26 := hide (Nat.le_trans (unhide Zv25) kk.size)
              have CSv26 := hide kk.size
              clear kk OVv25 ONv25 MAv25 NUv25 RAv25 NMv25 Kv25 Zv25
              refine hK _ _ (fun _ => ⟨(unhide MAv26).cell0, (unhide MAv26).cell1⟩) ?_
              clear hK K
              generalize v25.heap.size = L at *
              refine plan_do rfl (fun K hK => ?_)
              have z0 := (unhide LVv26).cell0; have z1 := (unhide LVv26).cell1; have f0 := (unhide LVv26).free 0; have f1 := (unhide LVv26).free 1
              go_simp
              obtain ⟨v27, ee, mm, kk⟩ := (unhide LVv26).put (n) (.slice (some ⟨r, 0, none⟩) (n * n) c)
              rw [← ee]
              have LVv27 := hide mm
              have OVv27 := hide ((unhide OVv26).kept kk (by have := unhide ZL; have := unhide BOV; omega))
              have ONv27 := hide ((unhide ONv26).kept kk (by have := unhide ZL; have := unhide BON; omega))
              have MAv27 := hide ((unhide MAv26).kept kk (by have := unhide ZL; have := unhide BMA; omega))
              have NMv27 := hide ((unhide NMv26).kept kk (unhide NL))
              have Kv27 := hide (below_of_kept (unhide Kv26) kk (by have := unhide ZL; have := unhide BK; omega) (unhide Kv26).size)
              have Zv27 := hide (Nat.le_trans (unhide Zv26) kk.size)
              clear kk
              refine hK _ _ (fun _ => ⟨(unhide MAv27).cell0, (unhide MAv27).cell1⟩) ?_
              clear hK K z0 z1 f0 f1 ee mm
              refine plan_do rfl (fun K hK => ?_)
              go_simp
              refine hK _ _ (fun _ => ⟨(unhide MAv27).cell0, (unhide MAv27).cell1⟩) ?_
              clear hK K
              refine plan_do rfl (fun K hK => ?_)
              go_simp
              refine hK _ _ (fun _ => ⟨(unhide MAv27).cell0, (unhide MAv27).cell1⟩) ?_
              clear hK K
              refine plan_end ?_
              go_wp2_with fail
              go_meet
              exact ⟨L, r, c, h, rfl, by rw [(unhide EQ).2], rfl, (unhide LVv27), (unhide NMv27), (unhide EQ).1, (unhide MAv27), (unhide Kv27), (unhide OVv27), (unhide ONv27)⟩
            · go_simp
              obtain ⟨v28, ee, mm, kk, ss⟩ := mb_alloc v24 0 (.slice none 0 0)
              rw [← ee]
              have LVv28 := hide mm
              have LLv28 := hide (show v24.heap.size < v28.heap.size by omega)
              have ZL := hide (unhide Zv24)
              clear ee mm ss
              have OVv28 := hide ((unhide OVv24).below kk)
              have ONv28 := hide ((unhide ONv24).below kk)
              have MAv28 := hide ((unhide MAv24).below kk)
              have NUv28 := hide ((unhide NUv24).below kk)
              have RAv28 := hide ((unhide RAv24).below kk)
              have Kv28 := hide ((unhide Kv24).trans (Below.le kk (unhide Kv24).size))
              have Zv28 := hide (Nat.le_trans (unhide Zv24) kk.size)
              have CSv28 := hide kk.size
              clear kk OVv24 ONv24 MAv24 NUv24 RAv24 Kv24 Zv24
              refine hK _ _ (fun _ => ⟨(unhide MAv28).cell0, (unhide MAv28).cell1⟩) ?_
              clear hK K
              generalize v24.heap.size = L at *
              refine plan_do rfl (fun K hK => ?_)
              go_simp
              refine (mul_good n _ _ _ _ uU f _ (unhide H1) (unhide H6) (unhide RU) (unhide RF) (unhide NUv28).rds (unhide RAv28)).mono ?_
              rintro e v29 ⟨r, c, h, rfl, hr, nm, rh, im, kk⟩
              have NL := hide (show r ≠ L by have := unhide LLv28; omega)
              have NMv29 := hide nm
              have OVv29 := hide ((unhide OVv28).below kk)
              have ONv29 := hide ((unhide ONv28).below kk)
              have MAv29 := hide ((unhide MAv28).below kk)
              have NUv29 := hide ((unhide NUv28).below kk)
              have RAv29 := hide ((unhide RAv28).below kk)
              have LVv29 := hide ((unhide LVv28).below kk)
              have Kv29 := hide ((unhide Kv28).trans (Below.le kk (unhide Kv28).size))
              have Zv29 := hide (Nat.le_trans (unhide Zv28) kk.size)
              have CSv29 := hide kk.size
              clear kk OVv28 ONv28 MAv28 NUv28 RAv28 LVv28 Kv28 Zv28
              have EQ := hide (unit_mul (unhide IU) (unhide RF) im)
              clear hr nm rh im
              refine hK _ _ (fun _ => ⟨(unhide MAv29).cell0, (unhide MAv29).cell1⟩) ?_
              clear hK K
              have LLv29 := hide (Nat.lt_of_lt_of_le (unhide LLv28) (unhide CSv29))
              iterate 4
                refine plan_read (v := ?_) rfl (fun _ _ _ h => h) (by rfl) ⟨(unhide MAv29).cell0, (unhide MAv29).cell1⟩ ?_ ?_
                rotate_left 1
                · intro wx hwx
                  obtain ⟨q1, q2⟩ := hwx
                  go_simp <;> exact rfl
                go_frame
              refine plan_do rfl (fun K hK => ?_)
              have z0 := (unhide LVv29).cell0; have z1 := (unhide LVv29).cell1; have f0 := (unhide LVv29).free 0; have f1 := (unhide LVv29).free 1
              go_simp
              obtain ⟨v30, ee, mm, kk⟩ := (unhide LVv29).put (n) (.slice (some ⟨r, 0, none⟩) (n * n) c)
              rw [← ee]
              have LVv30 := hide mm
              have OVv30 := hide ((unhide OVv29).kept kk (by have := unhide ZL; have := unhide BOV; omega))
              have ONv30 := hide ((unhide ONv29).kept kk (by have := unhide ZL; have := unhide BON; omega))
              have MAv30 := hide ((unhide MAv29).kept kk (by have := unhide ZL; have := unhide BMA; omega))
              have NMv30 := hide ((unhide NMv29).kept kk (unhide NL))
              have Kv30 := hide (below_of_kept (unhide Kv29) kk (by have := unhide ZL; have := unhide BK; omega) (unhide Kv29).size)
              have Zv30 := hide (Nat.le_trans (unhide Zv29) kk.size)
              clear kk
              refine hK _ _ (fun _ => ⟨(unhide MAv30).cell0, (unhide MAv30).cell1⟩) ?_
              clear hK K z0 z1 f0 f1 ee mm
              refine plan_do rfl (fun K hK => ?_)
              go_simp
              refine hK _ _ (fun _ => ⟨(unhide MAv30).cell0, (unhide MAv30).cell1⟩) ?_
              clear hK K
              refine plan_do rfl (fun K hK => ?_)
              go_simp
              refine hK _ _ (fun _ => ⟨(unhide MAv30).cell0, (unhide MAv30).cell1⟩) ?_
              clear hK K
              refine plan_end ?_
              go_wp2_with fail
              go_meet
              exact ⟨L, r, c, h, rfl, by rw [(unhide EQ).2], rfl, (unhide LVv30), (unhide NMv30), (unhide EQ).1, (unhide MAv30), (unhide Kv30), (unhide OVv30), (unhide ONv30)⟩
          · go_simp
            obtain ⟨v31, ee, mm, kk, ss⟩ := mb_alloc v23 0 (.slice none 0 0)
            rw [← ee]
            have LVv31 := hide mm
            have LLv31 := hide (show v23.heap.size < v31.heap.size by omega)
            have ZL := hide (unhide Zv23)
            clear ee mm ss
            have OVv31 := hide ((unhide OVv23).below kk)
            have ONv31 := hide ((unhide ONv23).below kk)
            have MAv31 := hide ((unhide MAv23).below kk)
            have NUv31 := hide ((unhide NUv23).below kk)
            have Kv31 := hide ((unhide Kv23).trans (Below.le kk (unhide Kv23).size))
            have Zv31 := hide (Nat.le_trans (unhide Zv23) kk.size)
            have CSv31 := hide kk.size
            clear kk OVv23 ONv23 MAv23 NUv23 Kv23 Zv23
            refine hK _ _ (fun _ => ⟨(unhide MAv31).cell0, (unhide MAv31).cell1⟩) ?_
            clear hK K
            generalize v23.heap.size = L at *
            refine plan_do rfl (fun K hK => ?_)
            go_simp
            refine (ownK_any ((n : Int)) ao (n * n) cap f _ (((unhide AA)).below (unhide Kv31))).mono ?_
            rintro e v32 ⟨aoA, capA, rfl, ra, kk⟩
            have RAv32 := hide ra
            have OVv32 := hide ((unhide OVv31).below kk)
            have ONv32 := hide ((unhide ONv31).below kk)
            have MAv32 := hide ((unhide MAv31).below kk)
            have NUv32 := hide ((unhide NUv31).below kk)
            have LVv32 := hide ((unhide LVv31).below kk)
            have Kv32 := hide ((unhide Kv31).trans (Below.le kk (unhide Kv31).size))
            have Zv32 := hide (Nat.le_trans (unhide Zv31) kk.size)
            have CSv32 := hide kk.size
            clear kk OVv31 ONv31 MAv31 NUv31 LVv31 Kv31 Zv31
            clear ra
            refine hK _ _ (fun _ => ⟨(unhide MAv32).cell0, (unhide MAv32).cell1⟩) ?_
            clear hK K
            have LLv32 := hide (Nat.lt_of_lt_of_le (unhide LLv31) (unhide CSv32))
            refine plan_do rfl (fun K hK => ?_)
            go_simp
            refine (mul_good n _ _ _ _ uU f _ (unhide H1) (unhide H6) (unhide RU) (unhide RF) (unhide NUv32).rds (unhide RAv32)).mono ?_
            rintro e v33 ⟨r, c, h, rfl, hr, nm, rh, im, kk⟩
            have NL := hide (show r ≠ L by have := unhide LLv32; omega)
            have NMv33 := hide nm
            have OVv33 := hide ((unhide OVv32).below kk)
            have ONv33 := hide ((unhide ONv32).below kk)
            have MAv33 := hide ((unhide MAv32).below kk)
            have NUv33 := hide ((unhide NUv32).below kk)
            have LVv33 := hide ((unhide LVv32).below kk)
            have RAv33 := hide ((unhide RAv32).below kk)
            have Kv33 := hide ((unhide Kv32).trans (Below.le kk (unhide Kv32).size))
            have Zv33 := hide (Nat.le_trans (unhide Zv32) kk.size)
            have CSv33 := hide kk.size
            clear kk OVv32 ONv32 MAv32 NUv32 LVv32 RAv32 Kv32 Zv32
            have EQ := hide (unit_mul (unhide IU) (unhide RF) im)
            clear hr nm rh im
            refine hK _ _ (fun _ => ⟨(unhide MAv33).cell0, (unhide MAv33).cell1⟩) ?_
            clear hK K
            have LLv33 := hide (Nat.lt_of_lt_of_le (unhide LLv32) (unhide CSv33))
            iterate 4
              refine plan_read (v := ?_) rfl (fun _ _ _ h => h) (by rfl) ⟨(unhide MAv33).cell0, (unhide MAv33).cell1⟩ ?_ ?_
              rotate_left 1
              · intro wx hwx
                obtain ⟨q1, q2⟩ := hwx
                go_simp <;> exact rfl
              go_frame
            refine plan_do rfl (fun K hK => ?_)
            have z0 := (unhide LVv33).cell0; have z1 := (unhide LVv33).cell1; have f0 := (unhide LVv33).free 0; have f1 := (unhide LVv33).free 1
            go_simp
            obtain ⟨v34, ee, mm, kk⟩ := (unhide LVv33).put (n) (.slice (some ⟨r, 0, none⟩) (n * n) c)
            rw [← ee]
            have LVv34 := hide mm
            have OVv34 := hide ((unhide OVv33).kept kk (by have := unhide ZL; have := unhide BOV; omega))
            have ONv34 := hide ((unhide ONv33).kept kk (by have := unhide ZL; have := unhide BON; omega))
            have MAv34 := hide ((unhide MAv33).kept kk (by have := unhide ZL; have := unhide BMA; omega))
            have NMv34 := hide ((unhide NMv33).kept kk (unhide NL))
            have Kv34 := hide (below_of_kept (unhide Kv33) kk (by have := unhide ZL; have := unhide BK; omega) (unhide Kv33).size)
            have Zv34 := hide (Nat.le_trans (unhide Zv33) kk.size)
            clear kk
            refine hK _ _ (fun _ => ⟨(unhide MAv34).cell0, (unhide MAv34).cell1⟩) ?_
            clear hK K z0 z1 f0 f1 ee mm
            refine plan_do rfl (fun K hK => ?_)
            go_simp
            refine hK _ _ (fun _ => ⟨(unhide MAv34).cell0, (unhide MAv34).cell1⟩) ?_
            clear hK K
            refine plan_do rfl (fun K hK => ?_)
            go_simp
            refine hK _ _ (fun _ => ⟨(unhide MAv34).cell0, (unhide MAv34).cell1⟩) ?_
            clear hK K
            refine plan_end ?_
            go_wp2_with fail
            go_meet
            exact ⟨L, r, c, h, rfl, by rw [(unhide EQ).2], rfl, (unhide LVv34), (unhide NMv34), (unhide EQ).1, (unhide MAv34), (unhide Kv34), (unhide OVv34), (unhide ONv34)⟩
        · go_simp
          obtain ⟨v35, ee, mm, kk, ss⟩ := mb_alloc u0 0 (.slice none 0 0)
          rw [← ee]
          have LVv35 := hide mm
          have LLv35 := hide (show u0.heap.size < v35.heap.size by omega)
          have ZL := hide (unhide Zu0)
          clear ee mm ss
          have OVv35 := hide ((unhide OVu0).below kk)
          have ONv35 := hide ((unhide ONu0).below kk)
          have MAv35 := hide ((unhide MAu0).below kk)
          have Kv35 := hide ((unhide Ku0).trans (Below.le kk (unhide Ku0).size))
          have Zv35 := hide (Nat.le_trans (unhide Zu0) kk.size)
          have CSv35 := hide kk.size
          clear kk OVu0 ONu0 MAu0 Ku0 Zu0
          refine hK _ _ (fun _ => ⟨(unhide MAv35).cell0, (unhide MAv35).cell1⟩) ?_
          clear hK K
          generalize u0.heap.size = L at *
          refine plan_do rfl (fun K hK => ?_)
          go_simp
          refine (unit_any n (n : Int) rfl (unhide H6) _).mono ?_
          rintro e v36 ⟨mU, rU, uU, emU, rfl, nu, ru, iu, kk⟩
          obtain rfl : n = mU := emU.symm
          have NUv36 := hide nu
          have OVv36 := hide ((unhide OVv35).below kk)
          have ONv36 := hide ((unhide ONv35).below kk)
          have MAv36 := hide ((unhide MAv35).below kk)
          have LVv36 := hide ((unhide LVv35).below kk)
          have Kv36 := hide ((unhide Kv35).trans (Below.le kk (unhide Kv35).size))
          have Zv36 := hide (Nat.le_trans (unhide Zv35) kk.size)
          have CSv36 := hide kk.size
          clear kk OVv35 ONv35 MAv35 LVv35 Kv35 Zv35
          have RU := hide ru; have IU := hide iu
          clear nu ru iu
          refine hK _ _ (fun _ => ⟨(unhide MAv36).cell0, (unhide MAv36).cell1⟩) ?_
          clear hK K
          have LLv36 := hide (Nat.lt_of_lt_of_le (unhide LLv35) (unhide CSv36))
          refine plan_do rfl (fun K hK => ?_)
          go_simp
          refine (ownK_any ((n : Int)) ao (n * n) cap f _ (((unhide AA)).below (unhide Kv36))).mono ?_
          rintro e v37 ⟨aoA, capA, rfl, ra, kk⟩
          have RAv37 := hide ra
          have OVv37 := hide ((unhide OVv36).below kk)
          have ONv37 := hide ((unhide ONv36).below kk)
          have MAv37 := hide ((unhide MAv36).below kk)
          have LVv37 := hide ((unhide LVv36).below kk)
          have NUv37 := hide ((unhide NUv36).below kk)
          have Kv37 := hide ((unhide Kv36).trans (Below.le kk (unhide Kv36).size))
          have Zv37 := hide (Nat.le_trans (unhide Zv36) kk.size)
          have CSv37 := hide kk.size
          clear kk OVv36 ONv36 MAv36 LVv36 NUv36 Kv36 Zv36
          clear ra
          refine hK _ _ (fun _ => ⟨(unhide MAv37).cell0, (unhide MAv37).cell1⟩) ?_
          clear hK K
          have LLv37 := hide (Nat.lt_of_lt_of_le (unhide LLv36) (unhide CSv37))
          refine plan_do rfl (fun K hK => ?_)
          go_simp
          refine (mul_good n _ _ _ _ uU f _ (unhide H1) (unhide H6) (unhide RU) (unhide RF) (unhide NUv37).rds (unhide RAv37)).mono ?_
          rintro e v38 ⟨r, c, h, rfl, hr, nm, rh, im, kk⟩
          have NL := hide (show r ≠ L by have := unhide LLv37; omega)
          have NMv38 := hide nm
          have OVv38 := hide ((unhide OVv37).below kk)
          have ONv38 := hide ((unhide ONv37).below kk)
          have MAv38 := hide ((unhide MAv37).below kk)
          have LVv38 := hide ((unhide LVv37).below kk)
          have NUv38 := hide ((unhide NUv37).below kk)
          have RAv38 := hide ((unhide RAv37).below kk)
          have Kv38 := hide ((unhide Kv37).trans (Below.le kk (unhide Kv37).size))
          have Zv38 := hide (Nat.le_trans (unhide Zv37) kk.size)
          have CSv38 := hide kk.size
          clear kk OVv37 ONv37 MAv37 LVv37 NUv37 RAv37 Kv37 Zv37
          have EQ := hide (unit_mul (unhide IU) (unhide RF) im)
          clear hr nm rh im
          refine hK _ _ (fun _ => ⟨(unhide MAv38).cell0, (unhide MAv38).cell1⟩) ?_
          clear hK K
          have LLv38 := hide (Nat.lt_of_lt_of_le (unhide LLv37) (unhide CSv38))
          iterate 4
            refine plan_read (v := ?_) rfl (fun _ _ _ h => h) (by rfl) ⟨(unhide MAv38).cell0, (unhide MAv38).cell1⟩ ?_ ?_
            rotate_left 1
            · intro wx hwx
              obtain ⟨q1, q2⟩ := hwx
              go_simp <;> exact rfl
            go_frame
          refine plan_do rfl (fun K hK => ?_)
          have z0 := (unhide LVv38).cell0; have z1 := (unhide LVv38).cell1; have f0 := (unhide LVv38).free 0; have f1 := (unhide LVv38).free 1
          go_simp
          obtain ⟨v39, ee, mm, kk⟩ := (unhide LVv38).put (n) (.slice (some ⟨r, 0, none⟩) (n * n) c)
          rw [← ee]
          have LVv39 := hide mm
          have OVv39 := hide ((unhide OVv38).kept kk (by have := unhide ZL; have := unhide BOV; omega))
          have ONv39 := hide ((unhide ONv38).kept kk (by have := unhide ZL; have := unhide BON; omega))
          have MAv39 := hide ((unhide MAv38).kept kk (by have := unhide ZL; have := unhide BMA; omega))
          have NMv39 := hide ((unhide NMv38).kept kk (unhide NL))
          have Kv39 := hide (below_of_kept (unhide Kv38) kk (by have := unhide ZL; have := unhide BK; omega) (unhide Kv38).size)
          have Zv39 := hide (Nat.le_trans (unhide Zv38) kk.size)
          clear kk
          refine hK _ _ (fun _ => ⟨(unhide MAv39).cell0, (unhide MAv39).cell1⟩) ?_
          clear hK K z0 z1 f0 f1 ee mm
          refine plan_do rfl (fun K hK => ?_)
          go_simp
          refine hK _ _ (fun _ => ⟨(unhide MAv39).cell0, (unhide MAv39).cell1⟩) ?_
          clear hK K
          refine plan_do rfl (fun K hK => ?_)
          go_simp
          refine hK _ _ (fun _ => ⟨(unhide MAv39).cell0, (unhide MAv39).cell1⟩) ?_
          clear hK K
          refine plan_end ?_
          go_wp2_with fail
          go_meet
          exact ⟨L, r, c, h, rfl, by rw [(unhide EQ).2], rfl, (unhide LVv39), (unhide NMv39), (unhide EQ).1, (unhide MAv39), (unhide Kv39), (unhide OVv39), (unhide ONv39)⟩
      case rest =>
        rename World => wc2
        obtain ⟨L2, r2, c2, hh2, rfl, rfl, rfl, lv, nm, q2, ma, kc, ov, on⟩ := hcut
        have PVwc2 := hide lv; have PNwc2 := hide nm; have Q2 := hide q2; have MAwc2 := hide ma; have Kwc2 := hide kc; have Zwc2 := hide (Nat.le_refl 0); have OVwc2 := hide ov; have ONwc2 := hide on
        clear lv nm q2 ma kc ov on
        go_wp2_with fail
        have Zwc2 := hide (Nat.zero_le wc2.heap.size)
        refine (stands_any _).mono ?_
        rintro e v40 ⟨rfl, kk⟩
        have PVv40 := hide ((unhide PVwc2).below kk)
        have PNv40 := hide ((unhide PNwc2).below kk)
        have OVv40 := hide ((unhide OVwc2).below kk)
        have ONv40 := hide ((unhide ONwc2).below kk)
        have MAv40 := hide ((unhide MAwc2).below kk)
        have Kv40 := hide ((unhide Kwc2).trans (Below.le kk (unhide Kwc2).size))
        have Zv40 := hide (Nat.le_trans (unhide Zwc2) kk.size)
        have CSv40 := hide kk.size
        clear kk PVwc2 PNwc2 OVwc2 ONwc2 MAwc2 Kwc2 Zwc2
        have MAx := (unhide MAv40).cell0; have MAy := (unhide MAv40).cell1; have MAl := (unhide MAv40).lt
        have OVx := (unhide OVv40).cell0; have OVy := (unhide OVv40).cell1; have OVl := (unhide OVv40).lt
        have PVx := (unhide PVv40).cell0; have PVy := (unhide PVv40).cell1; have PVl := (unhide PVv40).lt
        go_wp2_with fail
        clear MAx MAy MAl OVx OVy OVl PVx PVy PVl
        refine (same_yes _ _ _ _ _ hh1 f _ (by have := unhide h36; omega) (unhide ONv40).rds ((unhide AA).rds.below (unhide Kv40)) (unhide Q1)).mono ?_
        rintro e v41 ⟨rfl, kk⟩
        have PVv41 := hide ((unhide PVv40).below kk)
        have PNv41 := hide ((unhide PNv40).below kk)
        have OVv41 := hide ((unhide OVv40).below kk)
        have ONv41 := hide ((unhide ONv40).below kk)
        have MAv41 := hide ((unhide MAv40).below kk)
        have Kv41 := hide ((unhide Kv40).trans (Below.le kk (unhide Kv40).size))
        have Zv41 := hide (Nat.le_trans (unhide Zv40) kk.size)
        have CSv41 := hide kk.size
        clear kk PVv40 PNv40 OVv40 ONv40 MAv40 Kv40 Zv40
        have MAx := (unhide MAv41).cell0; have MAy := (unhide MAv41).cell1; have MAl := (unhide MAv41).lt
        have OVx := (unhide OVv41).cell0; have OVy := (unhide OVv41).cell1; have OVl := (unhide OVv41).lt
        have PVx := (unhide PVv41).cell0; have PVy := (unhide PVv41).cell1; have PVl := (unhide PVv41).lt
        go_wp2_with fail
        clear MAx MAy MAl OVx OVy OVl PVx PVy PVl
        refine (same_yes _ _ _ _ _ hh2 f _ (by have := unhide h36; omega) (unhide PNv41).rds ((unhide AA).rds.below (unhide Kv41)) (unhide Q2)).mono ?_
        rintro e v42 ⟨rfl, kk⟩
        have PVv42 := hide ((unhide PVv41).below kk)
        have PNv42 := hide ((unhide PNv41).below kk)
        have OVv42 := hide ((unhide OVv41).below kk)
        have ONv42 := hide ((unhide ONv41).below kk)
        have MAv42 := hide ((unhide MAv41).below kk)
        have Kv42 := hide ((unhide Kv41).trans (Below.le kk (unhide Kv41).size))
        have Zv42 := hide (Nat.le_trans (unhide Zv41) kk.size)
        have CSv42 := hide kk.size
        clear kk PVv41 PNv41 OVv41 ONv41 MAv41 Kv41 Zv41
        go_wp2_with fail
        go_ret
        exact ⟨rfl, (unhide Kv42)⟩

end Go.Proofs.Ytnfejfdekedmhab
