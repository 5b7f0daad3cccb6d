/- The walk of MatColumns. -/
import Derived.Test.YtnfejfdekedmhabMatGrow
import Derived.Test.YtnfejfdekedmhabMatTwo
import Derived.Test.YtnfejfdekedmhabLawsM1
namespace Go.Proofs.Ytnfejfdekedmhab
open Go.RowKit

set_option maxRecDepth 100000 in
set_option maxHeartbeats 8000000 in
theorem matColumns_walk {w : World} (N : Int) (ao : Option Addr) (len cap : Nat) (f : Nat → Int) (M : Int) (bo : Option Addr) (l2 c2 : Nat) (g : Nat → Int) (_rN : R64 N) (aa : ArgS w ao len cap f) (_rM : R64 M) (ab : ArgS w bo l2 c2 g) :
    Calls Try.prog 7 #[.agg #[.int .i64 N, .slice ao len cap], .agg #[.int .i64 M, .slice bo l2 c2]] w fun e w' => e = .returned (.bool true) ∧ Below w.heap.size w w' := by
  obtain ⟨w1, e1, ma, mb, k1, s1⟩ := two_mats w N M (.slice ao len cap) (.slice bo l2 c2)
  have E1 := hide e1; have MAw1 := hide ma; have MBw1 := hide mb; have Kw1 := hide k1; have Zw1 := hide (Nat.le_of_eq s1.symm); have AA := hide aa; have AB := hide ab; have RF := hide aa.2.2; have RG := hide ab.2.2
  clear e1 ma mb k1 s1 aa ab _rN _rM
  cases hg : goodP N M len l2
  · have G := hide hg
    clear hg
    go_enter Try.func7, Try.ntmps7
    go_upto_region 1 with fail
    rw [← unhide E1]
    go_cut [5, 6, 7] (fun s5 s6 s7 wx => ∃ L : Nat, s5 = .pointer (some ⟨L, 0, none⟩) ∧ s6 = .bool false ∧ s7 = .int .i64 8 ∧ MbAt wx w.heap.size N (.slice ao len cap) ∧ MbAt wx (w.heap.size + 1) M (.slice bo l2 c2) ∧ Below w.heap.size w wx ∧ w.heap.size + 1 + 1 ≤ wx.heap.size)
    case first =>
      refine region_plan (S := Cl4 w.heap.size (w.heap.size + 1) (.int .i64 (N)) (.slice ao len cap) (.int .i64 (M)) (.slice bo l2 c2)) (.rd 0 (.rd 2 (.two 1 9 (.two 3 9 (.two 4 9 (.rd 5 (.rd 6 (.rd 7 (.rd 8 (.go 9 (.go 10 (.go 11 (.go 12 .fin)))))))) (.go 4 (.rd 5 (.rd 6 (.rd 7 (.rd 8 (.go 10 (.go 11 (.go 12 .fin))))))))) (.go 3 (.go 4 (.rd 5 (.rd 6 (.rd 7 (.rd 8 (.go 10 (.go 11 (.go 12 .fin)))))))))) (.go 1 (.go 3 (.go 4 (.rd 5 (.rd 6 (.rd 7 (.rd 8 (.go 10 (.go 11 (.go 12 .fin))))))))))))) [] (by kernel_rfl) (by kernel_rfl) ?_
      have MAu0 := hide (show MbAt w1.drew _ _ _ from unhide MAw1); have MBu0 := hide (show MbAt w1.drew _ _ _ from unhide MBw1); have Ku0 := hide (below_drew (unhide Kw1)); have Zu0 := hide (show w.heap.size + 1 + 1 ≤ w1.drew.heap.size from unhide Zw1)
      clear E1 MAw1 MBw1 Kw1 Zw1
      generalize w1.drew = u0 at *
      iterate 2
        refine plan_read (v := ?_) rfl (fun _ _ _ h => h) (by rfl) ⟨⟨(unhide MAu0).cell0, (unhide MAu0).cell1⟩, ⟨(unhide MBu0).cell0, (unhide MBu0).cell1⟩⟩ ?_ ?_
        rotate_left 1
        · intro wx hwx
          obtain ⟨⟨q1, q2⟩, ⟨q3, q4⟩⟩ := hwx
          go_simp <;> exact rfl
        go_frame
      refine plan_two rfl rfl (fun K hK => ?_) (fun K hK => ?_)
      · go_simp
        refine (ownK_any (N) ao len cap f _ (((unhide AA)).below (unhide Ku0))).mono ?_
        rintro e v1 ⟨aoA, capA, rfl, ra, kk⟩
        have RAv1 := hide ra
        have MAv1 := hide ((unhide MAu0).below kk)
        have MBv1 := hide ((unhide MBu0).below kk)
        have Kv1 := hide ((unhide Ku0).trans (Below.le kk (unhide Ku0).size))
        have Zv1 := hide (Nat.le_trans (unhide Zu0) kk.size)
        have CSv1 := hide kk.size
        clear kk MAu0 MBu0 Ku0 Zu0
        clear ra
        refine hK _ _ (fun _ => ⟨⟨(unhide MAv1).cell0, (unhide MAv1).cell1⟩, ⟨(unhide MBv1).cell0, (unhide MBv1).cell1⟩⟩) ?_
        clear hK K
        refine plan_two rfl rfl (fun K hK => ?_) (fun K hK => ?_)
        · go_simp
          refine (ownK_any (M) bo l2 c2 g _ (((unhide AB)).below (unhide Kv1))).mono ?_
          rintro e v2 ⟨aoB, capB, rfl, ra, kk⟩
          have RBv2 := hide ra
          have MAv2 := hide ((unhide MAv1).below kk)
          have MBv2 := hide ((unhide MBv1).below kk)
          have RAv2 := hide ((unhide RAv1).below kk)
          have Kv2 := hide ((unhide Kv1).trans (Below.le kk (unhide Kv1).size))
          have Zv2 := hide (Nat.le_trans (unhide Zv1) kk.size)
          have CSv2 := hide kk.size
          clear kk MAv1 MBv1 RAv1 Kv1 Zv1
          clear ra
          refine hK _ _ (fun _ => ⟨⟨(unhide MAv2).cell0, (unhide MAv2).cell1⟩, ⟨(unhide MBv2).cell0, (unhide MBv2).cell1⟩⟩) ?_
          clear hK K
          refine plan_two rfl rfl (fun K hK => ?_) (fun K hK => ?_)
          · go_simp
            refine (mul_bad (N) (M) _ _ _ _ _ _ _ (unhide G)).mono ?_
            rintro e v3 ⟨rfl, kk⟩
            have MAv3 := hide ((unhide MAv2).below kk)
            have MBv3 := hide ((unhide MBv2).below kk)
            have RAv3 := hide ((unhide RAv2).below kk)
            have RBv3 := hide ((unhide RBv2).below kk)
            have Kv3 := hide ((unhide Kv2).trans (Below.le kk (unhide Kv2).size))
            have Zv3 := hide (Nat.le_trans (unhide Zv2) kk.size)
            have CSv3 := hide kk.size
            clear kk MAv2 MBv2 RAv2 RBv2 Kv2 Zv2
            refine hK _ _ (fun _ => ⟨⟨(unhide MAv3).cell0, (unhide MAv3).cell1⟩, ⟨(unhide MBv3).cell0, (unhide MBv3).cell1⟩⟩) ?_
            clear hK K
            iterate 4
              refine plan_read (v := ?_) rfl (fun _ _ _ h => h) (by rfl) ⟨⟨(unhide MAv3).cell0, (unhide MAv3).cell1⟩, ⟨(unhide MBv3).cell0, (unhide MBv3).cell1⟩⟩ ?_ ?_
              rotate_left 1
              · intro wx hwx
                obtain ⟨⟨q1, q2⟩, ⟨q3, q4⟩⟩ := hwx
                go_simp <;> exact rfl
              go_frame
            refine plan_do rfl (fun K hK => ?_)
            go_simp
            obtain ⟨v4, ee, mm, kk, ss⟩ := mb_alloc v3 0 (.slice none 0 0)
            rw [← ee]
            have LVv4 := hide mm
            have LLv4 := hide (show v3.heap.size < v4.heap.size by omega)
            have ZL := hide (unhide Zv3)
            clear ee mm ss
            have MAv4 := hide ((unhide MAv3).below kk)
            have MBv4 := hide ((unhide MBv3).below kk)
            have RAv4 := hide ((unhide RAv3).below kk)
            have RBv4 := hide ((unhide RBv3).below kk)
            have Kv4 := hide ((unhide Kv3).trans (Below.le kk (unhide Kv3).size))
            have Zv4 := hide (Nat.le_trans (unhide Zv3) kk.size)
            have CSv4 := hide kk.size
            clear kk MAv3 MBv3 RAv3 RBv3 Kv3 Zv3
            refine hK _ _ (fun _ => ⟨⟨(unhide MAv4).cell0, (unhide MAv4).cell1⟩, ⟨(unhide MBv4).cell0, (unhide MBv4).cell1⟩⟩) ?_
            clear hK K
            generalize v3.heap.size = L at *
            refine plan_do rfl (fun K hK => ?_)
            have z0 := (unhide LVv4).cell0; have z1 := (unhide LVv4).cell1; have f0 := (unhide LVv4).free 0; have f1 := (unhide LVv4).free 1
            go_simp
            obtain ⟨v5, ee, mm, kk⟩ := (unhide LVv4).put (0) (.slice none 0 0)
            rw [← ee]
            have LVv5 := hide mm
            have MAv5 := hide ((unhide MAv4).kept kk (by have := unhide ZL; omega))
            have MBv5 := hide ((unhide MBv4).kept kk (by have := unhide ZL; omega))
            have Kv5 := hide (below_of_kept (unhide Kv4) kk (by have := unhide ZL; omega) (unhide Kv4).size)
            have Zv5 := hide (Nat.le_trans (unhide Zv4) kk.size)
            clear kk
            refine hK _ _ (fun _ => ⟨⟨(unhide MAv5).cell0, (unhide MAv5).cell1⟩, ⟨(unhide MBv5).cell0, (unhide MBv5).cell1⟩⟩) ?_
            clear hK K z0 z1 f0 f1 ee mm
            refine plan_do rfl (fun K hK => ?_)
            go_simp
            refine hK _ _ (fun _ => ⟨⟨(unhide MAv5).cell0, (unhide MAv5).cell1⟩, ⟨(unhide MBv5).cell0, (unhide MBv5).cell1⟩⟩) ?_
            clear hK K
            refine plan_do rfl (fun K hK => ?_)
            go_simp
            refine hK _ _ (fun _ => ⟨⟨(unhide MAv5).cell0, (unhide MAv5).cell1⟩, ⟨(unhide MBv5).cell0, (unhide MBv5).cell1⟩⟩) ?_
            clear hK K
            refine plan_end ?_
            go_wp2_with fail
            go_meet
            exact ⟨L, rfl, rfl, rfl, (unhide MAv5), (unhide MBv5), (unhide Kv5), (unhide Zv5)⟩
          · go_simp
            obtain ⟨v6, ee, mm, kk, ss⟩ := mb_alloc v2 0 (.slice none 0 0)
            rw [← ee]
            have LVv6 := hide mm
            have LLv6 := hide (show v2.heap.size < v6.heap.size by omega)
            have ZL := hide (unhide Zv2)
            clear ee mm ss
            have MAv6 := hide ((unhide MAv2).below kk)
            have MBv6 := hide ((unhide MBv2).below kk)
            have RAv6 := hide ((unhide RAv2).below kk)
            have RBv6 := hide ((unhide RBv2).below kk)
            have Kv6 := hide ((unhide Kv2).trans (Below.le kk (unhide Kv2).size))
            have Zv6 := hide (Nat.le_trans (unhide Zv2) kk.size)
            have CSv6 := hide kk.size
            clear kk MAv2 MBv2 RAv2 RBv2 Kv2 Zv2
            refine hK _ _ (fun _ => ⟨⟨(unhide MAv6).cell0, (unhide MAv6).cell1⟩, ⟨(unhide MBv6).cell0, (unhide MBv6).cell1⟩⟩) ?_
            clear hK K
            generalize v2.heap.size = L at *
            refine plan_do rfl (fun K hK => ?_)
            go_simp
            refine (mul_bad (N) (M) _ _ _ _ _ _ _ (unhide G)).mono ?_
            rintro e v7 ⟨rfl, kk⟩
            have MAv7 := hide ((unhide MAv6).below kk)
            have MBv7 := hide ((unhide MBv6).below kk)
            have RAv7 := hide ((unhide RAv6).below kk)
            have RBv7 := hide ((unhide RBv6).below kk)
            have LVv7 := hide ((unhide LVv6).below kk)
            have Kv7 := hide ((unhide Kv6).trans (Below.le kk (unhide Kv6).size))
            have Zv7 := hide (Nat.le_trans (unhide Zv6) kk.size)
            have CSv7 := hide kk.size
            clear kk MAv6 MBv6 RAv6 RBv6 LVv6 Kv6 Zv6
            refine hK _ _ (fun _ => ⟨⟨(unhide MAv7).cell0, (unhide MAv7).cell1⟩, ⟨(unhide MBv7).cell0, (unhide MBv7).cell1⟩⟩) ?_
            clear hK K
            have LLv7 := hide (Nat.lt_of_lt_of_le (unhide LLv6) (unhide CSv7))
            iterate 4
              refine plan_read (v := ?_) rfl (fun _ _ _ h => h) (by rfl) ⟨⟨(unhide MAv7).cell0, (unhide MAv7).cell1⟩, ⟨(unhide MBv7).cell0, (unhide MBv7).cell1⟩⟩ ?_ ?_
              rotate_left 1
              · intro wx hwx
                obtain ⟨⟨q1, q2⟩, ⟨q3, q4⟩⟩ := hwx
                go_simp <;> exact rfl
              go_frame
            refine plan_do rfl (fun K hK => ?_)
            have z0 := (unhide LVv7).cell0; have z1 := (unhide LVv7).cell1; have f0 := (unhide LVv7).free 0; have f1 := (unhide LVv7).free 1
            go_simp
            obtain ⟨v8, ee, mm, kk⟩ := (unhide LVv7).put (0) (.slice none 0 0)
            rw [← ee]
            have LVv8 := hide mm
            have MAv8 := hide ((unhide MAv7).kept kk (by have := unhide ZL; omega))
            have MBv8 := hide ((unhide MBv7).kept kk (by have := unhide ZL; omega))
            have Kv8 := hide (below_of_kept (unhide Kv7) kk (by have := unhide ZL; omega) (unhide Kv7).size)
            have Zv8 := hide (Nat.le_trans (unhide Zv7) kk.size)
            clear kk
            refine hK _ _ (fun _ => ⟨⟨(unhide MAv8).cell0, (unhide MAv8).cell1⟩, ⟨(unhide MBv8).cell0, (unhide MBv8).cell1⟩⟩) ?_
            clear hK K z0 z1 f0 f1 ee mm
            refine plan_do rfl (fun K hK => ?_)
            go_simp
            refine hK _ _ (fun _ => ⟨⟨(unhide MAv8).cell0, (unhide MAv8).cell1⟩, ⟨(unhide MBv8).cell0, (unhide MBv8).cell1⟩⟩) ?_
            clear hK K
            refine plan_do rfl (fun K hK => ?_)
            go_simp
            refine hK _ _ (fun _ => ⟨⟨(unhide MAv8).cell0, (unhide MAv8).cell1⟩, ⟨(unhide MBv8).cell0, (unhide MBv8).cell1⟩⟩) ?_
            clear hK K
            refine plan_end ?_
            go_wp2_with fail
            go_meet
            exact ⟨L, rfl, rfl, rfl, (unhide MAv8), (unhide MBv8), (unhide Kv8), (unhide Zv8)⟩
        · go_simp
          obtain ⟨v9, ee, mm, kk, ss⟩ := mb_alloc v1 0 (.slice none 0 0)
          rw [← ee]
          have LVv9 := hide mm
          have LLv9 := hide (show v1.heap.size < v9.heap.size by omega)
          have ZL := hide (unhide Zv1)
          clear ee mm ss
          have MAv9 := hide ((unhide MAv1).below kk)
          have MBv9 := hide ((unhide MBv1).below kk)
          have RAv9 := hide ((unhide RAv1).below kk)
          have Kv9 := hide ((unhide Kv1).trans (Below.le kk (unhide Kv1).size))
          have Zv9 := hide (Nat.le_trans (unhide Zv1) kk.size)
          have CSv9 := hide kk.size
          clear kk MAv1 MBv1 RAv1 Kv1 Zv1
          refine hK _ _ (fun _ => ⟨⟨(unhide MAv9).cell0, (unhide MAv9).cell1⟩, ⟨(unhide MBv9).cell0, (unhide MBv9).cell1⟩⟩) ?_
          clear hK K
          generalize v1.heap.size = L at *
          refine plan_do rfl (fun K hK => ?_)
          go_simp
          refine (ownK_any (M) bo l2 c2 g _ (((unhide AB)).below (unhide Kv9))).mono ?_
          rintro e v10 ⟨aoB, capB, rfl, ra, kk⟩
          have RBv10 := hide ra
          have MAv10 := hide ((unhide MAv9).below kk)
          have MBv10 := hide ((unhide MBv9).below kk)
          have RAv10 := hide ((unhide RAv9).below kk)
          have LVv10 := hide ((unhide LVv9).below kk)
          have Kv10 := hide ((unhide Kv9).trans (Below.le kk (unhide Kv9).size))
          have Zv10 := hide (Nat.le_trans (unhide Zv9) kk.size)
          have CSv10 := hide kk.size
          clear kk MAv9 MBv9 RAv9 LVv9 Kv9 Zv9
          clear ra
          refine hK _ _ (fun _ => ⟨⟨(unhide MAv10).cell0, (unhide MAv10).cell1⟩, ⟨(unhide MBv10).cell0, (unhide MBv10).cell1⟩⟩) ?_
          clear hK K
          have LLv10 := hide (Nat.lt_of_lt_of_le (unhide LLv9) (unhide CSv10))
          refine plan_do rfl (fun K hK => ?_)
          go_simp
          refine (mul_bad (N) (M) _ _ _ _ _ _ _ (unhide G)).mono ?_
          rintro e v11 ⟨rfl, kk⟩
          have MAv11 := hide ((unhide MAv10).below kk)
          have MBv11 := hide ((unhide MBv10).below kk)
          have RAv11 := hide ((unhide RAv10).below kk)
          have LVv11 := hide ((unhide LVv10).below kk)
          have RBv11 := hide ((unhide RBv10).below kk)
          have Kv11 := hide ((unhide Kv10).trans (Below.le kk (unhide Kv10).size))
          have Zv11 := hide (Nat.le_trans (unhide Zv10) kk.size)
          have CSv11 := hide kk.size
          clear kk MAv10 MBv10 RAv10 LVv10 RBv10 Kv10 Zv10
          refine hK _ _ (fun _ => ⟨⟨(unhide MAv11).cell0, (unhide MAv11).cell1⟩, ⟨(unhide MBv11).cell0, (unhide MBv11).cell1⟩⟩) ?_
          clear hK K
          have LLv11 := hide (Nat.lt_of_lt_of_le (unhide LLv10) (unhide CSv11))
          iterate 4
            refine plan_read (v := ?_) rfl (fun _ _ _ h => h) (by rfl) ⟨⟨(unhide MAv11).cell0, (unhide MAv11).cell1⟩, ⟨(unhide MBv11).cell0, (unhide MBv11).cell1⟩⟩ ?_ ?_
            rotate_left 1
            · intro wx hwx
              obtain ⟨⟨q1, q2⟩, ⟨q3, q4⟩⟩ := hwx
              go_simp <;> exact rfl
            go_frame
          refine plan_do rfl (fun K hK => ?_)
          have z0 := (unhide LVv11).cell0; have z1 := (unhide LVv11).cell1; have f0 := (unhide LVv11).free 0; have f1 := (unhide LVv11).free 1
          go_simp
          obtain ⟨v12, ee, mm, kk⟩ := (unhide LVv11).put (0) (.slice none 0 0)
          rw [← ee]
          have LVv12 := hide mm
          have MAv12 := hide ((unhide MAv11).kept kk (by have := unhide ZL; omega))
          have MBv12 := hide ((unhide MBv11).kept kk (by have := unhide ZL; omega))
          have Kv12 := hide (below_of_kept (unhide Kv11) kk (by have := unhide ZL; omega) (unhide Kv11).size)
          have Zv12 := hide (Nat.le_trans (unhide Zv11) kk.size)
          clear kk
          refine hK _ _ (fun _ => ⟨⟨(unhide MAv12).cell0, (unhide MAv12).cell1⟩, ⟨(unhide MBv12).cell0, (unhide MBv12).cell1⟩⟩) ?_
          clear hK K z0 z1 f0 f1 ee mm
          refine plan_do rfl (fun K hK => ?_)
          go_simp
          refine hK _ _ (fun _ => ⟨⟨(unhide MAv12).cell0, (unhide MAv12).cell1⟩, ⟨(unhide MBv12).cell0, (unhide MBv12).cell1⟩⟩) ?_
          clear hK K
          refine plan_do rfl (fun K hK => ?_)
          go_simp
          refine hK _ _ (fun _ => ⟨⟨(unhide MAv12).cell0, (unhide MAv12).cell1⟩, ⟨(unhide MBv12).cell0, (unhide MBv12).cell1⟩⟩) ?_
          clear hK K
          refine plan_end ?_
          go_wp2_with fail
          go_meet
          exact ⟨L, rfl, rfl, rfl, (unhide MAv12), (unhide MBv12), (unhide Kv12), (unhide Zv12)⟩
      · go_simp
        obtain ⟨v13, ee, mm, kk, ss⟩ := mb_alloc u0 0 (.slice none 0 0)
        rw [← ee]
        have LVv13 := hide mm
        have LLv13 := hide (show u0.heap.size < v13.heap.size by omega)
        have ZL := hide (unhide Zu0)
        clear ee mm ss
        have MAv13 := hide ((unhide MAu0).below kk)
        have MBv13 := hide ((unhide MBu0).below kk)
        have Kv13 := hide ((unhide Ku0).trans (Below.le kk (unhide Ku0).size))
        have Zv13 := hide (Nat.le_trans (unhide Zu0) kk.size)
        have CSv13 := hide kk.size
        clear kk MAu0 MBu0 Ku0 Zu0
        refine hK _ _ (fun _ => ⟨⟨(unhide MAv13).cell0, (unhide MAv13).cell1⟩, ⟨(unhide MBv13).cell0, (unhide MBv13).cell1⟩⟩) ?_
        clear hK K
        generalize u0.heap.size = L at *
        refine plan_do rfl (fun K hK => ?_)
        go_simp
        refine (ownK_any (N) ao len cap f _ (((unhide AA)).below (unhide Kv13))).mono ?_
        rintro e v14 ⟨aoA, capA, rfl, ra, kk⟩
        have RAv14 := hide ra
        have MAv14 := hide ((unhide MAv13).below kk)
        have MBv14 := hide ((unhide MBv13).below kk)
        have LVv14 := hide ((unhide LVv13).below kk)
        have Kv14 := hide ((unhide Kv13).trans (Below.le kk (unhide Kv13).size))
        have Zv14 := hide (Nat.le_trans (unhide Zv13) kk.size)
        have CSv14 := hide kk.size
        clear kk MAv13 MBv13 LVv13 Kv13 Zv13
        clear ra
        refine hK _ _ (fun _ => ⟨⟨(unhide MAv14).cell0, (unhide MAv14).cell1⟩, ⟨(unhide MBv14).cell0, (unhide MBv14).cell1⟩⟩) ?_
        clear hK K
        have LLv14 := hide (Nat.lt_of_lt_of_le (unhide LLv13) (unhide CSv14))
        refine plan_do rfl (fun K hK => ?_)
        go_simp
        refine (ownK_any (M) bo l2 c2 g _ (((unhide AB)).below (unhide Kv14))).mono ?_
        rintro e v15 ⟨aoB, capB, rfl, ra, kk⟩
        have RBv15 := hide ra
        have MAv15 := hide ((unhide MAv14).below kk)
        have MBv15 := hide ((unhide MBv14).below kk)
        have LVv15 := hide ((unhide LVv14).below kk)
        have RAv15 := hide ((unhide RAv14).below kk)
        have Kv15 := hide ((unhide Kv14).trans (Below.le kk (unhide Kv14).size))
        have Zv15 := hide (Nat.le_trans (unhide Zv14) kk.size)
        have CSv15 := hide kk.size
        clear kk MAv14 MBv14 LVv14 RAv14 Kv14 Zv14
        clear ra
        refine hK _ _ (fun _ => ⟨⟨(unhide MAv15).cell0, (unhide MAv15).cell1⟩, ⟨(unhide MBv15).cell0, (unhide MBv15).cell1⟩⟩) ?_
        clear hK K
        have LLv15 := hide (Nat.lt_of_lt_of_le (unhide LLv14) (unhide CSv15))
        refine plan_do rfl (fun K hK => ?_)
        go_simp
        refine (mul_bad (N) (M) _ _ _ _ _ _ _ (unhide G)).mono ?_
        rintro e v16 ⟨rfl, kk⟩
        have MAv16 := hide ((unhide MAv15).below kk)
        have MBv16 := hide ((unhide MBv15).below kk)
        have LVv16 := hide ((unhide LVv15).below kk)
        have RAv16 := hide ((unhide RAv15).below kk)
        have RBv16 := hide ((unhide RBv15).below kk)
        have Kv16 := hide ((unhide Kv15).trans (Below.le kk (unhide Kv15).size))
        have Zv16 := hide (Nat.le_trans (unhide Zv15) kk.size)
        have CSv16 := hide kk.size
        clear kk MAv15 MBv15 LVv15 RAv15 RBv15 Kv15 Zv15
        refine hK _ _ (fun _ => ⟨⟨(unhide MAv16).cell0, (unhide MAv16).cell1⟩, ⟨(unhide MBv16).cell0, (unhide MBv16).cell1⟩⟩) ?_
        clear hK K
        have LLv16 := hide (Nat.lt_of_lt_of_le (unhide LLv15) (unhide CSv16))
        iterate 4
          refine plan_read (v := ?_) rfl (fun _ _ _ h => h) (by rfl) ⟨⟨(unhide MAv16).cell0, (unhide MAv16).cell1⟩, ⟨(unhide MBv16).cell0, (unhide MBv16).cell1⟩⟩ ?_ ?_
          rotate_left 1
          · intro wx hwx
            obtain ⟨⟨q1, q2⟩, ⟨q3, q4⟩⟩ := hwx
            go_simp <;> exact rfl
          go_frame
        refine plan_do rfl (fun K hK => ?_)
        have z0 := (unhide LVv16).cell0; have z1 := (unhide LVv16).cell1; have f0 := (unhide LVv16).free 0; have f1 := (unhide LVv16).free 1
        go_simp
        obtain ⟨v17, ee, mm, kk⟩ := (unhide LVv16).put (0) (.slice none 0 0)
        rw [← ee]
        have LVv17 := hide mm
        have MAv17 := hide ((unhide MAv16).kept kk (by have := unhide ZL; omega))
        have MBv17 := hide ((unhide MBv16).kept kk (by have := unhide ZL; omega))
        have Kv17 := hide (below_of_kept (unhide Kv16) kk (by have := unhide ZL; omega) (unhide Kv16).size)
        have Zv17 := hide (Nat.le_trans (unhide Zv16) kk.size)
        clear kk
        refine hK _ _ (fun _ => ⟨⟨(unhide MAv17).cell0, (unhide MAv17).cell1⟩, ⟨(unhide MBv17).cell0, (unhide MBv17).cell1⟩⟩) ?_
        clear hK K z0 z1 f0 f1 ee mm
        refine plan_do rfl (fun K hK => ?_)
        go_simp
        refine hK _ _ (fun _ => ⟨⟨(unhide MAv17).cell0, (unhide MAv17).cell1⟩, ⟨(unhide MBv17).cell0, (unhide MBv17).cell1⟩⟩) ?_
        clear hK K
        refine plan_do rfl (fun K hK => ?_)
        go_simp
        refine hK _ _ (fun _ => ⟨⟨(unhide MAv17).cell0, (unhide MAv17).cell1⟩, ⟨(unhide MBv17).cell0, (unhide MBv17).cell1⟩⟩) ?_
        clear hK K
        refine plan_end ?_
        go_wp2_with fail
        go_meet
        exact ⟨L, rfl, rfl, rfl, (unhide MAv17), (unhide MBv17), (unhide Kv17), (unhide Zv17)⟩
    case rest =>
      obtain ⟨L, rfl, rfl, rfl, ma, mb, kc, zc⟩ := hcut
      have MAwc := hide ma; have MBwc := hide mb; have Kwc := hide kc; have Zwc := hide zc
      clear ma mb kc zc MAw1 MBw1 Kw1 Zw1 E1
      go_wp2_with fail
      refine (stands_any _).mono ?_
      rintro e v18 ⟨rfl, kk⟩
      have MAv18 := hide ((unhide MAwc).below kk)
      have MBv18 := hide ((unhide MBwc).below kk)
      have Kv18 := hide ((unhide Kwc).trans (Below.le kk (unhide Kwc).size))
      have Zv18 := hide (Nat.le_trans (unhide Zwc) kk.size)
      have CSv18 := hide kk.size
      clear kk MAwc MBwc Kwc Zwc
      go_wp2_with fail
      go_ret
      exact ⟨rfl, (unhide Kv18)⟩
  · obtain ⟨n, h1, h6, rfl, rfl, rfl, rfl⟩ := goodP_of hg
    have H1 := hide h1; have H6 := hide h6; have h36 := hide (sq_le h6)
    clear hg h1 h6
    go_enter Try.func7, Try.ntmps7
    go_upto_region 1 with fail
    rw [← unhide E1]
    go_cut [5, 6, 7] (fun s5 s6 s7 wx => ∃ (L r c : Nat) (h : Nat → Int), s5 = .pointer (some ⟨L, 0, none⟩) ∧ s6 = .bool (mulB n f g) ∧ s7 = .int .i64 0 ∧ MbAt wx L (n : Int) (.slice (some ⟨r, 0, none⟩) (n * n) c) ∧ Nh wx r (n * n) c h ∧ (∀ i, R64 (h i)) ∧ IsMul n f g h ∧ MbAt wx w.heap.size (n : Int) (.slice ao (n * n) cap) ∧ MbAt wx (w.heap.size + 1) (n : Int) (.slice bo (n * n) c2) ∧ Below w.heap.size w wx ∧ w.heap.size + 1 + 1 ≤ wx.heap.size)
    case first =>
      refine region_plan (S := Cl4 w.heap.size (w.heap.size + 1) (.int .i64 (n)) (.slice ao (n * n) cap) (.int .i64 (n)) (.slice bo (n * n) c2)) (.rd 0 (.rd 2 (.two 1 9 (.two 3 9 (.two 4 9 (.rd 5 (.rd 6 (.rd 7 (.rd 8 (.go 9 (.go 10 (.go 11 (.go 12 .fin)))))))) (.go 4 (.rd 5 (.rd 6 (.rd 7 (.rd 8 (.go 10 (.go 11 (.go 12 .fin))))))))) (.go 3 (.go 4 (.rd 5 (.rd 6 (.rd 7 (.rd 8 (.go 10 (.go 11 (.go 12 .fin)))))))))) (.go 1 (.go 3 (.go 4 (.rd 5 (.rd 6 (.rd 7 (.rd 8 (.go 10 (.go 11 (.go 12 .fin))))))))))))) [] (by kernel_rfl) (by kernel_rfl) ?_
      have MAu0 := hide (show MbAt w1.drew _ _ _ from unhide MAw1); have MBu0 := hide (show MbAt w1.drew _ _ _ from unhide MBw1); have Ku0 := hide (below_drew (unhide Kw1)); have Zu0 := hide (show w.heap.size + 1 + 1 ≤ w1.drew.heap.size from unhide Zw1)
      clear E1 MAw1 MBw1 Kw1 Zw1
      generalize w1.drew = u0 at *
      iterate 2
        refine plan_read (v := ?_) rfl (fun _ _ _ h => h) (by rfl) ⟨⟨(unhide MAu0).cell0, (unhide MAu0).cell1⟩, ⟨(unhide MBu0).cell0, (unhide MBu0).cell1⟩⟩ ?_ ?_
        rotate_left 1
        · intro wx hwx
          obtain ⟨⟨q1, q2⟩, ⟨q3, q4⟩⟩ := hwx
          go_simp <;> exact rfl
        go_frame
      refine plan_two rfl rfl (fun K hK => ?_) (fun K hK => ?_)
      · go_simp
        refine (ownK_any (n) ao (n * n) cap f _ (((unhide AA)).below (unhide Ku0))).mono ?_
        rintro e v19 ⟨aoA, capA, rfl, ra, kk⟩
        have RAv19 := hide ra
        have MAv19 := hide ((unhide MAu0).below kk)
        have MBv19 := hide ((unhide MBu0).below kk)
        have Kv19 := hide ((unhide Ku0).trans (Below.le kk (unhide Ku0).size))
        have Zv19 := hide (Nat.le_trans (unhide Zu0) kk.size)
        have CSv19 := hide kk.size
        clear kk MAu0 MBu0 Ku0 Zu0
        clear ra
        refine hK _ _ (fun _ => ⟨⟨(unhide MAv19).cell0, (unhide MAv19).cell1⟩, ⟨(unhide MBv19).cell0, (unhide MBv19).cell1⟩⟩) ?_
        clear hK K
        refine plan_two rfl rfl (fun K hK => ?_) (fun K hK => ?_)
        · go_simp
          refine (ownK_any (n) bo (n * n) c2 g _ (((unhide AB)).below (unhide Kv19))).mono ?_
          rintro e v20 ⟨aoB, capB, rfl, ra, kk⟩
          have RBv20 := hide ra
          have MAv20 := hide ((unhide MAv19).below kk)
          have MBv20 := hide ((unhide MBv19).below kk)
          have RAv20 := hide ((unhide RAv19).below kk)
          have Kv20 := hide ((unhide Kv19).trans (Below.le kk (unhide Kv19).size))
          have Zv20 := hide (Nat.le_trans (unhide Zv19) kk.size)
          have CSv20 := hide kk.size
          clear kk MAv19 MBv19 RAv19 Kv19 Zv19
          clear ra
          refine hK _ _ (fun _ => ⟨⟨(unhide MAv20).cell0, (unhide MAv20).cell1⟩, ⟨(unhide MBv20).cell0, (unhide MBv20).cell1⟩⟩) ?_
          clear hK K
          refine plan_two rfl rfl (fun K hK => ?_) (fun K hK => ?_)
          · go_simp
            refine (mul_good n _ _ _ _ f g _ (unhide H1) (unhide H6) (unhide RF) (unhide RG) (unhide RAv20) (unhide RBv20)).mono ?_
            rintro e v21 ⟨r, c, h, rfl, hr, nm, rh, im, kk⟩
            have NMv21 := hide nm
            have MAv21 := hide ((unhide MAv20).below kk)
            have MBv21 := hide ((unhide MBv20).below kk)
            have RAv21 := hide ((unhide RAv20).below kk)
            have RBv21 := hide ((unhide RBv20).below kk)
            have Kv21 := hide ((unhide Kv20).trans (Below.le kk (unhide Kv20).size))
            have Zv21 := hide (Nat.le_trans (unhide Zv20) kk.size)
            have CSv21 := hide kk.size
            clear kk MAv20 MBv20 RAv20 RBv20 Kv20 Zv20
            have RH := hide rh; have IM := hide im
            clear hr nm rh im
            refine hK _ _ (fun _ => ⟨⟨(unhide MAv21).cell0, (unhide MAv21).cell1⟩, ⟨(unhide MBv21).cell0, (unhide MBv21).cell1⟩⟩) ?_
            clear hK K
            iterate 4
              refine plan_read (v := ?_) rfl (fun _ _ _ h => h) (by rfl) ⟨⟨(unhide MAv21).cell0, (unhide MAv21).cell1⟩, ⟨(unhide MBv21).cell0, (unhide MBv21).cell1⟩⟩ ?_ ?_
              rotate_left 1
              · intro wx hwx
                obtain ⟨⟨q1, q2⟩, ⟨q3, q4⟩⟩ := hwx
                go_simp <;> exact rfl
              go_frame
            refine plan_do rfl (fun K hK => ?_)
            go_simp
            obtain ⟨v22, ee, mm, kk, ss⟩ := mb_alloc v21 0 (.slice none 0 0)
            rw [← ee]
            have LVv22 := hide mm
            have LLv22 := hide (show v21.heap.size < v22.heap.size by omega)
            have ZL := hide (unhide Zv21)
            have NL := hide (Nat.ne_of_lt (unhide NMv21).lt)
            clear ee mm ss
            have MAv22 := hide ((unhide MAv21).below kk)
            have MBv22 := hide ((unhide MBv21).below kk)
            have RAv22 := hide ((unhide RAv21).below kk)
            have RBv22 := hide ((unhide RBv21).below kk)
            have NMv22 := hide ((unhide NMv21).below kk)
            have Kv22 := hide ((unhide Kv21).trans (Below.le kk (unhide Kv21).size))
            have Zv22 := hide (Nat.le_trans (unhide Zv21) kk.size)
            have CSv22 := hide kk.size
            clear kk MAv21 MBv21 RAv21 RBv21 NMv21 Kv21 Zv21
            refine hK _ _ (fun _ => ⟨⟨(unhide MAv22).cell0, (unhide MAv22).cell1⟩, ⟨(unhide MBv22).cell0, (unhide MBv22).cell1⟩⟩) ?_
            clear hK K
            generalize v21.heap.size = L at *
            refine plan_do rfl (fun K hK => ?_)
            have z0 := (unhide LVv22).cell0; have z1 := (unhide LVv22).cell1; have f0 := (unhide LVv22).free 0; have f1 := (unhide LVv22).free 1
            go_simp
            obtain ⟨v23, ee, mm, kk⟩ := (unhide LVv22).put (n) (.slice (some ⟨r, 0, none⟩) (n * n) c)
            rw [← ee]
            have LVv23 := hide mm
            have MAv23 := hide ((unhide MAv22).kept kk (by have := unhide ZL; omega))
            have MBv23 := hide ((unhide MBv22).kept kk (by have := unhide ZL; omega))
            have NMv23 := hide ((unhide NMv22).kept kk (unhide NL))
            have Kv23 := hide (below_of_kept (unhide Kv22) kk (by have := unhide ZL; omega) (unhide Kv22).size)
            have Zv23 := hide (Nat.le_trans (unhide Zv22) kk.size)
            clear kk
            refine hK _ _ (fun _ => ⟨⟨(unhide MAv23).cell0, (unhide MAv23).cell1⟩, ⟨(unhide MBv23).cell0, (unhide MBv23).cell1⟩⟩) ?_
            clear hK K z0 z1 f0 f1 ee mm
            refine plan_do rfl (fun K hK => ?_)
            go_simp
            refine hK _ _ (fun _ => ⟨⟨(unhide MAv23).cell0, (unhide MAv23).cell1⟩, ⟨(unhide MBv23).cell0, (unhide MBv23).cell1⟩⟩) ?_
            clear hK K
            refine plan_do rfl (fun K hK => ?_)
            go_simp
            refine hK _ _ (fun _ => ⟨⟨(unhide MAv23).cell0, (unhide MAv23).cell1⟩, ⟨(unhide MBv23).cell0, (unhide MBv23).cell1⟩⟩) ?_
            clear hK K
            refine plan_end ?_
            go_wp2_with fail
            go_meet
            exact ⟨L, r, c, h, rfl, rfl, rfl, (unhide LVv23), (unhide NMv23), unhide RH, unhide IM, (unhide MAv23), (unhide MBv23), (unhide Kv23), (unhide Zv23)⟩
          · go_simp
            obtain ⟨v24, ee, mm, kk, ss⟩ := mb_alloc v20 0 (.slice none 0 0)
            rw [← ee]
            have LVv24 := hide mm
            have LLv24 := hide (show v20.heap.size < v24.heap.size by omega)
            have ZL := hide (unhide Zv20)
            clear ee mm ss
            have MAv24 := hide ((unhide MAv20).below kk)
            have MBv24 := hide ((unhide MBv20).below kk)
            have RAv24 := hide ((unhide RAv20).below kk)
            have RBv24 := hide ((unhide RBv20).below kk)
            have Kv24 := hide ((unhide Kv20).trans (Below.le kk (unhide Kv20).size))
            have Zv24 := hide (Nat.le_trans (unhide Zv20) kk.size)
            have CSv24 := hide kk.size
            clear kk MAv20 MBv20 RAv20 RBv20 Kv20 Zv20
            refine hK _ _ (fun _ => ⟨⟨(unhide MAv24).cell0, (unhide MAv24).cell1⟩, ⟨(unhide MBv24).cell0, (unhide MBv24).cell1⟩⟩) ?_
            clear hK K
            generalize v20.heap.size = L at *
            refine plan_do rfl (fun K hK => ?_)
            go_simp
            refine (mul_good n _ _ _ _ f g _ (unhide H1) (unhide H6) (unhide RF) (unhide RG) (unhide RAv24) (unhide RBv24)).mono ?_
            rintro e v25 ⟨r, c, h, rfl, hr, nm, rh, im, kk⟩
            have NL := hide (show r ≠ L by have := unhide LLv24; omega)
            have NMv25 := hide nm
            have MAv25 := hide ((unhide MAv24).below kk)
            have MBv25 := hide ((unhide MBv24).below kk)
            have RAv25 := hide ((unhide RAv24).below kk)
            have RBv25 := hide ((unhide RBv24).below kk)
            have LVv25 := hide ((unhide LVv24).below kk)
            have Kv25 := hide ((unhide Kv24).trans (Below.le kk (unhide Kv24).size))
            have Zv25 := hide (Nat.le_trans (unhide Zv24) kk.size)
            have CSv25 := hide kk.size
            clear kk MAv24 MBv24 RAv24 RBv24 LVv24 Kv24 Zv24
            have RH := hide rh; have IM := hide im
            clear hr nm rh im
            refine hK _ _ (fun _ => ⟨⟨(unhide MAv25).cell0, (unhide MAv25).cell1⟩, ⟨(unhide MBv25).cell0, (unhide MBv25).cell1⟩⟩) ?_
            clear hK K
            have LLv25 := hide (Nat.lt_of_lt_of_le (unhide LLv24) (unhide CSv25))
            iterate 4
              refine plan_read (v := ?_) rfl (fun _ _ _ h => h) (by rfl) ⟨⟨(unhide MAv25).cell0, (unhide MAv25).cell1⟩, ⟨(unhide MBv25).cell0, (unhide MBv25).cell1⟩⟩ ?_ ?_
              rotate_left 1
              · intro wx hwx
                obtain ⟨⟨q1, q2⟩, ⟨q3, q4⟩⟩ := hwx
                go_simp <;> exact rfl
              go_frame
            refine plan_do rfl (fun K hK => ?_)
            have z0 := (unhide LVv25).cell0; have z1 := (unhide LVv25).cell1; have f0 := (unhide LVv25).free 0; have f1 := (unhide LVv25).free 1
            go_simp
            obtain ⟨v26, ee, mm, kk⟩ := (unhide LVv25).put (n) (.slice (some ⟨r, 0, none⟩) (n * n) c)
            rw [← ee]
            have LVv26 := hide mm
            have MAv26 := hide ((unhide MAv25).kept kk (by have := unhide ZL; omega))
            have MBv26 := hide ((unhide MBv25).kept kk (by have := unhide ZL; omega))
            have NMv26 := hide ((unhide NMv25).kept kk (unhide NL))
            have Kv26 := hide (below_of_kept (unhide Kv25) kk (by have := unhide ZL; omega) (unhide Kv25).size)
            have Zv26 := hide (Nat.le_trans (unhide Zv25) kk.size)
            clear kk
            refine hK _ _ (fun _ => ⟨⟨(unhide MAv26).cell0, (unhide MAv26).cell1⟩, ⟨(unhide MBv26).cell0, (unhide MBv26).cell1⟩⟩) ?_
            clear hK K z0 z1 f0 f1 ee mm
            refine plan_do rfl (fun K hK => ?_)
            go_simp
            refine hK _ _ (fun _ => ⟨⟨(unhide MAv26).cell0, (unhide MAv26).cell1⟩, ⟨(unhide MBv26).cell0, (unhide MBv26).cell1⟩⟩) ?_
            clear hK K
            refine plan_do rfl (fun K hK => ?_)
            go_simp
            refine hK _ _ (fun _ => ⟨⟨(unhide MAv26).cell0, (unhide MAv26).cell1⟩, ⟨(unhide MBv26).cell0, (unhide MBv26).cell1⟩⟩) ?_
            clear hK K
            refine plan_end ?_
            go_wp2_with fail
            go_meet
            exact ⟨L, r, c, h, rfl, rfl, rfl, (unhide LVv26), (unhide NMv26), unhide RH, unhide IM, (unhide MAv26), (unhide MBv26), (unhide Kv26), (unhide Zv26)⟩
        · go_simp
          obtain ⟨v27, ee, mm, kk, ss⟩ := mb_alloc v19 0 (.slice none 0 0)
          rw [← ee]
          have LVv27 := hide mm
          have LLv27 := hide (show v19.heap.size < v27.heap.size by omega)
          have ZL := hide (unhide Zv19)
          clear ee mm ss
          have MAv27 := hide ((unhide MAv19).below kk)
          have MBv27 := hide ((unhide MBv19).below kk)
          have RAv27 := hide ((unhide RAv19).below kk)
          have Kv27 := hide ((unhide Kv19).trans (Below.le kk (unhide Kv19).size))
          have Zv27 := hide (Nat.le_trans (unhide Zv19) kk.size)
          have CSv27 := hide kk.size
          clear kk MAv19 MBv19 RAv19 Kv19 Zv19
          refine hK _ _ (fun _ => ⟨⟨(unhide MAv27).cell0, (unhide MAv27).cell1⟩, ⟨(unhide MBv27).cell0, (unhide MBv27).cell1⟩⟩) ?_
          clear hK K
          generalize v19.heap.size = L at *
          refine plan_do rfl (fun K hK => ?_)
          go_simp
          refine (ownK_any (n) bo (n * n) c2 g _ (((unhide AB)).below (unhide Kv27))).mono ?_
          rintro e v28 ⟨aoB, capB, rfl, ra, kk⟩
          have RBv28 := hide ra
          have MAv28 := hide ((unhide MAv27).below kk)
          have MBv28 := hide ((unhide MBv27).below kk)
          have RAv28 := hide ((unhide RAv27).below kk)
          have LVv28 := hide ((unhide LVv27).below kk)
          have Kv28 := hide ((unhide Kv27).trans (Below.le kk (unhide Kv27).size))
          have Zv28 := hide (Nat.le_trans (unhide Zv27) kk.size)
          have CSv28 := hide kk.size
          clear kk MAv27 MBv27 RAv27 LVv27 Kv27 Zv27
          clear ra
          refine hK _ _ (fun _ => ⟨⟨(unhide MAv28).cell0, (unhide MAv28).cell1⟩, ⟨(unhide MBv28).cell0, (unhide MBv28).cell1⟩⟩) ?_
          clear hK K
          have LLv28 := hide (Nat.lt_of_lt_of_le (unhide LLv27) (unhide CSv28))
          refine plan_do rfl (fun K hK => ?_)
          go_simp
          refine (mul_good n _ _ _ _ f g _ (unhide H1) (unhide H6) (unhide RF) (unhide RG) (unhide RAv28) (unhide RBv28)).mono ?_
          rintro e v29 ⟨r, c, h, rfl, hr, nm, rh, im, kk⟩
          have NL := hide (show r ≠ L by have := unhide LLv28; omega)
          have NMv29 := hide nm
          have MAv29 := hide ((unhide MAv28).below kk)
          have MBv29 := hide ((unhide MBv28).below kk)
          have RAv29 := hide ((unhide RAv28).below kk)
          have LVv29 := hide ((unhide LVv28).below kk)
          have RBv29 := hide ((unhide RBv28).below kk)
          have Kv29 := hide ((unhide Kv28).trans (Below.le kk (unhide Kv28).size))
          have Zv29 := hide (Nat.le_trans (unhide Zv28) kk.size)
          have CSv29 := hide kk.size
          clear kk MAv28 MBv28 RAv28 LVv28 RBv28 Kv28 Zv28
          have RH := hide rh; have IM := hide im
          clear hr nm rh im
          refine hK _ _ (fun _ => ⟨⟨(unhide MAv29).cell0, (unhide MAv29).cell1⟩, ⟨(unhide MBv29).cell0, (unhide MBv29).cell1⟩⟩) ?_
          clear hK K
          have LLv29 := hide (Nat.lt_of_lt_of_le (unhide LLv28) (unhide CSv29))
          iterate 4
            refine plan_read (v := ?_) rfl (fun _ _ _ h => h) (by rfl) ⟨⟨(unhide MAv29).cell0, (unhide MAv29).cell1⟩, ⟨(unhide MBv29).cell0, (unhide MBv29).cell1⟩⟩ ?_ ?_
            rotate_left 1
            · intro wx hwx
              obtain ⟨⟨q1, q2⟩, ⟨q3, q4⟩⟩ := hwx
              go_simp <;> exact rfl
            go_frame
          refine plan_do rfl (fun K hK => ?_)
          have z0 := (unhide LVv29).cell0; have z1 := (unhide LVv29).cell1; have f0 := (unhide LVv29).free 0; have f1 := (unhide LVv29).free 1
          go_simp
          obtain ⟨v30, ee, mm, kk⟩ := (unhide LVv29).put (n) (.slice (some ⟨r, 0, none⟩) (n * n) c)
          rw [← ee]
          have LVv30 := hide mm
          have MAv30 := hide ((unhide MAv29).kept kk (by have := unhide ZL; omega))
          have MBv30 := hide ((unhide MBv29).kept kk (by have := unhide ZL; omega))
          have NMv30 := hide ((unhide NMv29).kept kk (unhide NL))
          have Kv30 := hide (below_of_kept (unhide Kv29) kk (by have := unhide ZL; omega) (unhide Kv29).size)
          have Zv30 := hide (Nat.le_trans (unhide Zv29) kk.size)
          clear kk
          refine hK _ _ (fun _ => ⟨⟨(unhide MAv30).cell0, (unhide MAv30).cell1⟩, ⟨(unhide MBv30).cell0, (unhide MBv30).cell1⟩⟩) ?_
          clear hK K z0 z1 f0 f1 ee mm
          refine plan_do rfl (fun K hK => ?_)
          go_simp
          refine hK _ _ (fun _ => ⟨⟨(unhide MAv30).cell0, (unhide MAv30).cell1⟩, ⟨(unhide MBv30).cell0, (unhide MBv30).cell1⟩⟩) ?_
          clear hK K
          refine plan_do rfl (fun K hK => ?_)
          go_simp
          refine hK _ _ (fun _ => ⟨⟨(unhide MAv30).cell0, (unhide MAv30).cell1⟩, ⟨(unhide MBv30).cell0, (unhide MBv30).cell1⟩⟩) ?_
          clear hK K
          refine plan_end ?_
          go_wp2_with fail
          go_meet
          exact ⟨L, r, c, h, rfl, rfl, rfl, (unhide LVv30), (unhide NMv30), unhide RH, unhide IM, (unhide MAv30), (unhide MBv30), (unhide Kv30), (unhide Zv30)⟩
      · go_simp
        obtain ⟨v31, ee, mm, kk, ss⟩ := mb_alloc u0 0 (.slice none 0 0)
        rw [← ee]
        have LVv31 := hide mm
        have LLv31 := hide (show u0.heap.size < v31.heap.size by omega)
        have ZL := hide (unhide Zu0)
        clear ee mm ss
        have MAv31 := hide ((unhide MAu0).below kk)
        have MBv31 := hide ((unhide MBu0).below kk)
        have Kv31 := hide ((unhide Ku0).trans (Below.le kk (unhide Ku0).size))
        have Zv31 := hide (Nat.le_trans (unhide Zu0) kk.size)
        have CSv31 := hide kk.size
        clear kk MAu0 MBu0 Ku0 Zu0
        refine hK _ _ (fun _ => ⟨⟨(unhide MAv31).cell0, (unhide MAv31).cell1⟩, ⟨(unhide MBv31).cell0, (unhide MBv31).cell1⟩⟩) ?_
        clear hK K
        generalize u0.heap.size = L at *
        refine plan_do rfl (fun K hK => ?_)
        go_simp
        refine (ownK_any (n) ao (n * n) cap f _ (((unhide AA)).below (unhide Kv31))).mono ?_
        rintro e v32 ⟨aoA, capA, rfl, ra, kk⟩
        have RAv32 := hide ra
        have MAv32 := hide ((unhide MAv31).below kk)
        have MBv32 := hide ((unhide MBv31).below kk)
        have LVv32 := hide ((unhide LVv31).below kk)
        have Kv32 := hide ((unhide Kv31).trans (Below.le kk (unhide Kv31).size))
        have Zv32 := hide (Nat.le_trans (unhide Zv31) kk.size)
        have CSv32 := hide kk.size
        clear kk MAv31 MBv31 LVv31 Kv31 Zv31
        clear ra
        refine hK _ _ (fun _ => ⟨⟨(unhide MAv32).cell0, (unhide MAv32).cell1⟩, ⟨(unhide MBv32).cell0, (unhide MBv32).cell1⟩⟩) ?_
        clear hK K
        have LLv32 := hide (Nat.lt_of_lt_of_le (unhide LLv31) (unhide CSv32))
        refine plan_do rfl (fun K hK => ?_)
        go_simp
        refine (ownK_any (n) bo (n * n) c2 g _ (((unhide AB)).below (unhide Kv32))).mono ?_
        rintro e v33 ⟨aoB, capB, rfl, ra, kk⟩
        have RBv33 := hide ra
        have MAv33 := hide ((unhide MAv32).below kk)
        have MBv33 := hide ((unhide MBv32).below kk)
        have LVv33 := hide ((unhide LVv32).below kk)
        have RAv33 := hide ((unhide RAv32).below kk)
        have Kv33 := hide ((unhide Kv32).trans (Below.le kk (unhide Kv32).size))
        have Zv33 := hide (Nat.le_trans (unhide Zv32) kk.size)
        have CSv33 := hide kk.size
        clear kk MAv32 MBv32 LVv32 RAv32 Kv32 Zv32
        clear ra
        refine hK _ _ (fun _ => ⟨⟨(unhide MAv33).cell0, (unhide MAv33).cell1⟩, ⟨(unhide MBv33).cell0, (unhide MBv33).cell1⟩⟩) ?_
        clear hK K
        have LLv33 := hide (Nat.lt_of_lt_of_le (unhide LLv32) (unhide CSv33))
        refine plan_do rfl (fun K hK => ?_)
        go_simp
        refine (mul_good n _ _ _ _ f g _ (unhide H1) (unhide H6) (unhide RF) (unhide RG) (unhide RAv33) (unhide RBv33)).mono ?_
        rintro e v34 ⟨r, c, h, rfl, hr, nm, rh, im, kk⟩
        have NL := hide (show r ≠ L by have := unhide LLv33; omega)
        have NMv34 := hide nm
        have MAv34 := hide ((unhide MAv33).below kk)
        have MBv34 := hide ((unhide MBv33).below kk)
        have LVv34 := hide ((unhide LVv33).below kk)
        have RAv34 := hide ((unhide RAv33).below kk)
        have RBv34 := hide ((unhide RBv33).below kk)
        have Kv34 := hide ((unhide Kv33).trans (Below.le kk (unhide Kv33).size))
        have Zv34 := hide (Nat.le_trans (unhide Zv33) kk.size)
        have CSv34 := hide kk.size
        clear kk MAv33 MBv33 LVv33 RAv33 RBv33 Kv33 Zv33
        have RH := hide rh; have IM := hide im
        clear hr nm rh im
        refine hK _ _ (fun _ => ⟨⟨(unhide MAv34).cell0, (unhide MAv34).cell1⟩, ⟨(unhide MBv34).cell0, (unhide MBv34).cell1⟩⟩) ?_
        clear hK K
        have LLv34 := hide (Nat.lt_of_lt_of_le (unhide LLv33) (unhide CSv34))
        iterate 4
          refine plan_read (v := ?_) rfl (fun _ _ _ h => h) (by rfl) ⟨⟨(unhide MAv34).cell0, (unhide MAv34).cell1⟩, ⟨(unhide MBv34).cell0, (unhide MBv34).cell1⟩⟩ ?_ ?_
          rotate_left 1
          · intro wx hwx
            obtain ⟨⟨q1, q2⟩, ⟨q3, q4⟩⟩ := hwx
            go_simp <;> exact rfl
          go_frame
        refine plan_do rfl (fun K hK => ?_)
        have z0 := (unhide LVv34).cell0; have z1 := (unhide LVv34).cell1; have f0 := (unhide LVv34).free 0; have f1 := (unhide LVv34).free 1
        go_simp
        obtain ⟨v35, ee, mm, kk⟩ := (unhide LVv34).put (n) (.slice (some ⟨r, 0, none⟩) (n * n) c)
        rw [← ee]
        have LVv35 := hide mm
        have MAv35 := hide ((unhide MAv34).kept kk (by have := unhide ZL; omega))
        have MBv35 := hide ((unhide MBv34).kept kk (by have := unhide ZL; omega))
        have NMv35 := hide ((unhide NMv34).kept kk (unhide NL))
        have Kv35 := hide (below_of_kept (unhide Kv34) kk (by have := unhide ZL; omega) (unhide Kv34).size)
        have Zv35 := hide (Nat.le_trans (unhide Zv34) kk.size)
        clear kk
        refine hK _ _ (fun _ => ⟨⟨(unhide MAv35).cell0, (unhide MAv35).cell1⟩, ⟨(unhide MBv35).cell0, (unhide MBv35).cell1⟩⟩) ?_
        clear hK K z0 z1 f0 f1 ee mm
        refine plan_do rfl (fun K hK => ?_)
        go_simp
        refine hK _ _ (fun _ => ⟨⟨(unhide MAv35).cell0, (unhide MAv35).cell1⟩, ⟨(unhide MBv35).cell0, (unhide MBv35).cell1⟩⟩) ?_
        clear hK K
        refine plan_do rfl (fun K hK => ?_)
        go_simp
        refine hK _ _ (fun _ => ⟨⟨(unhide MAv35).cell0, (unhide MAv35).cell1⟩, ⟨(unhide MBv35).cell0, (unhide MBv35).cell1⟩⟩) ?_
        clear hK K
        refine plan_end ?_
        go_wp2_with fail
        go_meet
        exact ⟨L, r, c, h, rfl, rfl, rfl, (unhide LVv35), (unhide NMv35), unhide RH, unhide IM, (unhide MAv35), (unhide MBv35), (unhide Kv35), (unhide Zv35)⟩
    case rest =>
      obtain ⟨i0, hi0, hz0, hz1, hz2⟩ := info_parts infoInt
      obtain ⟨L, r, c, h, rfl, rfl, rfl, lv, nm, rh, im, ma, mb, kc, zc⟩ := hcut
      have LV := hide lv; have NM := hide nm; have RH := hide rh; have IM := hide im; have MA := hide ma; have MB := hide mb; have KC := hide kc
      have h6 := unhide H6
      have CL := hide (show L < wc.heap.size from lv.lt); have CR := hide (show r < wc.heap.size from nm.lt); have CA := hide (show w.heap.size < wc.heap.size from ma.lt); have CB := hide (show w.heap.size + 1 < wc.heap.size from mb.lt)
      clear lv nm rh im ma mb kc zc MAw1 MBw1 Kw1 Zw1 E1
      go_wp2_with fail
      go_loopw [8, 9, 10, 11, 12, 13, 14, 15] (fun bs ks _ _ _ _ _ _ wr => ∃ k : Nat, ks = .int .i64 k ∧ k ≤ n ∧ bs = .bool (anyB (fun c => anyB (fun a => chB (rowF n f a) (fun t => g (t * n + c)) n) n) k) ∧ Below wc.heap.size wc wr)
        (fun _ ks _ _ _ _ _ _ _ => n - (intOf ks).toNat)
      case atStart => exact ⟨0, rfl, Nat.zero_le _, rfl, Below.refl _ _⟩
      case round =>
        obtain ⟨k, rfl, hk, rfl, hK⟩ := hrel
        have HK := hide hK
        clear hK
        have b0 := ((unhide MB).same ((unhide HK).block (w.heap.size + 1) (unhide CB))).cell0
        by_cases hkn : k < n
        · go_wp2_with fail
          clear b0
          go_loopw [10, 11] (fun vs is wx => ∃ (i cv : Nat) (at_ : Option Addr), is = .int .i64 i ∧ i ≤ n ∧ vs = .slice at_ i cv ∧ GrowR wx wc.heap.size at_ i cv (fun t => g (t * n + k)) ∧ Below wc.heap.size wc wx)
            (fun _ is _ => n - (intOf is).toNat)
          case atStart => exact ⟨0, 0, none, rfl, Nat.zero_le _, rfl, World.ownsRow_nil _ _ _ _, unhide HK⟩
          case round =>
            obtain ⟨i, cv, at_, rfl, hi, rfl, hg, hB⟩ := hrel
            have HG := hide hg; have HB := hide hB
            clear hg hB
            have b0 := ((unhide MB).same ((unhide HB).block (w.heap.size + 1) (unhide CB))).cell0
            by_cases hin : i < n
            · have b1 := ((unhide MB).same ((unhide HB).block (w.heap.size + 1) (unhide CB))).cell1
              obtain ⟨bb, ob, rfl, hcb⟩ := (unhide AB).rds (Nat.mul_le_mul (unhide H1) (unhide H1))
              have hp := idx_lt hin hkn
              have cz := at_below (w' := _) (hcb _ hp) (show Below w.heap.size w _ from (unhide KC).trans (Below.le (unhide HB) (unhide KC).size))
              have wp := wrap_sq h6 (show i ≤ 6 by omega)
              have hq := unhide h36
              obtain ⟨p, ep⟩ : ∃ p, i * n = p := ⟨_, rfl⟩
              obtain ⟨q, eq⟩ : ∃ q, n * n = q := ⟨_, rfl⟩
              obtain ⟨s, es⟩ : ∃ s, p + k = s := ⟨_, rfl⟩
              have EG := hide (show g s = g (i * n + k) by rw [ep, es])
              rw [ep] at wp hp cz
              rw [eq] at hp b1 hq
              rw [es] at hp cz
              have ws : IntKind.i64.wrap ((p : Int) + (k : Int)) = (s : Int) := by rw [IntKind.wrap_i64]; omega
              clear ep eq es hcb hq
              rename World => wx
              have HO := hide (show GrowR (wx.alloc (.cells #[.int .i64 (g s)] 3)) wc.heap.size at_ i cv (fun t => g (t * n + k)) from (unhide HG).below (al_below _ _))
              go_wp2_with (at_builtin; refine wpList_append_own _ rfl _ _ 22 rfl wc.heap.size 3 i0 (.int .i64 0) 1 8 Try.underlying22 hi0 hz0 hz1 hz2 rfl (by decide) (.slice at_ i cv) i (rowL (fun t => g (t * n + k)) i) rfl (unhide HO) ⟨wx.heap.size, 0, none⟩ 1 1 [.int .i64 (g s)] rfl rfl (one_cells wx _) (one_one _) (by unfold maxLen; omega) (by omega) (by have := (unhide HB).size; rw [al_size]; omega) ?_)
              intro v' w6 hown hgr hnil
              rw [unhide EG] at hown
              obtain ⟨ao', c', rfl, hg6⟩ := growR_next (f := fun t => g (t * n + k)) hown
              have F := hide (show GrowR w6 wc.heap.size ao' (i + 1) c' (fun t => g (t * n + k)) ∧ Below wc.heap.size wc w6 from
                ⟨hg6, ((unhide HB).alloc (unhide HB).size _).trans (grown_below (unhide HO) hgr (by have := (unhide HB).size; rw [al_size]; omega))⟩)
              clear hown hgr hnil hg6 b0 b1 cz wp ws
              go_wp2_with fail
              go_roundw
              case rel => exact ⟨i + 1, c', ao', by go_num, by omega, rfl, (unhide F).1, (unhide F).2⟩
              case measure => simp [intOf] <;> omega
            · have hin2 : i = n := by omega
              subst hin2
              rename World => wx
              obtain ⟨rv, rfl, hrv, nv⟩ := (unhide HG).nh (unhide H1)
              have NV := hide nv
              have MA5 := (unhide MA).same ((unhide HB).block w.heap.size (unhide CA))
              have a0 := MA5.cell0; have a1 := MA5.cell1
              have KX := hide (show Below w.heap.size w wx from (unhide KC).trans (Below.le (unhide HB) (unhide KC).size))
              clear nv hrv MA5
              go_wp2_with fail
              clear a0 a1 b0
              refine (ownK_any (i : Int) ao (i * i) cap f _ ((unhide AA).below (unhide KX))).mono ?_
              rintro e w7 ⟨aoA, capA, rfl, ra, kk⟩
              have RA := hide ra; have NV7 := hide ((unhide NV).below kk)
              have B7 := hide (show Below wc.heap.size wc w7 from (unhide HB).trans (Below.le kk (unhide HB).size))
              clear ra kk
              go_wp2_with fail
              refine (times_good i _ _ _ _ f (fun t => g (t * i + k)) _ (unhide H1) (unhide H6) (unhide RF) (fun t => unhide RG _) (unhide RA) (unhide NV7).rds).mono ?_
              rintro e w8 ⟨u, rfl, hu, nu, kk⟩
              have NU := hide nu
              have B8 := hide (show Below wc.heap.size wc w8 from (unhide B7).trans (Below.le kk (unhide B7).size))
              clear hu nu kk
              have MB8 := (unhide MB).same ((unhide B8).block (w.heap.size + 1) (unhide CB))
              have b0 := MB8.cell0
              have tn : ((i : Int) != (i : Int)) = false := by simp
              clear MB8
              have EB := hide (show (anyB (fun c => anyB (fun a => chB (rowF i f a) (fun t => g (t * i + c)) i) i) k || anyB (fun j => chB (rowF i f j) (fun t => g (t * i + k)) i) i) = anyB (fun c => anyB (fun a => chB (rowF i f a) (fun t => g (t * i + c)) i) i) (k + 1) from rfl)
              cases hb : anyB (fun c => anyB (fun a => chB (rowF i f a) (fun t => g (t * i + c)) i) i) k
              all_goals
                rw [hb] at EB
                go_wp2_with fail
                clear tn b0
                go_loopw [15] (fun is wy => ∃ j : Nat, is = .int .i64 j ∧ j ≤ i ∧ Below w8.heap.size w8 wy) (fun is _ => i - (intOf is).toNat)
                case atStart => exact ⟨0, rfl, Nat.zero_le _, Below.refl _ _⟩
                case round =>
                  obtain ⟨j, rfl, hj, hB⟩ := hrel
                  have HBY := hide (show Below wc.heap.size wc _ from (unhide B8).trans (Below.le hB (unhide B8).size)); have HBU := hide hB
                  clear hB
                  have MB9 := (unhide MB).same ((unhide HBY).block (w.heap.size + 1) (unhide CB))
                  have b0 := MB9.cell0
                  clear MB9
                  by_cases hji : j < i
                  · have LV9 := (unhide LV).same ((unhide HBY).block L (unhide CL))
                    have l1 := LV9.cell1
                    have cx0 := ((unhide NU).below (unhide HBU)).cell hji
                    have hp := idx_lt hji hkn
                    have ca := ((unhide NM).same ((unhide HBY).block r (unhide CR))).cell hp
                    rw [unhide IM j k hji hkn] at ca
                    have wp := wrap_sq h6 (show j ≤ 6 by omega)
                    have hq := unhide h36
                    obtain ⟨p, ep⟩ : ∃ p, j * i = p := ⟨_, rfl⟩
                    obtain ⟨q, eq⟩ : ∃ q, i * i = q := ⟨_, rfl⟩
                    obtain ⟨s, es⟩ : ∃ s, p + k = s := ⟨_, rfl⟩
                    rw [ep] at wp hp ca
                    rw [eq] at hp l1 hq
                    rw [es] at hp ca
                    have ws : IntKind.i64.wrap ((p : Int) + (k : Int)) = (s : Int) := by rw [IntKind.wrap_i64]; omega
                    unfold mulF at ca
                    obtain ⟨val, ev⟩ : ∃ val, chV (rowF i f j) (fun t => g (t * i + k)) i = val := ⟨_, rfl⟩
                    rw [ev] at ca
                    have cx : _ = some (Value.int .i64 val) := cx0.trans (by rw [← ev])
                    clear cx0
                    have tv : (val != val) = false := by simp
                    clear ep eq es ev LV9 hq
                    go_wp2_with fail
                    go_region
                    go_wp2_with fail
                    case roundEnd => exact ⟨⟨j + 1, by go_num, by omega, below_drew (unhide HBU)⟩, by simp [intOf]; omega⟩
                  · have hji2 : j = i := by omega
                    subst hji2
                    go_wp2_with fail
                    go_roundw
                    case rel => exact ⟨k + 1, by go_num, by omega, by rw [← unhide EB]; rfl, unhide HBY⟩
                    case measure => simp [intOf] <;> omega
        · have hkn2 : k = n := by omega
          subst hkn2
          go_wp2_with fail
          clear b0
          refine (stands_any _).mono ?_
          rintro e w9 ⟨rfl, kk⟩
          have K9 := hide (show Below w.heap.size w w9 from ((unhide KC).trans (Below.le (unhide HK) (unhide KC).size)).trans (Below.le kk (by have := (unhide KC).size; have := (unhide HK).size; omega)))
          have tb : (mulB k f g == mulB k f g) = true := by simp
          have tb' : (anyB (fun c => anyB (fun a => chB (rowF k f a) (fun t => g (t * k + c)) k) k) k == mulB k f g) = true := tb
          clear kk
          go_wp2_with fail
          go_ret
          exact ⟨rfl, unhide K9⟩

end Go.Proofs.Ytnfejfdekedmhab
