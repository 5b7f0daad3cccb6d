/- The walk of MatMuls. -/
import Derived.Test.YtnfejfdekedmhaaMatTwo
import Derived.Test.YtnfejfdekedmhaaRefMul
import Derived.Test.YtnfejfdekedmhaaLawsN2
namespace Go.Proofs.Ytnfejfdekedmhaa
open Go.RowKit

set_option maxHeartbeats 1000000 in
theorem refMul_bad (N M : Int) (ao bo : Option Addr) (l c k d : Nat) (w : World) (hg : goodP N M l k = false) :
    Calls Try.prog 17 #[.agg #[.int .i64 N, .slice ao l c], .agg #[.int .i64 M, .slice bo k d]] w fun e w' =>
      e = .returned (.tuple #[.agg #[.int .i64 0, .slice none 0 0], .bool false, .int .i64 8]) ∧ Below w.heap.size w w' := by
  obtain ⟨w1, e1, m0, m1, m2, k1, s1⟩ := mat_three w N M (.slice ao l c) (.slice bo k d)
  have c0 := m0.cell0; have c1 := m0.cell1
  have E1 := hide e1; have M0 := hide m0; have M1 := hide m1; have M2 := hide m2; have K1 := hide k1; have S1 := hide s1
  clear e1 m0 m1 m2 k1 s1
  cases hga : goodM N l
  · have G := hide hga
    clear hg hga
    go_enter Try.func17, Try.ntmps17
    go_wp2_with fail
    rw [← unhide E1]
    go_wp2_with fail
    refine (goodMat_any N ao l c _).mono ?_
    rintro e w2 ⟨rfl, k2⟩
    rw [unhide G]
    have K2 := hide (show Below w.heap.size w w2 from (unhide K1).trans (Below.le k2 (by have := unhide S1; omega)))
    have m2 := (unhide M2).below k2
    clear k2 c0 c1
    have d0 := m2.cell0; have d1 := m2.cell1; have f0 := m2.free 0; have f1 := m2.free 1
    have R2 := hide m2
    clear m2
    go_wp2_with fail
    obtain ⟨w3, e3, m3, k3⟩ := (unhide R2).put 0 (.slice none 0 0)
    rw [← e3]
    have p0 := m3.cell0; have p1 := m3.cell1
    have F := hide (below_of_kept (unhide K2) k3 (by omega) (unhide K2).size)
    clear e3 m3 k3 d0 d1 f0 f1
    go_wp2_with fail
    refine bodyPost_ret (v := .tuple #[.agg #[.int .i64 0, .slice none 0 0], .bool false, .int .i64 8]) (by simp [results, Try.results17, go_sem, p0, p1]) rfl ⟨rfl, unhide F⟩
  · cases hgb : goodM M k
    · have G := hide hga; have G2 := hide hgb
      clear hg hga hgb
      go_enter Try.func17, Try.ntmps17
      go_wp2_with fail
      rw [← unhide E1]
      go_wp2_with fail
      refine (goodMat_any N ao l c _).mono ?_
      rintro e w2 ⟨rfl, k2⟩
      rw [unhide G]
      have K2 := hide (show Below w.heap.size w w2 from (unhide K1).trans (Below.le k2 (by have := unhide S1; omega)))
      have N2 := hide ((unhide M2).below k2)
      have S2 := hide (show w.heap.size ≤ w2.heap.size from (unhide K2).size)
      have m1 := (unhide M1).below k2
      clear k2 c0 c1
      have c0 := m1.cell0; have c1 := m1.cell1
      clear m1
      go_wp2_with fail
      refine (goodMat_any M bo k d _).mono ?_
      rintro e w4 ⟨rfl, k4⟩
      rw [unhide G2]
      have K2 := hide (show Below w.heap.size w w4 from (unhide K2).trans (Below.le k4 (unhide S2)))
      have m2 := (unhide N2).below k4
      clear k4 c0 c1
      have d0 := m2.cell0; have d1 := m2.cell1; have f0 := m2.free 0; have f1 := m2.free 1
      have R2 := hide m2
      clear m2
      go_wp2_with fail
      obtain ⟨w3, e3, m3, k3⟩ := (unhide R2).put 0 (.slice none 0 0)
      rw [← e3]
      have p0 := m3.cell0; have p1 := m3.cell1
      have F := hide (below_of_kept (unhide K2) k3 (by omega) (unhide K2).size)
      clear e3 m3 k3 d0 d1 f0 f1
      go_wp2_with fail
      refine bodyPost_ret (v := .tuple #[.agg #[.int .i64 0, .slice none 0 0], .bool false, .int .i64 8]) (by simp [results, Try.results17, go_sem, p0, p1]) rfl ⟨rfl, unhide F⟩
    · have G := hide hga; have G2 := hide hgb
      have hne : (N != M) = true := by
        rw [bne_iff_ne]; intro e
        unfold goodP at hg; rw [hga, hgb] at hg; simp [e] at hg
      clear hg hga hgb
      go_enter Try.func17, Try.ntmps17
      go_wp2_with fail
      rw [← unhide E1]
      go_wp2_with fail
      refine (goodMat_any N ao l c _).mono ?_
      rintro e w2 ⟨rfl, k2⟩
      rw [unhide G]
      have K2 := hide (show Below w.heap.size w w2 from (unhide K1).trans (Below.le k2 (by have := unhide S1; omega)))
      have N2 := hide ((unhide M2).below k2); have N0 := hide ((unhide M0).below k2)
      have S2 := hide (show w.heap.size ≤ w2.heap.size from (unhide K2).size)
      have m1 := (unhide M1).below k2
      clear k2 c0 c1
      have c0 := m1.cell0; have c1 := m1.cell1
      have N1 := hide m1
      clear m1
      go_wp2_with fail
      refine (goodMat_any M bo k d _).mono ?_
      rintro e w4 ⟨rfl, k4⟩
      rw [unhide G2]
      have K2 := hide (show Below w.heap.size w w4 from (unhide K2).trans (Below.le k4 (unhide S2)))
      have m2 := (unhide N2).below k4
      have m1 := (unhide N1).below k4; have m0 := (unhide N0).below k4
      clear k4 c0 c1
      have c0 := m1.cell0; have b0 := m0.cell0
      clear m0 m1
      have d0 := m2.cell0; have d1 := m2.cell1; have f0 := m2.free 0; have f1 := m2.free 1
      have R2 := hide m2
      clear m2
      go_wp2_with fail
      obtain ⟨w3, e3, m3, k3⟩ := (unhide R2).put 0 (.slice none 0 0)
      rw [← e3]
      have p0 := m3.cell0; have p1 := m3.cell1
      have F := hide (below_of_kept (unhide K2) k3 (by omega) (unhide K2).size)
      clear e3 m3 k3 d0 d1 f0 f1
      go_wp2_with fail
      refine bodyPost_ret (v := .tuple #[.agg #[.int .i64 0, .slice none 0 0], .bool false, .int .i64 8]) (by simp [results, Try.results17, go_sem, p0, p1]) rfl ⟨rfl, unhide F⟩



set_option maxHeartbeats 8000000 in
theorem matMuls_walk {w : World} (N : Int) (ao : Option Addr) (len cap : Nat) (f : Nat → Int) (M : Int) (bo : Option Addr) (l2 c2 : Nat) (g : Nat → Int) (_rN : R64 N) (aa : ArgS w ao len cap f) (_rM : R64 M) (ab : ArgS w bo l2 c2 g) :
    Calls Try.prog 5 #[.agg #[.int .i64 N, .slice ao len cap], .agg #[.int .i64 M, .slice bo l2 c2]] w fun e w' => e = .returned (.bool true) ∧ Below w.heap.size w w' := by
  obtain ⟨w1, e1, ma, mb, k1, s1⟩ := two_mats w N M (.slice ao len cap) (.slice bo l2 c2)
  have E1 := hide e1; have MAw1 := hide ma; have MBw1 := hide mb; have Kw1 := hide k1; have Zw1 := hide (Nat.le_of_eq s1.symm); have AA := hide aa; have AB := hide ab; have RF := hide aa.2.2; have RG := hide ab.2.2
  clear e1 ma mb k1 s1 aa ab _rN _rM
  cases hg : goodP N M len l2
  · have G := hide hg
    clear hg
    go_enter Try.func5, Try.ntmps5
    go_upto_region 1 with fail
    rw [← unhide E1]
    go_cut [5, 6, 7] (fun s5 s6 s7 wx => ∃ L : Nat, s5 = .pointer (some ⟨L, 0, none⟩) ∧ s6 = .bool false ∧ s7 = .int .i64 8 ∧ MbAt wx L 0 (.slice none 0 0) ∧ MbAt wx w.heap.size N (.slice ao len cap) ∧ MbAt wx (w.heap.size + 1) M (.slice bo l2 c2) ∧ Below w.heap.size w wx ∧ w.heap.size + 1 + 1 ≤ wx.heap.size)
    case first =>
      refine region_plan (S := Cl4 w.heap.size (w.heap.size + 1) (.int .i64 (N)) (.slice ao len cap) (.int .i64 (M)) (.slice bo l2 c2)) (.rd 0 (.rd 2 (.two 1 9 (.two 3 9 (.two 4 9 (.rd 5 (.rd 6 (.rd 7 (.rd 8 (.go 9 (.go 10 (.go 11 (.go 12 .fin)))))))) (.go 4 (.rd 5 (.rd 6 (.rd 7 (.rd 8 (.go 10 (.go 11 (.go 12 .fin))))))))) (.go 3 (.go 4 (.rd 5 (.rd 6 (.rd 7 (.rd 8 (.go 10 (.go 11 (.go 12 .fin)))))))))) (.go 1 (.go 3 (.go 4 (.rd 5 (.rd 6 (.rd 7 (.rd 8 (.go 10 (.go 11 (.go 12 .fin))))))))))))) [] (by kernel_rfl) (by kernel_rfl) ?_
      have MAu0 := hide (show MbAt w1.drew _ _ _ from unhide MAw1); have MBu0 := hide (show MbAt w1.drew _ _ _ from unhide MBw1); have Ku0 := hide (below_drew (unhide Kw1)); have Zu0 := hide (show w.heap.size + 1 + 1 ≤ w1.drew.heap.size from unhide Zw1)
      clear E1 MAw1 MBw1 Kw1 Zw1
      generalize w1.drew = u0 at *
      iterate 2
        refine plan_read (v := ?_) rfl (fun _ _ _ h => h) (by rfl) ⟨⟨(unhide MAu0).cell0, (unhide MAu0).cell1⟩, ⟨(unhide MBu0).cell0, (unhide MBu0).cell1⟩⟩ ?_ ?_
        rotate_left 1
        · intro wx hwx
          obtain ⟨⟨q1, q2⟩, ⟨q3, q4⟩⟩ := hwx
          go_simp <;> exact rfl
        go_frame
      refine plan_two rfl rfl (fun K hK => ?_) (fun K hK => ?_)
      · go_simp
        refine (ownL_any (N) ao len cap f _ (((unhide AA)).below (unhide Ku0))).mono ?_
        rintro e v1 ⟨aoA, capA, rfl, ra, kk⟩
        have RAv1 := hide ra
        have MAv1 := hide ((unhide MAu0).below kk)
        have MBv1 := hide ((unhide MBu0).below kk)
        have Kv1 := hide ((unhide Ku0).trans (Below.le kk (unhide Ku0).size))
        have Zv1 := hide (Nat.le_trans (unhide Zu0) kk.size)
        have CSv1 := hide kk.size
        clear kk MAu0 MBu0 Ku0 Zu0
        clear ra
        refine hK _ _ (fun _ => ⟨⟨(unhide MAv1).cell0, (unhide MAv1).cell1⟩, ⟨(unhide MBv1).cell0, (unhide MBv1).cell1⟩⟩) ?_
        clear hK K
        refine plan_two rfl rfl (fun K hK => ?_) (fun K hK => ?_)
        · go_simp
          refine (ownL_any (M) bo l2 c2 g _ (((unhide AB)).below (unhide Kv1))).mono ?_
          rintro e v2 ⟨aoB, capB, rfl, ra, kk⟩
          have RBv2 := hide ra
          have MAv2 := hide ((unhide MAv1).below kk)
          have MBv2 := hide ((unhide MBv1).below kk)
          have RAv2 := hide ((unhide RAv1).below kk)
          have Kv2 := hide ((unhide Kv1).trans (Below.le kk (unhide Kv1).size))
          have Zv2 := hide (Nat.le_trans (unhide Zv1) kk.size)
          have CSv2 := hide kk.size
          clear kk MAv1 MBv1 RAv1 Kv1 Zv1
          clear ra
          refine hK _ _ (fun _ => ⟨⟨(unhide MAv2).cell0, (unhide MAv2).cell1⟩, ⟨(unhide MBv2).cell0, (unhide MBv2).cell1⟩⟩) ?_
          clear hK K
          refine plan_two rfl rfl (fun K hK => ?_) (fun K hK => ?_)
          · go_simp
            refine (mul_bad (N) (M) _ _ _ _ _ _ _ (unhide G)).mono ?_
            rintro e v3 ⟨rfl, kk⟩
            have MAv3 := hide ((unhide MAv2).below kk)
            have MBv3 := hide ((unhide MBv2).below kk)
            have RAv3 := hide ((unhide RAv2).below kk)
            have RBv3 := hide ((unhide RBv2).below kk)
            have Kv3 := hide ((unhide Kv2).trans (Below.le kk (unhide Kv2).size))
            have Zv3 := hide (Nat.le_trans (unhide Zv2) kk.size)
            have CSv3 := hide kk.size
            clear kk MAv2 MBv2 RAv2 RBv2 Kv2 Zv2
            refine hK _ _ (fun _ => ⟨⟨(unhide MAv3).cell0, (unhide MAv3).cell1⟩, ⟨(unhide MBv3).cell0, (unhide MBv3).cell1⟩⟩) ?_
            clear hK K
            iterate 4
              refine plan_read (v := ?_) rfl (fun _ _ _ h => h) (by rfl) ⟨⟨(unhide MAv3).cell0, (unhide MAv3).cell1⟩, ⟨(unhide MBv3).cell0, (unhide MBv3).cell1⟩⟩ ?_ ?_
              rotate_left 1
              · intro wx hwx
                obtain ⟨⟨q1, q2⟩, ⟨q3, q4⟩⟩ := hwx
                go_simp <;> exact rfl
              go_frame
            refine plan_do rfl (fun K hK => ?_)
            go_simp
            obtain ⟨v4, ee, mm, kk, ss⟩ := mb_alloc v3 0 (.slice none 0 0)
            rw [← ee]
            have LVv4 := hide mm
            have LLv4 := hide (show v3.heap.size < v4.heap.size by omega)
            have ZL := hide (unhide Zv3)
            clear ee mm ss
            have MAv4 := hide ((unhide MAv3).below kk)
            have MBv4 := hide ((unhide MBv3).below kk)
            have RAv4 := hide ((unhide RAv3).below kk)
            have RBv4 := hide ((unhide RBv3).below kk)
            have Kv4 := hide ((unhide Kv3).trans (Below.le kk (unhide Kv3).size))
            have Zv4 := hide (Nat.le_trans (unhide Zv3) kk.size)
            have CSv4 := hide kk.size
            clear kk MAv3 MBv3 RAv3 RBv3 Kv3 Zv3
            refine hK _ _ (fun _ => ⟨⟨(unhide MAv4).cell0, (unhide MAv4).cell1⟩, ⟨(unhide MBv4).cell0, (unhide MBv4).cell1⟩⟩) ?_
            clear hK K
            generalize v3.heap.size = L at *
            refine plan_do rfl (fun K hK => ?_)
            have z0 := (unhide LVv4).cell0; have z1 := (unhide LVv4).cell1; have f0 := (unhide LVv4).free 0; have f1 := (unhide LVv4).free 1
            go_simp
            obtain ⟨v5, ee, mm, kk⟩ := (unhide LVv4).put (0) (.slice none 0 0)
            rw [← ee]
            have LVv5 := hide mm
            have MAv5 := hide ((unhide MAv4).kept kk (by have := unhide ZL; omega))
            have MBv5 := hide ((unhide MBv4).kept kk (by have := unhide ZL; omega))
            have Kv5 := hide (below_of_kept (unhide Kv4) kk (by have := unhide ZL; omega) (unhide Kv4).size)
            have Zv5 := hide (Nat.le_trans (unhide Zv4) kk.size)
            clear kk
            refine hK _ _ (fun _ => ⟨⟨(unhide MAv5).cell0, (unhide MAv5).cell1⟩, ⟨(unhide MBv5).cell0, (unhide MBv5).cell1⟩⟩) ?_
            clear hK K z0 z1 f0 f1 ee mm
            refine plan_do rfl (fun K hK => ?_)
            go_simp
            refine hK _ _ (fun _ => ⟨⟨(unhide MAv5).cell0, (unhide MAv5).cell1⟩, ⟨(unhide MBv5).cell0, (unhide MBv5).cell1⟩⟩) ?_
            clear hK K
            refine plan_do rfl (fun K hK => ?_)
            go_simp
            refine hK _ _ (fun _ => ⟨⟨(unhide MAv5).cell0, (unhide MAv5).cell1⟩, ⟨(unhide MBv5).cell0, (unhide MBv5).cell1⟩⟩) ?_
            clear hK K
            refine plan_end ?_
            go_wp2_with fail
            go_meet
            exact ⟨L, rfl, rfl, rfl, (unhide LVv5), (unhide MAv5), (unhide MBv5), (unhide Kv5), (unhide Zv5)⟩
          · go_simp
            obtain ⟨v6, ee, mm, kk, ss⟩ := mb_alloc v2 0 (.slice none 0 0)
            rw [← ee]
            have LVv6 := hide mm
            have LLv6 := hide (show v2.heap.size < v6.heap.size by omega)
            have ZL := hide (unhide Zv2)
            clear ee mm ss
            have MAv6 := hide ((unhide MAv2).below kk)
            have MBv6 := hide ((unhide MBv2).below kk)
            have RAv6 := hide ((unhide RAv2).below kk)
            have RBv6 := hide ((unhide RBv2).below kk)
            have Kv6 := hide ((unhide Kv2).trans (Below.le kk (unhide Kv2).size))
            have Zv6 := hide (Nat.le_trans (unhide Zv2) kk.size)
            have CSv6 := hide kk.size
            clear kk MAv2 MBv2 RAv2 RBv2 Kv2 Zv2
            refine hK _ _ (fun _ => ⟨⟨(unhide MAv6).cell0, (unhide MAv6).cell1⟩, ⟨(unhide MBv6).cell0, (unhide MBv6).cell1⟩⟩) ?_
            clear hK K
            generalize v2.heap.size = L at *
            refine plan_do rfl (fun K hK => ?_)
            go_simp
            refine (mul_bad (N) (M) _ _ _ _ _ _ _ (unhide G)).mono ?_
            rintro e v7 ⟨rfl, kk⟩
            have MAv7 := hide ((unhide MAv6).below kk)
            have MBv7 := hide ((unhide MBv6).below kk)
            have RAv7 := hide ((unhide RAv6).below kk)
            have RBv7 := hide ((unhide RBv6).below kk)
            have LVv7 := hide ((unhide LVv6).below kk)
            have Kv7 := hide ((unhide Kv6).trans (Below.le kk (unhide Kv6).size))
            have Zv7 := hide (Nat.le_trans (unhide Zv6) kk.size)
            have CSv7 := hide kk.size
            clear kk MAv6 MBv6 RAv6 RBv6 LVv6 Kv6 Zv6
            refine hK _ _ (fun _ => ⟨⟨(unhide MAv7).cell0, (unhide MAv7).cell1⟩, ⟨(unhide MBv7).cell0, (unhide MBv7).cell1⟩⟩) ?_
            clear hK K
            have LLv7 := hide (Nat.lt_of_lt_of_le (unhide LLv6) (unhide CSv7))
            iterate 4
              refine plan_read (v := ?_) rfl (fun _ _ _ h => h) (by rfl) ⟨⟨(unhide MAv7).cell0, (unhide MAv7).cell1⟩, ⟨(unhide MBv7).cell0, (unhide MBv7).cell1⟩⟩ ?_ ?_
              rotate_left 1
              · intro wx hwx
                obtain ⟨⟨q1, q2⟩, ⟨q3, q4⟩⟩ := hwx
                go_simp <;> exact rfl
              go_frame
            refine plan_do rfl (fun K hK => ?_)
            have z0 := (unhide LVv7).cell0; have z1 := (unhide LVv7).cell1; have f0 := (unhide LVv7).free 0; have f1 := (unhide LVv7).free 1
            go_simp
            obtain ⟨v8, ee, mm, kk⟩ := (unhide LVv7).put (0) (.slice none 0 0)
            rw [← ee]
            have LVv8 := hide mm
            have MAv8 := hide ((unhide MAv7).kept kk (by have := unhide ZL; omega))
            have MBv8 := hide ((unhide MBv7).kept kk (by have := unhide ZL; omega))
            have Kv8 := hide (below_of_kept (unhide Kv7) kk (by have := unhide ZL; omega) (unhide Kv7).size)
            have Zv8 := hide (Nat.le_trans (unhide Zv7) kk.size)
            clear kk
            refine hK _ _ (fun _ => ⟨⟨(unhide MAv8).cell0, (unhide MAv8).cell1⟩, ⟨(unhide MBv8).cell0, (unhide MBv8).cell1⟩⟩) ?_
            clear hK K z0 z1 f0 f1 ee mm
            refine plan_do rfl (fun K hK => ?_)
            go_simp
            refine hK _ _ (fun _ => ⟨⟨(unhide MAv8).cell0, (unhide MAv8).cell1⟩, ⟨(unhide MBv8).cell0, (unhide MBv8).cell1⟩⟩) ?_
            clear hK K
            refine plan_do rfl (fun K hK => ?_)
            go_simp
            refine hK _ _ (fun _ => ⟨⟨(unhide MAv8).cell0, (unhide MAv8).cell1⟩, ⟨(unhide MBv8).cell0, (unhide MBv8).cell1⟩⟩) ?_
            clear hK K
            refine plan_end ?_
            go_wp2_with fail
            go_meet
            exact ⟨L, rfl, rfl, rfl, (unhide LVv8), (unhide MAv8), (unhide MBv8), (unhide Kv8), (unhide Zv8)⟩
        · go_simp
          obtain ⟨v9, ee, mm, kk, ss⟩ := mb_alloc v1 0 (.slice none 0 0)
          rw [← ee]
          have LVv9 := hide mm
          have LLv9 := hide (show v1.heap.size < v9.heap.size by omega)
          have ZL := hide (unhide Zv1)
          clear ee mm ss
          have MAv9 := hide ((unhide MAv1).below kk)
          have MBv9 := hide ((unhide MBv1).below kk)
          have RAv9 := hide ((unhide RAv1).below kk)
          have Kv9 := hide ((unhide Kv1).trans (Below.le kk (unhide Kv1).size))
          have Zv9 := hide (Nat.le_trans (unhide Zv1) kk.size)
          have CSv9 := hide kk.size
          clear kk MAv1 MBv1 RAv1 Kv1 Zv1
          refine hK _ _ (fun _ => ⟨⟨(unhide MAv9).cell0, (unhide MAv9).cell1⟩, ⟨(unhide MBv9).cell0, (unhide MBv9).cell1⟩⟩) ?_
          clear hK K
          generalize v1.heap.size = L at *
          refine plan_do rfl (fun K hK => ?_)
          go_simp
          refine (ownL_any (M) bo l2 c2 g _ (((unhide AB)).below (unhide Kv9))).mono ?_
          rintro e v10 ⟨aoB, capB, rfl, ra, kk⟩
          have RBv10 := hide ra
          have MAv10 := hide ((unhide MAv9).below kk)
          have MBv10 := hide ((unhide MBv9).below kk)
          have RAv10 := hide ((unhide RAv9).below kk)
          have LVv10 := hide ((unhide LVv9).below kk)
          have Kv10 := hide ((unhide Kv9).trans (Below.le kk (unhide Kv9).size))
          have Zv10 := hide (Nat.le_trans (unhide Zv9) kk.size)
          have CSv10 := hide kk.size
          clear kk MAv9 MBv9 RAv9 LVv9 Kv9 Zv9
          clear ra
          refine hK _ _ (fun _ => ⟨⟨(unhide MAv10).cell0, (unhide MAv10).cell1⟩, ⟨(unhide MBv10).cell0, (unhide MBv10).cell1⟩⟩) ?_
          clear hK K
          have LLv10 := hide (Nat.lt_of_lt_of_le (unhide LLv9) (unhide CSv10))
          refine plan_do rfl (fun K hK => ?_)
          go_simp
          refine (mul_bad (N) (M) _ _ _ _ _ _ _ (unhide G)).mono ?_
          rintro e v11 ⟨rfl, kk⟩
          have MAv11 := hide ((unhide MAv10).below kk)
          have MBv11 := hide ((unhide MBv10).below kk)
          have RAv11 := hide ((unhide RAv10).below kk)
          have LVv11 := hide ((unhide LVv10).below kk)
          have RBv11 := hide ((unhide RBv10).below kk)
          have Kv11 := hide ((unhide Kv10).trans (Below.le kk (unhide Kv10).size))
          have Zv11 := hide (Nat.le_trans (unhide Zv10) kk.size)
          have CSv11 := hide kk.size
          clear kk MAv10 MBv10 RAv10 LVv10 RBv10 Kv10 Zv10
          refine hK _ _ (fun _ => ⟨⟨(unhide MAv11).cell0, (unhide MAv11).cell1⟩, ⟨(unhide MBv11).cell0, (unhide MBv11).cell1⟩⟩) ?_
          clear hK K
          have LLv11 := hide (Nat.lt_of_lt_of_le (unhide LLv10) (unhide CSv11))
          iterate 4
            refine plan_read (v := ?_) rfl (fun _ _ _ h => h) (by rfl) ⟨⟨(unhide MAv11).cell0, (unhide MAv11).cell1⟩, ⟨(unhide MBv11).cell0, (unhide MBv11).cell1⟩⟩ ?_ ?_
            rotate_left 1
            · intro wx hwx
              obtain ⟨⟨q1, q2⟩, ⟨q3, q4⟩⟩ := hwx
              go_simp <;> exact rfl
            go_frame
          refine plan_do rfl (fun K hK => ?_)
          have z0 := (unhide LVv11).cell0; have z1 := (unhide LVv11).cell1; have f0 := (unhide LVv11).free 0; have f1 := (unhide LVv11).free 1
          go_simp
          obtain ⟨v12, ee, mm, kk⟩ := (unhide LVv11).put (0) (.slice none 0 0)
          rw [← ee]
          have LVv12 := hide mm
          have MAv12 := hide ((unhide MAv11).kept kk (by have := unhide ZL; omega))
          have MBv12 := hide ((unhide MBv11).kept kk (by have := unhide ZL; omega))
          have Kv12 := hide (below_of_kept (unhide Kv11) kk (by have := unhide ZL; omega) (unhide Kv11).size)
          have Zv12 := hide (Nat.le_trans (unhide Zv11) kk.size)
          clear kk
          refine hK _ _ (fun _ => ⟨⟨(unhide MAv12).cell0, (unhide MAv12).cell1⟩, ⟨(unhide MBv12).cell0, (unhide MBv12).cell1⟩⟩) ?_
          clear hK K z0 z1 f0 f1 ee mm
          refine plan_do rfl (fun K hK => ?_)
          go_simp
          refine hK _ _ (fun _ => ⟨⟨(unhide MAv12).cell0, (unhide MAv12).cell1⟩, ⟨(unhide MBv12).cell0, (unhide MBv12).cell1⟩⟩) ?_
          clear hK K
          refine plan_do rfl (fun K hK => ?_)
          go_simp
          refine hK _ _ (fun _ => ⟨⟨(unhide MAv12).cell0, (unhide MAv12).cell1⟩, ⟨(unhide MBv12).cell0, (unhide MBv12).cell1⟩⟩) ?_
          clear hK K
          refine plan_end ?_
          go_wp2_with fail
          go_meet
          exact ⟨L, rfl, rfl, rfl, (unhide LVv12), (unhide MAv12), (unhide MBv12), (unhide Kv12), (unhide Zv12)⟩
      · go_simp
        obtain ⟨v13, ee, mm, kk, ss⟩ := mb_alloc u0 0 (.slice none 0 0)
        rw [← ee]
        have LVv13 := hide mm
        have LLv13 := hide (show u0.heap.size < v13.heap.size by omega)
        have ZL := hide (unhide Zu0)
        clear ee mm ss
        have MAv13 := hide ((unhide MAu0).below kk)
        have MBv13 := hide ((unhide MBu0).below kk)
        have Kv13 := hide ((unhide Ku0).trans (Below.le kk (unhide Ku0).size))
        have Zv13 := hide (Nat.le_trans (unhide Zu0) kk.size)
        have CSv13 := hide kk.size
        clear kk MAu0 MBu0 Ku0 Zu0
        refine hK _ _ (fun _ => ⟨⟨(unhide MAv13).cell0, (unhide MAv13).cell1⟩, ⟨(unhide MBv13).cell0, (unhide MBv13).cell1⟩⟩) ?_
        clear hK K
        generalize u0.heap.size = L at *
        refine plan_do rfl (fun K hK => ?_)
        go_simp
        refine (ownL_any (N) ao len cap f _ (((unhide AA)).below (unhide Kv13))).mono ?_
        rintro e v14 ⟨aoA, capA, rfl, ra, kk⟩
        have RAv14 := hide ra
        have MAv14 := hide ((unhide MAv13).below kk)
        have MBv14 := hide ((unhide MBv13).below kk)
        have LVv14 := hide ((unhide LVv13).below kk)
        have Kv14 := hide ((unhide Kv13).trans (Below.le kk (unhide Kv13).size))
        have Zv14 := hide (Nat.le_trans (unhide Zv13) kk.size)
        have CSv14 := hide kk.size
        clear kk MAv13 MBv13 LVv13 Kv13 Zv13
        clear ra
        refine hK _ _ (fun _ => ⟨⟨(unhide MAv14).cell0, (unhide MAv14).cell1⟩, ⟨(unhide MBv14).cell0, (unhide MBv14).cell1⟩⟩) ?_
        clear hK K
        have LLv14 := hide (Nat.lt_of_lt_of_le (unhide LLv13) (unhide CSv14))
        refine plan_do rfl (fun K hK => ?_)
        go_simp
        refine (ownL_any (M) bo l2 c2 g _ (((unhide AB)).below (unhide Kv14))).mono ?_
        rintro e v15 ⟨aoB, capB, rfl, ra, kk⟩
        have RBv15 := hide ra
        have MAv15 := hide ((unhide MAv14).below kk)
        have MBv15 := hide ((unhide MBv14).below kk)
        have LVv15 := hide ((unhide LVv14).below kk)
        have RAv15 := hide ((unhide RAv14).below kk)
        have Kv15 := hide ((unhide Kv14).trans (Below.le kk (unhide Kv14).size))
        have Zv15 := hide (Nat.le_trans (unhide Zv14) kk.size)
        have CSv15 := hide kk.size
        clear kk MAv14 MBv14 LVv14 RAv14 Kv14 Zv14
        clear ra
        refine hK _ _ (fun _ => ⟨⟨(unhide MAv15).cell0, (unhide MAv15).cell1⟩, ⟨(unhide MBv15).cell0, (unhide MBv15).cell1⟩⟩) ?_
        clear hK K
        have LLv15 := hide (Nat.lt_of_lt_of_le (unhide LLv14) (unhide CSv15))
        refine plan_do rfl (fun K hK => ?_)
        go_simp
        refine (mul_bad (N) (M) _ _ _ _ _ _ _ (unhide G)).mono ?_
        rintro e v16 ⟨rfl, kk⟩
        have MAv16 := hide ((unhide MAv15).below kk)
        have MBv16 := hide ((unhide MBv15).below kk)
        have LVv16 := hide ((unhide LVv15).below kk)
        have RAv16 := hide ((unhide RAv15).below kk)
        have RBv16 := hide ((unhide RBv15).below kk)
        have Kv16 := hide ((unhide Kv15).trans (Below.le kk (unhide Kv15).size))
        have Zv16 := hide (Nat.le_trans (unhide Zv15) kk.size)
        have CSv16 := hide kk.size
        clear kk MAv15 MBv15 LVv15 RAv15 RBv15 Kv15 Zv15
        refine hK _ _ (fun _ => ⟨⟨(unhide MAv16).cell0, (unhide MAv16).cell1⟩, ⟨(unhide MBv16).cell0, (unhide MBv16).cell1⟩⟩) ?_
        clear hK K
        have LLv16 := hide (Nat.lt_of_lt_of_le (unhide LLv15) (unhide CSv16))
        iterate 4
          refine plan_read (v := ?_) rfl (fun _ _ _ h => h) (by rfl) ⟨⟨(unhide MAv16).cell0, (unhide MAv16).cell1⟩, ⟨(unhide MBv16).cell0, (unhide MBv16).cell1⟩⟩ ?_ ?_
          rotate_left 1
          · intro wx hwx
            obtain ⟨⟨q1, q2⟩, ⟨q3, q4⟩⟩ := hwx
            go_simp <;> exact rfl
          go_frame
        refine plan_do rfl (fun K hK => ?_)
        have z0 := (unhide LVv16).cell0; have z1 := (unhide LVv16).cell1; have f0 := (unhide LVv16).free 0; have f1 := (unhide LVv16).free 1
        go_simp
        obtain ⟨v17, ee, mm, kk⟩ := (unhide LVv16).put (0) (.slice none 0 0)
        rw [← ee]
        have LVv17 := hide mm
        have MAv17 := hide ((unhide MAv16).kept kk (by have := unhide ZL; omega))
        have MBv17 := hide ((unhide MBv16).kept kk (by have := unhide ZL; omega))
        have Kv17 := hide (below_of_kept (unhide Kv16) kk (by have := unhide ZL; omega) (unhide Kv16).size)
        have Zv17 := hide (Nat.le_trans (unhide Zv16) kk.size)
        clear kk
        refine hK _ _ (fun _ => ⟨⟨(unhide MAv17).cell0, (unhide MAv17).cell1⟩, ⟨(unhide MBv17).cell0, (unhide MBv17).cell1⟩⟩) ?_
        clear hK K z0 z1 f0 f1 ee mm
        refine plan_do rfl (fun K hK => ?_)
        go_simp
        refine hK _ _ (fun _ => ⟨⟨(unhide MAv17).cell0, (unhide MAv17).cell1⟩, ⟨(unhide MBv17).cell0, (unhide MBv17).cell1⟩⟩) ?_
        clear hK K
        refine plan_do rfl (fun K hK => ?_)
        go_simp
        refine hK _ _ (fun _ => ⟨⟨(unhide MAv17).cell0, (unhide MAv17).cell1⟩, ⟨(unhide MBv17).cell0, (unhide MBv17).cell1⟩⟩) ?_
        clear hK K
        refine plan_end ?_
        go_wp2_with fail
        go_meet
        exact ⟨L, rfl, rfl, rfl, (unhide LVv17), (unhide MAv17), (unhide MBv17), (unhide Kv17), (unhide Zv17)⟩
    case rest =>
      obtain ⟨L, rfl, rfl, rfl, lv, ma, mb, kc, zc⟩ := hcut
      have LVwc := hide lv; have MAwc := hide ma; have MBwc := hide mb; have Kwc := hide kc; have Zwc := hide zc
      clear lv ma mb kc zc MAw1 MBw1 Kw1 Zw1 E1
      have MAx := (unhide MAwc).cell0; have MAy := (unhide MAwc).cell1; have MAl := (unhide MAwc).lt
      have MBx := (unhide MBwc).cell0; have MBy := (unhide MBwc).cell1; have MBl := (unhide MBwc).lt
      go_wp2_with fail
      clear MAx MAy MAl MBx MBy MBl
      refine (refMul_bad N M _ _ _ _ _ _ _ (unhide G)).mono ?_
      rintro e v18 ⟨rfl, kk⟩
      have LVv18 := hide ((unhide LVwc).below kk)
      have MAv18 := hide ((unhide MAwc).below kk)
      have MBv18 := hide ((unhide MBwc).below kk)
      have Kv18 := hide ((unhide Kwc).trans (Below.le kk (unhide Kwc).size))
      have Zv18 := hide (Nat.le_trans (unhide Zwc) kk.size)
      have CSv18 := hide kk.size
      clear kk LVwc MAwc MBwc Kwc Zwc
      go_wp2_with fail
      obtain ⟨v19, ee, mm, kk, ss⟩ := mb_alloc v18 (0) (.slice none 0 0)
      have Ev19 := hide ee
      have VBv19 := hide mm
      clear ee mm ss
      have LVv19 := hide ((unhide LVv18).below kk)
      have MAv19 := hide ((unhide MAv18).below kk)
      have MBv19 := hide ((unhide MBv18).below kk)
      have Kv19 := hide ((unhide Kv18).trans (Below.le kk (unhide Kv18).size))
      have Zv19 := hide (Nat.le_trans (unhide Zv18) kk.size)
      have CSv19 := hide kk.size
      clear kk LVv18 MAv18 MBv18 Kv18 Zv18
      rw [← unhide Ev19]
      refine (least_any 7 (by unfold R64; omega) _).mono ?_
      rintro e v20 ⟨mX, rlX, emX, rfl, nl, _, kk⟩
      have NLXv20 := hide nl
      have LVv20 := hide ((unhide LVv19).below kk)
      have MAv20 := hide ((unhide MAv19).below kk)
      have MBv20 := hide ((unhide MBv19).below kk)
      have VBv20 := hide ((unhide VBv19).below kk)
      have Kv20 := hide ((unhide Kv19).trans (Below.le kk (unhide Kv19).size))
      have Zv20 := hide (Nat.le_trans (unhide Zv19) kk.size)
      have CSv20 := hide kk.size
      clear kk LVv19 MAv19 MBv19 VBv19 Kv19 Zv19
      clear nl
      have EMX := hide emX
      clear emX
      go_wp2_with fail
      refine (least_any 4294967296 (by unfold R64; omega) _).mono ?_
      rintro e v21 ⟨mY, rlY, emY, rfl, nl, _, kk⟩
      have NLYv21 := hide nl
      have LVv21 := hide ((unhide LVv20).below kk)
      have MAv21 := hide ((unhide MAv20).below kk)
      have MBv21 := hide ((unhide MBv20).below kk)
      have VBv21 := hide ((unhide VBv20).below kk)
      have NLXv21 := hide ((unhide NLXv20).below kk)
      have Kv21 := hide ((unhide Kv20).trans (Below.le kk (unhide Kv20).size))
      have Zv21 := hide (Nat.le_trans (unhide Zv20) kk.size)
      have CSv21 := hide kk.size
      clear kk LVv20 MAv20 MBv20 VBv20 NLXv20 Kv20 Zv20
      clear nl
      have EMY := hide emY
      clear emY
      go_wp2_with fail
      obtain rfl : mY = mX := (unhide EMY).trans (unhide EMX).symm
      refine (mul_good mY _ _ _ _ (fun _ => 7) (fun _ => 4294967296) _ (by have := unhide EMY; omega) (by have := unhide EMY; omega) (fun _ => by unfold R64; omega) (fun _ => by unfold R64; omega) (unhide NLXv21).rds (unhide NLYv21).rds).mono ?_
      rintro e v22 ⟨rX, cX, hX, rfl, hr, nn, rg, tt, kk⟩
      have NXv22 := hide nn
      have LVv22 := hide ((unhide LVv21).below kk)
      have MAv22 := hide ((unhide MAv21).below kk)
      have MBv22 := hide ((unhide MBv21).below kk)
      have VBv22 := hide ((unhide VBv21).below kk)
      have NLXv22 := hide ((unhide NLXv21).below kk)
      have NLYv22 := hide ((unhide NLYv21).below kk)
      have Kv22 := hide ((unhide Kv21).trans (Below.le kk (unhide Kv21).size))
      have Zv22 := hide (Nat.le_trans (unhide Zv21) kk.size)
      have CSv22 := hide kk.size
      clear kk LVv21 MAv21 MBv21 VBv21 NLXv21 NLYv21 Kv21 Zv21
      clear hr nn rg tt
      have LVx := (unhide LVv22).cell0; have LVy := (unhide LVv22).cell1; have LVl := (unhide LVv22).lt
      have VBx := (unhide VBv22).cell0; have VBy := (unhide VBv22).cell1; have VBl := (unhide VBv22).lt
      go_wp2_with fail
      clear LVx LVy LVl VBx VBy VBl
      obtain ⟨v23, ee, mm, kk, ss⟩ := mb_alloc v22 ((mY : Int)) (.slice (some ⟨rX, 0, none⟩) (mY * mY) cX)
      have Ev23 := hide ee
      have VXv23 := hide mm
      clear ee mm ss
      have LVv23 := hide ((unhide LVv22).below kk)
      have MAv23 := hide ((unhide MAv22).below kk)
      have MBv23 := hide ((unhide MBv22).below kk)
      have VBv23 := hide ((unhide VBv22).below kk)
      have NLXv23 := hide ((unhide NLXv22).below kk)
      have NLYv23 := hide ((unhide NLYv22).below kk)
      have NXv23 := hide ((unhide NXv22).below kk)
      have Kv23 := hide ((unhide Kv22).trans (Below.le kk (unhide Kv22).size))
      have Zv23 := hide (Nat.le_trans (unhide Zv22) kk.size)
      have CSv23 := hide kk.size
      clear kk LVv22 MAv22 MBv22 VBv22 NLXv22 NLYv22 NXv22 Kv22 Zv22
      rw [← unhide Ev23]
      refine (sameMat_yes 0 none none 0 0 0 (fun _ => 0) (fun _ => 0) _ (by decide) (fun h => absurd h (by omega)) (fun h => absurd h (by omega)) (fun i hi => rfl)).mono ?_
      rintro e v24 ⟨rfl, kk⟩
      have LVv24 := hide ((unhide LVv23).below kk)
      have MAv24 := hide ((unhide MAv23).below kk)
      have MBv24 := hide ((unhide MBv23).below kk)
      have VBv24 := hide ((unhide VBv23).below kk)
      have NLXv24 := hide ((unhide NLXv23).below kk)
      have NLYv24 := hide ((unhide NLYv23).below kk)
      have NXv24 := hide ((unhide NXv23).below kk)
      have VXv24 := hide ((unhide VXv23).below kk)
      have Kv24 := hide ((unhide Kv23).trans (Below.le kk (unhide Kv23).size))
      have Zv24 := hide (Nat.le_trans (unhide Zv23) kk.size)
      have CSv24 := hide kk.size
      clear kk LVv23 MAv23 MBv23 VBv23 NLXv23 NLYv23 NXv23 VXv23 Kv23 Zv23
      have tx : ((mY : Int) == 1) = true := by rw [unhide EMY]; rfl
      have VXx := (unhide VXv24).cell0; have VXy := (unhide VXv24).cell1; have VXl := (unhide VXv24).lt
      go_wp2_with fail
      go_ret
      exact ⟨rfl, (unhide Kv24)⟩
  · obtain ⟨n, h1, h6, rfl, rfl, rfl, rfl⟩ := goodP_of hg
    have H1 := hide h1; have H6 := hide h6; have h36 := hide (sq_le h6)
    clear hg h1 h6
    go_enter Try.func5, Try.ntmps5
    go_upto_region 1 with fail
    rw [← unhide E1]
    go_cut [5, 6, 7] (fun s5 s6 s7 wx => ∃ (L r c : Nat) (h : Nat → Int), s5 = .pointer (some ⟨L, 0, none⟩) ∧ s6 = .bool (mulB n f g) ∧ s7 = .int .i64 0 ∧ MbAt wx L (n : Int) (.slice (some ⟨r, 0, none⟩) (n * n) c) ∧ Nh wx r (n * n) c h ∧ (∀ i, R64 (h i)) ∧ IsMul n f g h ∧ MbAt wx w.heap.size (n : Int) (.slice ao (n * n) cap) ∧ MbAt wx (w.heap.size + 1) (n : Int) (.slice bo (n * n) c2) ∧ Below w.heap.size w wx ∧ w.heap.size + 1 + 1 ≤ wx.heap.size)
    case first =>
      refine region_plan (S := Cl4 w.heap.size (w.heap.size + 1) (.int .i64 (n)) (.slice ao (n * n) cap) (.int .i64 (n)) (.slice bo (n * n) c2)) (.rd 0 (.rd 2 (.two 1 9 (.two 3 9 (.two 4 9 (.rd 5 (.rd 6 (.rd 7 (.rd 8 (.go 9 (.go 10 (.go 11 (.go 12 .fin)))))))) (.go 4 (.rd 5 (.rd 6 (.rd 7 (.rd 8 (.go 10 (.go 11 (.go 12 .fin))))))))) (.go 3 (.go 4 (.rd 5 (.rd 6 (.rd 7 (.rd 8 (.go 10 (.go 11 (.go 12 .fin)))))))))) (.go 1 (.go 3 (.go 4 (.rd 5 (.rd 6 (.rd 7 (.rd 8 (.go 10 (.go 11 (.go 12 .fin))))))))))))) [] (by kernel_rfl) (by kernel_rfl) ?_
      have MAu0 := hide (show MbAt w1.drew _ _ _ from unhide MAw1); have MBu0 := hide (show MbAt w1.drew _ _ _ from unhide MBw1); have Ku0 := hide (below_drew (unhide Kw1)); have Zu0 := hide (show w.heap.size + 1 + 1 ≤ w1.drew.heap.size from unhide Zw1)
      clear E1 MAw1 MBw1 Kw1 Zw1
      generalize w1.drew = u0 at *
      iterate 2
        refine plan_read (v := ?_) rfl (fun _ _ _ h => h) (by rfl) ⟨⟨(unhide MAu0).cell0, (unhide MAu0).cell1⟩, ⟨(unhide MBu0).cell0, (unhide MBu0).cell1⟩⟩ ?_ ?_
        rotate_left 1
        · intro wx hwx
          obtain ⟨⟨q1, q2⟩, ⟨q3, q4⟩⟩ := hwx
          go_simp <;> exact rfl
        go_frame
      refine plan_two rfl rfl (fun K hK => ?_) (fun K hK => ?_)
      · go_simp
        refine (ownL_any (n) ao (n * n) cap f _ (((unhide AA)).below (unhide Ku0))).mono ?_
        rintro e v25 ⟨aoA, capA, rfl, ra, kk⟩
        have RAv25 := hide ra
        have MAv25 := hide ((unhide MAu0).below kk)
        have MBv25 := hide ((unhide MBu0).below kk)
        have Kv25 := hide ((unhide Ku0).trans (Below.le kk (unhide Ku0).size))
        have Zv25 := hide (Nat.le_trans (unhide Zu0) kk.size)
        have CSv25 := hide kk.size
        clear kk MAu0 MBu0 Ku0 Zu0
        clear ra
        refine hK _ _ (fun _ => ⟨⟨(unhide MAv25).cell0, (unhide MAv25).cell1⟩, ⟨(unhide MBv25).cell0, (unhide MBv25).cell1⟩⟩) ?_
        clear hK K
        refine plan_two rfl rfl (fun K hK => ?_) (fun K hK => ?_)
        · go_simp
          refine (ownL_any (n) bo (n * n) c2 g _ (((unhide AB)).below (unhide Kv25))).mono ?_
          rintro e v26 ⟨aoB, capB, rfl, ra, kk⟩
          have RBv26 := hide ra
          have MAv26 := hide ((unhide MAv25).below kk)
          have MBv26 := hide ((unhide MBv25).below kk)
          have RAv26 := hide ((unhide RAv25).below kk)
          have Kv26 := hide ((unhide Kv25).trans (Below.le kk (unhide Kv25).size))
          have Zv26 := hide (Nat.le_trans (unhide Zv25) kk.size)
          have CSv26 := hide kk.size
          clear kk MAv25 MBv25 RAv25 Kv25 Zv25
          clear ra
          refine hK _ _ (fun _ => ⟨⟨(unhide MAv26).cell0, (unhide MAv26).cell1⟩, ⟨(unhide MBv26).cell0, (unhide MBv26).cell1⟩⟩) ?_
          clear hK K
          refine plan_two rfl rfl (fun K hK => ?_) (fun K hK => ?_)
          · go_simp
            refine (mul_good n _ _ _ _ f g _ (unhide H1) (unhide H6) (unhide RF) (unhide RG) (unhide RAv26) (unhide RBv26)).mono ?_
            rintro e v27 ⟨r, c, h, rfl, hr, nm, rh, im, kk⟩
            have NMv27 := hide nm
            have MAv27 := hide ((unhide MAv26).below kk)
            have MBv27 := hide ((unhide MBv26).below kk)
            have RAv27 := hide ((unhide RAv26).below kk)
            have RBv27 := hide ((unhide RBv26).below kk)
            have Kv27 := hide ((unhide Kv26).trans (Below.le kk (unhide Kv26).size))
            have Zv27 := hide (Nat.le_trans (unhide Zv26) kk.size)
            have CSv27 := hide kk.size
            clear kk MAv26 MBv26 RAv26 RBv26 Kv26 Zv26
            have RH := hide rh; have IM := hide im
            clear hr nm rh im
            refine hK _ _ (fun _ => ⟨⟨(unhide MAv27).cell0, (unhide MAv27).cell1⟩, ⟨(unhide MBv27).cell0, (unhide MBv27).cell1⟩⟩) ?_
            clear hK K
            iterate 4
              refine plan_read (v := ?_) rfl (fun _ _ _ h => h) (by rfl) ⟨⟨(unhide MAv27).cell0, (unhide MAv27).cell1⟩, ⟨(unhide MBv27).cell0, (unhide MBv27).cell1⟩⟩ ?_ ?_
              rotate_left 1
              · intro wx hwx
                obtain ⟨⟨q1, q2⟩, ⟨q3, q4⟩⟩ := hwx
                go_simp <;> exact rfl
              go_frame
            refine plan_do rfl (fun K hK => ?_)
            go_simp
            obtain ⟨v28, ee, mm, kk, ss⟩ := mb_alloc v27 0 (.slice none 0 0)
            rw [← ee]
            have LVv28 := hide mm
            have LLv28 := hide (show v27.heap.size < v28.heap.size by omega)
            have ZL := hide (unhide Zv27)
            have NL := hide (Nat.ne_of_lt (unhide NMv27).lt)
            clear ee mm ss
            have MAv28 := hide ((unhide MAv27).below kk)
            have MBv28 := hide ((unhide MBv27).below kk)
            have RAv28 := hide ((unhide RAv27).below kk)
            have RBv28 := hide ((unhide RBv27).below kk)
            have NMv28 := hide ((unhide NMv27).below kk)
            have Kv28 := hide ((unhide Kv27).trans (Below.le kk (unhide Kv27).size))
            have Zv28 := hide (Nat.le_trans (unhide Zv27) kk.size)
            have CSv28 := hide kk.size
            clear kk MAv27 MBv27 RAv27 RBv27 NMv27 Kv27 Zv27
            refine hK _ _ (fun _ => ⟨⟨(unhide MAv28).cell0, (unhide MAv28).cell1⟩, ⟨(unhide MBv28).cell0, (unhide MBv28).cell1⟩⟩) ?_
            clear hK K
            generalize v27.heap.size = L at *
            refine plan_do rfl (fun K hK => ?_)
            have z0 := (unhide LVv28).cell0; have z1 := (unhide LVv28).cell1; have f0 := (unhide LVv28).free 0; have f1 := (unhide LVv28).free 1
            go_simp
            obtain ⟨v29, ee, mm, kk⟩ := (unhide LVv28).put (n) (.slice (some ⟨r, 0, none⟩) (n * n) c)
            rw [← ee]
            have LVv29 := hide mm
            have MAv29 := hide ((unhide MAv28).kept kk (by have := unhide ZL; omega))
            have MBv29 := hide ((unhide MBv28).kept kk (by have := unhide ZL; omega))
            have NMv29 := hide ((unhide NMv28).kept kk (unhide NL))
            have Kv29 := hide (below_of_kept (unhide Kv28) kk (by have := unhide ZL; omega) (unhide Kv28).size)
            have Zv29 := hide (Nat.le_trans (unhide Zv28) kk.size)
            clear kk
            refine hK _ _ (fun _ => ⟨⟨(unhide MAv29).cell0, (unhide MAv29).cell1⟩, ⟨(unhide MBv29).cell0, (unhide MBv29).cell1⟩⟩) ?_
            clear hK K z0 z1 f0 f1 ee mm
            refine plan_do rfl (fun K hK => ?_)
            go_simp
            refine hK _ _ (fun _ => ⟨⟨(unhide MAv29).cell0, (unhide MAv29).cell1⟩, ⟨(unhide MBv29).cell0, (unhide MBv29).cell1⟩⟩) ?_
            clear hK K
            refine plan_do rfl (fun K hK => ?_)
            go_simp
            refine hK _ _ (fun _ => ⟨⟨(unhide MAv29).cell0, (unhide MAv29).cell1⟩, ⟨(unhide MBv29).cell0, (unhide MBv29).cell1⟩⟩) ?_
            clear hK K
            refine plan_end ?_
            go_wp2_with fail
            go_meet
            exact ⟨L, r, c, h, rfl, rfl, rfl, (unhide LVv29), (unhide NMv29), unhide RH, unhide IM, (unhide MAv29), (unhide MBv29), (unhide Kv29), (unhide Zv29)⟩
          · go_simp
            obtain ⟨v30, ee, mm, kk, ss⟩ := mb_alloc v26 0 (.slice none 0 0)
            rw [← ee]
            have LVv30 := hide mm
            have LLv30 := hide (show v26.heap.size < v30.heap.size by omega)
            have ZL := hide (unhide Zv26)
            clear ee mm ss
            have MAv30 := hide ((unhide MAv26).below kk)
            have MBv30 := hide ((unhide MBv26).below kk)
            have RAv30 := hide ((unhide RAv26).below kk)
            have RBv30 := hide ((unhide RBv26).below kk)
            have Kv30 := hide ((unhide Kv26).trans (Below.le kk (unhide Kv26).size))
            have Zv30 := hide (Nat.le_trans (unhide Zv26) kk.size)
            have CSv30 := hide kk.size
            clear kk MAv26 MBv26 RAv26 RBv26 Kv26 Zv26
            refine hK _ _ (fun _ => ⟨⟨(unhide MAv30).cell0, (unhide MAv30).cell1⟩, ⟨(unhide MBv30).cell0, (unhide MBv30).cell1⟩⟩) ?_
            clear hK K
            generalize v26.heap.size = L at *
            refine plan_do rfl (fun K hK => ?_)
            go_simp
            refine (mul_good n _ _ _ _ f g _ (unhide H1) (unhide H6) (unhide RF) (unhide RG) (unhide RAv30) (unhide RBv30)).mono ?_
            rintro e v31 ⟨r, c, h, rfl, hr, nm, rh, im, kk⟩
            have NL := hide (show r ≠ L by have := unhide LLv30; omega)
            have NMv31 := hide nm
            have MAv31 := hide ((unhide MAv30).below kk)
            have MBv31 := hide ((unhide MBv30).below kk)
            have RAv31 := hide ((unhide RAv30).below kk)
            have RBv31 := hide ((unhide RBv30).below kk)
            have LVv31 := hide ((unhide LVv30).below kk)
            have Kv31 := hide ((unhide Kv30).trans (Below.le kk (unhide Kv30).size))
            have Zv31 := hide (Nat.le_trans (unhide Zv30) kk.size)
            have CSv31 := hide kk.size
            clear kk MAv30 MBv30 RAv30 RBv30 LVv30 Kv30 Zv30
            have RH := hide rh; have IM := hide im
            clear hr nm rh im
            refine hK _ _ (fun _ => ⟨⟨(unhide MAv31).cell0, (unhide MAv31).cell1⟩, ⟨(unhide MBv31).cell0, (unhide MBv31).cell1⟩⟩) ?_
            clear hK K
            have LLv31 := hide (Nat.lt_of_lt_of_le (unhide LLv30) (unhide CSv31))
            iterate 4
              refine plan_read (v := ?_) rfl (fun _ _ _ h => h) (by rfl) ⟨⟨(unhide MAv31).cell0, (unhide MAv31).cell1⟩, ⟨(unhide MBv31).cell0, (unhide MBv31).cell1⟩⟩ ?_ ?_
              rotate_left 1
              · intro wx hwx
                obtain ⟨⟨q1, q2⟩, ⟨q3, q4⟩⟩ := hwx
                go_simp <;> exact rfl
              go_frame
            refine plan_do rfl (fun K hK => ?_)
            have z0 := (unhide LVv31).cell0; have z1 := (unhide LVv31).cell1; have f0 := (unhide LVv31).free 0; have f1 := (unhide LVv31).free 1
            go_simp
            obtain ⟨v32, ee, mm, kk⟩ := (unhide LVv31).put (n) (.slice (some ⟨r, 0, none⟩) (n * n) c)
            rw [← ee]
            have LVv32 := hide mm
            have MAv32 := hide ((unhide MAv31).kept kk (by have := unhide ZL; omega))
            have MBv32 := hide ((unhide MBv31).kept kk (by have := unhide ZL; omega))
            have NMv32 := hide ((unhide NMv31).kept kk (unhide NL))
            have Kv32 := hide (below_of_kept (unhide Kv31) kk (by have := unhide ZL; omega) (unhide Kv31).size)
            have Zv32 := hide (Nat.le_trans (unhide Zv31) kk.size)
            clear kk
            refine hK _ _ (fun _ => ⟨⟨(unhide MAv32).cell0, (unhide MAv32).cell1⟩, ⟨(unhide MBv32).cell0, (unhide MBv32).cell1⟩⟩) ?_
            clear hK K z0 z1 f0 f1 ee mm
            refine plan_do rfl (fun K hK => ?_)
            go_simp
            refine hK _ _ (fun _ => ⟨⟨(unhide MAv32).cell0, (unhide MAv32).cell1⟩, ⟨(unhide MBv32).cell0, (unhide MBv32).cell1⟩⟩) ?_
            clear hK K
            refine plan_do rfl (fun K hK => ?_)
            go_simp
            refine hK _ _ (fun _ => ⟨⟨(unhide MAv32).cell0, (unhide MAv32).cell1⟩, ⟨(unhide MBv32).cell0, (unhide MBv32).cell1⟩⟩) ?_
            clear hK K
            refine plan_end ?_
            go_wp2_with fail
            go_meet
            exact ⟨L, r, c, h, rfl, rfl, rfl, (unhide LVv32), (unhide NMv32), unhide RH, unhide IM, (unhide MAv32), (unhide MBv32), (unhide Kv32), (unhide Zv32)⟩
        · go_simp
          obtain ⟨v33, ee, mm, kk, ss⟩ := mb_alloc v25 0 (.slice none 0 0)
          rw [← ee]
          have LVv33 := hide mm
          have LLv33 := hide (show v25.heap.size < v33.heap.size by omega)
          have ZL := hide (unhide Zv25)
          clear ee mm ss
          have MAv33 := hide ((unhide MAv25).below kk)
          have MBv33 := hide ((unhide MBv25).below kk)
          have RAv33 := hide ((unhide RAv25).below kk)
          have Kv33 := hide ((unhide Kv25).trans (Below.le kk (unhide Kv25).size))
          have Zv33 := hide (Nat.le_trans (unhide Zv25) kk.size)
          have CSv33 := hide kk.size
          clear kk MAv25 MBv25 RAv25 Kv25 Zv25
          refine hK _ _ (fun _ => ⟨⟨(unhide MAv33).cell0, (unhide MAv33).cell1⟩, ⟨(unhide MBv33).cell0, (unhide MBv33).cell1⟩⟩) ?_
          clear hK K
          generalize v25.heap.size = L at *
          refine plan_do rfl (fun K hK => ?_)
          go_simp
          refine (ownL_any (n) bo (n * n) c2 g _ (((unhide AB)).below (unhide Kv33))).mono ?_
          rintro e v34 ⟨aoB, capB, rfl, ra, kk⟩
          have RBv34 := hide ra
          have MAv34 := hide ((unhide MAv33).below kk)
          have MBv34 := hide ((unhide MBv33).below kk)
          have RAv34 := hide ((unhide RAv33).below kk)
          have LVv34 := hide ((unhide LVv33).below kk)
          have Kv34 := hide ((unhide Kv33).trans (Below.le kk (unhide Kv33).size))
          have Zv34 := hide (Nat.le_trans (unhide Zv33) kk.size)
          have CSv34 := hide kk.size
          clear kk MAv33 MBv33 RAv33 LVv33 Kv33 Zv33
          clear ra
          refine hK _ _ (fun _ => ⟨⟨(unhide MAv34).cell0, (unhide MAv34).cell1⟩, ⟨(unhide MBv34).cell0, (unhide MBv34).cell1⟩⟩) ?_
          clear hK K
          have LLv34 := hide (Nat.lt_of_lt_of_le (unhide LLv33) (unhide CSv34))
          refine plan_do rfl (fun K hK => ?_)
          go_simp
          refine (mul_good n _ _ _ _ f g _ (unhide H1) (unhide H6) (unhide RF) (unhide RG) (unhide RAv34) (unhide RBv34)).mono ?_
          rintro e v35 ⟨r, c, h, rfl, hr, nm, rh, im, kk⟩
          have NL := hide (show r ≠ L by have := unhide LLv34; omega)
          have NMv35 := hide nm
          have MAv35 := hide ((unhide MAv34).below kk)
          have MBv35 := hide ((unhide MBv34).below kk)
          have RAv35 := hide ((unhide RAv34).below kk)
          have LVv35 := hide ((unhide LVv34).below kk)
          have RBv35 := hide ((unhide RBv34).below kk)
          have Kv35 := hide ((unhide Kv34).trans (Below.le kk (unhide Kv34).size))
          have Zv35 := hide (Nat.le_trans (unhide Zv34) kk.size)
          have CSv35 := hide kk.size
          clear kk MAv34 MBv34 RAv34 LVv34 RBv34 Kv34 Zv34
          have RH := hide rh; have IM := hide im
          clear hr nm rh im
          refine hK _ _ (fun _ => ⟨⟨(unhide MAv35).cell0, (unhide MAv35).cell1⟩, ⟨(unhide MBv35).cell0, (unhide MBv35).cell1⟩⟩) ?_
          clear hK K
          have LLv35 := hide (Nat.lt_of_lt_of_le (unhide LLv34) (unhide CSv35))
          iterate 4
            refine plan_read (v := ?_) rfl (fun _ _ _ h => h) (by rfl) ⟨⟨(unhide MAv35).cell0, (unhide MAv35).cell1⟩, ⟨(unhide MBv35).cell0, (unhide MBv35).cell1⟩⟩ ?_ ?_
            rotate_left 1
            · intro wx hwx
              obtain ⟨⟨q1, q2⟩, ⟨q3, q4⟩⟩ := hwx
              go_simp <;> exact rfl
            go_frame
          refine plan_do rfl (fun K hK => ?_)
          have z0 := (unhide LVv35).cell0; have z1 := (unhide LVv35).cell1; have f0 := (unhide LVv35).free 0; have f1 := (unhide LVv35).free 1
          go_simp
          obtain ⟨v36, ee, mm, kk⟩ := (unhide LVv35).put (n) (.slice (some ⟨r, 0, none⟩) (n * n) c)
          rw [← ee]
          have LVv36 := hide mm
          have MAv36 := hide ((unhide MAv35).kept kk (by have := unhide ZL; omega))
          have MBv36 := hide ((unhide MBv35).kept kk (by have := unhide ZL; omega))
          have NMv36 := hide ((unhide NMv35).kept kk (unhide NL))
          have Kv36 := hide (below_of_kept (unhide Kv35) kk (by have := unhide ZL; omega) (unhide Kv35).size)
          have Zv36 := hide (Nat.le_trans (unhide Zv35) kk.size)
          clear kk
          refine hK _ _ (fun _ => ⟨⟨(unhide MAv36).cell0, (unhide MAv36).cell1⟩, ⟨(unhide MBv36).cell0, (unhide MBv36).cell1⟩⟩) ?_
          clear hK K z0 z1 f0 f1 ee mm
          refine plan_do rfl (fun K hK => ?_)
          go_simp
          refine hK _ _ (fun _ => ⟨⟨(unhide MAv36).cell0, (unhide MAv36).cell1⟩, ⟨(unhide MBv36).cell0, (unhide MBv36).cell1⟩⟩) ?_
          clear hK K
          refine plan_do rfl (fun K hK => ?_)
          go_simp
          refine hK _ _ (fun _ => ⟨⟨(unhide MAv36).cell0, (unhide MAv36).cell1⟩, ⟨(unhide MBv36).cell0, (unhide MBv36).cell1⟩⟩) ?_
          clear hK K
          refine plan_end ?_
          go_wp2_with fail
          go_meet
          exact ⟨L, r, c, h, rfl, rfl, rfl, (unhide LVv36), (unhide NMv36), unhide RH, unhide IM, (unhide MAv36), (unhide MBv36), (unhide Kv36), (unhide Zv36)⟩
      · go_simp
        obtain ⟨v37, ee, mm, kk, ss⟩ := mb_alloc u0 0 (.slice none 0 0)
        rw [← ee]
        have LVv37 := hide mm
        have LLv37 := hide (show u0.heap.size < v37.heap.size by omega)
        have ZL := hide (unhide Zu0)
        clear ee mm ss
        have MAv37 := hide ((unhide MAu0).below kk)
        have MBv37 := hide ((unhide MBu0).below kk)
        have Kv37 := hide ((unhide Ku0).trans (Below.le kk (unhide Ku0).size))
        have Zv37 := hide (Nat.le_trans (unhide Zu0) kk.size)
        have CSv37 := hide kk.size
        clear kk MAu0 MBu0 Ku0 Zu0
        refine hK _ _ (fun _ => ⟨⟨(unhide MAv37).cell0, (unhide MAv37).cell1⟩, ⟨(unhide MBv37).cell0, (unhide MBv37).cell1⟩⟩) ?_
        clear hK K
        generalize u0.heap.size = L at *
        refine plan_do rfl (fun K hK => ?_)
        go_simp
        refine (ownL_any (n) ao (n * n) cap f _ (((unhide AA)).below (unhide Kv37))).mono ?_
        rintro e v38 ⟨aoA, capA, rfl, ra, kk⟩
        have RAv38 := hide ra
        have MAv38 := hide ((unhide MAv37).below kk)
        have MBv38 := hide ((unhide MBv37).below kk)
        have LVv38 := hide ((unhide LVv37).below kk)
        have Kv38 := hide ((unhide Kv37).trans (Below.le kk (unhide Kv37).size))
        have Zv38 := hide (Nat.le_trans (unhide Zv37) kk.size)
        have CSv38 := hide kk.size
        clear kk MAv37 MBv37 LVv37 Kv37 Zv37
        clear ra
        refine hK _ _ (fun _ => ⟨⟨(unhide MAv38).cell0, (unhide MAv38).cell1⟩, ⟨(unhide MBv38).cell0, (unhide MBv38).cell1⟩⟩) ?_
        clear hK K
        have LLv38 := hide (Nat.lt_of_lt_of_le (unhide LLv37) (unhide CSv38))
        refine plan_do rfl (fun K hK => ?_)
        go_simp
        refine (ownL_any (n) bo (n * n) c2 g _ (((unhide AB)).below (unhide Kv38))).mono ?_
        rintro e v39 ⟨aoB, capB, rfl, ra, kk⟩
        have RBv39 := hide ra
        have MAv39 := hide ((unhide MAv38).below kk)
        have MBv39 := hide ((unhide MBv38).below kk)
        have LVv39 := hide ((unhide LVv38).below kk)
        have RAv39 := hide ((unhide RAv38).below kk)
        have Kv39 := hide ((unhide Kv38).trans (Below.le kk (unhide Kv38).size))
        have Zv39 := hide (Nat.le_trans (unhide Zv38) kk.size)
        have CSv39 := hide kk.size
        clear kk MAv38 MBv38 LVv38 RAv38 Kv38 Zv38
        clear ra
        refine hK _ _ (fun _ => ⟨⟨(unhide MAv39).cell0, (unhide MAv39).cell1⟩, ⟨(unhide MBv39).cell0, (unhide MBv39).cell1⟩⟩) ?_
        clear hK K
        have LLv39 := hide (Nat.lt_of_lt_of_le (unhide LLv38) (unhide CSv39))
        refine plan_do rfl (fun K hK => ?_)
        go_simp
        refine (mul_good n _ _ _ _ f g _ (unhide H1) (unhide H6) (unhide RF) (unhide RG) (unhide RAv39) (unhide RBv39)).mono ?_
        rintro e v40 ⟨r, c, h, rfl, hr, nm, rh, im, kk⟩
        have NL := hide (show r ≠ L by have := unhide LLv39; omega)
        have NMv40 := hide nm
        have MAv40 := hide ((unhide MAv39).below kk)
        have MBv40 := hide ((unhide MBv39).below kk)
        have LVv40 := hide ((unhide LVv39).below kk)
        have RAv40 := hide ((unhide RAv39).below kk)
        have RBv40 := hide ((unhide RBv39).below kk)
        have Kv40 := hide ((unhide Kv39).trans (Below.le kk (unhide Kv39).size))
        have Zv40 := hide (Nat.le_trans (unhide Zv39) kk.size)
        have CSv40 := hide kk.size
        clear kk MAv39 MBv39 LVv39 RAv39 RBv39 Kv39 Zv39
        have RH := hide rh; have IM := hide im
        clear hr nm rh im
        refine hK _ _ (fun _ => ⟨⟨(unhide MAv40).cell0, (unhide MAv40).cell1⟩, ⟨(unhide MBv40).cell0, (unhide MBv40).cell1⟩⟩) ?_
        clear hK K
        have LLv40 := hide (Nat.lt_of_lt_of_le (unhide LLv39) (unhide CSv40))
        iterate 4
          refine plan_read (v := ?_) rfl (fun _ _ _ h => h) (by rfl) ⟨⟨(unhide MAv40).cell0, (unhide MAv40).cell1⟩, ⟨(unhide MBv40).cell0, (unhide MBv40).cell1⟩⟩ ?_ ?_
          rotate_left 1
          · intro wx hwx
            obtain ⟨⟨q1, q2⟩, ⟨q3, q4⟩⟩ := hwx
            go_simp <;> exact rfl
          go_frame
        refine plan_do rfl (fun K hK => ?_)
        have z0 := (unhide LVv40).cell0; have z1 := (unhide LVv40).cell1; have f0 := (unhide LVv40).free 0; have f1 := (unhide LVv40).free 1
        go_simp
        obtain ⟨v41, ee, mm, kk⟩ := (unhide LVv40).put (n) (.slice (some ⟨r, 0, none⟩) (n * n) c)
        rw [← ee]
        have LVv41 := hide mm
        have MAv41 := hide ((unhide MAv40).kept kk (by have := unhide ZL; omega))
        have MBv41 := hide ((unhide MBv40).kept kk (by have := unhide ZL; omega))
        have NMv41 := hide ((unhide NMv40).kept kk (unhide NL))
        have Kv41 := hide (below_of_kept (unhide Kv40) kk (by have := unhide ZL; omega) (unhide Kv40).size)
        have Zv41 := hide (Nat.le_trans (unhide Zv40) kk.size)
        clear kk
        refine hK _ _ (fun _ => ⟨⟨(unhide MAv41).cell0, (unhide MAv41).cell1⟩, ⟨(unhide MBv41).cell0, (unhide MBv41).cell1⟩⟩) ?_
        clear hK K z0 z1 f0 f1 ee mm
        refine plan_do rfl (fun K hK => ?_)
        go_simp
        refine hK _ _ (fun _ => ⟨⟨(unhide MAv41).cell0, (unhide MAv41).cell1⟩, ⟨(unhide MBv41).cell0, (unhide MBv41).cell1⟩⟩) ?_
        clear hK K
        refine plan_do rfl (fun K hK => ?_)
        go_simp
        refine hK _ _ (fun _ => ⟨⟨(unhide MAv41).cell0, (unhide MAv41).cell1⟩, ⟨(unhide MBv41).cell0, (unhide MBv41).cell1⟩⟩) ?_
        clear hK K
        refine plan_end ?_
        go_wp2_with fail
        go_meet
        exact ⟨L, r, c, h, rfl, rfl, rfl, (unhide LVv41), (unhide NMv41), unhide RH, unhide IM, (unhide MAv41), (unhide MBv41), (unhide Kv41), (unhide Zv41)⟩
    case rest =>
      obtain ⟨L, r, c, h, rfl, rfl, rfl, lv, nm, rh, im, ma, mb, kc, zc⟩ := hcut
      have LVwc := hide lv; have NMwc := hide nm; have RH := hide rh; have IM := hide im; have MAwc := hide ma; have MBwc := hide mb; have Kwc := hide kc; have Zwc := hide zc
      clear lv nm rh im ma mb kc zc MAw1 MBw1 Kw1 Zw1 E1
      have MAx := (unhide MAwc).cell0; have MAy := (unhide MAwc).cell1; have MAl := (unhide MAwc).lt
      have MBx := (unhide MBwc).cell0; have MBy := (unhide MBwc).cell1; have MBl := (unhide MBwc).lt
      go_wp2_with fail
      clear MAx MAy MAl MBx MBy MBl
      refine (refMul_good n _ _ _ _ f g _ (unhide H1) (unhide H6) (unhide RF) (unhide RG) ((unhide AA).rds.below (unhide Kwc)) ((unhide AB).rds.below (unhide Kwc))).mono ?_
      rintro e v42 ⟨rB, cB, rfl, nn, kk⟩
      have NBv42 := hide nn
      have LVv42 := hide ((unhide LVwc).below kk)
      have NMv42 := hide ((unhide NMwc).below kk)
      have MAv42 := hide ((unhide MAwc).below kk)
      have MBv42 := hide ((unhide MBwc).below kk)
      have Kv42 := hide ((unhide Kwc).trans (Below.le kk (unhide Kwc).size))
      have Zv42 := hide (Nat.le_trans (unhide Zwc) kk.size)
      have CSv42 := hide kk.size
      clear kk LVwc NMwc MAwc MBwc Kwc Zwc
      clear nn
      go_wp2_with fail
      obtain ⟨v43, ee, mm, kk, ss⟩ := mb_alloc v42 ((n : Int)) (.slice (some ⟨rB, 0, none⟩) (n * n) cB)
      have Ev43 := hide ee
      have VBv43 := hide mm
      clear ee mm ss
      have LVv43 := hide ((unhide LVv42).below kk)
      have NMv43 := hide ((unhide NMv42).below kk)
      have MAv43 := hide ((unhide MAv42).below kk)
      have MBv43 := hide ((unhide MBv42).below kk)
      have NBv43 := hide ((unhide NBv42).below kk)
      have Kv43 := hide ((unhide Kv42).trans (Below.le kk (unhide Kv42).size))
      have Zv43 := hide (Nat.le_trans (unhide Zv42) kk.size)
      have CSv43 := hide kk.size
      clear kk LVv42 NMv42 MAv42 MBv42 NBv42 Kv42 Zv42
      rw [← unhide Ev43]
      refine (least_any 7 (by unfold R64; omega) _).mono ?_
      rintro e v44 ⟨mX, rlX, emX, rfl, nl, _, kk⟩
      have NLXv44 := hide nl
      have LVv44 := hide ((unhide LVv43).below kk)
      have NMv44 := hide ((unhide NMv43).below kk)
      have MAv44 := hide ((unhide MAv43).below kk)
      have MBv44 := hide ((unhide MBv43).below kk)
      have NBv44 := hide ((unhide NBv43).below kk)
      have VBv44 := hide ((unhide VBv43).below kk)
      have Kv44 := hide ((unhide Kv43).trans (Below.le kk (unhide Kv43).size))
      have Zv44 := hide (Nat.le_trans (unhide Zv43) kk.size)
      have CSv44 := hide kk.size
      clear kk LVv43 NMv43 MAv43 MBv43 NBv43 VBv43 Kv43 Zv43
      clear nl
      have EMX := hide emX
      clear emX
      go_wp2_with fail
      refine (least_any 4294967296 (by unfold R64; omega) _).mono ?_
      rintro e v45 ⟨mY, rlY, emY, rfl, nl, _, kk⟩
      have NLYv45 := hide nl
      have LVv45 := hide ((unhide LVv44).below kk)
      have NMv45 := hide ((unhide NMv44).below kk)
      have MAv45 := hide ((unhide MAv44).below kk)
      have MBv45 := hide ((unhide MBv44).below kk)
      have NBv45 := hide ((unhide NBv44).below kk)
      have VBv45 := hide ((unhide VBv44).below kk)
      have NLXv45 := hide ((unhide NLXv44).below kk)
      have Kv45 := hide ((unhide Kv44).trans (Below.le kk (unhide Kv44).size))
      have Zv45 := hide (Nat.le_trans (unhide Zv44) kk.size)
      have CSv45 := hide kk.size
      clear kk LVv44 NMv44 MAv44 MBv44 NBv44 VBv44 NLXv44 Kv44 Zv44
      clear nl
      have EMY := hide emY
      clear emY
      go_wp2_with fail
      obtain rfl : mY = mX := (unhide EMY).trans (unhide EMX).symm
      refine (mul_good mY _ _ _ _ (fun _ => 7) (fun _ => 4294967296) _ (by have := unhide EMY; omega) (by have := unhide EMY; omega) (fun _ => by unfold R64; omega) (fun _ => by unfold R64; omega) (unhide NLXv45).rds (unhide NLYv45).rds).mono ?_
      rintro e v46 ⟨rX, cX, hX, rfl, hr, nn, rg, tt, kk⟩
      have NXv46 := hide nn
      have LVv46 := hide ((unhide LVv45).below kk)
      have NMv46 := hide ((unhide NMv45).below kk)
      have MAv46 := hide ((unhide MAv45).below kk)
      have MBv46 := hide ((unhide MBv45).below kk)
      have NBv46 := hide ((unhide NBv45).below kk)
      have VBv46 := hide ((unhide VBv45).below kk)
      have NLXv46 := hide ((unhide NLXv45).below kk)
      have NLYv46 := hide ((unhide NLYv45).below kk)
      have Kv46 := hide ((unhide Kv45).trans (Below.le kk (unhide Kv45).size))
      have Zv46 := hide (Nat.le_trans (unhide Zv45) kk.size)
      have CSv46 := hide kk.size
      clear kk LVv45 NMv45 MAv45 MBv45 NBv45 VBv45 NLXv45 NLYv45 Kv45 Zv45
      clear hr nn rg tt
      have tb : (mulB n f g == mulB n f g) = true := by simp
      have LVx := (unhide LVv46).cell0; have LVy := (unhide LVv46).cell1; have LVl := (unhide LVv46).lt
      have VBx := (unhide VBv46).cell0; have VBy := (unhide VBv46).cell1; have VBl := (unhide VBv46).lt
      go_wp2_with fail
      clear LVx LVy LVl VBx VBy VBl
      obtain ⟨v47, ee, mm, kk, ss⟩ := mb_alloc v46 ((mY : Int)) (.slice (some ⟨rX, 0, none⟩) (mY * mY) cX)
      have Ev47 := hide ee
      have VXv47 := hide mm
      clear ee mm ss
      have LVv47 := hide ((unhide LVv46).below kk)
      have NMv47 := hide ((unhide NMv46).below kk)
      have MAv47 := hide ((unhide MAv46).below kk)
      have MBv47 := hide ((unhide MBv46).below kk)
      have NBv47 := hide ((unhide NBv46).below kk)
      have VBv47 := hide ((unhide VBv46).below kk)
      have NLXv47 := hide ((unhide NLXv46).below kk)
      have NLYv47 := hide ((unhide NLYv46).below kk)
      have NXv47 := hide ((unhide NXv46).below kk)
      have Kv47 := hide ((unhide Kv46).trans (Below.le kk (unhide Kv46).size))
      have Zv47 := hide (Nat.le_trans (unhide Zv46) kk.size)
      have CSv47 := hide kk.size
      clear kk LVv46 NMv46 MAv46 MBv46 NBv46 VBv46 NLXv46 NLYv46 NXv46 Kv46 Zv46
      rw [← unhide Ev47]
      refine (sameMat_yes (n : Int) _ _ _ _ _ h (mulE n f g) _ (by have := unhide h36; omega) (unhide NMv47).rds (unhide NBv47).rds (fun i hi => ?_)).mono ?_
      · obtain ⟨a, b, ha, hb, rfl⟩ := idx_of hi
        rw [unhide IM a b ha hb, mulE_is n f g a b ha hb]
      rintro e v48 ⟨rfl, kk⟩
      have LVv48 := hide ((unhide LVv47).below kk)
      have NMv48 := hide ((unhide NMv47).below kk)
      have MAv48 := hide ((unhide MAv47).below kk)
      have MBv48 := hide ((unhide MBv47).below kk)
      have NBv48 := hide ((unhide NBv47).below kk)
      have VBv48 := hide ((unhide VBv47).below kk)
      have NLXv48 := hide ((unhide NLXv47).below kk)
      have NLYv48 := hide ((unhide NLYv47).below kk)
      have NXv48 := hide ((unhide NXv47).below kk)
      have VXv48 := hide ((unhide VXv47).below kk)
      have Kv48 := hide ((unhide Kv47).trans (Below.le kk (unhide Kv47).size))
      have Zv48 := hide (Nat.le_trans (unhide Zv47) kk.size)
      have CSv48 := hide kk.size
      clear kk LVv47 NMv47 MAv47 MBv47 NBv47 VBv47 NLXv47 NLYv47 NXv47 VXv47 Kv47 Zv47
      have tx : ((mY : Int) == 1) = true := by rw [unhide EMY]; rfl
      have VXx := (unhide VXv48).cell0; have VXy := (unhide VXv48).cell1; have VXl := (unhide VXv48).lt
      go_wp2_with fail
      go_ret
      exact ⟨rfl, (unhide Kv48)⟩

end Go.Proofs.Ytnfejfdekedmhaa
