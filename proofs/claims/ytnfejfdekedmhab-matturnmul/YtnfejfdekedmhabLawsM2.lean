/- The walk of MatTurnMul. -/
import Derived.Test.YtnfejfdekedmhabMatTwo
import Derived.Test.YtnfejfdekedmhabLawsM1
namespace Go.Proofs.Ytnfejfdekedmhab
open Go.RowKit

theorem turned_mul {n : Nat} {f g h ft gt hb hc : Nat → Int} (im : IsMul n f g h) (tf : Turned n f ft) (tg : Turned n g gt) (ib : IsMul n gt ft hb) (tc : Turned n h hc) : (∀ i, i < n * n → hb i = hc i) ∧ mulB n gt ft = mulB n f g := by
  have key : ∀ a c, a < n → c < n → (chV (rowF n gt a) (fun t => ft (t * n + c)) n = chV (rowF n f c) (fun t => g (t * n + a)) n ∧ chB (rowF n gt a) (fun t => ft (t * n + c)) n = chB (rowF n f c) (fun t => g (t * n + a)) n) := by
    intro a c ha hc
    have e := chV_swap (rowF n f c) (fun t => g (t * n + a)) n
    rw [← e.1, ← e.2]
    exact ⟨chV_congr (fun t ht => tg a t ha ht) (fun t ht => tf t c ht hc), chB_congr (fun t ht => tg a t ha ht) (fun t ht => tf t c ht hc)⟩
  refine ⟨fun i hi => ?_, ?_⟩
  · obtain ⟨a, c, ha, hc, rfl⟩ := idx_of hi
    rw [ib a c ha hc, tc a c ha hc, im c a hc ha]
    exact (key a c ha hc).1
  · refine Bool.eq_iff_iff.2 ?_
    unfold mulB
    simp only [anyB_iff]
    constructor
    · rintro ⟨c, hc, a, ha, h⟩
      exact ⟨a, ha, c, hc, by rw [← (key a c ha hc).2]; exact h⟩
    · rintro ⟨c, hc, a, ha, h⟩
      exact ⟨a, ha, c, hc, by rw [(key c a hc ha).2]; exact h⟩

set_option maxHeartbeats 8000000 in
theorem matTurnMul_walk {w : World} (N : Int) (ao : Option Addr) (len cap : Nat) (f : Nat → Int) (M : Int) (bo : Option Addr) (l2 c2 : Nat) (g : Nat → Int) (_rN : R64 N) (aa : ArgS w ao len cap f) (_rM : R64 M) (ab : ArgS w bo l2 c2 g) :
    Calls Try.prog 6 #[.agg #[.int .i64 N, .slice ao len cap], .agg #[.int .i64 M, .slice bo l2 c2]] w fun e w' => e = .returned (.bool true) ∧ Below w.heap.size w w' := by
  obtain ⟨w1, e1, ma, mb, k1, s1⟩ := two_mats w N M (.slice ao len cap) (.slice bo l2 c2)
  have E1 := hide e1; have MAw1 := hide ma; have MBw1 := hide mb; have Kw1 := hide k1; have Zw1 := hide (Nat.le_of_eq s1.symm); have AA := hide aa; have AB := hide ab; have RF := hide aa.2.2; have RG := hide ab.2.2
  clear e1 ma mb k1 s1 aa ab _rN _rM
  cases hg : goodP N M len l2
  · have G := hide hg
    clear hg
    go_enter Try.func6, Try.ntmps6
    go_upto_region 1 with fail
    rw [← unhide E1]
    go_cut [5, 6, 7] (fun s5 s6 s7 wx => ∃ L : Nat, s5 = .pointer (some ⟨L, 0, none⟩) ∧ s6 = .bool false ∧ s7 = .int .i64 8 ∧ MbAt wx w.heap.size N (.slice ao len cap) ∧ MbAt wx (w.heap.size + 1) M (.slice bo l2 c2) ∧ Below w.heap.size w wx ∧ w.heap.size + 1 + 1 ≤ wx.heap.size)
    case first =>
      refine region_plan (S := Cl4 w.heap.size (w.heap.size + 1) (.int .i64 (N)) (.slice ao len cap) (.int .i64 (M)) (.slice bo l2 c2)) (.rd 0 (.rd 2 (.two 1 9 (.two 3 9 (.two 4 9 (.rd 5 (.rd 6 (.rd 7 (.rd 8 (.go 9 (.go 10 (.go 11 (.go 12 .fin)))))))) (.go 4 (.rd 5 (.rd 6 (.rd 7 (.rd 8 (.go 10 (.go 11 (.go 12 .fin))))))))) (.go 3 (.go 4 (.rd 5 (.rd 6 (.rd 7 (.rd 8 (.go 10 (.go 11 (.go 12 .fin)))))))))) (.go 1 (.go 3 (.go 4 (.rd 5 (.rd 6 (.rd 7 (.rd 8 (.go 10 (.go 11 (.go 12 .fin))))))))))))) [] (by kernel_rfl) (by kernel_rfl) ?_
      have MAu0 := hide (show MbAt w1.drew _ _ _ from unhide MAw1); have MBu0 := hide (show MbAt w1.drew _ _ _ from unhide MBw1); have Ku0 := hide (below_drew (unhide Kw1)); have Zu0 := hide (show w.heap.size + 1 + 1 ≤ w1.drew.heap.size from unhide Zw1)
      clear E1 MAw1 MBw1 Kw1 Zw1
      generalize w1.drew = u0 at *
      iterate 2
        refine plan_read (v := ?_) rfl (fun _ _ _ h => h) (by rfl) ⟨⟨(unhide MAu0).cell0, (unhide MAu0).cell1⟩, ⟨(unhide MBu0).cell0, (unhide MBu0).cell1⟩⟩ ?_ ?_
        rotate_left 1
        · intro wx hwx
          obtain ⟨⟨q1, q2⟩, ⟨q3, q4⟩⟩ := hwx
          go_simp <;> exact rfl
        go_frame
      refine plan_two rfl rfl (fun K hK => ?_) (fun K hK => ?_)
      · go_simp
        refine (ownK_any (N) ao len cap f _ (((unhide AA)).below (unhide Ku0))).mono ?_
        rintro e v1 ⟨aoA, capA, rfl, ra, kk⟩
        have RAv1 := hide ra
        have MAv1 := hide ((unhide MAu0).below kk)
        have MBv1 := hide ((unhide MBu0).below kk)
        have Kv1 := hide ((unhide Ku0).trans (Below.le kk (unhide Ku0).size))
        have Zv1 := hide (Nat.le_trans (unhide Zu0) kk.size)
        have CSv1 := hide kk.size
        clear kk MAu0 MBu0 Ku0 Zu0
        clear ra
        refine hK _ _ (fun _ => ⟨⟨(unhide MAv1).cell0, (unhide MAv1).cell1⟩, ⟨(unhide MBv1).cell0, (unhide MBv1).cell1⟩⟩) ?_
        clear hK K
        refine plan_two rfl rfl (fun K hK => ?_) (fun K hK => ?_)
        · go_simp
          refine (ownK_any (M) bo l2 c2 g _ (((unhide AB)).below (unhide Kv1))).mono ?_
          rintro e v2 ⟨aoB, capB, rfl, ra, kk⟩
          have RBv2 := hide ra
          have MAv2 := hide ((unhide MAv1).below kk)
          have MBv2 := hide ((unhide MBv1).below kk)
          have RAv2 := hide ((unhide RAv1).below kk)
          have Kv2 := hide ((unhide Kv1).trans (Below.le kk (unhide Kv1).size))
          have Zv2 := hide (Nat.le_trans (unhide Zv1) kk.size)
          have CSv2 := hide kk.size
          clear kk MAv1 MBv1 RAv1 Kv1 Zv1
          clear ra
          refine hK _ _ (fun _ => ⟨⟨(unhide MAv2).cell0, (unhide MAv2).cell1⟩, ⟨(unhide MBv2).cell0, (unhide MBv2).cell1⟩⟩) ?_
          clear hK K
          refine plan_two rfl rfl (fun K hK => ?_) (fun K hK => ?_)
          · go_simp
            refine (mul_bad (N) (M) _ _ _ _ _ _ _ (unhide G)).mono ?_
            rintro e v3 ⟨rfl, kk⟩
            have MAv3 := hide ((unhide MAv2).below kk)
            have MBv3 := hide ((unhide MBv2).below kk)
            have RAv3 := hide ((unhide RAv2).below kk)
            have RBv3 := hide ((unhide RBv2).below kk)
            have Kv3 := hide ((unhide Kv2).trans (Below.le kk (unhide Kv2).size))
            have Zv3 := hide (Nat.le_trans (unhide Zv2) kk.size)
            have CSv3 := hide kk.size
            clear kk MAv2 MBv2 RAv2 RBv2 Kv2 Zv2
            refine hK _ _ (fun _ => ⟨⟨(unhide MAv3).cell0, (unhide MAv3).cell1⟩, ⟨(unhide MBv3).cell0, (unhide MBv3).cell1⟩⟩) ?_
            clear hK K
            iterate 4
              refine plan_read (v := ?_) rfl (fun _ _ _ h => h) (by rfl) ⟨⟨(unhide MAv3).cell0, (unhide MAv3).cell1⟩, ⟨(unhide MBv3).cell0, (unhide MBv3).cell1⟩⟩ ?_ ?_
              rotate_left 1
              · intro wx hwx
                obtain ⟨⟨q1, q2⟩, ⟨q3, q4⟩⟩ := hwx
                go_simp <;> exact rfl
              go_frame
            refine plan_do rfl (fun K hK => ?_)
            go_simp
            obtain ⟨v4, ee, mm, kk, ss⟩ := mb_alloc v3 0 (.slice none 0 0)
            rw [← ee]
            have LVv4 := hide mm
            have LLv4 := hide (show v3.heap.size < v4.heap.size by omega)
            have ZL := hide (unhide Zv3)
            clear ee mm ss
            have MAv4 := hide ((unhide MAv3).below kk)
            have MBv4 := hide ((unhide MBv3).below kk)
            have RAv4 := hide ((unhide RAv3).below kk)
            have RBv4 := hide ((unhide RBv3).below kk)
            have Kv4 := hide ((unhide Kv3).trans (Below.le kk (unhide Kv3).size))
            have Zv4 := hide (Nat.le_trans (unhide Zv3) kk.size)
            have CSv4 := hide kk.size
            clear kk MAv3 MBv3 RAv3 RBv3 Kv3 Zv3
            refine hK _ _ (fun _ => ⟨⟨(unhide MAv4).cell0, (unhide MAv4).cell1⟩, ⟨(unhide MBv4).cell0, (unhide MBv4).cell1⟩⟩) ?_
            clear hK K
            generalize v3.heap.size = L at *
            refine plan_do rfl (fun K hK => ?_)
            have z0 := (unhide LVv4).cell0; have z1 := (unhide LVv4).cell1; have f0 := (unhide LVv4).free 0; have f1 := (unhide LVv4).free 1
            go_simp
            obtain ⟨v5, ee, mm, kk⟩ := (unhide LVv4).put (0) (.slice none 0 0)
            rw [← ee]
            have LVv5 := hide mm
            have MAv5 := hide ((unhide MAv4).kept kk (by have := unhide ZL; omega))
            have MBv5 := hide ((unhide MBv4).kept kk (by have := unhide ZL; omega))
            have Kv5 := hide (below_of_kept (unhide Kv4) kk (by have := unhide ZL; omega) (unhide Kv4).size)
            have Zv5 := hide (Nat.le_trans (unhide Zv4) kk.size)
            clear kk
            refine hK _ _ (fun _ => ⟨⟨(unhide MAv5).cell0, (unhide MAv5).cell1⟩, ⟨(unhide MBv5).cell0, (unhide MBv5).cell1⟩⟩) ?_
            clear hK K z0 z1 f0 f1 ee mm
            refine plan_do rfl (fun K hK => ?_)
            go_simp
            refine hK _ _ (fun _ => ⟨⟨(unhide MAv5).cell0, (unhide MAv5).cell1⟩, ⟨(unhide MBv5).cell0, (unhide MBv5).cell1⟩⟩) ?_
            clear hK K
            refine plan_do rfl (fun K hK => ?_)
            go_simp
            refine hK _ _ (fun _ => ⟨⟨(unhide MAv5).cell0, (unhide MAv5).cell1⟩, ⟨(unhide MBv5).cell0, (unhide MBv5).cell1⟩⟩) ?_
            clear hK K
            refine plan_end ?_
            go_wp2_with fail
            go_meet
            exact ⟨L, rfl, rfl, rfl, (unhide MAv5), (unhide MBv5), (unhide Kv5), (unhide Zv5)⟩
          · go_simp
            obtain ⟨v6, ee, mm, kk, ss⟩ := mb_alloc v2 0 (.slice none 0 0)
            rw [← ee]
            have LVv6 := hide mm
            have LLv6 := hide (show v2.heap.size < v6.heap.size by omega)
            have ZL := hide (unhide Zv2)
            clear ee mm ss
            have MAv6 := hide ((unhide MAv2).below kk)
            have MBv6 := hide ((unhide MBv2).below kk)
            have RAv6 := hide ((unhide RAv2).below kk)
            have RBv6 := hide ((unhide RBv2).below kk)
            have Kv6 := hide ((unhide Kv2).trans (Below.le kk (unhide Kv2).size))
            have Zv6 := hide (Nat.le_trans (unhide Zv2) kk.size)
            have CSv6 := hide kk.size
            clear kk MAv2 MBv2 RAv2 RBv2 Kv2 Zv2
            refine hK _ _ (fun _ => ⟨⟨(unhide MAv6).cell0, (unhide MAv6).cell1⟩, ⟨(unhide MBv6).cell0, (unhide MBv6).cell1⟩⟩) ?_
            clear hK K
            generalize v2.heap.size = L at *
            refine plan_do rfl (fun K hK => ?_)
            go_simp
            refine (mul_bad (N) (M) _ _ _ _ _ _ _ (unhide G)).mono ?_
            rintro e v7 ⟨rfl, kk⟩
            have MAv7 := hide ((unhide MAv6).below kk)
            have MBv7 := hide ((unhide MBv6).below kk)
            have RAv7 := hide ((unhide RAv6).below kk)
            have RBv7 := hide ((unhide RBv6).below kk)
            have LVv7 := hide ((unhide LVv6).below kk)
            have Kv7 := hide ((unhide Kv6).trans (Below.le kk (unhide Kv6).size))
            have Zv7 := hide (Nat.le_trans (unhide Zv6) kk.size)
            have CSv7 := hide kk.size
            clear kk MAv6 MBv6 RAv6 RBv6 LVv6 Kv6 Zv6
            refine hK _ _ (fun _ => ⟨⟨(unhide MAv7).cell0, (unhide MAv7).cell1⟩, ⟨(unhide MBv7).cell0, (unhide MBv7).cell1⟩⟩) ?_
            clear hK K
            have LLv7 := hide (Nat.lt_of_lt_of_le (unhide LLv6) (unhide CSv7))
            iterate 4
              refine plan_read (v := ?_) rfl (fun _ _ _ h => h) (by rfl) ⟨⟨(unhide MAv7).cell0, (unhide MAv7).cell1⟩, ⟨(unhide MBv7).cell0, (unhide MBv7).cell1⟩⟩ ?_ ?_
              rotate_left 1
              · intro wx hwx
                obtain ⟨⟨q1, q2⟩, ⟨q3, q4⟩⟩ := hwx
                go_simp <;> exact rfl
              go_frame
            refine plan_do rfl (fun K hK => ?_)
            have z0 := (unhide LVv7).cell0; have z1 := (unhide LVv7).cell1; have f0 := (unhide LVv7).free 0; have f1 := (unhide LVv7).free 1
            go_simp
            obtain ⟨v8, ee, mm, kk⟩ := (unhide LVv7).put (0) (.slice none 0 0)
            rw [← ee]
            have LVv8 := hide mm
            have MAv8 := hide ((unhide MAv7).kept kk (by have := unhide ZL; omega))
            have MBv8 := hide ((unhide MBv7).kept kk (by have := unhide ZL; omega))
            have Kv8 := hide (below_of_kept (unhide Kv7) kk (by have := unhide ZL; omega) (unhide Kv7).size)
            have Zv8 := hide (Nat.le_trans (unhide Zv7) kk.size)
            clear kk
            refine hK _ _ (fun _ => ⟨⟨(unhide MAv8).cell0, (unhide MAv8).cell1⟩, ⟨(unhide MBv8).cell0, (unhide MBv8).cell1⟩⟩) ?_
            clear hK K z0 z1 f0 f1 ee mm
            refine plan_do rfl (fun K hK => ?_)
            go_simp
            refine hK _ _ (fun _ => ⟨⟨(unhide MAv8).cell0, (unhide MAv8).cell1⟩, ⟨(unhide MBv8).cell0, (unhide MBv8).cell1⟩⟩) ?_
            clear hK K
            refine plan_do rfl (fun K hK => ?_)
            go_simp
            refine hK _ _ (fun _ => ⟨⟨(unhide MAv8).cell0, (unhide MAv8).cell1⟩, ⟨(unhide MBv8).cell0, (unhide MBv8).cell1⟩⟩) ?_
            clear hK K
            refine plan_end ?_
            go_wp2_with fail
            go_meet
            exact ⟨L, rfl, rfl, rfl, (unhide MAv8), (unhide MBv8), (unhide Kv8), (unhide Zv8)⟩
        · go_simp
          obtain ⟨v9, ee, mm, kk, ss⟩ := mb_alloc v1 0 (.slice none 0 0)
          rw [← ee]
          have LVv9 := hide mm
          have LLv9 := hide (show v1.heap.size < v9.heap.size by omega)
          have ZL := hide (unhide Zv1)
          clear ee mm ss
          have MAv9 := hide ((unhide MAv1).below kk)
          have MBv9 := hide ((unhide MBv1).below kk)
          have RAv9 := hide ((unhide RAv1).below kk)
          have Kv9 := hide ((unhide Kv1).trans (Below.le kk (unhide Kv1).size))
          have Zv9 := hide (Nat.le_trans (unhide Zv1) kk.size)
          have CSv9 := hide kk.size
          clear kk MAv1 MBv1 RAv1 Kv1 Zv1
          refine hK _ _ (fun _ => ⟨⟨(unhide MAv9).cell0, (unhide MAv9).cell1⟩, ⟨(unhide MBv9).cell0, (unhide MBv9).cell1⟩⟩) ?_
          clear hK K
          generalize v1.heap.size = L at *
          refine plan_do rfl (fun K hK => ?_)
          go_simp
          refine (ownK_any (M) bo l2 c2 g _ (((unhide AB)).below (unhide Kv9))).mono ?_
          rintro e v10 ⟨aoB, capB, rfl, ra, kk⟩
          have RBv10 := hide ra
          have MAv10 := hide ((unhide MAv9).below kk)
          have MBv10 := hide ((unhide MBv9).below kk)
          have RAv10 := hide ((unhide RAv9).below kk)
          have LVv10 := hide ((unhide LVv9).below kk)
          have Kv10 := hide ((unhide Kv9).trans (Below.le kk (unhide Kv9).size))
          have Zv10 := hide (Nat.le_trans (unhide Zv9) kk.size)
          have CSv10 := hide kk.size
          clear kk MAv9 MBv9 RAv9 LVv9 Kv9 Zv9
          clear ra
          refine hK _ _ (fun _ => ⟨⟨(unhide MAv10).cell0, (unhide MAv10).cell1⟩, ⟨(unhide MBv10).cell0, (unhide MBv10).cell1⟩⟩) ?_
          clear hK K
          have LLv10 := hide (Nat.lt_of_lt_of_le (unhide LLv9) (unhide CSv10))
          refine plan_do rfl (fun K hK => ?_)
          go_simp
          refine (mul_bad (N) (M) _ _ _ _ _ _ _ (unhide G)).mono ?_
          rintro e v11 ⟨rfl, kk⟩
          have MAv11 := hide ((unhide MAv10).below kk)
          have MBv11 := hide ((unhide MBv10).below kk)
          have RAv11 := hide ((unhide RAv10).below kk)
          have LVv11 := hide ((unhide LVv10).below kk)
          have RBv11 := hide ((unhide RBv10).below kk)
          have Kv11 := hide ((unhide Kv10).trans (Below.le kk (unhide Kv10).size))
          have Zv11 := hide (Nat.le_trans (unhide Zv10) kk.size)
          have CSv11 := hide kk.size
          clear kk MAv10 MBv10 RAv10 LVv10 RBv10 Kv10 Zv10
          refine hK _ _ (fun _ => ⟨⟨(unhide MAv11).cell0, (unhide MAv11).cell1⟩, ⟨(unhide MBv11).cell0, (unhide MBv11).cell1⟩⟩) ?_
          clear hK K
          have LLv11 := hide (Nat.lt_of_lt_of_le (unhide LLv10) (unhide CSv11))
          iterate 4
            refine plan_read (v := ?_) rfl (fun _ _ _ h => h) (by rfl) ⟨⟨(unhide MAv11).cell0, (unhide MAv11).cell1⟩, ⟨(unhide MBv11).cell0, (unhide MBv11).cell1⟩⟩ ?_ ?_
            rotate_left 1
            · intro wx hwx
              obtain ⟨⟨q1, q2⟩, ⟨q3, q4⟩⟩ := hwx
              go_simp <;> exact rfl
            go_frame
          refine plan_do rfl (fun K hK => ?_)
          have z0 := (unhide LVv11).cell0; have z1 := (unhide LVv11).cell1; have f0 := (unhide LVv11).free 0; have f1 := (unhide LVv11).free 1
          go_simp
          obtain ⟨v12, ee, mm, kk⟩ := (unhide LVv11).put (0) (.slice none 0 0)
          rw [← ee]
          have LVv12 := hide mm
          have MAv12 := hide ((unhide MAv11).kept kk (by have := unhide ZL; omega))
          have MBv12 := hide ((unhide MBv11).kept kk (by have := unhide ZL; omega))
          have Kv12 := hide (below_of_kept (unhide Kv11) kk (by have := unhide ZL; omega) (unhide Kv11).size)
          have Zv12 := hide (Nat.le_trans (unhide Zv11) kk.size)
          clear kk
          refine hK _ _ (fun _ => ⟨⟨(unhide MAv12).cell0, (unhide MAv12).cell1⟩, ⟨(unhide MBv12).cell0, (unhide MBv12).cell1⟩⟩) ?_
          clear hK K z0 z1 f0 f1 ee mm
          refine plan_do rfl (fun K hK => ?_)
          go_simp
          refine hK _ _ (fun _ => ⟨⟨(unhide MAv12).cell0, (unhide MAv12).cell1⟩, ⟨(unhide MBv12).cell0, (unhide MBv12).cell1⟩⟩) ?_
          clear hK K
          refine plan_do rfl (fun K hK => ?_)
          go_simp
          refine hK _ _ (fun _ => ⟨⟨(unhide MAv12).cell0, (unhide MAv12).cell1⟩, ⟨(unhide MBv12).cell0, (unhide MBv12).cell1⟩⟩) ?_
          clear hK K
          refine plan_end ?_
          go_wp2_with fail
          go_meet
          exact ⟨L, rfl, rfl, rfl, (unhide MAv12), (unhide MBv12), (unhide Kv12), (unhide Zv12)⟩
      · go_simp
        obtain ⟨v13, ee, mm, kk, ss⟩ := mb_alloc u0 0 (.slice none 0 0)
        rw [← ee]
        have LVv13 := hide mm
        have LLv13 := hide (show u0.heap.size < v13.heap.size by omega)
        have ZL := hide (unhide Zu0)
        clear ee mm ss
        have MAv13 := hide ((unhide MAu0).below kk)
        have MBv13 := hide ((unhide MBu0).below kk)
        have Kv13 := hide ((unhide Ku0).trans (Below.le kk (unhide Ku0).size))
        have Zv13 := hide (Nat.le_trans (unhide Zu0) kk.size)
        have CSv13 := hide kk.size
        clear kk MAu0 MBu0 Ku0 Zu0
        refine hK _ _ (fun _ => ⟨⟨(unhide MAv13).cell0, (unhide MAv13).cell1⟩, ⟨(unhide MBv13).cell0, (unhide MBv13).cell1⟩⟩) ?_
        clear hK K
        generalize u0.heap.size = L at *
        refine plan_do rfl (fun K hK => ?_)
        go_simp
        refine (ownK_any (N) ao len cap f _ (((unhide AA)).below (unhide Kv13))).mono ?_
        rintro e v14 ⟨aoA, capA, rfl, ra, kk⟩
        have RAv14 := hide ra
        have MAv14 := hide ((unhide MAv13).below kk)
        have MBv14 := hide ((unhide MBv13).below kk)
        have LVv14 := hide ((unhide LVv13).below kk)
        have Kv14 := hide ((unhide Kv13).trans (Below.le kk (unhide Kv13).size))
        have Zv14 := hide (Nat.le_trans (unhide Zv13) kk.size)
        have CSv14 := hide kk.size
        clear kk MAv13 MBv13 LVv13 Kv13 Zv13
        clear ra
        refine hK _ _ (fun _ => ⟨⟨(unhide MAv14).cell0, (unhide MAv14).cell1⟩, ⟨(unhide MBv14).cell0, (unhide MBv14).cell1⟩⟩) ?_
        clear hK K
        have LLv14 := hide (Nat.lt_of_lt_of_le (unhide LLv13) (unhide CSv14))
        refine plan_do rfl (fun K hK => ?_)
        go_simp
        refine (ownK_any (M) bo l2 c2 g _ (((unhide AB)).below (unhide Kv14))).mono ?_
        rintro e v15 ⟨aoB, capB, rfl, ra, kk⟩
        have RBv15 := hide ra
        have MAv15 := hide ((unhide MAv14).below kk)
        have MBv15 := hide ((unhide MBv14).below kk)
        have LVv15 := hide ((unhide LVv14).below kk)
        have RAv15 := hide ((unhide RAv14).below kk)
        have Kv15 := hide ((unhide Kv14).trans (Below.le kk (unhide Kv14).size))
        have Zv15 := hide (Nat.le_trans (unhide Zv14) kk.size)
        have CSv15 := hide kk.size
        clear kk MAv14 MBv14 LVv14 RAv14 Kv14 Zv14
        clear ra
        refine hK _ _ (fun _ => ⟨⟨(unhide MAv15).cell0, (unhide MAv15).cell1⟩, ⟨(unhide MBv15).cell0, (unhide MBv15).cell1⟩⟩) ?_
        clear hK K
        have LLv15 := hide (Nat.lt_of_lt_of_le (unhide LLv14) (unhide CSv15))
        refine plan_do rfl (fun K hK => ?_)
        go_simp
        refine (mul_bad (N) (M) _ _ _ _ _ _ _ (unhide G)).mono ?_
        rintro e v16 ⟨rfl, kk⟩
        have MAv16 := hide ((unhide MAv15).below kk)
        have MBv16 := hide ((unhide MBv15).below kk)
        have LVv16 := hide ((unhide LVv15).below kk)
        have RAv16 := hide ((unhide RAv15).below kk)
        have RBv16 := hide ((unhide RBv15).below kk)
        have Kv16 := hide ((unhide Kv15).trans (Below.le kk (unhide Kv15).size))
        have Zv16 := hide (Nat.le_trans (unhide Zv15) kk.size)
        have CSv16 := hide kk.size
        clear kk MAv15 MBv15 LVv15 RAv15 RBv15 Kv15 Zv15
        refine hK _ _ (fun _ => ⟨⟨(unhide MAv16).cell0, (unhide MAv16).cell1⟩, ⟨(unhide MBv16).cell0, (unhide MBv16).cell1⟩⟩) ?_
        clear hK K
        have LLv16 := hide (Nat.lt_of_lt_of_le (unhide LLv15) (unhide CSv16))
        iterate 4
          refine plan_read (v := ?_) rfl (fun _ _ _ h => h) (by rfl) ⟨⟨(unhide MAv16).cell0, (unhide MAv16).cell1⟩, ⟨(unhide MBv16).cell0, (unhide MBv16).cell1⟩⟩ ?_ ?_
          rotate_left 1
          · intro wx hwx
            obtain ⟨⟨q1, q2⟩, ⟨q3, q4⟩⟩ := hwx
            go_simp <;> exact rfl
          go_frame
        refine plan_do rfl (fun K hK => ?_)
        have z0 := (unhide LVv16).cell0; have z1 := (unhide LVv16).cell1; have f0 := (unhide LVv16).free 0; have f1 := (unhide LVv16).free 1
        go_simp
        obtain ⟨v17, ee, mm, kk⟩ := (unhide LVv16).put (0) (.slice none 0 0)
        rw [← ee]
        have LVv17 := hide mm
        have MAv17 := hide ((unhide MAv16).kept kk (by have := unhide ZL; omega))
        have MBv17 := hide ((unhide MBv16).kept kk (by have := unhide ZL; omega))
        have Kv17 := hide (below_of_kept (unhide Kv16) kk (by have := unhide ZL; omega) (unhide Kv16).size)
        have Zv17 := hide (Nat.le_trans (unhide Zv16) kk.size)
        clear kk
        refine hK _ _ (fun _ => ⟨⟨(unhide MAv17).cell0, (unhide MAv17).cell1⟩, ⟨(unhide MBv17).cell0, (unhide MBv17).cell1⟩⟩) ?_
        clear hK K z0 z1 f0 f1 ee mm
        refine plan_do rfl (fun K hK => ?_)
        go_simp
        refine hK _ _ (fun _ => ⟨⟨(unhide MAv17).cell0, (unhide MAv17).cell1⟩, ⟨(unhide MBv17).cell0, (unhide MBv17).cell1⟩⟩) ?_
        clear hK K
        refine plan_do rfl (fun K hK => ?_)
        go_simp
        refine hK _ _ (fun _ => ⟨⟨(unhide MAv17).cell0, (unhide MAv17).cell1⟩, ⟨(unhide MBv17).cell0, (unhide MBv17).cell1⟩⟩) ?_
        clear hK K
        refine plan_end ?_
        go_wp2_with fail
        go_meet
        exact ⟨L, rfl, rfl, rfl, (unhide MAv17), (unhide MBv17), (unhide Kv17), (unhide Zv17)⟩
    case rest =>
      obtain ⟨L, rfl, rfl, rfl, ma, mb, kc, zc⟩ := hcut
      have MAwc := hide ma; have MBwc := hide mb; have Kwc := hide kc; have Zwc := hide zc
      clear ma mb kc zc MAw1 MBw1 Kw1 Zw1 E1
      go_wp2_with fail
      refine (stands_any _).mono ?_
      rintro e v18 ⟨rfl, kk⟩
      have MAv18 := hide ((unhide MAwc).below kk)
      have MBv18 := hide ((unhide MBwc).below kk)
      have Kv18 := hide ((unhide Kwc).trans (Below.le kk (unhide Kwc).size))
      have Zv18 := hide (Nat.le_trans (unhide Zwc) kk.size)
      have CSv18 := hide kk.size
      clear kk MAwc MBwc Kwc Zwc
      go_wp2_with fail
      go_ret
      exact ⟨rfl, (unhide Kv18)⟩
  · obtain ⟨n, h1, h6, rfl, rfl, rfl, rfl⟩ := goodP_of hg
    have H1 := hide h1; have H6 := hide h6; have h36 := hide (sq_le h6)
    clear hg h1 h6
    go_enter Try.func6, Try.ntmps6
    go_upto_region 1 with fail
    rw [← unhide E1]
    go_cut [5, 6, 7] (fun s5 s6 s7 wx => ∃ (L r c : Nat) (h : Nat → Int), s5 = .pointer (some ⟨L, 0, none⟩) ∧ s6 = .bool (mulB n f g) ∧ s7 = .int .i64 0 ∧ MbAt wx L (n : Int) (.slice (some ⟨r, 0, none⟩) (n * n) c) ∧ Nh wx r (n * n) c h ∧ (∀ i, R64 (h i)) ∧ IsMul n f g h ∧ MbAt wx w.heap.size (n : Int) (.slice ao (n * n) cap) ∧ MbAt wx (w.heap.size + 1) (n : Int) (.slice bo (n * n) c2) ∧ Below w.heap.size w wx ∧ w.heap.size + 1 + 1 ≤ wx.heap.size)
    case first =>
      refine region_plan (S := Cl4 w.heap.size (w.heap.size + 1) (.int .i64 (n)) (.slice ao (n * n) cap) (.int .i64 (n)) (.slice bo (n * n) c2)) (.rd 0 (.rd 2 (.two 1 9 (.two 3 9 (.two 4 9 (.rd 5 (.rd 6 (.rd 7 (.rd 8 (.go 9 (.go 10 (.go 11 (.go 12 .fin)))))))) (.go 4 (.rd 5 (.rd 6 (.rd 7 (.rd 8 (.go 10 (.go 11 (.go 12 .fin))))))))) (.go 3 (.go 4 (.rd 5 (.rd 6 (.rd 7 (.rd 8 (.go 10 (.go 11 (.go 12 .fin)))))))))) (.go 1 (.go 3 (.go 4 (.rd 5 (.rd 6 (.rd 7 (.rd 8 (.go 10 (.go 11 (.go 12 .fin))))))))))))) [] (by kernel_rfl) (by kernel_rfl) ?_
      have MAu0 := hide (show MbAt w1.drew _ _ _ from unhide MAw1); have MBu0 := hide (show MbAt w1.drew _ _ _ from unhide MBw1); have Ku0 := hide (below_drew (unhide Kw1)); have Zu0 := hide (show w.heap.size + 1 + 1 ≤ w1.drew.heap.size from unhide Zw1)
      clear E1 MAw1 MBw1 Kw1 Zw1
      generalize w1.drew = u0 at *
      iterate 2
        refine plan_read (v := ?_) rfl (fun _ _ _ h => h) (by rfl) ⟨⟨(unhide MAu0).cell0, (unhide MAu0).cell1⟩, ⟨(unhide MBu0).cell0, (unhide MBu0).cell1⟩⟩ ?_ ?_
        rotate_left 1
        · intro wx hwx
          obtain ⟨⟨q1, q2⟩, ⟨q3, q4⟩⟩ := hwx
          go_simp <;> exact rfl
        go_frame
      refine plan_two rfl rfl (fun K hK => ?_) (fun K hK => ?_)
      · go_simp
        refine (ownK_any (n) ao (n * n) cap f _ (((unhide AA)).below (unhide Ku0))).mono ?_
        rintro e v19 ⟨aoA, capA, rfl, ra, kk⟩
        have RAv19 := hide ra
        have MAv19 := hide ((unhide MAu0).below kk)
        have MBv19 := hide ((unhide MBu0).below kk)
        have Kv19 := hide ((unhide Ku0).trans (Below.le kk (unhide Ku0).size))
        have Zv19 := hide (Nat.le_trans (unhide Zu0) kk.size)
        have CSv19 := hide kk.size
        clear kk MAu0 MBu0 Ku0 Zu0
        clear ra
        refine hK _ _ (fun _ => ⟨⟨(unhide MAv19).cell0, (unhide MAv19).cell1⟩, ⟨(unhide MBv19).cell0, (unhide MBv19).cell1⟩⟩) ?_
        clear hK K
        refine plan_two rfl rfl (fun K hK => ?_) (fun K hK => ?_)
        · go_simp
          refine (ownK_any (n) bo (n * n) c2 g _ (((unhide AB)).below (unhide Kv19))).mono ?_
          rintro e v20 ⟨aoB, capB, rfl, ra, kk⟩
          have RBv20 := hide ra
          have MAv20 := hide ((unhide MAv19).below kk)
          have MBv20 := hide ((unhide MBv19).below kk)
          have RAv20 := hide ((unhide RAv19).below kk)
          have Kv20 := hide ((unhide Kv19).trans (Below.le kk (unhide Kv19).size))
          have Zv20 := hide (Nat.le_trans (unhide Zv19) kk.size)
          have CSv20 := hide kk.size
          clear kk MAv19 MBv19 RAv19 Kv19 Zv19
          clear ra
          refine hK _ _ (fun _ => ⟨⟨(unhide MAv20).cell0, (unhide MAv20).cell1⟩, ⟨(unhide MBv20).cell0, (unhide MBv20).cell1⟩⟩) ?_
          clear hK K
          refine plan_two rfl rfl (fun K hK => ?_) (fun K hK => ?_)
          · go_simp
            refine (mul_good n _ _ _ _ f g _ (unhide H1) (unhide H6) (unhide RF) (unhide RG) (unhide RAv20) (unhide RBv20)).mono ?_
            rintro e v21 ⟨r, c, h, rfl, hr, nm, rh, im, kk⟩
            have NMv21 := hide nm
            have MAv21 := hide ((unhide MAv20).below kk)
            have MBv21 := hide ((unhide MBv20).below kk)
            have RAv21 := hide ((unhide RAv20).below kk)
            have RBv21 := hide ((unhide RBv20).below kk)
            have Kv21 := hide ((unhide Kv20).trans (Below.le kk (unhide Kv20).size))
            have Zv21 := hide (Nat.le_trans (unhide Zv20) kk.size)
            have CSv21 := hide kk.size
            clear kk MAv20 MBv20 RAv20 RBv20 Kv20 Zv20
            have RH := hide rh; have IM := hide im
            clear hr nm rh im
            refine hK _ _ (fun _ => ⟨⟨(unhide MAv21).cell0, (unhide MAv21).cell1⟩, ⟨(unhide MBv21).cell0, (unhide MBv21).cell1⟩⟩) ?_
            clear hK K
            iterate 4
              refine plan_read (v := ?_) rfl (fun _ _ _ h => h) (by rfl) ⟨⟨(unhide MAv21).cell0, (unhide MAv21).cell1⟩, ⟨(unhide MBv21).cell0, (unhide MBv21).cell1⟩⟩ ?_ ?_
              rotate_left 1
              · intro wx hwx
                obtain ⟨⟨q1, q2⟩, ⟨q3, q4⟩⟩ := hwx
                go_simp <;> exact rfl
              go_frame
            refine plan_do rfl (fun K hK => ?_)
            go_simp
            obtain ⟨v22, ee, mm, kk, ss⟩ := mb_alloc v21 0 (.slice none 0 0)
            rw [← ee]
            have LVv22 := hide mm
            have LLv22 := hide (show v21.heap.size < v22.heap.size by omega)
            have ZL := hide (unhide Zv21)
            have NL := hide (Nat.ne_of_lt (unhide NMv21).lt)
            clear ee mm ss
            have MAv22 := hide ((unhide MAv21).below kk)
            have MBv22 := hide ((unhide MBv21).below kk)
            have RAv22 := hide ((unhide RAv21).below kk)
            have RBv22 := hide ((unhide RBv21).below kk)
            have NMv22 := hide ((unhide NMv21).below kk)
            have Kv22 := hide ((unhide Kv21).trans (Below.le kk (unhide Kv21).size))
            have Zv22 := hide (Nat.le_trans (unhide Zv21) kk.size)
            have CSv22 := hide kk.size
            clear kk MAv21 MBv21 RAv21 RBv21 NMv21 Kv21 Zv21
            refine hK _ _ (fun _ => ⟨⟨(unhide MAv22).cell0, (unhide MAv22).cell1⟩, ⟨(unhide MBv22).cell0, (unhide MBv22).cell1⟩⟩) ?_
            clear hK K
            generalize v21.heap.size = L at *
            refine plan_do rfl (fun K hK => ?_)
            have z0 := (unhide LVv22).cell0; have z1 := (unhide LVv22).cell1; have f0 := (unhide LVv22).free 0; have f1 := (unhide LVv22).free 1
            go_simp
            obtain ⟨v23, ee, mm, kk⟩ := (unhide LVv22).put (n) (.slice (some ⟨r, 0, none⟩) (n * n) c)
            rw [← ee]
            have LVv23 := hide mm
            have MAv23 := hide ((unhide MAv22).kept kk (by have := unhide ZL; omega))
            have MBv23 := hide ((unhide MBv22).kept kk (by have := unhide ZL; omega))
            have NMv23 := hide ((unhide NMv22).kept kk (unhide NL))
            have Kv23 := hide (below_of_kept (unhide Kv22) kk (by have := unhide ZL; omega) (unhide Kv22).size)
            have Zv23 := hide (Nat.le_trans (unhide Zv22) kk.size)
            clear kk
            refine hK _ _ (fun _ => ⟨⟨(unhide MAv23).cell0, (unhide MAv23).cell1⟩, ⟨(unhide MBv23).cell0, (unhide MBv23).cell1⟩⟩) ?_
            clear hK K z0 z1 f0 f1 ee mm
            refine plan_do rfl (fun K hK => ?_)
            go_simp
            refine hK _ _ (fun _ => ⟨⟨(unhide MAv23).cell0, (unhide MAv23).cell1⟩, ⟨(unhide MBv23).cell0, (unhide MBv23).cell1⟩⟩) ?_
            clear hK K
            refine plan_do rfl (fun K hK => ?_)
            go_simp
            refine hK _ _ (fun _ => ⟨⟨(unhide MAv23).cell0, (unhide MAv23).cell1⟩, ⟨(unhide MBv23).cell0, (unhide MBv23).cell1⟩⟩) ?_
            clear hK K
            refine plan_end ?_
            go_wp2_with fail
            go_meet
            exact ⟨L, r, c, h, rfl, rfl, rfl, (unhide LVv23), (unhide NMv23), unhide RH, unhide IM, (unhide MAv23), (unhide MBv23), (unhide Kv23), (unhide Zv23)⟩
          · go_simp
            obtain ⟨v24, ee, mm, kk, ss⟩ := mb_alloc v20 0 (.slice none 0 0)
            rw [← ee]
            have LVv24 := hide mm
            have LLv24 := hide (show v20.heap.size < v24.heap.size by omega)
            have ZL := hide (unhide Zv20)
            clear ee mm ss
            have MAv24 := hide ((unhide MAv20).below kk)
            have MBv24 := hide ((unhide MBv20).below kk)
            have RAv24 := hide ((unhide RAv20).below kk)
            have RBv24 := hide ((unhide RBv20).below kk)
            have Kv24 := hide ((unhide Kv20).trans (Below.le kk (unhide Kv20).size))
            have Zv24 := hide (Nat.le_trans (unhide Zv20) kk.size)
            have CSv24 := hide kk.size
            clear kk MAv20 MBv20 RAv20 RBv20 Kv20 Zv20
            refine hK _ _ (fun _ => ⟨⟨(unhide MAv24).cell0, (unhide MAv24).cell1⟩, ⟨(unhide MBv24).cell0, (unhide MBv24).cell1⟩⟩) ?_
            clear hK K
            generalize v20.heap.size = L at *
            refine plan_do rfl (fun K hK => ?_)
            go_simp
            refine (mul_good n _ _ _ _ f g _ (unhide H1) (unhide H6) (unhide RF) (unhide RG) (unhide RAv24) (unhide RBv24)).mono ?_
            rintro e v25 ⟨r, c, h, rfl, hr, nm, rh, im, kk⟩
            have NL := hide (show r ≠ L by have := unhide LLv24; omega)
            have NMv25 := hide nm
            have MAv25 := hide ((unhide MAv24).below kk)
            have MBv25 := hide ((unhide MBv24).below kk)
            have RAv25 := hide ((unhide RAv24).below kk)
            have RBv25 := hide ((unhide RBv24).below kk)
            have LVv25 := hide ((unhide LVv24).below kk)
            have Kv25 := hide ((unhide Kv24).trans (Below.le kk (unhide Kv24).size))
            have Zv25 := hide (Nat.le_trans (unhide Zv24) kk.size)
            have CSv25 := hide kk.size
            clear kk MAv24 MBv24 RAv24 RBv24 LVv24 Kv24 Zv24
            have RH := hide rh; have IM := hide im
            clear hr nm rh im
            refine hK _ _ (fun _ => ⟨⟨(unhide MAv25).cell0, (unhide MAv25).cell1⟩, ⟨(unhide MBv25).cell0, (unhide MBv25).cell1⟩⟩) ?_
            clear hK K
            have LLv25 := hide (Nat.lt_of_lt_of_le (unhide LLv24) (unhide CSv25))
            iterate 4
              refine plan_read (v := ?_) rfl (fun _ _ _ h => h) (by rfl) ⟨⟨(unhide MAv25).cell0, (unhide MAv25).cell1⟩, ⟨(unhide MBv25).cell0, (unhide MBv25).cell1⟩⟩ ?_ ?_
              rotate_left 1
              · intro wx hwx
                obtain ⟨⟨q1, q2⟩, ⟨q3, q4⟩⟩ := hwx
                go_simp <;> exact rfl
              go_frame
            refine plan_do rfl (fun K hK => ?_)
            have z0 := (unhide LVv25).cell0; have z1 := (unhide LVv25).cell1; have f0 := (unhide LVv25).free 0; have f1 := (unhide LVv25).free 1
            go_simp
            obtain ⟨v26, ee, mm, kk⟩ := (unhide LVv25).put (n) (.slice (some ⟨r, 0, none⟩) (n * n) c)
            rw [← ee]
            have LVv26 := hide mm
            have MAv26 := hide ((unhide MAv25).kept kk (by have := unhide ZL; omega))
            have MBv26 := hide ((unhide MBv25).kept kk (by have := unhide ZL; omega))
            have NMv26 := hide ((unhide NMv25).kept kk (unhide NL))
            have Kv26 := hide (below_of_kept (unhide Kv25) kk (by have := unhide ZL; omega) (unhide Kv25).size)
            have Zv26 := hide (Nat.le_trans (unhide Zv25) kk.size)
            clear kk
            refine hK _ _ (fun _ => ⟨⟨(unhide MAv26).cell0, (unhide MAv26).cell1⟩, ⟨(unhide MBv26).cell0, (unhide MBv26).cell1⟩⟩) ?_
            clear hK K z0 z1 f0 f1 ee mm
            refine plan_do rfl (fun K hK => ?_)
            go_simp
            refine hK _ _ (fun _ => ⟨⟨(unhide MAv26).cell0, (unhide MAv26).cell1⟩, ⟨(unhide MBv26).cell0, (unhide MBv26).cell1⟩⟩) ?_
            clear hK K
            refine plan_do rfl (fun K hK => ?_)
            go_simp
            refine hK _ _ (fun _ => ⟨⟨(unhide MAv26).cell0, (unhide MAv26).cell1⟩, ⟨(unhide MBv26).cell0, (unhide MBv26).cell1⟩⟩) ?_
            clear hK K
            refine plan_end ?_
            go_wp2_with fail
            go_meet
            exact ⟨L, r, c, h, rfl, rfl, rfl, (unhide LVv26), (unhide NMv26), unhide RH, unhide IM, (unhide MAv26), (unhide MBv26), (unhide Kv26), (unhide Zv26)⟩
        · go_simp
          obtain ⟨v27, ee, mm, kk, ss⟩ := mb_alloc v19 0 (.slice none 0 0)
          rw [← ee]
          have LVv27 := hide mm
          have LLv27 := hide (show v19.heap.size < v27.heap.size by omega)
          have ZL := hide (unhide Zv19)
          clear ee mm ss
          have MAv27 := hide ((unhide MAv19).below kk)
          have MBv27 := hide ((unhide MBv19).below kk)
          have RAv27 := hide ((unhide RAv19).below kk)
          have Kv27 := hide ((unhide Kv19).trans (Below.le kk (unhide Kv19).size))
          have Zv27 := hide (Nat.le_trans (unhide Zv19) kk.size)
          have CSv27 := hide kk.size
          clear kk MAv19 MBv19 RAv19 Kv19 Zv19
          refine hK _ _ (fun _ => ⟨⟨(unhide MAv27).cell0, (unhide MAv27).cell1⟩, ⟨(unhide MBv27).cell0, (unhide MBv27).cell1⟩⟩) ?_
          clear hK K
          generalize v19.heap.size = L at *
          refine plan_do rfl (fun K hK => ?_)
          go_simp
          refine (ownK_any (n) bo (n * n) c2 g _ (((unhide AB)).below (unhide Kv27))).mono ?_
          rintro e v28 ⟨aoB, capB, rfl, ra, kk⟩
          have RBv28 := hide ra
          have MAv28 := hide ((unhide MAv27).below kk)
          have MBv28 := hide ((unhide MBv27).below kk)
          have RAv28 := hide ((unhide RAv27).below kk)
          have LVv28 := hide ((unhide LVv27).below kk)
          have Kv28 := hide ((unhide Kv27).trans (Below.le kk (unhide Kv27).size))
          have Zv28 := hide (Nat.le_trans (unhide Zv27) kk.size)
          have CSv28 := hide kk.size
          clear kk MAv27 MBv27 RAv27 LVv27 Kv27 Zv27
          clear ra
          refine hK _ _ (fun _ => ⟨⟨(unhide MAv28).cell0, (unhide MAv28).cell1⟩, ⟨(unhide MBv28).cell0, (unhide MBv28).cell1⟩⟩) ?_
          clear hK K
          have LLv28 := hide (Nat.lt_of_lt_of_le (unhide LLv27) (unhide CSv28))
          refine plan_do rfl (fun K hK => ?_)
          go_simp
          refine (mul_good n _ _ _ _ f g _ (unhide H1) (unhide H6) (unhide RF) (unhide RG) (unhide RAv28) (unhide RBv28)).mono ?_
          rintro e v29 ⟨r, c, h, rfl, hr, nm, rh, im, kk⟩
          have NL := hide (show r ≠ L by have := unhide LLv28; omega)
          have NMv29 := hide nm
          have MAv29 := hide ((unhide MAv28).below kk)
          have MBv29 := hide ((unhide MBv28).below kk)
          have RAv29 := hide ((unhide RAv28).below kk)
          have LVv29 := hide ((unhide LVv28).below kk)
          have RBv29 := hide ((unhide RBv28).below kk)
          have Kv29 := hide ((unhide Kv28).trans (Below.le kk (unhide Kv28).size))
          have Zv29 := hide (Nat.le_trans (unhide Zv28) kk.size)
          have CSv29 := hide kk.size
          clear kk MAv28 MBv28 RAv28 LVv28 RBv28 Kv28 Zv28
          have RH := hide rh; have IM := hide im
          clear hr nm rh im
          refine hK _ _ (fun _ => ⟨⟨(unhide MAv29).cell0, (unhide MAv29).cell1⟩, ⟨(unhide MBv29).cell0, (unhide MBv29).cell1⟩⟩) ?_
          clear hK K
          have LLv29 := hide (Nat.lt_of_lt_of_le (unhide LLv28) (unhide CSv29))
          iterate 4
            refine plan_read (v := ?_) rfl (fun _ _ _ h => h) (by rfl) ⟨⟨(unhide MAv29).cell0, (unhide MAv29).cell1⟩, ⟨(unhide MBv29).cell0, (unhide MBv29).cell1⟩⟩ ?_ ?_
            rotate_left 1
            · intro wx hwx
              obtain ⟨⟨q1, q2⟩, ⟨q3, q4⟩⟩ := hwx
              go_simp <;> exact rfl
            go_frame
          refine plan_do rfl (fun K hK => ?_)
          have z0 := (unhide LVv29).cell0; have z1 := (unhide LVv29).cell1; have f0 := (unhide LVv29).free 0; have f1 := (unhide LVv29).free 1
          go_simp
          obtain ⟨v30, ee, mm, kk⟩ := (unhide LVv29).put (n) (.slice (some ⟨r, 0, none⟩) (n * n) c)
          rw [← ee]
          have LVv30 := hide mm
          have MAv30 := hide ((unhide MAv29).kept kk (by have := unhide ZL; omega))
          have MBv30 := hide ((unhide MBv29).kept kk (by have := unhide ZL; omega))
          have NMv30 := hide ((unhide NMv29).kept kk (unhide NL))
          have Kv30 := hide (below_of_kept (unhide Kv29) kk (by have := unhide ZL; omega) (unhide Kv29).size)
          have Zv30 := hide (Nat.le_trans (unhide Zv29) kk.size)
          clear kk
          refine hK _ _ (fun _ => ⟨⟨(unhide MAv30).cell0, (unhide MAv30).cell1⟩, ⟨(unhide MBv30).cell0, (unhide MBv30).cell1⟩⟩) ?_
          clear hK K z0 z1 f0 f1 ee mm
          refine plan_do rfl (fun K hK => ?_)
          go_simp
          refine hK _ _ (fun _ => ⟨⟨(unhide MAv30).cell0, (unhide MAv30).cell1⟩, ⟨(unhide MBv30).cell0, (unhide MBv30).cell1⟩⟩) ?_
          clear hK K
          refine plan_do rfl (fun K hK => ?_)
          go_simp
          refine hK _ _ (fun _ => ⟨⟨(unhide MAv30).cell0, (unhide MAv30).cell1⟩, ⟨(unhide MBv30).cell0, (unhide MBv30).cell1⟩⟩) ?_
          clear hK K
          refine plan_end ?_
          go_wp2_with fail
          go_meet
          exact ⟨L, r, c, h, rfl, rfl, rfl, (unhide LVv30), (unhide NMv30), unhide RH, unhide IM, (unhide MAv30), (unhide MBv30), (unhide Kv30), (unhide Zv30)⟩
      · go_simp
        obtain ⟨v31, ee, mm, kk, ss⟩ := mb_alloc u0 0 (.slice none 0 0)
        rw [← ee]
        have LVv31 := hide mm
        have LLv31 := hide (show u0.heap.size < v31.heap.size by omega)
        have ZL := hide (unhide Zu0)
        clear ee mm ss
        have MAv31 := hide ((unhide MAu0).below kk)
        have MBv31 := hide ((unhide MBu0).below kk)
        have Kv31 := hide ((unhide Ku0).trans (Below.le kk (unhide Ku0).size))
        have Zv31 := hide (Nat.le_trans (unhide Zu0) kk.size)
        have CSv31 := hide kk.size
        clear kk MAu0 MBu0 Ku0 Zu0
        refine hK _ _ (fun _ => ⟨⟨(unhide MAv31).cell0, (unhide MAv31).cell1⟩, ⟨(unhide MBv31).cell0, (unhide MBv31).cell1⟩⟩) ?_
        clear hK K
        generalize u0.heap.size = L at *
        refine plan_do rfl (fun K hK => ?_)
        go_simp
        refine (ownK_any (n) ao (n * n) cap f _ (((unhide AA)).below (unhide Kv31))).mono ?_
        rintro e v32 ⟨aoA, capA, rfl, ra, kk⟩
        have RAv32 := hide ra
        have MAv32 := hide ((unhide MAv31).below kk)
        have MBv32 := hide ((unhide MBv31).below kk)
        have LVv32 := hide ((unhide LVv31).below kk)
        have Kv32 := hide ((unhide Kv31).trans (Below.le kk (unhide Kv31).size))
        have Zv32 := hide (Nat.le_trans (unhide Zv31) kk.size)
        have CSv32 := hide kk.size
        clear kk MAv31 MBv31 LVv31 Kv31 Zv31
        clear ra
        refine hK _ _ (fun _ => ⟨⟨(unhide MAv32).cell0, (unhide MAv32).cell1⟩, ⟨(unhide MBv32).cell0, (unhide MBv32).cell1⟩⟩) ?_
        clear hK K
        have LLv32 := hide (Nat.lt_of_lt_of_le (unhide LLv31) (unhide CSv32))
        refine plan_do rfl (fun K hK => ?_)
        go_simp
        refine (ownK_any (n) bo (n * n) c2 g _ (((unhide AB)).below (unhide Kv32))).mono ?_
        rintro e v33 ⟨aoB, capB, rfl, ra, kk⟩
        have RBv33 := hide ra
        have MAv33 := hide ((unhide MAv32).below kk)
        have MBv33 := hide ((unhide MBv32).below kk)
        have LVv33 := hide ((unhide LVv32).below kk)
        have RAv33 := hide ((unhide RAv32).below kk)
        have Kv33 := hide ((unhide Kv32).trans (Below.le kk (unhide Kv32).size))
        have Zv33 := hide (Nat.le_trans (unhide Zv32) kk.size)
        have CSv33 := hide kk.size
        clear kk MAv32 MBv32 LVv32 RAv32 Kv32 Zv32
        clear ra
        refine hK _ _ (fun _ => ⟨⟨(unhide MAv33).cell0, (unhide MAv33).cell1⟩, ⟨(unhide MBv33).cell0, (unhide MBv33).cell1⟩⟩) ?_
        clear hK K
        have LLv33 := hide (Nat.lt_of_lt_of_le (unhide LLv32) (unhide CSv33))
        refine plan_do rfl (fun K hK => ?_)
        go_simp
        refine (mul_good n _ _ _ _ f g _ (unhide H1) (unhide H6) (unhide RF) (unhide RG) (unhide RAv33) (unhide RBv33)).mono ?_
        rintro e v34 ⟨r, c, h, rfl, hr, nm, rh, im, kk⟩
        have NL := hide (show r ≠ L by have := unhide LLv33; omega)
        have NMv34 := hide nm
        have MAv34 := hide ((unhide MAv33).below kk)
        have MBv34 := hide ((unhide MBv33).below kk)
        have LVv34 := hide ((unhide LVv33).below kk)
        have RAv34 := hide ((unhide RAv33).below kk)
        have RBv34 := hide ((unhide RBv33).below kk)
        have Kv34 := hide ((unhide Kv33).trans (Below.le kk (unhide Kv33).size))
        have Zv34 := hide (Nat.le_trans (unhide Zv33) kk.size)
        have CSv34 := hide kk.size
        clear kk MAv33 MBv33 LVv33 RAv33 RBv33 Kv33 Zv33
        have RH := hide rh; have IM := hide im
        clear hr nm rh im
        refine hK _ _ (fun _ => ⟨⟨(unhide MAv34).cell0, (unhide MAv34).cell1⟩, ⟨(unhide MBv34).cell0, (unhide MBv34).cell1⟩⟩) ?_
        clear hK K
        have LLv34 := hide (Nat.lt_of_lt_of_le (unhide LLv33) (unhide CSv34))
        iterate 4
          refine plan_read (v := ?_) rfl (fun _ _ _ h => h) (by rfl) ⟨⟨(unhide MAv34).cell0, (unhide MAv34).cell1⟩, ⟨(unhide MBv34).cell0, (unhide MBv34).cell1⟩⟩ ?_ ?_
          rotate_left 1
          · intro wx hwx
            obtain ⟨⟨q1, q2⟩, ⟨q3, q4⟩⟩ := hwx
            go_simp <;> exact rfl
          go_frame
        refine plan_do rfl (fun K hK => ?_)
        have z0 := (unhide LVv34).cell0; have z1 := (unhide LVv34).cell1; have f0 := (unhide LVv34).free 0; have f1 := (unhide LVv34).free 1
        go_simp
        obtain ⟨v35, ee, mm, kk⟩ := (unhide LVv34).put (n) (.slice (some ⟨r, 0, none⟩) (n * n) c)
        rw [← ee]
        have LVv35 := hide mm
        have MAv35 := hide ((unhide MAv34).kept kk (by have := unhide ZL; omega))
        have MBv35 := hide ((unhide MBv34).kept kk (by have := unhide ZL; omega))
        have NMv35 := hide ((unhide NMv34).kept kk (unhide NL))
        have Kv35 := hide (below_of_kept (unhide Kv34) kk (by have := unhide ZL; omega) (unhide Kv34).size)
        have Zv35 := hide (Nat.le_trans (unhide Zv34) kk.size)
        clear kk
        refine hK _ _ (fun _ => ⟨⟨(unhide MAv35).cell0, (unhide MAv35).cell1⟩, ⟨(unhide MBv35).cell0, (unhide MBv35).cell1⟩⟩) ?_
        clear hK K z0 z1 f0 f1 ee mm
        refine plan_do rfl (fun K hK => ?_)
        go_simp
        refine hK _ _ (fun _ => ⟨⟨(unhide MAv35).cell0, (unhide MAv35).cell1⟩, ⟨(unhide MBv35).cell0, (unhide MBv35).cell1⟩⟩) ?_
        clear hK K
        refine plan_do rfl (fun K hK => ?_)
        go_simp
        refine hK _ _ (fun _ => ⟨⟨(unhide MAv35).cell0, (unhide MAv35).cell1⟩, ⟨(unhide MBv35).cell0, (unhide MBv35).cell1⟩⟩) ?_
        clear hK K
        refine plan_end ?_
        go_wp2_with fail
        go_meet
        exact ⟨L, r, c, h, rfl, rfl, rfl, (unhide LVv35), (unhide NMv35), unhide RH, unhide IM, (unhide MAv35), (unhide MBv35), (unhide Kv35), (unhide Zv35)⟩
    case rest =>
      obtain ⟨L, r, c, h, rfl, rfl, rfl, lv, nm, rh, im, ma, mb, kc, zc⟩ := hcut
      have LVwc := hide lv; have NMwc := hide nm; have RH := hide rh; have IM := hide im; have MAwc := hide ma; have MBwc := hide mb; have Kwc := hide kc; have Zwc := hide zc
      clear lv nm rh im ma mb kc zc MAw1 MBw1 Kw1 Zw1 E1
      have MAx := (unhide MAwc).cell0; have MAy := (unhide MAwc).cell1; have MAl := (unhide MAwc).lt
      go_wp2_with fail
      clear MAx MAy MAl
      refine (ownK_any (n) ao (n * n) cap f _ (((unhide AA)).below (unhide Kwc))).mono ?_
      rintro e v36 ⟨aoA, capA, rfl, ra, kk⟩
      have RAv36 := hide ra
      have LVv36 := hide ((unhide LVwc).below kk)
      have NMv36 := hide ((unhide NMwc).below kk)
      have MAv36 := hide ((unhide MAwc).below kk)
      have MBv36 := hide ((unhide MBwc).below kk)
      have Kv36 := hide ((unhide Kwc).trans (Below.le kk (unhide Kwc).size))
      have Zv36 := hide (Nat.le_trans (unhide Zwc) kk.size)
      have CSv36 := hide kk.size
      clear kk LVwc NMwc MAwc MBwc Kwc Zwc
      clear ra
      go_wp2_with fail
      refine (turn_good n aoA capA f _ (unhide H1) (unhide H6) (unhide RF) (unhide RAv36)).mono ?_
      rintro e v37 ⟨rS, cS, gS, rfl, hr, nn, rg, tt, kk⟩
      have NSv37 := hide nn
      have LVv37 := hide ((unhide LVv36).below kk)
      have NMv37 := hide ((unhide NMv36).below kk)
      have MAv37 := hide ((unhide MAv36).below kk)
      have MBv37 := hide ((unhide MBv36).below kk)
      have RAv37 := hide ((unhide RAv36).below kk)
      have Kv37 := hide ((unhide Kv36).trans (Below.le kk (unhide Kv36).size))
      have Zv37 := hide (Nat.le_trans (unhide Zv36) kk.size)
      have CSv37 := hide kk.size
      clear kk LVv36 NMv36 MAv36 MBv36 RAv36 Kv36 Zv36
      have RGS := hide rg; have TTS := hide tt
      clear hr nn rg tt
      have MBx := (unhide MBv37).cell0; have MBy := (unhide MBv37).cell1; have MBl := (unhide MBv37).lt
      go_wp2_with fail
      clear MBx MBy MBl
      obtain ⟨v38, ee, mm, kk, ss⟩ := mb_alloc v37 ((n : Int)) (.slice (some ⟨rS, 0, none⟩) (n * n) cS)
      have Ev38 := hide ee
      have VSv38 := hide mm
      clear ee mm ss
      have LVv38 := hide ((unhide LVv37).below kk)
      have NMv38 := hide ((unhide NMv37).below kk)
      have MAv38 := hide ((unhide MAv37).below kk)
      have MBv38 := hide ((unhide MBv37).below kk)
      have RAv38 := hide ((unhide RAv37).below kk)
      have NSv38 := hide ((unhide NSv37).below kk)
      have Kv38 := hide ((unhide Kv37).trans (Below.le kk (unhide Kv37).size))
      have Zv38 := hide (Nat.le_trans (unhide Zv37) kk.size)
      have CSv38 := hide kk.size
      clear kk LVv37 NMv37 MAv37 MBv37 RAv37 NSv37 Kv37 Zv37
      rw [← unhide Ev38]
      refine (ownK_any (n) bo (n * n) c2 g _ (((unhide AB)).below (unhide Kv38))).mono ?_
      rintro e v39 ⟨aoB, capB, rfl, ra, kk⟩
      have RBv39 := hide ra
      have LVv39 := hide ((unhide LVv38).below kk)
      have NMv39 := hide ((unhide NMv38).below kk)
      have MAv39 := hide ((unhide MAv38).below kk)
      have MBv39 := hide ((unhide MBv38).below kk)
      have RAv39 := hide ((unhide RAv38).below kk)
      have NSv39 := hide ((unhide NSv38).below kk)
      have VSv39 := hide ((unhide VSv38).below kk)
      have Kv39 := hide ((unhide Kv38).trans (Below.le kk (unhide Kv38).size))
      have Zv39 := hide (Nat.le_trans (unhide Zv38) kk.size)
      have CSv39 := hide kk.size
      clear kk LVv38 NMv38 MAv38 MBv38 RAv38 NSv38 VSv38 Kv38 Zv38
      clear ra
      go_wp2_with fail
      refine (turn_good n aoB capB g _ (unhide H1) (unhide H6) (unhide RG) (unhide RBv39)).mono ?_
      rintro e v40 ⟨rT, cT, gT, rfl, hr, nn, rg, tt, kk⟩
      have NTv40 := hide nn
      have LVv40 := hide ((unhide LVv39).below kk)
      have NMv40 := hide ((unhide NMv39).below kk)
      have MAv40 := hide ((unhide MAv39).below kk)
      have MBv40 := hide ((unhide MBv39).below kk)
      have RAv40 := hide ((unhide RAv39).below kk)
      have NSv40 := hide ((unhide NSv39).below kk)
      have VSv40 := hide ((unhide VSv39).below kk)
      have RBv40 := hide ((unhide RBv39).below kk)
      have Kv40 := hide ((unhide Kv39).trans (Below.le kk (unhide Kv39).size))
      have Zv40 := hide (Nat.le_trans (unhide Zv39) kk.size)
      have CSv40 := hide kk.size
      clear kk LVv39 NMv39 MAv39 MBv39 RAv39 NSv39 VSv39 RBv39 Kv39 Zv39
      have RGT := hide rg; have TTT := hide tt
      clear hr nn rg tt
      have VSx := (unhide VSv40).cell0; have VSy := (unhide VSv40).cell1; have VSl := (unhide VSv40).lt
      go_wp2_with fail
      clear VSx VSy VSl
      obtain ⟨v41, ee, mm, kk, ss⟩ := mb_alloc v40 ((n : Int)) (.slice (some ⟨rT, 0, none⟩) (n * n) cT)
      have Ev41 := hide ee
      have VTv41 := hide mm
      clear ee mm ss
      have LVv41 := hide ((unhide LVv40).below kk)
      have NMv41 := hide ((unhide NMv40).below kk)
      have MAv41 := hide ((unhide MAv40).below kk)
      have MBv41 := hide ((unhide MBv40).below kk)
      have RAv41 := hide ((unhide RAv40).below kk)
      have NSv41 := hide ((unhide NSv40).below kk)
      have VSv41 := hide ((unhide VSv40).below kk)
      have RBv41 := hide ((unhide RBv40).below kk)
      have NTv41 := hide ((unhide NTv40).below kk)
      have Kv41 := hide ((unhide Kv40).trans (Below.le kk (unhide Kv40).size))
      have Zv41 := hide (Nat.le_trans (unhide Zv40) kk.size)
      have CSv41 := hide kk.size
      clear kk LVv40 NMv40 MAv40 MBv40 RAv40 NSv40 VSv40 RBv40 NTv40 Kv40 Zv40
      rw [← unhide Ev41]
      refine (mul_good n _ _ _ _ gT gS _ (unhide H1) (unhide H6) (unhide RGT) (unhide RGS) (unhide NTv41).rds (unhide NSv41).rds).mono ?_
      rintro e v42 ⟨rB, cB, hB, rfl, hr, nn, rg, tt, kk⟩
      have NBv42 := hide nn
      have LVv42 := hide ((unhide LVv41).below kk)
      have NMv42 := hide ((unhide NMv41).below kk)
      have MAv42 := hide ((unhide MAv41).below kk)
      have MBv42 := hide ((unhide MBv41).below kk)
      have RAv42 := hide ((unhide RAv41).below kk)
      have NSv42 := hide ((unhide NSv41).below kk)
      have VSv42 := hide ((unhide VSv41).below kk)
      have RBv42 := hide ((unhide RBv41).below kk)
      have NTv42 := hide ((unhide NTv41).below kk)
      have VTv42 := hide ((unhide VTv41).below kk)
      have Kv42 := hide ((unhide Kv41).trans (Below.le kk (unhide Kv41).size))
      have Zv42 := hide (Nat.le_trans (unhide Zv41) kk.size)
      have CSv42 := hide kk.size
      clear kk LVv41 NMv41 MAv41 MBv41 RAv41 NSv41 VSv41 RBv41 NTv41 VTv41 Kv41 Zv41
      have IMB := hide tt
      clear hr nn rg tt
      have LVx := (unhide LVv42).cell0; have LVy := (unhide LVv42).cell1; have LVl := (unhide LVv42).lt
      go_wp2_with fail
      clear LVx LVy LVl
      obtain ⟨v43, ee, mm, kk, ss⟩ := mb_alloc v42 ((n : Int)) (.slice (some ⟨rB, 0, none⟩) (n * n) cB)
      have Ev43 := hide ee
      have VBv43 := hide mm
      clear ee mm ss
      have LVv43 := hide ((unhide LVv42).below kk)
      have NMv43 := hide ((unhide NMv42).below kk)
      have MAv43 := hide ((unhide MAv42).below kk)
      have MBv43 := hide ((unhide MBv42).below kk)
      have RAv43 := hide ((unhide RAv42).below kk)
      have NSv43 := hide ((unhide NSv42).below kk)
      have VSv43 := hide ((unhide VSv42).below kk)
      have RBv43 := hide ((unhide RBv42).below kk)
      have NTv43 := hide ((unhide NTv42).below kk)
      have VTv43 := hide ((unhide VTv42).below kk)
      have NBv43 := hide ((unhide NBv42).below kk)
      have Kv43 := hide ((unhide Kv42).trans (Below.le kk (unhide Kv42).size))
      have Zv43 := hide (Nat.le_trans (unhide Zv42) kk.size)
      have CSv43 := hide kk.size
      clear kk LVv42 NMv42 MAv42 MBv42 RAv42 NSv42 VSv42 RBv42 NTv42 VTv42 NBv42 Kv42 Zv42
      rw [← unhide Ev43]
      refine (turn_good n _ c h _ (unhide H1) (unhide H6) (unhide RH) (unhide NMv43).rds).mono ?_
      rintro e v44 ⟨rC, cC, gC, rfl, hr, nn, rg, tt, kk⟩
      have NCv44 := hide nn
      have LVv44 := hide ((unhide LVv43).below kk)
      have NMv44 := hide ((unhide NMv43).below kk)
      have MAv44 := hide ((unhide MAv43).below kk)
      have MBv44 := hide ((unhide MBv43).below kk)
      have RAv44 := hide ((unhide RAv43).below kk)
      have NSv44 := hide ((unhide NSv43).below kk)
      have VSv44 := hide ((unhide VSv43).below kk)
      have RBv44 := hide ((unhide RBv43).below kk)
      have NTv44 := hide ((unhide NTv43).below kk)
      have VTv44 := hide ((unhide VTv43).below kk)
      have NBv44 := hide ((unhide NBv43).below kk)
      have VBv44 := hide ((unhide VBv43).below kk)
      have Kv44 := hide ((unhide Kv43).trans (Below.le kk (unhide Kv43).size))
      have Zv44 := hide (Nat.le_trans (unhide Zv43) kk.size)
      have CSv44 := hide kk.size
      clear kk LVv43 NMv43 MAv43 MBv43 RAv43 NSv43 VSv43 RBv43 NTv43 VTv43 NBv43 VBv43 Kv43 Zv43
      have RGC := hide rg; have TTC := hide tt
      clear hr nn rg tt
      go_wp2_with fail
      obtain ⟨v45, ee, mm, kk, ss⟩ := mb_alloc v44 ((n : Int)) (.slice (some ⟨rC, 0, none⟩) (n * n) cC)
      have Ev45 := hide ee
      have VCv45 := hide mm
      clear ee mm ss
      have LVv45 := hide ((unhide LVv44).below kk)
      have NMv45 := hide ((unhide NMv44).below kk)
      have MAv45 := hide ((unhide MAv44).below kk)
      have MBv45 := hide ((unhide MBv44).below kk)
      have RAv45 := hide ((unhide RAv44).below kk)
      have NSv45 := hide ((unhide NSv44).below kk)
      have VSv45 := hide ((unhide VSv44).below kk)
      have RBv45 := hide ((unhide RBv44).below kk)
      have NTv45 := hide ((unhide NTv44).below kk)
      have VTv45 := hide ((unhide VTv44).below kk)
      have NBv45 := hide ((unhide NBv44).below kk)
      have VBv45 := hide ((unhide VBv44).below kk)
      have NCv45 := hide ((unhide NCv44).below kk)
      have Kv45 := hide ((unhide Kv44).trans (Below.le kk (unhide Kv44).size))
      have Zv45 := hide (Nat.le_trans (unhide Zv44) kk.size)
      have CSv45 := hide kk.size
      clear kk LVv44 NMv44 MAv44 MBv44 RAv44 NSv44 VSv44 RBv44 NTv44 VTv44 NBv44 VBv44 NCv44 Kv44 Zv44
      rw [← unhide Ev45]
      refine (stands_any _).mono ?_
      rintro e v46 ⟨rfl, kk⟩
      have LVv46 := hide ((unhide LVv45).below kk)
      have NMv46 := hide ((unhide NMv45).below kk)
      have MAv46 := hide ((unhide MAv45).below kk)
      have MBv46 := hide ((unhide MBv45).below kk)
      have RAv46 := hide ((unhide RAv45).below kk)
      have NSv46 := hide ((unhide NSv45).below kk)
      have VSv46 := hide ((unhide VSv45).below kk)
      have RBv46 := hide ((unhide RBv45).below kk)
      have NTv46 := hide ((unhide NTv45).below kk)
      have VTv46 := hide ((unhide VTv45).below kk)
      have NBv46 := hide ((unhide NBv45).below kk)
      have VBv46 := hide ((unhide VBv45).below kk)
      have NCv46 := hide ((unhide NCv45).below kk)
      have VCv46 := hide ((unhide VCv45).below kk)
      have Kv46 := hide ((unhide Kv45).trans (Below.le kk (unhide Kv45).size))
      have Zv46 := hide (Nat.le_trans (unhide Zv45) kk.size)
      have CSv46 := hide kk.size
      clear kk LVv45 NMv45 MAv45 MBv45 RAv45 NSv45 VSv45 RBv45 NTv45 VTv45 NBv45 VBv45 NCv45 VCv45 Kv45 Zv45
      have VBx := (unhide VBv46).cell0; have VBy := (unhide VBv46).cell1; have VBl := (unhide VBv46).lt
      have VCx := (unhide VCv46).cell0; have VCy := (unhide VCv46).cell1; have VCl := (unhide VCv46).lt
      obtain ⟨q1, q2⟩ := turned_mul (unhide IM) (unhide TTS) (unhide TTT) (unhide IMB) (unhide TTC)
      have Q1 := hide q1
      have tb : (mulB n f g == mulB n gT gS) = true := by rw [q2]; simp
      clear q1 q2
      go_wp2_with fail
      clear VBx VBy VBl VCx VCy VCl
      refine (same_yes _ _ _ _ _ hB gC _ (by have := unhide h36; omega) (unhide NBv46).rds (unhide NCv46).rds (unhide Q1)).mono ?_
      rintro e v47 ⟨rfl, kk⟩
      have LVv47 := hide ((unhide LVv46).below kk)
      have NMv47 := hide ((unhide NMv46).below kk)
      have MAv47 := hide ((unhide MAv46).below kk)
      have MBv47 := hide ((unhide MBv46).below kk)
      have RAv47 := hide ((unhide RAv46).below kk)
      have NSv47 := hide ((unhide NSv46).below kk)
      have VSv47 := hide ((unhide VSv46).below kk)
      have RBv47 := hide ((unhide RBv46).below kk)
      have NTv47 := hide ((unhide NTv46).below kk)
      have VTv47 := hide ((unhide VTv46).below kk)
      have NBv47 := hide ((unhide NBv46).below kk)
      have VBv47 := hide ((unhide VBv46).below kk)
      have NCv47 := hide ((unhide NCv46).below kk)
      have VCv47 := hide ((unhide VCv46).below kk)
      have Kv47 := hide ((unhide Kv46).trans (Below.le kk (unhide Kv46).size))
      have Zv47 := hide (Nat.le_trans (unhide Zv46) kk.size)
      have CSv47 := hide kk.size
      clear kk LVv46 NMv46 MAv46 MBv46 RAv46 NSv46 VSv46 RBv46 NTv46 VTv46 NBv46 VBv46 NCv46 VCv46 Kv46 Zv46
      go_wp2_with fail
      go_ret
      exact ⟨rfl, (unhide Kv47)⟩

end Go.Proofs.Ytnfejfdekedmhab
