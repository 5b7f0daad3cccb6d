/- Contracts: GoodMat, SameInts of the reference; least, sameMat of the statements' package. -/
import Derived.Test.YtnfejfdekedmhaaMatOwn
namespace Go.Proofs.Ytnfejfdekedmhaa
open Go.RowKit

set_option maxHeartbeats 400000 in
theorem goodMat_any (N : Int) (ao : Option Addr) (len cap : Nat) (w : World) :
    Calls Try.prog 11 #[.agg #[.int .i64 N, .slice ao len cap]] w fun e w' => e = .returned (.bool (goodM N len)) ∧ Below w.heap.size w w' := by
  obtain ⟨w1, e1⟩ : ∃ w1, w1 = w.alloc (.cells #[.int .i64 N, .slice ao len cap] 24) := ⟨_, rfl⟩
  have hb : MbAt w1 w.heap.size N (.slice ao len cap) := by rw [e1]; exact MbAt.new w _ _
  have c0 := hb.cell0; have c1 := hb.cell1
  have K := hide (show Below w.heap.size w w1 by rw [e1]; exact al_below w _)
  have E1 := hide e1
  clear hb e1
  by_cases h1 : 1 ≤ N
  · by_cases h6 : N ≤ 6
    · obtain ⟨s, es⟩ : ∃ s, s = N * N := ⟨_, rfl⟩
      have ws : IntKind.i64.wrap (N * N) = s := by
        rw [← es, IntKind.wrap_i64]
        obtain ⟨n, rfl⟩ : ∃ n : Nat, N = (n : Int) := ⟨N.toNat, by omega⟩
        have h := Nat.mul_le_mul (show n ≤ 6 by omega) (show n ≤ 6 by omega)
        rw [es, ← Int.natCast_mul]; generalize n * n = q at *; omega
      have G := hide (show goodM N len = decide ((len : Int) = s) by unfold goodM; rw [es]; simp [h1, h6])
      clear es
      go_enter Try.func11, Try.ntmps11
      go_wp2_with fail
      rw [← unhide E1]
      go_wp2_with fail
      go_ret
      refine ⟨?_, unhide K⟩
      rw [unhide G]
      by_cases hq : (len : Int) = s
      · simp [hq]
      · simp [hq, show ¬ s = (len : Int) from fun e => hq e.symm]
    · have G := hide (show goodM N len = false by unfold goodM; simp [h6])
      go_enter Try.func11, Try.ntmps11
      go_wp2_with fail
      rw [← unhide E1]
      go_wp2_with fail
      go_ret
      exact ⟨by rw [unhide G]; rfl, unhide K⟩
  · have G := hide (show goodM N len = false by unfold goodM; simp [h1])
    go_enter Try.func11, Try.ntmps11
    go_wp2_with fail
    rw [← unhide E1]
    go_wp2_with fail
    go_ret
    exact ⟨by rw [unhide G]; rfl, unhide K⟩


set_option maxHeartbeats 1000000 in
theorem sameInts_yes (ao bo : Option Addr) (l ca cb : Nat) (f g : Nat → Int) (w : World) (hl : l ≤ 1000) (ha : Rds w ao l f) (hb : Rds w bo l g) (he : ∀ i, i < l → f i = g i) :
    Calls Try.prog 20 #[.slice ao l ca, .slice bo l cb] w fun e w' => e = .returned (.bool true) ∧ Below w.heap.size w w' := by
  have tl : ((l : Int) != (l : Int)) = false := by simp
  have HA := hide ha; have HB := hide hb; have HE := hide he
  clear ha hb he
  go_enter Try.func20, Try.ntmps20
  go_wp2_with fail
  go_loopw [5, 13] (fun _ is wr => ∃ i : Nat, is = .int .i64 i ∧ i ≤ l ∧ Below w.heap.size w wr)
    (fun _ is _ => l - (intOf is).toNat)
  case atStart => exact ⟨0, rfl, Nat.zero_le _, Below.refl _ _⟩
  case round =>
    obtain ⟨i, rfl, hi, hK⟩ := hrel
    by_cases hin : i < l
    · obtain ⟨b, o, rfl, hc⟩ := unhide HA (by omega)
      obtain ⟨b2, o2, rfl, hc2⟩ := unhide HB (by omega)
      have c1 := at_below (hc i hin) hK
      have c2 := at_below (hc2 i hin) hK
      rw [unhide HE i hin] at c1
      have tg : ((g i) != (g i)) = false := by simp
      have HK := hide hK
      clear hK hc hc2
      go_wp2_with fail
      go_region
      go_wp2_with fail
      go_roundw
      case rel => exact ⟨i + 1, by go_num, by omega, below_drew (unhide HK)⟩
      case measure => simp [intOf] <;> omega
    · have hin2 : i = l := by omega
      subst hin2
      have HK := hide hK
      clear hK
      go_wp2_with fail
      go_ret
      exact ⟨rfl, unhide HK⟩

set_option maxHeartbeats 400000 in
theorem least_any (x : Int) (hx : R64 x) (w : World) :
    Calls Try.prog 12 #[.int .i64 x] w fun e w' =>
      ∃ m r : Nat, m = 1 ∧ e = .returned (.agg #[.int .i64 (m : Int), .slice (some ⟨r, 0, none⟩) (m * m) 1]) ∧ Nh w' r (m * m) 1 (fun _ => x) ∧ (∀ _ : Nat, R64 x) ∧ Below w.heap.size w w' := by
  have HX := hide hx
  clear hx
  go_enter Try.func12, Try.ntmps12
  go_wp2_with fail
  refine bodyPost_ret (v := .agg #[.int .i64 1, .slice (some ⟨w.heap.size + 1, 0, none⟩) 1 1]) (by simp [results, Try.results12, go_sem]) rfl ⟨1, w.heap.size + 1, rfl, rfl, ?_, fun _ => unhide HX, ?_⟩
  · have h := heap_alloc_new (w.alloc (.cells #[.int .i64 1, .slice (some ⟨w.heap.size + 1, 0, none⟩) 1 1] 24)) (.cells #[.int .i64 x] 3)
    rw [al_size] at h
    exact ⟨_, h, rfl, by decide, by decide, fun i hi => by
      have : i = 0 := by omega
      subst this; rfl⟩
  · exact ((Below.refl _ _).alloc (Nat.le_refl _) _).alloc (by rw [al_size]; omega) _

set_option maxHeartbeats 1000000 in
theorem matGoods_walk {w : World} (N : Int) (ao : Option Addr) (len cap : Nat) (f : Nat → Int) (_rN : R64 N) (ar : ArgS w ao len cap f) :
    Calls Try.prog 3 #[.agg #[.int .i64 N, .slice ao len cap]] w fun e w' => e = .returned (.bool true) ∧ Below w.heap.size w w' := by
  obtain ⟨w1, e1, m1, k1, s1⟩ := mb_alloc w N (.slice ao len cap)
  have hS : Cl2 w.heap.size (.int .i64 N) (.slice ao len cap) w1.drew := ⟨m1.cell0, m1.cell1⟩
  have E1 := hide e1; have K1 := hide (below_drew k1); have AR := hide (show ArgS w1.drew ao len cap f from ar.below (below_drew k1))
  clear e1 m1 k1 s1 ar
  go_enter Try.func3, Try.ntmps3
  go_wp2_with fail
  rw [← unhide E1]
  refine region_by (S := Cl2 w.heap.size (.int .i64 N) (.slice ao len cap))
    [(0, false), (3, false), (1, true), (2, true), (4, true), (5, false), (6, false), (7, true), (8, true), (9, false), (10, true)] [] (by kernel_rfl) (by kernel_rfl) ?_
  iterate 2
    refine seq_read (v := ?_) rfl (fun _ _ _ h => h) (by rfl) hS ?_ ?_
    rotate_left 1
    · intro wx hwx
      obtain ⟨q1, q2⟩ := hwx
      go_simp <;> exact rfl
    go_frame
  refine seq_do rfl (fun K hK => ?_)
  go_simp
  refine (ownL_any N ao len cap f _ (unhide AR)).mono ?_
  rintro e w2 ⟨ao2, cap2, rfl, _, k2⟩
  have hS2 := hS.below k2
  refine hK _ _ (fun _ => hS2) ?_
  have K2 := hide ((unhide K1).trans (Below.le k2 (unhide K1).size))
  clear hK K hS k2
  refine seq_do rfl (fun K hK => ?_)
  go_simp
  refine (good_any N ao2 len cap2 _).mono ?_
  rintro e w3 ⟨rfl, k3⟩
  have hS3 := hS2.below k3
  refine hK _ _ (fun _ => hS3) ?_
  have K3 := hide ((unhide K2).trans (Below.le k3 (unhide K2).size))
  clear hK K hS2 k3
  refine seq_do rfl (fun K hK => ?_)
  go_simp
  refine (goodMat_any N ao len cap _).mono ?_
  rintro e w4 ⟨rfl, k4⟩
  have hS4 := hS3.below k4
  refine hK _ _ (fun _ => hS4) ?_
  have K4 := hide ((unhide K3).trans (Below.le k4 (unhide K3).size))
  have tb : (goodM N len == goodM N len) = true := by simp
  clear hK K hS3 k4
  iterate 2
    refine seq_read (v := ?_) rfl (fun _ _ _ h => h) (by rfl) hS4 ?_ ?_
    rotate_left 1
    · intro wx hwx
      obtain ⟨q1, q2⟩ := hwx
      go_simp <;> exact rfl
    go_frame
  refine seq_do rfl (fun K hK => ?_)
  go_simp
  refine (least_any 0 R64_nought _).mono ?_
  rintro e w5 ⟨m, r, em, rfl, n5, _, k5⟩
  have hS5 := hS4.below k5
  refine hK _ _ (fun _ => hS5) ?_
  have K5 := hide ((unhide K4).trans (Below.le k5 (unhide K4).size))
  have G5 := hide (goodM_nat (n := m) (by omega) (by omega))
  clear hK K hS4 k5 n5 em
  refine seq_do rfl (fun K hK => ?_)
  go_simp
  refine (good_any (m : Int) _ (m * m) _ _).mono ?_
  rintro e w6 ⟨rfl, k6⟩
  rw [unhide G5]
  have hS6 := hS5.below k6
  refine hK _ _ (fun _ => hS6) ?_
  have K6 := hide ((unhide K5).trans (Below.le k6 (unhide K5).size))
  clear hK K hS5 k6
  iterate 1
    refine seq_read (v := ?_) rfl (fun _ _ _ h => h) (by rfl) hS6 ?_ ?_
    rotate_left 1
    · intro wx hwx
      obtain ⟨q1, q2⟩ := hwx
      go_simp <;> exact rfl
    go_frame
  refine seq_do rfl (fun K hK => ?_)
  go_simp
  refine hK _ _ (fun _ => hS6) ?_
  clear hK K hS6
  refine seq_end ?_
  go_wp2_with fail
  go_ret
  exact ⟨rfl, unhide K6⟩

end Go.Proofs.Ytnfejfdekedmhaa
