/- Contracts: unit, stands. -/
import Derived.Test.YtnfejfdekedmhabMatOwn
import Derived.Test.YtnfejfdekedmhabMatFaceM
import Derived.Test.YtnfejfdekedmhabMatUnitS
namespace Go.Proofs.Ytnfejfdekedmhab
open Go.RowKit

/-- Ones on the diagonal as far as i. -/
def UnitTo (n i : Nat) (u : Nat → Int) : Prop := ∀ a c, a < n → c < n → u (a * n + c) = if a = c ∧ a < i then 4294967296 else 0
theorem unitTo_step {n i : Nat} {u : Nat → Int} (h : UnitTo n i u) (hi : i < n) : UnitTo n (i + 1) (stF u (i * n + i) 4294967296) := by
  intro a c ha hc
  by_cases e : a = i ∧ c = i
  · obtain ⟨rfl, rfl⟩ := e
    rw [stF_same, if_pos (by omega)]
  · rw [stF_other _ _ (by intro q; exact e (idx_inj hi hc q)), h a c ha hc]
    by_cases e2 : a = c ∧ a < i
    · rw [if_pos e2, if_pos (by omega)]
    · rw [if_neg e2, if_neg (by omega)]
theorem unitTo_end {n : Nat} {u : Nat → Int} (h : UnitTo n n u) : IsUnit n u := by
  intro a c ha hc
  rw [h a c ha hc]
  by_cases e : a = c
  · rw [if_pos ⟨e, ha⟩, if_pos e]
  · rw [if_neg (fun q => e q.1), if_neg e]

set_option maxHeartbeats 1000000 in
theorem unit_core (n q : Nat) (h6 : n ≤ 6) (hq : n * n = q) (w : World) :
    Calls Try.prog 21 #[.int .i64 (n : Int)] w fun e w' =>
      ∃ u, e = .returned (.agg #[.int .i64 (n : Int), .slice (some ⟨w.heap.size + 1, 0, none⟩) q q]) ∧ Nh w' (w.heap.size + 1) q q u ∧ (∀ i, R64 (u i)) ∧ IsUnit n u ∧ Below w.heap.size w w' := by
  have hq36 : q ≤ 36 := by rw [← hq]; exact sq_le h6
  have hmk := makeFull q (by omega)
  have wq : IntKind.i64.wrap ((n : Int) * (n : Int)) = (q : Int) := by rw [wrap_sq h6 h6, hq]
  have HQ := hide hq
  clear hq
  obtain ⟨w1, e1⟩ : ∃ w1, w1 = ((w.alloc (.cells #[.int .i64 0, .slice none 0 0] 24)).alloc (.cells (madeCells #[.int .i64 0] q) 3)).alloc (.cells #[.int .i64 (n : Int), .slice (some ⟨w.heap.size + 1, 0, none⟩) q q] 24) := ⟨_, rfl⟩
  have F0 := hide (show MbAt w1 w.heap.size 0 (.slice none 0 0) ∧ Nh w1 (w.heap.size + 1) q q (fun _ => 0) ∧ MbAt w1 (w.heap.size + 1 + 1) (n : Int) (.slice (some ⟨w.heap.size + 1, 0, none⟩) q q) ∧ Below w.heap.size w w1 from by
    rw [e1]
    refine ⟨((MbAt.new w 0 (.slice none 0 0)).below (al_below _ _)).below (al_below _ _), ?_, ?_, (((Below.refl _ _).alloc (Nat.le_refl _) _).alloc (by rw [al_size]; omega) _).alloc (by rw [al_size, al_size]; omega) _⟩
    · have h := (Nh.made (w.alloc (.cells #[.int .i64 0, .slice none 0 0] 24)) q (by unfold maxLen; omega)).below (al_below _ (.cells #[.int .i64 (n : Int), .slice (some ⟨w.heap.size + 1, 0, none⟩) q q] 24))
      rw [al_size] at h
      exact h
    · have h := MbAt.new ((w.alloc (.cells #[.int .i64 0, .slice none 0 0] 24)).alloc (.cells (madeCells #[.int .i64 0] q) 3)) (n : Int) (.slice (some ⟨w.heap.size + 1, 0, none⟩) q q)
      rw [al_size, al_size] at h
      exact h)
  have E1 := hide e1
  clear e1
  go_enter Try.func21, Try.ntmps21
  go_wp2_with fail
  rw [← unhide E1]
  clear hmk wq
  go_loopw [4] (fun is wr => ∃ (i : Nat) (u : Nat → Int), is = .int .i64 i ∧ i ≤ n ∧ MbAt wr w.heap.size 0 (.slice none 0 0) ∧ Nh wr (w.heap.size + 1) q q u ∧ MbAt wr (w.heap.size + 1 + 1) (n : Int) (.slice (some ⟨w.heap.size + 1, 0, none⟩) q q) ∧ (∀ i, R64 (u i)) ∧ UnitTo n i u ∧ Below w.heap.size w wr)
    (fun is _ => n - (intOf is).toNat)
  case atStart => exact ⟨0, _, rfl, Nat.zero_le _, (unhide F0).1, (unhide F0).2.1, (unhide F0).2.2.1, fun _ => R64_nought, fun a c _ _ => by rw [if_neg (by omega)], (unhide F0).2.2.2⟩
  case round =>
    obtain ⟨i, u, rfl, hi, m0, nu, m2, ru, tu, hK⟩ := hrel
    have M0 := hide m0; have NU := hide nu; have M2 := hide m2; have RU := hide ru; have TU := hide tu; have HK := hide hK
    clear m0 nu m2 ru tu hK
    by_cases hin : i < n
    · have hp := idx_lt hin hin
      rw [unhide HQ] at hp
      have c1 := (unhide M2).cell1
      have wp := wrap_sq h6 (show i ≤ 6 by omega)
      obtain ⟨p, ep⟩ : ∃ p, i * n = p := ⟨_, rfl⟩
      rw [ep] at wp hp
      have wi : IntKind.i64.wrap ((p : Int) + (i : Int)) = (p : Int) + (i : Int) := by rw [IntKind.wrap_i64]; omega
      have cu := (unhide NU).cell hp
      have fu := (unhide NU).free (p + i)
      have EP := hide ep
      clear ep
      go_wp2_with fail
      go_roundw
      case rel =>
        refine ⟨i + 1, stF u (p + i) 4294967296, by go_num, by omega, (unhide M0).kept (kept_set _ _ _ _) (by omega), (unhide NU).set _ _, (unhide M2).kept (kept_set _ _ _ _) (by omega), stF_R (unhide RU) (by unfold R64; omega), ?_, below_of_kept (unhide HK) (kept_set _ _ _ _) (by omega) (unhide HK).size⟩
        rw [← unhide EP]; exact unitTo_step (unhide TU) hin
      case measure => simp [intOf] <;> omega
    · have hin2 : i = n := by omega
      subst hin2
      have c0 := (unhide M2).cell0; have c1 := (unhide M2).cell1
      have d0 := (unhide M0).cell0; have d1 := (unhide M0).cell1; have f0 := (unhide M0).free 0; have f1 := (unhide M0).free 1
      go_wp2_with fail
      obtain ⟨w4, e4, m4, k4⟩ := (unhide M0).put (i : Int) (.slice (some ⟨w.heap.size + 1, 0, none⟩) q q)
      rw [← e4]
      have p0 := m4.cell0; have p1 := m4.cell1
      have F := hide (show Nh w4 (w.heap.size + 1) q q u ∧ Below w.heap.size w w4 from ⟨(unhide NU).kept k4 (by omega), below_of_kept (unhide HK) k4 (by omega) (unhide HK).size⟩)
      clear e4 m4 k4 c0 c1 d0 d1 f0 f1
      go_wp2_with fail
      refine bodyPost_ret (v := .agg #[.int .i64 (i : Int), .slice (some ⟨w.heap.size + 1, 0, none⟩) q q]) (by simp [results, Try.results21, go_sem, p0, p1]) rfl ⟨u, rfl, (unhide F).1, unhide RU, unitTo_end (unhide TU), (unhide F).2⟩
theorem unit_any (n : Nat) (N : Int) (hN : N = (n : Int)) (h6 : n ≤ 6) (w : World) :
    Calls Try.prog 21 #[.int .i64 N] w fun e w' =>
      ∃ (m r : Nat) (u : Nat → Int), m = n ∧ e = .returned (.agg #[.int .i64 (m : Int), .slice (some ⟨r, 0, none⟩) (m * m) (m * m)]) ∧ Nh w' r (m * m) (m * m) u ∧ (∀ i, R64 (u i)) ∧ IsUnit m u ∧ Below w.heap.size w w' := by
  subst hN
  exact (unit_core n (n * n) h6 rfl w).mono fun e w' ⟨u, h1, h2, h3, h4, h5⟩ => ⟨n, _, u, rfl, h1, h2, h3, h4, h5⟩

theorem mul_unit {n : Nat} {f u h : Nat → Int} (hu : IsUnit n u) (hf : ∀ i, R64 (f i)) (hm : IsMul n f u h) : (∀ i, i < n * n → h i = f i) ∧ mulB n f u = false := by
  refine ⟨fun i hi => ?_, ?_⟩
  · obtain ⟨a, c, ha, hc, rfl⟩ := idx_of hi
    rw [hm a c ha hc]; exact (unit_right hu hf hc).1
  · exact anyB_false (fun c hc => anyB_false (fun a _ => (unit_right hu hf hc).2))
theorem unit_mul {n : Nat} {f u h : Nat → Int} (hu : IsUnit n u) (hf : ∀ i, R64 (f i)) (hm : IsMul n u f h) : (∀ i, i < n * n → h i = f i) ∧ mulB n u f = false := by
  refine ⟨fun i hi => ?_, ?_⟩
  · obtain ⟨a, c, ha, hc, rfl⟩ := idx_of hi
    rw [hm a c ha hc]; exact (unit_left hu hf ha).1
  · exact anyB_false (fun c _ => anyB_false (fun a ha => (unit_left hu hf ha).2))

set_option maxHeartbeats 4000000 in
theorem stands_any (w : World) : Calls Try.prog 16 #[] w fun e w' => e = .returned (.bool true) ∧ Below w.heap.size w w' := by
  go_enter Try.func16, Try.ntmps16
  go_wp2_with fail
  refine (unit_any 2 2 rfl (by decide) _).mono ?_
  rintro e w1 ⟨m, r1, u1, em, rfl, n1, ru1, iu1, k1⟩
  have EM := hide em; have N1 := hide n1; have RU1 := hide ru1; have IU1 := hide iu1; have K1 := hide k1
  clear em n1 ru1 iu1 k1
  go_wp2_with fail
  refine (unit_any 2 2 rfl (by decide) _).mono ?_
  rintro e w2 ⟨m2, r2, u2, em2, rfl, n2, ru2, iu2, k2⟩
  obtain rfl : m2 = m := em2.trans (unhide EM).symm
  have N2 := hide n2; have RU2 := hide ru2; have IU2 := hide iu2; have M1 := hide ((unhide N1).below k2); have K2 := hide (show Below w.heap.size w w2 from (unhide K1).trans (Below.le k2 (unhide K1).size))
  clear em2 n2 ru2 iu2 k2
  go_wp2_with fail
  refine (mul_good m2 _ _ _ _ u1 u2 _ (by have := unhide EM; omega) (by have := unhide EM; omega) (unhide RU1) (unhide RU2) (unhide M1).rds (unhide N2).rds).mono ?_
  rintro e w3 ⟨r3, c3, h3, rfl, hr3, n3, rh3, im3, k3⟩
  obtain ⟨e1, e2⟩ := mul_unit (unhide IU2) (unhide RU1) im3
  rw [e2]
  have E1 := hide e1
  have N3 := hide n3
  have K3 := hide (show Below w.heap.size w w3 from (unhide K2).trans (Below.le k3 (unhide K2).size))
  clear e1 e2 hr3 n3 rh3 im3 k3
  obtain ⟨w4, e4⟩ : ∃ w4, w4 = w3.alloc (.cells #[.int .i64 (m2 : Int), .slice (some ⟨r3, 0, none⟩) (m2 * m2) c3] 24) := ⟨_, rfl⟩
  have hS : Cl1 w3.heap.size 1 (.slice (some ⟨r3, 0, none⟩) (m2 * m2) c3) w4.drew := by rw [e4]; exact (MbAt.new w3 _ _).cell1
  have N4 := hide (show Nh w4.drew r3 (m2 * m2) c3 h3 by rw [e4]; exact (unhide N3).below (below_drew (al_below _ _)))
  have K4 := hide (show Below w.heap.size w w4.drew by rw [e4]; exact below_drew ((unhide K3).alloc (unhide K3).size _))
  have E4 := hide e4
  clear e4
  go_wp2_with fail
  rw [← unhide E4]
  refine region_by (S := Cl1 w3.heap.size 1 (.slice (some ⟨r3, 0, none⟩) (m2 * m2) c3))
    [(0, false), (1, false), (2, false), (3, false), (4, false), (5, true), (6, false), (7, true), (8, false), (9, false), (10, true), (11, true), (12, false), (13, false), (14, false), (15, true), (16, false), (17, false), (18, true)] [] (by kernel_rfl) (by kernel_rfl) ?_
  iterate 5
    refine seq_read (v := ?_) rfl (fun _ _ _ h => h) (by rfl) hS ?_ ?_
    rotate_left 1
    · intro wx hwx
      unfold Cl1 at hwx
      go_simp <;> exact rfl
    go_frame
  refine seq_do rfl (fun K hK => ?_)
  go_simp
  refine (unit_any 2 2 rfl (by decide) _).mono ?_
  rintro e w5 ⟨m, r5, u5, em, rfl, n5, ru5, iu5, k5⟩
  obtain rfl : m = m2 := em.trans (unhide EM).symm
  have hS5 : Cl1 w3.heap.size 1 (.slice (some ⟨r3, 0, none⟩) (m * m) c3) w5 := at_below (w := w4.drew) hS k5
  refine hK _ _ (fun _ => hS5) ?_
  have N5 := hide n5; have IU5 := hide iu5; have M5 := hide ((unhide N4).below k5); have K5 := hide (show Below w.heap.size w w5 from (unhide K4).trans (Below.le k5 (unhide K4).size))
  clear hK K hS em n5 ru5 iu5 k5
  iterate 1
    refine seq_read (v := ?_) rfl (fun _ _ _ h => h) (by rfl) hS5 ?_ ?_
    rotate_left 1
    · intro wx hwx
      unfold Cl1 at hwx
      go_simp <;> exact rfl
    go_frame
  refine seq_do rfl (fun K hK => ?_)
  go_simp
  refine (same_yes _ _ _ _ _ h3 u5 _ (by have := unhide EM; subst this; decide) (unhide M5).rds (unhide N5).rds (fun i hi => ?_)).mono ?_
  · rw [unhide E1 i hi]
    obtain ⟨a, c, ha, hc, rfl⟩ := idx_of hi
    rw [unhide IU1 a c ha hc, unhide IU5 a c ha hc]
  rintro e w6 ⟨rfl, k6⟩
  have hS6 : Cl1 w3.heap.size 1 (.slice (some ⟨r3, 0, none⟩) (m * m) c3) w6 := at_below hS5 k6
  refine hK _ _ (fun _ => hS6) ?_
  have K6 := hide (show Below w.heap.size w w6 from (unhide K5).trans (Below.le k6 (unhide K5).size))
  clear hK K hS5 k6
  iterate 2
    refine seq_read (v := ?_) rfl (fun _ _ _ h => h) (by rfl) hS6 ?_ ?_
    rotate_left 1
    · intro wx hwx
      unfold Cl1 at hwx
      go_simp <;> exact rfl
    go_frame
  refine seq_do rfl (fun K hK => ?_)
  go_simp
  refine (unit_any 3 3 rfl (by decide) _).mono ?_
  rintro e w7 ⟨m7, r7, u7, em7, rfl, n7, ru7, iu7, k7⟩
  have hS7 : Cl1 w3.heap.size 1 (.slice (some ⟨r3, 0, none⟩) (m * m) c3) w7 := at_below hS6 k7
  refine hK _ _ (fun _ => hS7) ?_
  have G7 := hide (goodM_nat (n := m7) (by omega) (by omega))
  have K7 := hide (show Below w.heap.size w w7 from (unhide K6).trans (Below.le k7 (unhide K6).size))
  clear hK K hS6 k7 n7 ru7 iu7 em7
  refine seq_do rfl (fun K hK => ?_)
  go_simp
  refine (good_any (m7 : Int) _ (m7 * m7) _ _).mono ?_
  rintro e w8 ⟨rfl, k8⟩
  rw [unhide G7]
  have hS8 : Cl1 w3.heap.size 1 (.slice (some ⟨r3, 0, none⟩) (m * m) c3) w8 := at_below hS7 k8
  refine hK _ _ (fun _ => hS8) ?_
  have K8 := hide (show Below w.heap.size w w8 from (unhide K7).trans (Below.le k8 (unhide K7).size))
  clear hK K hS7 k8
  iterate 3
    refine seq_read (v := ?_) rfl (fun _ _ _ h => h) (by rfl) hS8 ?_ ?_
    rotate_left 1
    · intro wx hwx
      unfold Cl1 at hwx
      go_simp <;> exact rfl
    go_frame
  refine seq_do rfl (fun K hK => ?_)
  go_simp
  refine (good_any 0 none 0 0 _).mono ?_
  rintro e w9 ⟨rfl, k9⟩
  rw [show goodM 0 0 = false from rfl]
  have hS9 : Cl1 w3.heap.size 1 (.slice (some ⟨r3, 0, none⟩) (m * m) c3) w9 := at_below hS8 k9
  refine hK _ _ (fun _ => hS9) ?_
  have K9 := hide (show Below w.heap.size w w9 from (unhide K8).trans (Below.le k9 (unhide K8).size))
  clear hK K hS8 k9
  iterate 2
    refine seq_read (v := ?_) rfl (fun _ _ _ h => h) (by rfl) hS9 ?_ ?_
    rotate_left 1
    · intro wx hwx
      unfold Cl1 at hwx
      go_simp <;> exact rfl
    go_frame
  refine seq_do rfl (fun K hK => ?_)
  go_simp
  refine hK _ _ (fun _ => hS9) ?_
  clear hK K hS9
  refine seq_end ?_
  go_wp2_with fail
  go_ret
  exact ⟨rfl, unhide K9⟩

end Go.Proofs.Ytnfejfdekedmhab
