/- Contracts: Turn, Times. -/
import Derived.Test.YtnfejfdekedmhabMatGood
import Derived.Test.YtnfejfdekedmhabMatTurn
import Derived.Test.YtnfejfdekedmhabMatTimes
namespace Go.Proofs.Ytnfejfdekedmhab
open Go.RowKit

/-- A matrix's variable and a result's, once made. -/
theorem mat_two (w : World) (N : Int) (v : Value) : ∃ w1, w1 = (w.alloc (.cells #[.int .i64 N, v] 24)).alloc (.cells #[.int .i64 0, .slice none 0 0] 24) ∧
    MbAt w1 w.heap.size N v ∧ MbAt w1 (w.heap.size + 1) 0 (.slice none 0 0) ∧ Below w.heap.size w w1 ∧ w1.heap.size = w.heap.size + 1 + 1 := by
  refine ⟨_, rfl, (MbAt.new w N v).below (al_below _ _), ?_, ?_, ?_⟩
  · have h := MbAt.new (w.alloc (.cells #[.int .i64 N, v] 24)) 0 (.slice none 0 0)
    rw [al_size] at h
    exact h
  · exact ((Below.refl _ _).alloc (Nat.le_refl _) _).alloc (by rw [al_size]; omega) _
  · rw [al_size, al_size]
theorem Below.le {w w' : World} {B C : Nat} (h : Below B w w') (e : C ≤ B) : Below C w w' := ⟨h.os, h.tape, h.output, h.size, fun k hk => h.block k (by omega)⟩

set_option maxHeartbeats 1000000 in
theorem turn_bad (N : Int) (ao : Option Addr) (len cap : Nat) (w : World) (hg : goodM N len = false) :
    Calls Try.prog 10 #[.agg #[.int .i64 N, .slice ao len cap]] w fun e w' =>
      e = .returned (.tuple #[.agg #[.int .i64 0, .slice none 0 0], .int .i64 8]) ∧ Below w.heap.size w w' := by
  obtain ⟨w1, e1, m0, m1, k1, s1⟩ := mat_two w N (.slice ao len cap)
  have c0 := m0.cell0; have c1 := m0.cell1
  have E1 := hide e1; have M1 := hide m1; have K1 := hide k1; have S1 := hide s1; have G := hide hg
  clear e1 m0 m1 k1 s1 hg
  go_enter Try.func10, Try.ntmps10
  go_wp2_with fail
  rw [← unhide E1]
  go_wp2_with fail
  refine (good_any N ao len cap _).mono ?_
  rintro e w2 ⟨rfl, k2⟩
  rw [unhide G]
  have K2 := hide (show Below w.heap.size w w2 from (unhide K1).trans (Below.le k2 (by have := unhide S1; omega)))
  have m2 := (unhide M1).below k2
  have d0 := m2.cell0; have d1 := m2.cell1; have f0 := m2.free 0; have f1 := m2.free 1
  have M2 := hide m2
  clear k2 c0 c1 m2
  go_wp2_with fail
  obtain ⟨w3, e3, m3, k3⟩ := (unhide M2).put 0 (.slice none 0 0)
  rw [← e3]
  have p0 := m3.cell0; have p1 := m3.cell1
  have F := hide (below_of_kept (unhide K2) k3 (by omega))
  clear e3 m3 k3 d0 d1 f0 f1
  go_wp2_with fail
  refine bodyPost_ret (v := .tuple #[.agg #[.int .i64 0, .slice none 0 0], .int .i64 8]) (by simp [results, Try.results10, go_sem, p0, p1]) rfl ⟨rfl, unhide F⟩

set_option maxHeartbeats 1000000 in
theorem turn_good (n : Nat) (ao : Option Addr) (cap : Nat) (f : Nat → Int) (w : World) (h1 : 1 ≤ n) (h6 : n ≤ 6) (hf : ∀ i, R64 (f i)) (hr : Rds w ao (n * n) f) :
    Calls Try.prog 10 #[.agg #[.int .i64 (n : Int), .slice ao (n * n) cap]] w fun e w' =>
      ∃ (r c : Nat) (g : Nat → Int), e = .returned (.tuple #[.agg #[.int .i64 (n : Int), .slice (some ⟨r, 0, none⟩) (n * n) c], .int .i64 0]) ∧ w.heap.size ≤ r ∧ Nh w' r (n * n) c g ∧ (∀ i, R64 (g i)) ∧ Turned n f g ∧ Below w.heap.size w w' := by
  obtain ⟨ba, o, rfl, hc⟩ := hr (Nat.mul_le_mul h1 h1)
  obtain ⟨w1, e1, m0, m1, k1, s1⟩ := mat_two w (n : Int) (.slice (some ⟨ba, o, none⟩) (n * n) cap)
  have c0 := m0.cell0; have c1 := m0.cell1
  have E1 := hide e1; have M0 := hide m0; have M1 := hide m1; have K1 := hide k1; have S1 := hide s1; have HF := hide hf; have HC := hide hc; have G := hide (goodM_nat h1 h6)
  have H1 := hide h1; have H6 := hide h6
  clear e1 m0 m1 k1 s1 hc hr hf h1 h6
  go_enter Try.func10, Try.ntmps10
  go_wp2_with fail
  rw [← unhide E1]
  go_wp2_with fail
  refine (good_any (n : Int) _ (n * n) cap _).mono ?_
  rintro e w2 ⟨rfl, k2⟩
  rw [unhide G]
  have S2 := hide (show w.heap.size + 1 + 1 ≤ w2.heap.size from by have := unhide S1; have := k2.size; omega)
  have K2 := hide (show Below w.heap.size w w2 from (unhide K1).trans (Below.le k2 (by have := unhide S1; omega)))
  have m0 := (unhide M0).below k2
  have M2 := hide ((unhide M1).below k2)
  clear k2 c0 c1
  have c0 := m0.cell0; have c1 := m0.cell1
  clear m0
  go_wp2_with fail
  refine (atWork_any ba o n cap f (unhide H1) (unhide H6) (unhide HF) _ (fun i hi => at_below (unhide HC i hi) (unhide K2))).mono ?_
  rintro e w3 ⟨b, r, cr, rfl, hb, hr, hM, k3⟩
  have M3 := hide ((unhide M2).below k3)
  have K3 := hide (show Below w.heap.size w w3 from (unhide K2).trans (Below.le k3 (by have := unhide S2; omega)))
  have HB := hide hb; have HR := hide hr; have HM := hide hM
  clear c0 c1 k3 hb hr hM
  go_wp2_with fail
  refine (wkTurn_any b n r cr f false _ (unhide HM)).mono ?_
  rintro e w4 ⟨g, rfl, h4, t4, k4⟩
  have c0 := h4.wk.cell0; have c1 := h4.wk.cell1
  have m4 := (unhide M3).kept k4 (by have := unhide HR; have := unhide S2; omega)
  have d0 := m4.cell0; have d1 := m4.cell1; have f0 := m4.free 0; have f1 := m4.free 1
  have M4 := hide m4; have H4 := hide h4; have T4 := hide t4
  have K4 := hide (below_of_kept (unhide K3) k4 (by have := unhide HR; have := unhide S2; omega))
  clear m4 h4 t4 k4
  go_wp2_with fail
  obtain ⟨w5, e5, m5, k5⟩ := (unhide M4).put (n : Int) (.slice (some ⟨r, 0, none⟩) (n * n) cr)
  rw [← e5]
  have p0 := m5.cell0; have p1 := m5.cell1
  have F := hide (show Nh w5 r (n * n) cr g ∧ Below w.heap.size w w5 from ⟨(unhide H4).row.kept k5 (by have := unhide HR; have := unhide S2; omega), below_of_kept (unhide K4) k5 (by omega)⟩)
  clear e5 m5 k5 d0 d1 f0 f1 c0 c1
  go_wp2_with fail
  refine bodyPost_ret (v := .tuple #[.agg #[.int .i64 (n : Int), .slice (some ⟨r, 0, none⟩) (n * n) cr], .int .i64 0]) (by simp [results, Try.results10, go_sem, p0, p1]) rfl
    ⟨r, cr, g, rfl, by have := unhide HR; have := unhide S2; omega, (unhide F).1, (unhide H4).rng, unhide T4, (unhide F).2⟩

set_option maxHeartbeats 1000000 in
theorem times_bad (N : Int) (ao vo : Option Addr) (len cap lv cv : Nat) (w : World) (hg : goodM N len = false ∨ (lv : Int) ≠ N) :
    Calls Try.prog 12 #[.agg #[.int .i64 N, .slice ao len cap], .slice vo lv cv] w fun e w' =>
      e = .returned (.tuple #[.slice none 0 0, .bool false, .int .i64 8]) ∧ Below w.heap.size w w' := by
  obtain ⟨w1, e1⟩ : ∃ w1, w1 = w.alloc (.cells #[.int .i64 N, .slice ao len cap] 24) := ⟨_, rfl⟩
  have m0 : MbAt w1 w.heap.size N (.slice ao len cap) := by rw [e1]; exact MbAt.new w _ _
  have c0 := m0.cell0; have c1 := m0.cell1
  have S1 := hide (show w1.heap.size = w.heap.size + 1 by rw [e1]; exact al_size _ _)
  have K1 := hide (show Below w.heap.size w w1 by rw [e1]; exact al_below w _)
  have E1 := hide e1; have M0 := hide m0
  clear e1 m0
  cases hgm : goodM N len
  · have G := hide hgm
    clear hg hgm
    go_enter Try.func12, Try.ntmps12
    go_wp2_with fail
    rw [← unhide E1]
    go_wp2_with fail
    refine (good_any N ao len cap _).mono ?_
    rintro e w2 ⟨rfl, k2⟩
    rw [unhide G]
    have K2 := hide (show Below w.heap.size w w2 from (unhide K1).trans (Below.le k2 (by have := unhide S1; omega)))
    clear c0 c1 k2
    go_wp2_with fail
    go_ret3
    exact ⟨rfl, unhide K2⟩
  · have G := hide hgm
    have hne : ((lv : Int) != N) = true := by
      rcases hg with h | h
      · rw [h] at hgm; cases hgm
      · rw [bne_iff_ne]; exact h
    clear hg hgm
    go_enter Try.func12, Try.ntmps12
    go_wp2_with fail
    rw [← unhide E1]
    go_wp2_with fail
    refine (good_any N ao len cap _).mono ?_
    rintro e w2 ⟨rfl, k2⟩
    rw [unhide G]
    have K2 := hide (show Below w.heap.size w w2 from (unhide K1).trans (Below.le k2 (by have := unhide S1; omega)))
    have m0 := (unhide M0).below k2
    clear c0 c1 k2
    have c0 := m0.cell0
    clear m0
    go_wp2_with fail
    go_ret3
    exact ⟨rfl, unhide K2⟩

set_option maxHeartbeats 1000000 in
theorem times_good (n : Nat) (ao vo : Option Addr) (cap cv : Nat) (f v : Nat → Int) (w : World) (h1 : 1 ≤ n) (h6 : n ≤ 6) (hf : ∀ i, R64 (f i)) (hv : ∀ i, R64 (v i)) (hr : Rds w ao (n * n) f) (hrv : Rds w vo n v) :
    Calls Try.prog 12 #[.agg #[.int .i64 (n : Int), .slice ao (n * n) cap], .slice vo n cv] w fun e w' =>
      ∃ u : Nat, e = .returned (.tuple #[.slice (some ⟨u, 0, none⟩) n n, .bool (anyB (fun i => chB (rowF n f i) v n) n), .int .i64 0]) ∧ w.heap.size ≤ u ∧ Nh w' u n n (fun i => chV (rowF n f i) v n) ∧ Below w.heap.size w w' := by
  obtain ⟨ba, o, rfl, hc⟩ := hr (Nat.mul_le_mul h1 h1)
  obtain ⟨bv, ov, rfl, hcv⟩ := hrv h1
  obtain ⟨w1, e1⟩ : ∃ w1, w1 = w.alloc (.cells #[.int .i64 (n : Int), .slice (some ⟨ba, o, none⟩) (n * n) cap] 24) := ⟨_, rfl⟩
  have m0 : MbAt w1 w.heap.size n (.slice (some ⟨ba, o, none⟩) (n * n) cap) := by rw [e1]; exact MbAt.new w _ _
  have c0 := m0.cell0; have c1 := m0.cell1
  have S1 := hide (show w1.heap.size = w.heap.size + 1 by rw [e1]; exact al_size _ _)
  have K1 := hide (show Below w.heap.size w w1 by rw [e1]; exact al_below w _)
  have hne : ((n : Int) != (n : Int)) = false := by simp
  have HBV := hide (World.block_lt_of_cell? w _ (hcv 0 h1))
  have E1 := hide e1; have M0 := hide m0; have HF := hide hf; have HV := hide hv; have HC := hide hc; have HCV := hide hcv; have G := hide (goodM_nat h1 h6)
  have H1 := hide h1; have H6 := hide h6
  clear e1 m0 hc hr hf h1 h6 hcv hrv hv
  go_enter Try.func12, Try.ntmps12
  go_wp2_with fail
  rw [← unhide E1]
  go_wp2_with fail
  refine (good_any (n : Int) _ (n * n) cap _).mono ?_
  rintro e w2 ⟨rfl, k2⟩
  rw [unhide G]
  have S2 := hide (show w.heap.size + 1 ≤ w2.heap.size from by have := unhide S1; have := k2.size; omega)
  have K2 := hide (show Below w.heap.size w w2 from (unhide K1).trans (Below.le k2 (by have := unhide S1; omega)))
  have m0 := (unhide M0).below k2
  clear k2 c0 c1
  have c0 := m0.cell0; have c1 := m0.cell1
  clear m0
  go_wp2_with fail
  refine (atWork_any ba o n cap f (unhide H1) (unhide H6) (unhide HF) _ (fun i hi => at_below (unhide HC i hi) (unhide K2))).mono ?_
  rintro e w3 ⟨b, r, cr, rfl, hb, hr, hM, k3⟩
  have K3 := hide (show Below w.heap.size w w3 from (unhide K2).trans (Below.le k3 (by have := unhide S2; omega)))
  have HB := hide hb; have HR := hide hr; have HM := hide hM
  clear c0 c1 k3 hb hr hM
  go_wp2_with fail
  refine (wkTimes_any b n r cr bv ov cv f v false _ (unhide HV) (by have := unhide HBV; have : bv < w.heap.size := this; have := unhide HB; have := unhide S2; omega) (fun i hi => at_below (unhide HCV i hi) (unhide K3)) (unhide HM)).mono ?_
  rintro e w4 ⟨rfl, n4, h4, k4⟩
  have c0 := h4.wk.cell2
  have F := hide (show Nh w4 w3.heap.size n n (fun i => chV (rowF n f i) v n) ∧ Below w.heap.size w w4 ∧ w.heap.size ≤ w3.heap.size from
    ⟨n4, below_of_kept (unhide K3) k4 (by have := unhide HB; have := unhide S2; omega), (unhide K3).size⟩)
  clear n4 h4 k4
  rw [Bool.false_or] at c0
  go_wp2_with fail
  go_region
  go_wp2_with fail
  go_ret3
  exact ⟨_, rfl, (unhide F).2.2, (unhide F).1, below_drew (unhide F).2.1⟩

end Go.Proofs.Ytnfejfdekedmhab
