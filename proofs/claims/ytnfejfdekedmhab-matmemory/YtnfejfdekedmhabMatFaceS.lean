/- Contracts: Factor, Solve. -/
import Derived.Test.YtnfejfdekedmhabMatFaceT
import Derived.Test.YtnfejfdekedmhabMatFac
import Derived.Test.YtnfejfdekedmhabMatDown
import Derived.Test.YtnfejfdekedmhabMatUp
import Derived.Test.YtnfejfdekedmhabMatDivide
namespace Go.Proofs.Ytnfejfdekedmhab
open Go.RowKit

set_option maxHeartbeats 1000000 in
theorem factor_bad (N : Int) (ao : Option Addr) (len cap : Nat) (w : World) (hg : goodM N len = false) :
    Calls Try.prog 13 #[.agg #[.int .i64 N, .slice ao len cap]] w fun e w' =>
      e = .returned (.tuple #[.agg #[.int .i64 0, .slice none 0 0], .slice none 0 0, .bool false, .int .i64 8]) ∧ Below w.heap.size w w' := by
  obtain ⟨w1, e1, m0, m1, k1, s1⟩ := mat_two w N (.slice ao len cap)
  have c0 := m0.cell0; have c1 := m0.cell1
  have E1 := hide e1; have M1 := hide m1; have K1 := hide k1; have S1 := hide s1; have G := hide hg
  clear e1 m0 m1 k1 s1 hg
  go_enter Try.func13, Try.ntmps13
  go_wp2_with fail
  rw [← unhide E1]
  go_wp2_with fail
  refine (good_any N ao len cap _).mono ?_
  rintro e w2 ⟨rfl, k2⟩
  rw [unhide G]
  have K2 := hide (show Below w.heap.size w w2 from (unhide K1).trans (Below.le k2 (by have := unhide S1; omega)))
  have m2 := (unhide M1).below k2
  have d0 := m2.cell0; have d1 := m2.cell1; have f0 := m2.free 0; have f1 := m2.free 1
  have M2 := hide m2
  clear k2 c0 c1 m2
  go_wp2_with fail
  obtain ⟨w3, e3, m3, k3⟩ := (unhide M2).put 0 (.slice none 0 0)
  rw [← e3]
  have p0 := m3.cell0; have p1 := m3.cell1
  have F := hide (below_of_kept (unhide K2) k3 (by omega))
  clear e3 m3 k3 d0 d1 f0 f1
  go_wp2_with fail
  refine bodyPost_ret (v := .tuple #[.agg #[.int .i64 0, .slice none 0 0], .slice none 0 0, .bool false, .int .i64 8]) (by simp [results, Try.results13, go_sem, p0, p1]) rfl ⟨rfl, unhide F⟩

set_option maxHeartbeats 2000000 in
theorem factor_good (n : Nat) (ao : Option Addr) (cap : Nat) (f : Nat → Int) (w : World) (h1 : 1 ≤ n) (h6 : n ≤ 6) (hf : ∀ i, R64 (f i)) (hr : Rds w ao (n * n) f) :
    Calls Try.prog 13 #[.agg #[.int .i64 (n : Int), .slice ao (n * n) cap]] w fun e w' =>
      (facOK n f n ∧ ∃ (r c u : Nat) (g : Nat → Int), e = .returned (.tuple #[.agg #[.int .i64 (n : Int), .slice (some ⟨r, 0, none⟩) (n * n) c], .slice (some ⟨u, 0, none⟩) n n, .bool (facB n f n), .int .i64 0]) ∧
        w.heap.size ≤ r ∧ w.heap.size ≤ u ∧ u ≠ r ∧ Nh w' r (n * n) c g ∧ (∀ i, R64 (g i)) ∧ IsM n f n g ∧ Nh w' u n n (fac n f n).2 ∧ Below w.heap.size w w') ∨
      (¬ facOK n f n ∧ e = .returned (.tuple #[.agg #[.int .i64 0, .slice none 0 0], .slice none 0 0, .bool false, .int .i64 9]) ∧ Below w.heap.size w w') := by
  obtain ⟨ba, o, rfl, hc⟩ := hr (Nat.mul_le_mul h1 h1)
  obtain ⟨w1, e1, m0, m1, k1, s1⟩ := mat_two w (n : Int) (.slice (some ⟨ba, o, none⟩) (n * n) cap)
  have c0 := m0.cell0; have c1 := m0.cell1
  have E1 := hide e1; have M0 := hide m0; have M1 := hide m1; have K1 := hide k1; have S1 := hide s1; have HF := hide hf; have HC := hide hc; have G := hide (goodM_nat h1 h6)
  have H1 := hide h1; have H6 := hide h6
  clear e1 m0 m1 k1 s1 hc hr hf h1 h6
  go_enter Try.func13, Try.ntmps13
  go_wp2_with fail
  rw [← unhide E1]
  go_wp2_with fail
  refine (good_any (n : Int) _ (n * n) cap _).mono ?_
  rintro e w2 ⟨rfl, k2⟩
  rw [unhide G]
  have S2 := hide (show w.heap.size + 1 + 1 ≤ w2.heap.size from by have := unhide S1; have := k2.size; omega)
  have K2 := hide (show Below w.heap.size w w2 from (unhide K1).trans (Below.le k2 (by have := unhide S1; omega)))
  have m0 := (unhide M0).below k2
  have M2 := hide ((unhide M1).below k2)
  clear k2 c0 c1
  have c0 := m0.cell0; have c1 := m0.cell1
  clear m0
  go_wp2_with fail
  refine (atWork_any ba o n cap f (unhide H1) (unhide H6) (unhide HF) _ (fun i hi => at_below (unhide HC i hi) (unhide K2))).mono ?_
  rintro e w3 ⟨b, r, cr, rfl, hb, hr, hM, k3⟩
  have M3 := hide ((unhide M2).below k3)
  have K3 := hide (show Below w.heap.size w w3 from (unhide K2).trans (Below.le k3 (by have := unhide S2; omega)))
  have HB := hide hb; have HR := hide hr; have HM := hide hM
  clear c0 c1 k3 hb hr hM
  go_wp2_with fail
  refine (wkFactor_any b n r cr f false _ (unhide HM)).mono ?_
  rintro e w4 (⟨hok, rfl, ⟨g, h4, t4⟩, n4, k4⟩ | ⟨hok, rfl, k4⟩)
  · have c0 := h4.wk.cell0; have c1 := h4.wk.cell1; have c2 := h4.wk.cell2
    rw [Bool.false_or] at c2
    have m4 := (unhide M3).kp2 k4 (by have := unhide HB; have := unhide S2; omega) (by have := unhide HR; have := unhide S2; omega)
    have d0 := m4.cell0; have d1 := m4.cell1; have f0 := m4.free 0; have f1 := m4.free 1
    have M4 := hide m4; have H4 := hide h4; have T4 := hide t4; have N4 := hide n4; have OK4 := hide hok
    have HS3 := hide (show r < w3.heap.size from (unhide HM).row.lt)
    have K4 := hide (Kp2.below (unhide K3) k4 (by have := unhide HB; have := unhide S2; omega) (by have := unhide HR; have := unhide S2; omega) (unhide K3).size)
    clear m4 h4 t4 k4 n4 hok
    go_wp2_with fail
    go_region
    obtain ⟨w5, e5, m5, k5⟩ := (unhide M4).put (n : Int) (.slice (some ⟨r, 0, none⟩) (n * n) cr)
    rw [← e5]
    have p0 : w5.drew.cell? ⟨w.heap.size + 1, 0, none⟩ = some (.int .i64 (n : Int)) := m5.cell0
    have p1 : w5.drew.cell? ⟨w.heap.size + 1, 1, none⟩ = some (.slice (some ⟨r, 0, none⟩) (n * n) cr) := m5.cell1
    have F := hide (show Nh w5.drew r (n * n) cr g ∧ Nh w5.drew w3.heap.size n n (fac n f n).2 ∧ Below w.heap.size w w5.drew from ⟨Nh.kept (w' := w5) (unhide H4).row k5 (by have := unhide HR; have := unhide S2; omega), Nh.kept (w' := w5) (unhide N4) k5 (by have := unhide HS3; have := unhide HR; have := unhide S2; omega), below_drew (below_of_kept (unhide K4) k5 (by omega) (unhide K4).size)⟩)
    clear e5 m5 k5 d0 d1 f0 f1 c0 c1 c2
    generalize w5.drew = w6 at *
    go_wp2_with fail
    refine bodyPost_ret (v := .tuple #[.agg #[.int .i64 (n : Int), .slice (some ⟨r, 0, none⟩) (n * n) cr], .slice (some ⟨w3.heap.size, 0, none⟩) n n, .bool (facB n f n), .int .i64 0]) (by simp [results, Try.results13, go_sem, p0, p1]) rfl
      (Or.inl ⟨unhide OK4, r, cr, w3.heap.size, g, rfl, by have := unhide HR; have := unhide S2; omega, (unhide K3).size, Nat.ne_of_gt (unhide HS3), (unhide F).1, (unhide H4).rng, unhide T4, (unhide F).2.1, (unhide F).2.2⟩)
  · have m4 := (unhide M3).kp2 k4 (by have := unhide HB; have := unhide S2; omega) (by have := unhide HR; have := unhide S2; omega)
    have d0 := m4.cell0; have d1 := m4.cell1; have f0 := m4.free 0; have f1 := m4.free 1
    have M4 := hide m4; have OK4 := hide hok
    have K4 := hide (Kp2.below (unhide K3) k4 (by have := unhide HB; have := unhide S2; omega) (by have := unhide HR; have := unhide S2; omega) (unhide K3).size)
    clear m4 k4 hok
    go_wp2_with fail
    obtain ⟨w5, e5, m5, k5⟩ := (unhide M4).put 0 (.slice none 0 0)
    rw [← e5]
    have p0 := m5.cell0; have p1 := m5.cell1
    have F := hide (below_of_kept (unhide K4) k5 (by omega) (unhide K4).size)
    clear e5 m5 k5 d0 d1 f0 f1
    go_wp2_with fail
    refine bodyPost_ret (v := .tuple #[.agg #[.int .i64 0, .slice none 0 0], .slice none 0 0, .bool false, .int .i64 9]) (by simp [results, Try.results13, go_sem, p0, p1]) rfl (Or.inr ⟨unhide OK4, rfl, unhide F⟩)

set_option maxHeartbeats 1000000 in
theorem solve_bad (N : Int) (ao vo : Option Addr) (len cap lv cv : Nat) (w : World) (hg : goodM N len = false ∨ (lv : Int) ≠ N) :
    Calls Try.prog 14 #[.agg #[.int .i64 N, .slice ao len cap], .slice vo lv cv] w fun e w' =>
      e = .returned (.tuple #[.slice none 0 0, .bool false, .int .i64 8]) ∧ Below w.heap.size w w' := by
  obtain ⟨w1, e1⟩ : ∃ w1, w1 = w.alloc (.cells #[.int .i64 N, .slice ao len cap] 24) := ⟨_, rfl⟩
  have m0 : MbAt w1 w.heap.size N (.slice ao len cap) := by rw [e1]; exact MbAt.new w _ _
  have c0 := m0.cell0; have c1 := m0.cell1
  have S1 := hide (show w1.heap.size = w.heap.size + 1 by rw [e1]; exact al_size _ _)
  have K1 := hide (show Below w.heap.size w w1 by rw [e1]; exact al_below w _)
  have E1 := hide e1; have M0 := hide m0
  clear e1 m0
  cases hgm : goodM N len
  · have G := hide hgm
    clear hg hgm
    go_enter Try.func14, Try.ntmps14
    go_wp2_with fail
    rw [← unhide E1]
    go_wp2_with fail
    refine (good_any N ao len cap _).mono ?_
    rintro e w2 ⟨rfl, k2⟩
    rw [unhide G]
    have K2 := hide (show Below w.heap.size w w2 from (unhide K1).trans (Below.le k2 (by have := unhide S1; omega)))
    clear c0 c1 k2
    go_wp2_with fail
    go_ret3
    exact ⟨rfl, unhide K2⟩
  · have G := hide hgm
    have hne : ((lv : Int) != N) = true := by
      rcases hg with h | h
      · rw [h] at hgm; cases hgm
      · rw [bne_iff_ne]; exact h
    clear hg hgm
    go_enter Try.func14, Try.ntmps14
    go_wp2_with fail
    rw [← unhide E1]
    go_wp2_with fail
    refine (good_any N ao len cap _).mono ?_
    rintro e w2 ⟨rfl, k2⟩
    rw [unhide G]
    have K2 := hide (show Below w.heap.size w w2 from (unhide K1).trans (Below.le k2 (by have := unhide S1; omega)))
    have m0 := (unhide M0).below k2
    clear c0 c1 k2
    have c0 := m0.cell0
    clear m0
    go_wp2_with fail
    go_ret3
    exact ⟨rfl, unhide K2⟩

set_option maxHeartbeats 2000000 in
theorem solve_good (n : Nat) (ao vo : Option Addr) (cap cv : Nat) (f v : Nat → Int) (w : World) (h1 : 1 ≤ n) (h6 : n ≤ 6) (hf : ∀ i, R64 (f i)) (hv : ∀ i, R64 (v i)) (hr : Rds w ao (n * n) f) (hrv : Rds w vo n v) :
    Calls Try.prog 14 #[.agg #[.int .i64 (n : Int), .slice ao (n * n) cap], .slice vo n cv] w fun e w' =>
      (facOK n f n ∧ ∃ (u c : Nat) (g : Nat → Int), IsM n f n g ∧ e = .returned (.tuple #[.slice (some ⟨u, 0, none⟩) n c, .bool (facB n f n || dnB n g v n || dvB (dnF n g v n) (fac n f n).2 n || upB n g (dvF (dnF n g v n) (fac n f n).2 n) n), .int .i64 0]) ∧ w.heap.size ≤ u ∧ Nh w' u n c (upF n g (dvF (dnF n g v n) (fac n f n).2 n) n) ∧ Below w.heap.size w w') ∨
      (¬ facOK n f n ∧ e = .returned (.tuple #[.slice none 0 0, .bool false, .int .i64 9]) ∧ Below w.heap.size w w') := by
  obtain ⟨ba, o, rfl, hc⟩ := hr (Nat.mul_le_mul h1 h1)
  obtain ⟨bv, ov, rfl, hcv⟩ := hrv h1
  obtain ⟨w1, e1⟩ : ∃ w1, w1 = w.alloc (.cells #[.int .i64 (n : Int), .slice (some ⟨ba, o, none⟩) (n * n) cap] 24) := ⟨_, rfl⟩
  have m0 : MbAt w1 w.heap.size n (.slice (some ⟨ba, o, none⟩) (n * n) cap) := by rw [e1]; exact MbAt.new w _ _
  have c0 := m0.cell0; have c1 := m0.cell1
  have S1 := hide (show w1.heap.size = w.heap.size + 1 by rw [e1]; exact al_size _ _)
  have K1 := hide (show Below w.heap.size w w1 by rw [e1]; exact al_below w _)
  have hne : ((n : Int) != (n : Int)) = false := by simp
  have HBV := hide (World.block_lt_of_cell? w _ (hcv 0 h1))
  have E1 := hide e1; have M0 := hide m0; have HF := hide hf; have HV := hide hv; have HC := hide hc; have HCV := hide hcv; have G := hide (goodM_nat h1 h6)
  have H1 := hide h1; have H6 := hide h6
  clear e1 m0 hc hr hf h1 h6 hcv hrv hv
  go_enter Try.func14, Try.ntmps14
  go_wp2_with fail
  rw [← unhide E1]
  go_wp2_with fail
  refine (good_any (n : Int) _ (n * n) cap _).mono ?_
  rintro e w2 ⟨rfl, k2⟩
  rw [unhide G]
  have S2 := hide (show w.heap.size + 1 ≤ w2.heap.size from by have := unhide S1; have := k2.size; omega)
  have K2 := hide (show Below w.heap.size w w2 from (unhide K1).trans (Below.le k2 (by have := unhide S1; omega)))
  have m0 := (unhide M0).below k2
  clear k2 c0 c1
  have c0 := m0.cell0; have c1 := m0.cell1
  clear m0
  go_wp2_with fail
  refine (atWork_any ba o n cap f (unhide H1) (unhide H6) (unhide HF) _ (fun i hi => at_below (unhide HC i hi) (unhide K2))).mono ?_
  rintro e w3 ⟨b, r, cr, rfl, hb, hr, hM, k3⟩
  have K3 := hide (show Below w.heap.size w w3 from (unhide K2).trans (Below.le k3 (by have := unhide S2; omega)))
  have HB := hide hb; have HR := hide hr; have HM := hide hM
  clear c0 c1 k3 hb hr hM
  go_wp2_with fail
  refine (wkFactor_any b n r cr f false _ (unhide HM)).mono ?_
  rintro e w4 (⟨hok, rfl, ⟨g, h4, t4⟩, n4, k4⟩ | ⟨hok, rfl, k4⟩)
  · have H4 := hide h4; have T4 := hide t4; have N4 := hide n4; have OK4 := hide hok
    have K4 := hide (Kp2.below (unhide K3) k4 (by have := unhide HB; have := unhide S2; omega) (by have := unhide HR; have := unhide S2; omega) (unhide K3).size)
    have HSB := hide (show b < w3.heap.size from (unhide HM).wk.lt)
    have HSR := hide (show r < w3.heap.size from (unhide HM).row.lt)
    have S4 := hide (show w3.heap.size < w4.heap.size from n4.lt)
    clear h4 t4 k4 n4 hok
    go_wp2_with fail
    refine (clone_any bv ov n cv v (unhide H1) (by have := unhide H6; omega) _ (fun i hi => at_below (unhide HCV i hi) (unhide K4))).mono ?_
    rintro e w5 ⟨bx, cx, rfl, hbx, n5, k5⟩
    have HX := hide hbx; have N5 := hide n5
    have H5 := hide ((unhide H4).below k5); have D5 := hide ((unhide N4).below k5)
    have K5 := hide (show Below w.heap.size w w5 from (unhide K4).trans (Below.le k5 (by have := (unhide K4).size; omega)))
    clear n5 k5 hbx
    go_wp2_with fail
    refine (wkDown_any b n r cr bx cx g v _ _ (unhide HV) (by have := unhide HSB; have := unhide S4; have := unhide HX; omega) (by have := unhide HSR; have := unhide S4; have := unhide HX; omega) (unhide N5) (unhide H5)).mono ?_
    rintro e w6 ⟨rfl, h6, n6, k6⟩
    have H6' := hide h6; have N6 := hide n6
    have D6 := hide ((unhide D5).kp2 k6 (by have := unhide HSB; omega) (by have := unhide S4; have := unhide HX; omega))
    have K6 := hide (Kp2.below (unhide K5) k6 (by have := unhide HB; have := unhide S2; omega) (by have := unhide HX; have := (unhide K4).size; omega) (unhide K5).size)
    clear h6 n6 k6
    go_wp2_with fail
    refine (wkDivide_any b n r cr bx cx w3.heap.size n g (dnF n g v n) (fac n f n).2 _ _ (dnF_R (unhide HV) n) (facD_R (unhide HF) n) (by have := unhide HSB; have := unhide S4; have := unhide HX; omega) (by have := unhide HSR; have := unhide S4; have := unhide HX; omega) (by have := unhide HSB; omega) (by have := unhide S4; have := unhide HX; omega) (unhide N6) (unhide D6) (unhide H6')).mono ?_
    rintro e w7 ⟨rfl, h7, n7, k7⟩
    have H7 := hide h7; have N7 := hide n7
    have K7 := hide (Kp2.below (unhide K6) k7 (by have := unhide HB; have := unhide S2; omega) (by have := unhide HX; have := (unhide K4).size; omega) (unhide K6).size)
    clear h7 n7 k7
    go_wp2_with fail
    refine (wkUp_any b n r cr bx cx g (dvF (dnF n g v n) (fac n f n).2 n) _ _ (dvF_R (dnF_R (unhide HV) n) n) (by have := unhide HSB; have := unhide S4; have := unhide HX; omega) (by have := unhide HSR; have := unhide S4; have := unhide HX; omega) (unhide N7) (unhide H7)).mono ?_
    rintro e w8 ⟨rfl, h8, n8, k8⟩
    have c0 := h8.wk.cell2
    rw [Bool.false_or] at c0
    have F := hide (show Nh w8 bx n cx (upF n g (dvF (dnF n g v n) (fac n f n).2 n) n) ∧ Below w.heap.size w w8 ∧ w.heap.size ≤ bx from
      ⟨n8, Kp2.below (unhide K7) k8 (by have := unhide HB; have := unhide S2; omega) (by have := unhide HX; have := (unhide K4).size; omega) (unhide K7).size, by have := unhide HX; have := (unhide K4).size; omega⟩)
    clear h8 n8 k8
    go_wp2_with fail
    go_region
    go_wp2_with fail
    go_ret3
    exact Or.inl ⟨unhide OK4, bx, cx, g, unhide T4, rfl, (unhide F).2.2, (unhide F).1, below_drew (unhide F).2.1⟩
  · have OK4 := hide hok
    have K4 := hide (Kp2.below (unhide K3) k4 (by have := unhide HB; have := unhide S2; omega) (by have := unhide HR; have := unhide S2; omega) (unhide K3).size)
    clear k4 hok
    go_wp2_with fail
    go_ret3
    exact Or.inr ⟨unhide OK4, rfl, unhide K4⟩

end Go.Proofs.Ytnfejfdekedmhab
