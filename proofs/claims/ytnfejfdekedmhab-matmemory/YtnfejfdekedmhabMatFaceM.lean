/- Contracts: Mul. -/
import Derived.Test.YtnfejfdekedmhabMatFaceT
import Derived.Laws.CopyRow
namespace Go.Proofs.Ytnfejfdekedmhab
open Go.RowKit

/-- Two matrices' variables and a result's, once made. -/
theorem mat_three (w : World) (N M : Int) (v u : Value) : ∃ w1, w1 = ((w.alloc (.cells #[.int .i64 N, v] 24)).alloc (.cells #[.int .i64 M, u] 24)).alloc (.cells #[.int .i64 0, .slice none 0 0] 24) ∧
    MbAt w1 w.heap.size N v ∧ MbAt w1 (w.heap.size + 1) M u ∧ MbAt w1 (w.heap.size + 1 + 1) 0 (.slice none 0 0) ∧ Below w.heap.size w w1 ∧ w1.heap.size = w.heap.size + 1 + 1 + 1 := by
  refine ⟨_, rfl, ((MbAt.new w N v).below (al_below _ _)).below (al_below _ _), ?_, ?_, ?_, ?_⟩
  · have h := (MbAt.new (w.alloc (.cells #[.int .i64 N, v] 24)) M u).below (al_below _ (.cells #[.int .i64 0, .slice none 0 0] 24))
    rw [al_size] at h
    exact h
  · have h := MbAt.new ((w.alloc (.cells #[.int .i64 N, v] 24)).alloc (.cells #[.int .i64 M, u] 24)) 0 (.slice none 0 0)
    rw [al_size, al_size] at h
    exact h
  · exact (((Below.refl _ _).alloc (Nat.le_refl _) _).alloc (by rw [al_size]; omega) _).alloc (by rw [al_size, al_size]; omega) _
  · rw [al_size, al_size, al_size]

/-- What Mul asks first. -/
def goodP (N M : Int) (l k : Nat) : Bool := goodM N l && goodM M k && decide (N = M)

set_option maxHeartbeats 1000000 in
theorem mul_bad (N M : Int) (ao bo : Option Addr) (l c k d : Nat) (w : World) (hg : goodP N M l k = false) :
    Calls Try.prog 11 #[.agg #[.int .i64 N, .slice ao l c], .agg #[.int .i64 M, .slice bo k d]] w fun e w' =>
      e = .returned (.tuple #[.agg #[.int .i64 0, .slice none 0 0], .bool false, .int .i64 8]) ∧ Below w.heap.size w w' := by
  obtain ⟨w1, e1, m0, m1, m2, k1, s1⟩ := mat_three w N M (.slice ao l c) (.slice bo k d)
  have c0 := m0.cell0; have c1 := m0.cell1
  have E1 := hide e1; have M0 := hide m0; have M1 := hide m1; have M2 := hide m2; have K1 := hide k1; have S1 := hide s1
  clear e1 m0 m1 m2 k1 s1
  cases hga : goodM N l
  · have G := hide hga
    clear hg hga
    go_enter Try.func11, Try.ntmps11
    go_wp2_with fail
    rw [← unhide E1]
    go_wp2_with fail
    refine (good_any N ao l c _).mono ?_
    rintro e w2 ⟨rfl, k2⟩
    rw [unhide G]
    have K2 := hide (show Below w.heap.size w w2 from (unhide K1).trans (Below.le k2 (by have := unhide S1; omega)))
    have m2 := (unhide M2).below k2
    clear k2 c0 c1
    have d0 := m2.cell0; have d1 := m2.cell1; have f0 := m2.free 0; have f1 := m2.free 1
    have R2 := hide m2
    clear m2
    go_wp2_with fail
    obtain ⟨w3, e3, m3, k3⟩ := (unhide R2).put 0 (.slice none 0 0)
    rw [← e3]
    have p0 := m3.cell0; have p1 := m3.cell1
    have F := hide (below_of_kept (unhide K2) k3 (by omega) (unhide K2).size)
    clear e3 m3 k3 d0 d1 f0 f1
    go_wp2_with fail
    refine bodyPost_ret (v := .tuple #[.agg #[.int .i64 0, .slice none 0 0], .bool false, .int .i64 8]) (by simp [results, Try.results11, go_sem, p0, p1]) rfl ⟨rfl, unhide F⟩
  · cases hgb : goodM M k
    · have G := hide hga; have G2 := hide hgb
      clear hg hga hgb
      go_enter Try.func11, Try.ntmps11
      go_wp2_with fail
      rw [← unhide E1]
      go_wp2_with fail
      refine (good_any N ao l c _).mono ?_
      rintro e w2 ⟨rfl, k2⟩
      rw [unhide G]
      have K2 := hide (show Below w.heap.size w w2 from (unhide K1).trans (Below.le k2 (by have := unhide S1; omega)))
      have N2 := hide ((unhide M2).below k2)
      have S2 := hide (show w.heap.size ≤ w2.heap.size from (unhide K2).size)
      have m1 := (unhide M1).below k2
      clear k2 c0 c1
      have c0 := m1.cell0; have c1 := m1.cell1
      clear m1
      go_wp2_with fail
      refine (good_any M bo k d _).mono ?_
      rintro e w4 ⟨rfl, k4⟩
      rw [unhide G2]
      have K2 := hide (show Below w.heap.size w w4 from (unhide K2).trans (Below.le k4 (unhide S2)))
      have m2 := (unhide N2).below k4
      clear k4 c0 c1
      have d0 := m2.cell0; have d1 := m2.cell1; have f0 := m2.free 0; have f1 := m2.free 1
      have R2 := hide m2
      clear m2
      go_wp2_with fail
      obtain ⟨w3, e3, m3, k3⟩ := (unhide R2).put 0 (.slice none 0 0)
      rw [← e3]
      have p0 := m3.cell0; have p1 := m3.cell1
      have F := hide (below_of_kept (unhide K2) k3 (by omega) (unhide K2).size)
      clear e3 m3 k3 d0 d1 f0 f1
      go_wp2_with fail
      refine bodyPost_ret (v := .tuple #[.agg #[.int .i64 0, .slice none 0 0], .bool false, .int .i64 8]) (by simp [results, Try.results11, go_sem, p0, p1]) rfl ⟨rfl, unhide F⟩
    · have G := hide hga; have G2 := hide hgb
      have hne : (N != M) = true := by
        rw [bne_iff_ne]; intro e
        unfold goodP at hg; rw [hga, hgb] at hg; simp [e] at hg
      clear hg hga hgb
      go_enter Try.func11, Try.ntmps11
      go_wp2_with fail
      rw [← unhide E1]
      go_wp2_with fail
      refine (good_any N ao l c _).mono ?_
      rintro e w2 ⟨rfl, k2⟩
      rw [unhide G]
      have K2 := hide (show Below w.heap.size w w2 from (unhide K1).trans (Below.le k2 (by have := unhide S1; omega)))
      have N2 := hide ((unhide M2).below k2); have N0 := hide ((unhide M0).below k2)
      have S2 := hide (show w.heap.size ≤ w2.heap.size from (unhide K2).size)
      have m1 := (unhide M1).below k2
      clear k2 c0 c1
      have c0 := m1.cell0; have c1 := m1.cell1
      have N1 := hide m1
      clear m1
      go_wp2_with fail
      refine (good_any M bo k d _).mono ?_
      rintro e w4 ⟨rfl, k4⟩
      rw [unhide G2]
      have K2 := hide (show Below w.heap.size w w4 from (unhide K2).trans (Below.le k4 (unhide S2)))
      have m2 := (unhide N2).below k4
      have m1 := (unhide N1).below k4; have m0 := (unhide N0).below k4
      clear k4 c0 c1
      have c0 := m1.cell0; have b0 := m0.cell0
      clear m0 m1
      have d0 := m2.cell0; have d1 := m2.cell1; have f0 := m2.free 0; have f1 := m2.free 1
      have R2 := hide m2
      clear m2
      go_wp2_with fail
      obtain ⟨w3, e3, m3, k3⟩ := (unhide R2).put 0 (.slice none 0 0)
      rw [← e3]
      have p0 := m3.cell0; have p1 := m3.cell1
      have F := hide (below_of_kept (unhide K2) k3 (by omega) (unhide K2).size)
      clear e3 m3 k3 d0 d1 f0 f1
      go_wp2_with fail
      refine bodyPost_ret (v := .tuple #[.agg #[.int .i64 0, .slice none 0 0], .bool false, .int .i64 8]) (by simp [results, Try.results11, go_sem, p0, p1]) rfl ⟨rfl, unhide F⟩


/-- A stretch of numbers put in at o. -/
def spF (g : Nat → Int) (o m : Nat) (U : Nat → Int) : Nat → Int := fun p => if o ≤ p ∧ p < o + m then U (p - o) else g p
theorem copy_rows (b N cap o u m cu cd : Nat) (g U : Nat → Int) (w : World) (hb : Nh w b N cap g) (hu : ∀ i, i < m → w.cell? ⟨u, i, none⟩ = some (.int .i64 (U i))) (ho : o + m ≤ N) :
    ∃ w1, (Builtin.copy_ #[22, 22] 3 #[.slice (some ⟨b, o, none⟩) m cd, .slice (some ⟨u, 0, none⟩) m cu]).run Try.prog w = .ok (.int .i64 (m : Int)) w1 ∧ Nh w1 b N cap (spF g o m U) ∧ Kept b w w1 := by
  obtain ⟨i0, hi0, hz0, hz1, hz2⟩ := info_parts infoInt
  have hsz : (Try.prog.info? 3).map (·.size) = some 1 := by rw [hi0]; simp [hz1]
  obtain ⟨cur, h1, h2, h3, h4, h5⟩ := hb
  have hl := rowL_len U m
  rw [Nat.mul_one] at hl
  have hr := run_copy_row (P := Try.prog) w 22 22 3 3 b o m cd ⟨u, 0, none⟩ m cu cur 3 (rowL U m) Try.underlying22 hsz h1 (by rw [hl]; exact (Nat.min_self m).symm) (rowL_cells (fun i hi => by rw [Nat.zero_add]; exact hu i hi)) (by omega) (rowL_one U m)
  rw [hl] at hr
  refine ⟨_, hr, ⟨_, setRow_heap w b cur _ 3 (0, 0) h1, ?_, h3, h4, ?_⟩, ⟨rfl, rfl, rfl, by simp [World.setRow], fun k _ hk => setRow_other w b k _ hk⟩⟩
  · simp only [List.size_toArray, List.length_append, List.length_take, List.length_drop, Array.length_toList, hl]; omega
  · intro i hi
    rw [List.getElem?_toArray]
    unfold spF
    by_cases c1 : i < o
    · rw [if_neg (by omega), List.append_assoc, List.getElem?_append_left (by simp; omega), List.getElem?_take, if_pos c1, Array.getElem?_toList]
      exact h5 i hi
    · by_cases c2 : i < o + m
      · rw [if_pos (by omega), List.append_assoc, List.getElem?_append_right (by simp; omega), List.length_take, Array.length_toList, Nat.min_eq_left (by omega), List.getElem?_append_left (by omega)]
        exact rowL_at U (by omega)
      · rw [if_neg (by omega), List.getElem?_append_right (by simp; omega), List.length_append, List.length_take, Array.length_toList, Nat.min_eq_left (by omega), hl, List.getElem?_drop, Array.getElem?_toList]
        rw [show o + m + (i - (o + m)) = i by omega]
        exact h5 i hi

/-- The product's numbers, and whether anything stopped. -/
def mulF (n : Nat) (f g : Nat → Int) (a c : Nat) : Int := chV (rowF n f a) (fun t => g (t * n + c)) n
def mulB (n : Nat) (f g : Nat → Int) : Bool := anyB (fun c => anyB (fun a => chB (rowF n f a) (fun t => g (t * n + c)) n) n) n
def IsMul (n : Nat) (f g h : Nat → Int) : Prop := ∀ a c, a < n → c < n → h (a * n + c) = mulF n f g a c
/-- Rows below k are columns of the product. -/
def MulTo (n k : Nat) (f g g1 h : Nat → Int) : Prop := ∀ a c, a < n → c < n → h (a * n + c) = if a < k then mulF n f g c a else g1 (a * n + c)
theorem mulTo_row {n k : Nat} {f g g1 h : Nat → Int} (t : Turned n g g1) (m : MulTo n k f g g1 h) (hk : k < n) : ∀ i, i < n → rowF n h k i = g (i * n + k) := by
  intro i hi
  show h (k * n + i) = _
  rw [m k i hk hi, if_neg (by omega), t k i hk hi]
theorem mulTo_step {n k : Nat} {f g g1 h U : Nat → Int} (m : MulTo n k f g g1 h) (hU : ∀ i, i < n → U i = mulF n f g i k) (hk : k < n) : MulTo n (k + 1) f g g1 (spF h (k * n) n U) := by
  intro a c ha hc
  unfold spF
  by_cases e : a = k
  · subst e
    rw [if_pos (by omega), if_pos (by omega), Nat.add_sub_cancel_left, hU c hc]
  · have : ¬ (k * n ≤ a * n + c ∧ a * n + c < k * n + n) := by
      rintro ⟨h1, h2⟩
      obtain ⟨d, hd⟩ : ∃ d, a * n + c = k * n + d := ⟨a * n + c - k * n, by omega⟩
      exact e (idx_inj (show d < n by omega) hc hd).1
    rw [if_neg this, m a c ha hc]
    by_cases e2 : a < k
    · rw [if_pos e2, if_pos (by omega)]
    · rw [if_neg e2, if_neg (by omega)]
theorem mulTo_end {n : Nat} {f g g1 h h2 : Nat → Int} (m : MulTo n n f g g1 h) (t : Turned n h h2) : IsMul n f g h2 := by
  intro a c ha hc
  rw [t a c ha hc, m c a hc ha, if_pos hc]
theorem spF_R {g U : Nat → Int} {o m : Nat} (hg : ∀ i, R64 (g i)) (hU : ∀ i, R64 (U i)) : ∀ i, R64 (spF g o m U i) := by
  intro i; unfold spF; split
  · exact hU _
  · exact hg _
/-- Four cells of two blocks. -/
def Cl4 (b c : Nat) (v0 v1 u0 u1 : Value) (w : World) : Prop := Cl2 b v0 v1 w ∧ Cl2 c u0 u1 w

set_option maxHeartbeats 4000000 in
theorem mul_good (n : Nat) (ao bo : Option Addr) (ca cb : Nat) (f g : Nat → Int) (w : World) (h1 : 1 ≤ n) (h6 : n ≤ 6) (hf : ∀ i, R64 (f i)) (hg : ∀ i, R64 (g i)) (hra : Rds w ao (n * n) f) (hrb : Rds w bo (n * n) g) :
    Calls Try.prog 11 #[.agg #[.int .i64 (n : Int), .slice ao (n * n) ca], .agg #[.int .i64 (n : Int), .slice bo (n * n) cb]] w fun e w' =>
      ∃ (r c : Nat) (h : Nat → Int), e = .returned (.tuple #[.agg #[.int .i64 (n : Int), .slice (some ⟨r, 0, none⟩) (n * n) c], .bool (mulB n f g), .int .i64 0]) ∧ w.heap.size ≤ r ∧ Nh w' r (n * n) c h ∧ (∀ i, R64 (h i)) ∧ IsMul n f g h ∧ Below w.heap.size w w' := by
  obtain ⟨ba, oa, rfl, hca⟩ := hra (Nat.mul_le_mul h1 h1)
  obtain ⟨bb, ob, rfl, hcb⟩ := hrb (Nat.mul_le_mul h1 h1)
  obtain ⟨w1, e1, m0, m1, m2, k1, s1⟩ := mat_three w (n : Int) (n : Int) (.slice (some ⟨ba, oa, none⟩) (n * n) ca) (.slice (some ⟨bb, ob, none⟩) (n * n) cb)
  have c0 := m0.cell0; have c1 := m0.cell1
  have hne : ((n : Int) != (n : Int)) = false := by simp
  have E1 := hide e1; have M0 := hide m0; have M1 := hide m1; have M2 := hide m2; have K1 := hide k1; have S1 := hide s1
  have HF := hide hf; have HG := hide hg; have HCA := hide hca; have HCB := hide hcb; have G := hide (goodM_nat h1 h6)
  have H1 := hide h1; have H6 := hide h6
  clear e1 m0 m1 m2 k1 s1 hf hg hca hcb hra hrb h1
  go_enter Try.func11, Try.ntmps11
  go_wp2_with fail
  rw [← unhide E1]
  go_wp2_with fail
  refine (good_any (n : Int) _ (n * n) ca _).mono ?_
  rintro e w2 ⟨rfl, k2⟩
  rw [unhide G]
  have K2 := hide (show Below w.heap.size w w2 from (unhide K1).trans (Below.le k2 (by have := unhide S1; omega)))
  have N2 := hide ((unhide M2).below k2); have N0 := hide ((unhide M0).below k2)
  have S2 := hide (show w.heap.size + 1 + 1 + 1 ≤ w2.heap.size from by have := unhide S1; have := k2.size; omega)
  have m1 := (unhide M1).below k2
  clear k2 c0 c1
  have c0 := m1.cell0; have c1 := m1.cell1
  have N1 := hide m1
  clear m1
  go_wp2_with fail
  refine (good_any (n : Int) _ (n * n) cb _).mono ?_
  rintro e w4 ⟨rfl, k4⟩
  rw [unhide G]
  have K4 := hide (show Below w.heap.size w w4 from (unhide K2).trans (Below.le k4 (by have := unhide S2; omega)))
  have S4 := hide (show w.heap.size + 1 + 1 + 1 ≤ w4.heap.size from by have := unhide S2; have := k4.size; omega)
  have R4 := hide ((unhide N2).below k4)
  have m1 := (unhide N1).below k4; have m0 := (unhide N0).below k4
  clear k4 c0 c1
  have c0 := m1.cell0; have b0 := m0.cell0
  have P0 := hide m0; have P1 := hide m1
  clear m0 m1
  go_wp2_with fail
  clear c0 b0 hne
  refine region_by (S := Cl4 w.heap.size (w.heap.size + 1) (.int .i64 (n : Int)) (.slice (some ⟨ba, oa, none⟩) (n * n) ca) (.int .i64 (n : Int)) (.slice (some ⟨bb, ob, none⟩) (n * n) cb))
    [(0, false), (2, false), (1, true), (3, true), (4, true), (5, true)] [] (by kernel_rfl) (by kernel_rfl) ?_
  have hS : Cl4 w.heap.size (w.heap.size + 1) (.int .i64 (n : Int)) (.slice (some ⟨ba, oa, none⟩) (n * n) ca) (.int .i64 (n : Int)) (.slice (some ⟨bb, ob, none⟩) (n * n) cb) w4.drew :=
    ⟨⟨(unhide P0).cell0, (unhide P0).cell1⟩, ⟨(unhide P1).cell0, (unhide P1).cell1⟩⟩
  iterate 2
    refine seq_read (v := ?_) rfl (fun _ _ _ h => h) (by rfl) hS ?_ ?_
    rotate_left 1
    · intro wx hwx
      obtain ⟨⟨q1, q2⟩, ⟨q3, q4⟩⟩ := hwx
      go_simp <;> exact rfl
    go_frame
  refine seq_do rfl (fun K hK => ?_)
  go_simp
  refine (atWork_any ba oa n ca f (unhide H1) (unhide H6) (unhide HF) _ (fun i hi => at_below (w' := w4.drew) (unhide HCA i hi) (below_drew (unhide K4)))).mono ?_
  rintro e w5 ⟨b, r, cr, rfl, hb, hr, hM, k5⟩
  have hS5 : Cl4 w.heap.size (w.heap.size + 1) (.int .i64 (n : Int)) (.slice (some ⟨ba, oa, none⟩) (n * n) ca) (.int .i64 (n : Int)) (.slice (some ⟨bb, ob, none⟩) (n * n) cb) w5 := ⟨hS.1.below k5, hS.2.below k5⟩
  refine hK _ _ (fun _ => hS5) ?_
  have hb' : w4.heap.size ≤ b := hb
  have hr' : w4.heap.size ≤ r := hr
  have HB := hide hb'; have HR := hide hr'; have HM := hide hM
  have R5 := hide (MbAt.below (w := w4.drew) (unhide R4) k5)
  have K5 := hide (show Below w.heap.size w w5 from (below_drew (unhide K4)).trans (Below.le k5 (by have := unhide S4; show w.heap.size ≤ w4.heap.size; omega)))
  have S5 := hide (show w4.heap.size ≤ w5.heap.size from k5.size)
  clear hK K hS hb hr hb' hr' hM k5
  refine seq_do rfl (fun K hK => ?_)
  go_simp
  refine (atWork_any bb ob n cb g (unhide H1) (unhide H6) (unhide HG) _ (fun i hi => at_below (unhide HCB i hi) (unhide K5))).mono ?_
  rintro e w6 ⟨b2, r2, cr2, rfl, hb2, hr2, hM2, k6⟩
  have hS6 : Cl4 w.heap.size (w.heap.size + 1) (.int .i64 (n : Int)) (.slice (some ⟨ba, oa, none⟩) (n * n) ca) (.int .i64 (n : Int)) (.slice (some ⟨bb, ob, none⟩) (n * n) cb) w6 := ⟨hS5.1.below k6, hS5.2.below k6⟩
  refine hK _ _ (fun _ => hS6) ?_
  have HM6 := hide ((unhide HM).below k6); have HN6 := hide hM2
  have R6 := hide ((unhide R5).below k6)
  have K6 := hide (show Below w.heap.size w w6 from (unhide K5).trans (Below.le k6 (by have := unhide S4; have := unhide S5; omega)))
  have D1 := hide (show b < w5.heap.size from (unhide HM).wk.lt); have D2 := hide (show r < w5.heap.size from (unhide HM).row.lt)
  have D := hide (show w.heap.size + 1 + 1 < b ∧ w.heap.size + 1 + 1 < r ∧ w.heap.size + 1 + 1 < b2 ∧ w.heap.size + 1 + 1 < r2 ∧ b ≠ b2 ∧ b ≠ r2 ∧ r ≠ b2 ∧ r ≠ r2 ∧ b ≠ r ∧ b2 ≠ r2 from by
    have := unhide S4; have := unhide S5; have := unhide D1; have := unhide D2; have := unhide HB; have := unhide HR; have := (unhide HM).ne; have := hM2.ne
    refine ⟨?_, ?_, ?_, ?_, ?_, ?_, ?_, ?_, ?_, ?_⟩ <;> omega)
  clear hK K hS5 hb2 hr2 hM2 k6 D1 D2 HB HR
  iterate 2
    refine seq_do rfl (fun K hK => ?_)
    go_simp
    refine hK _ _ (fun _ => hS6) ?_
    clear hK K
  clear hS6
  refine seq_end ?_
  go_wp2_with fail
  refine (wkTurn_any b2 n r2 cr2 g false _ (unhide HN6)).mono ?_
  rintro e w7 ⟨g1, rfl, h7, t7, k7⟩
  have HM7 := hide ((unhide HM6).kept k7 (unhide D).2.2.2.2.2.1 (unhide D).2.2.2.2.2.2.2.1)
  have HN7 := hide h7; have T7 := hide t7
  have R7 := hide ((unhide R6).kept k7 (by have := unhide D; omega))
  have K7 := hide (below_of_kept (unhide K6) k7 (by have := unhide D; omega) (unhide K6).size)
  have c0 := h7.wk.cell0
  clear h7 t7 k7
  go_wp2_with fail
  clear c0
  go_loopw [9, 37] (fun _ ks wr => ∃ (k : Nat) (h : Nat → Int), ks = .int .i64 k ∧ k ≤ n ∧ MW wr b n r cr f (anyB (fun c => anyB (fun a => chB (rowF n f a) (fun t => g (t * n + c)) n) n) k) ∧ MW wr b2 n r2 cr2 h false ∧ MulTo n k f g g1 h ∧ MbAt wr (w.heap.size + 1 + 1) 0 (.slice none 0 0) ∧ Below w.heap.size w wr)
    (fun _ ks _ => n - (intOf ks).toNat)
  case atStart => exact ⟨0, g1, rfl, Nat.zero_le _, unhide HM7, unhide HN7, fun a c _ _ => by rw [if_neg (by omega)], unhide R7, unhide K7⟩
  case round =>
    obtain ⟨k, h, rfl, hk, hM, hN, hT, hR, hK⟩ := hrel
    have HMk := hide hM; have HNk := hide hN; have HTk := hide hT; have HRk := hide hR; have HKk := hide hK
    clear hM hN hT hR hK
    by_cases hkn : k < n
    · rename World => wr
      go_wp2_with fail
      refine (wkRow_any b2 n r2 cr2 k h _ _ hkn (unhide HNk)).mono ?_
      rintro e w8 ⟨rfl, rfl⟩
      go_wp2_with fail
      refine (wkRow_any b2 n r2 cr2 k h _ _ hkn (mw_drew (unhide HNk))).mono ?_
      rintro e w8 ⟨rfl, rfl⟩
      go_wp2_with fail
      refine (wkTimes_any b n r cr r2 (k * n) (cr2 - k * n) f (rowF n h k) _ _ (fun i => (unhide HNk).rng _) (unhide D).2.2.2.2.2.1.symm (fun i hi => (mw_drew (mw_drew (unhide HNk))).row.cell (idx_lt hkn hi)) (mw_drew (mw_drew (unhide HMk)))).mono ?_
      rintro e w9 ⟨rfl, n9, h9, k9⟩
      have N9 := (mw_drew (mw_drew (unhide HNk))).kept k9 (unhide D).2.2.2.2.1.symm (unhide D).2.2.2.2.2.1.symm
      have R9 := MbAt.kept (w := wr.drew.drew) (unhide HRk) k9 (by have := unhide D; omega)
      have K9 := below_of_kept (below_drew (below_drew (unhide HKk))) k9 (by have := unhide D; omega) (unhide HKk).size
      obtain ⟨w10, hcp, n10, k10⟩ := copy_rows r2 (n * n) cr2 (k * n) wr.drew.drew.heap.size n n (cr2 - k * n) h (fun i => chV (rowF n f i) (rowF n h k) n) w9 N9.row (fun i hi => n9.cell hi) (by
        have := Nat.mul_le_mul_right n (show k + 1 ≤ n from hkn)
        rw [Nat.add_mul, Nat.one_mul] at this
        exact this)
      have hcp : (Builtin.copy_ #[22, 22] 3 #[.slice (some ⟨r2, k * n, none⟩) n (cr2 - k * n), .slice (some ⟨wr.heap.size, 0, none⟩) n n]).run Try.prog w9 = .ok (.int .i64 (n : Int)) w10 := hcp
      have F := hide (show MW w10 b n r cr f (anyB (fun c => anyB (fun a => chB (rowF n f a) (fun t => g (t * n + c)) n) n) (k + 1)) ∧ MW w10 b2 n r2 cr2 (spF h (k * n) n (fun i => chV (rowF n f i) (rowF n h k) n)) false ∧ MulTo n (k + 1) f g g1 (spF h (k * n) n (fun i => chV (rowF n f i) (rowF n h k) n)) ∧ MbAt w10 (w.heap.size + 1 + 1) 0 (.slice none 0 0) ∧ Below w.heap.size w w10 from by
        have d := unhide D
        have hrow := mulTo_row (unhide T7) (unhide HTk) hkn
        refine ⟨?_, ⟨N9.wk.same (k10.block b2 N9.wk.lt (by omega)), n10, N9.n1, N9.n6, N9.ne, spF_R N9.rng (fun i => chV_R _ _ _)⟩, ?_, R9.kept k10 (by omega), below_of_kept K9 k10 (by omega) K9.size⟩
        · have hm := h9.kept k10 (by omega) (by omega)
          rw [anyB_congr (fun i hi => chB_congr (fun _ _ => rfl) hrow)] at hm
          exact hm
        · exact mulTo_step (unhide HTk) (fun i hi => chV_congr (fun _ _ => rfl) hrow) hkn)
      clear n9 h9 k9 N9 R9 K9 n10 k10
      go_wp2_with fail
      clear hcp
      go_roundw
      case rel => exact ⟨k + 1, _, by go_num, by omega, (unhide F).1, (unhide F).2.1, (unhide F).2.2.1, (unhide F).2.2.2.1, (unhide F).2.2.2.2⟩
      case measure => simp [intOf] <;> omega
    · have hkn2 : k = n := by omega
      subst hkn2
      go_wp2_with fail
      refine (wkTurn_any b2 k r2 cr2 h false _ (unhide HNk)).mono ?_
      rintro e w11 ⟨h2, rfl, h11, t11, k11⟩
      have hm := (unhide HMk).kept k11 (unhide D).2.2.2.2.2.1 (unhide D).2.2.2.2.2.2.2.1
      have c0 := h11.wk.cell0; have c1 := h11.wk.cell1; have c2 := hm.wk.cell2
      have m4 := (unhide HRk).kept k11 (by have := unhide D; omega)
      have d0 := m4.cell0; have d1 := m4.cell1; have f0 := m4.free 0; have f1 := m4.free 1
      have M4 := hide m4; have H11 := hide h11; have T11 := hide t11
      have K11 := hide (below_of_kept (unhide HKk) k11 (by have := unhide D; omega) (unhide HKk).size)
      clear hm m4 h11 t11 k11
      go_wp2_with fail
      go_region
      obtain ⟨w5', e5, m5, k5⟩ := (unhide M4).put (k : Int) (.slice (some ⟨r2, 0, none⟩) (k * k) cr2)
      rw [← e5]
      have p0 : w5'.drew.cell? ⟨w.heap.size + 1 + 1, 0, none⟩ = some (.int .i64 (k : Int)) := m5.cell0
      have p1 : w5'.drew.cell? ⟨w.heap.size + 1 + 1, 1, none⟩ = some (.slice (some ⟨r2, 0, none⟩) (k * k) cr2) := m5.cell1
      have F := hide (show Nh w5'.drew r2 (k * k) cr2 h2 ∧ Below w.heap.size w w5'.drew from ⟨Nh.kept (w' := w5') (unhide H11).row k5 (by have := unhide D; omega), below_drew (below_of_kept (unhide K11) k5 (by omega) (unhide K11).size)⟩)
      clear e5 m5 k5 d0 d1 f0 f1 c0 c1 c2
      generalize w5'.drew = w6' at *
      go_wp2_with fail
      refine bodyPost_ret (v := .tuple #[.agg #[.int .i64 (k : Int), .slice (some ⟨r2, 0, none⟩) (k * k) cr2], .bool (mulB k f g), .int .i64 0]) (by simp [results, Try.results11, go_sem, p0, p1, mulB]) rfl
        ⟨r2, cr2, h2, rfl, by have := unhide D; omega, (unhide F).1, (unhide H11).rng, mulTo_end (unhide HTk) (unhide T11), (unhide F).2⟩

end Go.Proofs.Ytnfejfdekedmhab
