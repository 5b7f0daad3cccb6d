/- Contracts of the reference's whole numbers of any size: Add, Sub as methods. -/
import Derived.Test.YtgikknoklnbihaaJoinB
import Derived.Test.YtgikknoklnbihaaLate
namespace Go.Proofs.Ytgikknoklnbihaa
open Go.RowKit

/-- Numbers of at most a hundred words. -/
def Bd (x : Int) : Prop := absZ x < 4294967296 ^ 100
theorem len_le {n k : Nat} {f : Nat → Int} (hw : Wd n f) (hn : Nm n f) (h : val f n < 4294967296 ^ k) : n ≤ k := by
  rcases Nat.lt_or_ge k n with hl | hl
  · obtain ⟨l, rfl⟩ : ∃ l, n = l + 1 := ⟨n - 1, by omega⟩
    have h2 := val_ge hw (by rcases hn with h | h; exact absurd h (by omega); exact h)
    have h3 : (4294967296 : Int) ^ k ≤ 4294967296 ^ l := by
      obtain ⟨d, rfl⟩ : ∃ d, l = k + d := ⟨l - k, by omega⟩
      rw [Int.pow_add]
      have := Int.mul_le_mul_of_nonneg_left (show 1 ≤ (4294967296 : Int) ^ d from pow_pos d) (Int.le_of_lt (pow_pos k))
      omega
    omega
  · exact hl
theorem absZ_sgn {s : Bool} {v : Int} (h : 0 ≤ v) : absZ (sgnZ s v) = v := by
  unfold absZ sgnZ; cases s
  · rw [if_neg (show ¬ (false = true) by decide), if_neg (by omega)]
  · rw [if_pos rfl]; split <;> omega
theorem bd_len {x : Int} {s : Bool} {n : Nat} {f : Nat → Int} (h : Bd x) (hx : x = sgnZ s (val f n)) (hw : Wd n f) (hn : Nm n f) : n ≤ 549755813888 := by
  unfold Bd at h
  rw [hx, absZ_sgn (val_bd hw).1] at h
  have := len_le hw hn h
  omega

/-- Two numbers' cells. -/
def Two (bx by_ : Nat) (xs xv ys yv : Value) (w : World) : Prop :=
  w.cell? ⟨bx, 0, none⟩ = some xs ∧ w.cell? ⟨bx, 1, none⟩ = some xv ∧ w.cell? ⟨by_, 0, none⟩ = some ys ∧ w.cell? ⟨by_, 1, none⟩ = some yv
theorem cell_below {w w' : World} {a : Addr} {v : Value} (h : w.cell? a = some v) (k : Below w.heap.size w w') : w'.cell? a = some v :=
  (k.cell (World.block_lt_of_cell? w a h)).trans h
theorem Two.below {bx by_ : Nat} {xs xv ys yv : Value} {w w' : World} (h : Two bx by_ xs xv ys yv w) (k : Below w.heap.size w w') : Two bx by_ xs xv ys yv w' :=
  ⟨cell_below h.1 k, cell_below h.2.1 k, cell_below h.2.2.1 k, cell_below h.2.2.2 k⟩

set_option maxHeartbeats 1000000 in
theorem intAdd_any (z bx by_ : Nat) (x y : Int) (s0 : Bool) (v0 : Value) (w : World) (hz : IntAt w z (.bool s0) v0) (hx : Num w bx x) (hy : Num w by_ y) (dx : Bd x) (dy : Bd y) :
    Calls Try.prog 26 #[.pointer (some ⟨z, 0, none⟩), .pointer (some ⟨bx, 0, none⟩), .pointer (some ⟨by_, 0, none⟩)] w fun e w' =>
      e = .returned (.pointer (some ⟨z, 0, none⟩)) ∧ Num w' z (x + y) ∧ Kept z w w' := by
  obtain ⟨xn, xv, n, fa, hx1, hx2, hx3, hx4, hx5, hx6⟩ := hx
  obtain ⟨yn, yv, m, fb, hy1, hy2, hy3, hy4, hy5, hy6⟩ := hy
  have c1 := hx1.cell0; have c2 := hx1.cell1; have c3 := hy1.cell0; have c4 := hy1.cell1
  have L1 := hide (bd_len dx hx5 hx3 hx4); have L2 := hide (bd_len dy hy5 hy3 hy4)
  have HX2 := hide hx2; have HX3 := hide hx3; have HX4 := hide hx4; have HY2 := hide hy2; have HY3 := hide hy3; have HY4 := hide hy4
  have E := hide (show x + y = sgnZ xn (val fa n) + sgnZ yn (val fb m) by rw [hx5, hy5])
  have HZ := hide hz
  obtain ⟨ao, capa, rfl, -, -, -⟩ := hx2.view
  obtain ⟨bo, capb, rfl, -, -, -⟩ := hy2.view
  clear hx1 hx2 hx3 hx4 hx5 hx6 hy1 hy2 hy3 hy4 hy5 hy6 hz dx dy
  go_enter Try.func26, Try.ntmps26
  go_wp2_with fail
  refine region_by (S := Two bx by_ (.bool xn) (.slice ao n capa) (.bool yn) (.slice bo m capb))
    [(0, false), (1, false), (2, false), (3, false), (4, false), (5, false), (6, false), (7, false), (8, false), (9, false), (10, false), (11, false), (12, false), (13, false), (14, false), (15, false), (16, false), (17, true), (18, false), (19, false), (20, true), (21, true)] [20, 21] (by kernel_rfl) (by kernel_rfl) ?_
  have hS : Two bx by_ (.bool xn) (.slice ao n capa) (.bool yn) (.slice bo m capb) w.drew := ⟨c1, c2, c3, c4⟩
  clear c1 c2 c3 c4
  iterate 17
    refine seq_read (v := ?_) rfl (fun _ _ _ h => h) (by rfl) hS ?_ ?_
    rotate_left 1
    · intro wx hwx
      obtain ⟨k1, k2, k3, k4⟩ := hwx
      go_simp <;> exact rfl
    go_frame
  refine seq_do rfl (fun K hK => ?_)
  go_simp
  refine (sum_any xn yn _ _ n m fa fb (unhide L1) (unhide L2) _ (by exact unhide HX2) (by exact unhide HY2) (unhide HX3) (unhide HY3) (unhide HX4) (unhide HY4)).mono ?_
  rintro e w1 ⟨s, v, l, f, rfl, h2, h3, h4, h5, h6⟩
  have H2 := hide h2; have H3 := hide h3; have H4 := hide h4; have H5 := hide h5; have H6 := hide h6
  obtain ⟨vo, cap, rfl, -, -, -⟩ := h2.view
  have hS1 := hS.below h6
  refine hK _ _ (fun _ => hS1) ?_
  clear hS hK K h2 h3 h4 h5 h6
  iterate 2
    refine seq_read (v := ?_) rfl (fun _ _ _ h => h) (by rfl) hS1 ?_ ?_
    rotate_left 1
    · intro wx hwx
      clear hwx
      go_simp <;> exact rfl
    go_frame
  refine seq_do rfl (fun K hK => ?_)
  go_simp
  refine (give_any z _ _ _ _ _ _ _ (IntAt.below (w := w.drew) (unhide HZ) (unhide H6))).mono ?_
  rintro e w2 ⟨rfl, g1, g2⟩
  refine hK _ _ (fun h => by cases h) ?_
  have F := hide (show Num w2 z (x + y) ∧ Kept z w w2 from by
    have hsl := (unhide H2).other g2 (IntAt.below (w := w.drew) (unhide HZ) (unhide H6))
    have hnum := num_of_give g1 hsl (unhide H3) (unhide H4)
    rw [unhide H5, ← unhide E] at hnum
    exact ⟨hnum, (Kept.of_below (show Below w.heap.size w w1 from ((Drw.refl w).drew.below _).trans (unhide H6))).trans g2 (Or.inl rfl)⟩)
  clear g1 g2 hK K hS1
  refine seq_do rfl (fun K hK => ?_)
  go_simp
  refine hK _ _ (fun h => by cases h) ?_
  clear hK K
  refine seq_end ?_
  go_wp2_with fail
  go_ret
  exact ⟨rfl, (unhide F).1, (unhide F).2⟩

set_option maxHeartbeats 1000000 in
theorem intSub_any (z bx by_ : Nat) (x y : Int) (s0 : Bool) (v0 : Value) (w : World) (hz : IntAt w z (.bool s0) v0) (hx : Num w bx x) (hy : Num w by_ y) (dx : Bd x) (dy : Bd y) :
    Calls Try.prog 52 #[.pointer (some ⟨z, 0, none⟩), .pointer (some ⟨bx, 0, none⟩), .pointer (some ⟨by_, 0, none⟩)] w fun e w' =>
      e = .returned (.pointer (some ⟨z, 0, none⟩)) ∧ Num w' z (x - y) ∧ Kept z w w' := by
  obtain ⟨xn, xv, n, fa, hx1, hx2, hx3, hx4, hx5, hx6⟩ := hx
  obtain ⟨yn, yv, m, fb, hy1, hy2, hy3, hy4, hy5, hy6⟩ := hy
  have c1 := hx1.cell0; have c2 := hx1.cell1; have c3 := hy1.cell0; have c4 := hy1.cell1
  have L1 := hide (bd_len dx hx5 hx3 hx4); have L2 := hide (bd_len dy hy5 hy3 hy4)
  have HX2 := hide hx2; have HX3 := hide hx3; have HX4 := hide hx4; have HY2 := hide hy2; have HY3 := hide hy3; have HY4 := hide hy4
  have E := hide (show x - y = sgnZ xn (val fa n) + sgnZ (!yn) (val fb m) by rw [hx5, hy5]; cases yn <;> simp [sgnZ] <;> omega)
  have HZ := hide hz
  obtain ⟨ao, capa, rfl, -, -, -⟩ := hx2.view
  obtain ⟨bo, capb, rfl, -, -, -⟩ := hy2.view
  clear hx1 hx2 hx3 hx4 hx5 hx6 hy1 hy2 hy3 hy4 hy5 hy6 hz dx dy
  go_enter Try.func52, Try.ntmps52
  go_wp2_with fail
  refine region_by (S := Two bx by_ (.bool xn) (.slice ao n capa) (.bool yn) (.slice bo m capb))
    [(0, false), (1, false), (2, false), (3, false), (4, false), (5, false), (6, false), (7, false), (8, false), (9, false), (10, false), (11, false), (12, false), (13, false), (14, false), (15, false), (16, false), (17, false), (18, true), (19, false), (20, false), (21, true), (22, true)] [21, 22] (by kernel_rfl) (by kernel_rfl) ?_
  have hS : Two bx by_ (.bool xn) (.slice ao n capa) (.bool yn) (.slice bo m capb) w.drew := ⟨c1, c2, c3, c4⟩
  clear c1 c2 c3 c4
  iterate 18
    refine seq_read (v := ?_) rfl (fun _ _ _ h => h) (by rfl) hS ?_ ?_
    rotate_left 1
    · intro wx hwx
      obtain ⟨k1, k2, k3, k4⟩ := hwx
      go_simp <;> exact rfl
    go_frame
  refine seq_do rfl (fun K hK => ?_)
  go_simp
  refine (sum_any xn (!yn) _ _ n m fa fb (unhide L1) (unhide L2) _ (by exact unhide HX2) (by exact unhide HY2) (unhide HX3) (unhide HY3) (unhide HX4) (unhide HY4)).mono ?_
  rintro e w1 ⟨s, v, l, f, rfl, h2, h3, h4, h5, h6⟩
  have H2 := hide h2; have H3 := hide h3; have H4 := hide h4; have H5 := hide h5; have H6 := hide h6
  obtain ⟨vo, cap, rfl, -, -, -⟩ := h2.view
  have hS1 := hS.below h6
  refine hK _ _ (fun _ => hS1) ?_
  clear hS hK K h2 h3 h4 h5 h6
  iterate 2
    refine seq_read (v := ?_) rfl (fun _ _ _ h => h) (by rfl) hS1 ?_ ?_
    rotate_left 1
    · intro wx hwx
      clear hwx
      go_simp <;> exact rfl
    go_frame
  refine seq_do rfl (fun K hK => ?_)
  go_simp
  refine (give_any z _ _ _ _ _ _ _ (IntAt.below (w := w.drew) (unhide HZ) (unhide H6))).mono ?_
  rintro e w2 ⟨rfl, g1, g2⟩
  refine hK _ _ (fun h => by cases h) ?_
  have F := hide (show Num w2 z (x - y) ∧ Kept z w w2 from by
    have hsl := (unhide H2).other g2 (IntAt.below (w := w.drew) (unhide HZ) (unhide H6))
    have hnum := num_of_give g1 hsl (unhide H3) (unhide H4)
    rw [unhide H5, ← unhide E] at hnum
    exact ⟨hnum, (Kept.of_below (show Below w.heap.size w w1 from ((Drw.refl w).drew.below _).trans (unhide H6))).trans g2 (Or.inl rfl)⟩)
  clear g1 g2 hK K hS1
  refine seq_do rfl (fun K hK => ?_)
  go_simp
  refine hK _ _ (fun h => by cases h) ?_
  clear hK K
  refine seq_end ?_
  go_wp2_with fail
  go_ret
  exact ⟨rfl, (unhide F).1, (unhide F).2⟩

end Go.Proofs.Ytgikknoklnbihaa
