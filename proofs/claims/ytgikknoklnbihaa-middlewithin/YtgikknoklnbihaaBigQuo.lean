/- Contracts of the reference's whole numbers of any size: QuoRem, DivMod, Div, and the reference's down, where the words' division answers. -/
import Derived.Test.YtgikknoklnbihaaBigDivS
namespace Go.Proofs.Ytgikknoklnbihaa
open Go.RowKit

/-- Two numbers' words. -/
def TwoV (bx by_ : Nat) (xv yv : Value) (w : World) : Prop := w.cell? ⟨bx, 1, none⟩ = some xv ∧ w.cell? ⟨by_, 1, none⟩ = some yv
theorem TwoV.below {bx by_ : Nat} {xv yv : Value} {w w' : World} (h : TwoV bx by_ xv yv w) (k : Below w.heap.size w w') : TwoV bx by_ xv yv w' := ⟨cell_below h.1 k, cell_below h.2 k⟩
/-- A step that turns at most two blocks: what it leaves of other numbers, and of what lies below both. -/
def Turns (z r : Nat) (w w' : World) : Prop := (∀ (b : Nat) (y : Int), b ≠ z → b ≠ r → Num w b y → Num w' b y) ∧ (∀ B, B ≤ z → B ≤ r → B ≤ w.heap.size → Below B w w') ∧ w.heap.size ≤ w'.heap.size
theorem Kept.below_of {z : Nat} {w w' : World} (h : Kept z w w') {B : Nat} (hz : B ≤ z) (hB : B ≤ w.heap.size) : Below B w w' := ⟨h.os, h.tape, h.output, h.size, fun k hk => h.block k (by omega) (by omega)⟩

set_option maxHeartbeats 1000000 in
set_option maxRecDepth 100000 in
theorem quoRem_any (z bx by_ r : Nat) (x y : Int) (s0 s1 : Bool) (v0 v1 : Value) (w : World) (hz : IntAt w z (.bool s0) v0) (hr : IntAt w r (.bool s1) v1) (hzr : r ≠ z) (hx : Num w bx x) (hy : Num w by_ y) (dx : Bd x) (dy : Bd y) (hd : DivOK (absZ x) (absZ y)) :
    Calls Try.prog 51 #[.pointer (some ⟨z, 0, none⟩), .pointer (some ⟨bx, 0, none⟩), .pointer (some ⟨by_, 0, none⟩), .pointer (some ⟨r, 0, none⟩)] w fun e w' =>
      e = .returned (.tuple #[.pointer (some ⟨z, 0, none⟩), .pointer (some ⟨r, 0, none⟩)]) ∧ Num w' z (sgnZ (negZ x y) (absZ x / absZ y)) ∧ Num w' r (sgnZ (decide (x < 0)) (absZ x % absZ y)) ∧ Turns z r w w' := by
  obtain ⟨xn, xv, n, fa, hx1, hx2, hx3, hx4, hx5, hx6⟩ := hx
  obtain ⟨yn, yv, m, fb, hy1, hy2, hy3, hy4, hy5, hy6⟩ := hy
  have hn : n ≤ 100 := by
    unfold Bd at dx
    rw [hx5, absZ_sgn (val_bd hx3).1] at dx
    exact len_le hx3 hx4 dx
  have hm : m ≤ 100 := by
    unfold Bd at dy
    rw [hy5, absZ_sgn (val_bd hy3).1] at dy
    exact len_le hy3 hy4 dy
  have c1 := hx1.cell0; have c2 := hx1.cell1; have c3 := hy1.cell0; have c4 := hy1.cell1
  have AX := hide (show val fa n = absZ x by rw [hx5, absZ_sgn (val_bd hx3).1])
  have AY := hide (show val fb m = absZ y by rw [hy5, absZ_sgn (val_bd hy3).1])
  have XN := hide (show xn = decide (x < 0) from by
    rcases Nat.eq_zero_or_pos n with h0 | h0
    · rw [hx6 h0, hx5, hx6 h0, h0]; exact (decide_eq_false (show ¬ ((0 : Int) < 0) by decide)).symm
    · have := val_pos hx3 hx4 (by omega)
      rw [hx5]
      cases xn
      · symm; exact decide_eq_false (show ¬ val fa n < 0 by omega)
      · symm; exact decide_eq_true (show -val fa n < 0 by omega))
  have YN := hide (show yn = decide (y < 0) from by
    rcases Nat.eq_zero_or_pos m with h0 | h0
    · rw [hy6 h0, hy5, hy6 h0, h0]; exact (decide_eq_false (show ¬ ((0 : Int) < 0) by decide)).symm
    · have := val_pos hy3 hy4 (by omega)
      rw [hy5]
      cases yn
      · symm; exact decide_eq_false (show ¬ val fb m < 0 by omega)
      · symm; exact decide_eq_true (show -val fb m < 0 by omega))
  have HX2 := hide hx2; have HX3 := hide hx3; have HX4 := hide hx4; have HY2 := hide hy2; have HY3 := hide hy3; have HY4 := hide hy4
  have HZ := hide hz; have HR := hide hr; have HD := hide hd
  obtain ⟨ao, capa, rfl, -, -, -⟩ := hx2.view
  obtain ⟨bo, capb, rfl, -, -, -⟩ := hy2.view
  clear hx1 hx2 hx3 hx4 hx5 hx6 hy1 hy2 hy3 hy4 hy5 hy6 hz hr dx dy hd
  go_enter Try.func51, Try.ntmps51
  go_wp2_with fail
  go_region
  go_wp2_with fail
  refine region_by (S := TwoV bx by_ (.slice ao n capa) (.slice bo m capb))
    [(0, false), (1, false), (2, false), (3, false), (4, false), (5, false), (6, false), (7, false), (8, true), (9, false), (10, false), (11, false), (12, true), (13, true)] [] (by kernel_rfl) (by kernel_rfl) ?_
  have hS : TwoV bx by_ (.slice ao n capa) (.slice bo m capb) w.drew.drew := ⟨c2, c4⟩
  clear c1 c2 c3 c4
  iterate 8
    refine seq_read (v := ?_) rfl (fun _ _ _ h => h) (by rfl) hS ?_ ?_
    rotate_left 1
    · intro wx hwx
      obtain ⟨k1, k2⟩ := hwx
      go_simp <;> exact rfl
    go_frame
  refine seq_do rfl (fun K hK => ?_)
  go_simp
  refine (unhide HD n m fa fb _ _ _ (by exact unhide HX2) (by exact unhide HY2) (unhide HX3) (unhide HY3) (unhide HX4) (unhide HY4) (by omega) (by omega) (unhide AX) (unhide AY)).mono ?_
  rintro e w1 ⟨q1, q2, l1, l2, f1, f2, rfl, h1, h2, h3, h4, h5, h6, h7, h8, h9⟩
  have H1 := hide h1; have H2 := hide h2; have H3 := hide h3; have H4 := hide h4; have H5 := hide h5; have H6 := hide h6; have H7 := hide h7; have H8 := hide h8; have H9 := hide h9
  obtain ⟨vo, cap, rfl, -, -, -⟩ := h1.view
  obtain ⟨uo, cap2, rfl, -, -, -⟩ := h4.view
  have hS1 := hS.below h9
  refine hK _ _ (fun _ => hS1) ?_
  clear hS hK K h1 h2 h3 h4 h5 h6 h7 h8 h9
  iterate 3
    refine seq_read (v := ?_) rfl (fun _ _ _ h => h) (by rfl) hS1 ?_ ?_
    rotate_left 1
    · intro wx hwx
      clear hwx
      go_simp <;> exact rfl
    go_frame
  refine seq_do rfl (fun K hK => ?_)
  go_simp
  refine hK _ _ (fun _ => hS1) ?_
  clear hK K
  refine seq_do rfl (fun K hK => ?_)
  go_simp
  refine hK _ _ (fun _ => hS1) ?_
  clear hK K hS1
  refine seq_end ?_
  have HB1 := hide (show Below w.heap.size w w1 from ((Drw.refl w).drew.drew.below _).trans (unhide H9))
  go_wp2_with fail
  refine (give_any z _ _ _ _ _ _ _ (IntAt.below (unhide HZ) (unhide HB1))).mono ?_
  rintro e w2 ⟨rfl, g1, g2⟩
  have G1 := hide g1; have G2 := hide g2
  clear g1 g2
  go_wp2_with fail
  refine (give_any r _ _ _ _ _ _ _ ((IntAt.below (unhide HR) (unhide HB1)).kept (unhide G2) hzr)).mono ?_
  rintro e w3 ⟨rfl, g3, g4⟩
  have F := hide (show Num w3 z (sgnZ (negZ x y) (absZ x / absZ y)) ∧ Num w3 r (sgnZ (decide (x < 0)) (absZ x % absZ y)) ∧ Turns z r w w3 from by
    have hz1 := IntAt.below (unhide HZ) (unhide HB1)
    have hr1 := IntAt.below (unhide HR) (unhide HB1)
    have hr2 := hr1.kept (unhide G2) hzr
    have hz2 := unhide G1
    have sl1 := (unhide H1).other (unhide G2) hz1
    have sl2 := (unhide H4).other (unhide G2) hz1
    have nz := num_of_give hz2 sl1 (unhide H2) (unhide H3)
    have nz3 := nz.other g4 (fun e => hzr e.symm) hr2
    have nr := num_of_give g3 (sl2.other g4 hr2) (unhide H5) (unhide H6)
    rw [unhide H7, unhide XN, unhide YN] at nz3
    rw [unhide H8, unhide XN] at nr
    refine ⟨nz3, nr, ?_, ?_, ?_⟩
    · intro b y' hbz hbr hb
      exact ((hb.below (unhide HB1)).other (unhide G2) hbz hz1).other g4 hbr hr2
    · intro B hBz hBr hB
      have k1 := ((unhide HB1).mono hB)
      have k2 := (unhide G2).below_of hBz (Nat.le_trans hB (unhide HB1).size)
      exact (k1.trans k2).trans (g4.below_of hBr (Nat.le_trans hB (Nat.le_trans (unhide HB1).size (unhide G2).size)))
    · exact Nat.le_trans (unhide HB1).size (Nat.le_trans (unhide G2).size g4.size))
  clear g3 g4
  go_wp2_with fail
  go_ret2
  exact ⟨rfl, unhide F⟩

theorem Num.intAt {w : World} {b : Nat} {x : Int} (h : Num w b x) : ∃ s v, IntAt w b (.bool s) v := by
  obtain ⟨neg, v, n, f, h1, -⟩ := h; exact ⟨neg, v, h1⟩
theorem Num.sign {w : World} {b : Nat} {x : Int} (h : Num w b x) : w.cell? ⟨b, 0, none⟩ = some (.bool (decide (x < 0))) := by
  obtain ⟨neg, v, n, f, h1, h2, h3, h4, h5, h6⟩ := h
  rw [h1.cell0]
  congr 2
  rcases Nat.eq_zero_or_pos n with h0 | h0
  · rw [h6 h0, h5, h6 h0, h0]; exact (decide_eq_false (show ¬ ((0 : Int) < 0) by decide)).symm
  · have := val_pos h3 h4 (by omega)
    rw [h5]
    cases neg
    · symm; exact decide_eq_false (show ¬ val f n < 0 by omega)
    · symm; exact decide_eq_true (show -val f n < 0 by omega)
theorem Turns.of_below {z r : Nat} {w w' : World} (h : Below w.heap.size w w') : Turns z r w w' := ⟨fun _ _ _ _ k => k.below h, fun _ _ _ hB => h.mono hB, h.size⟩
theorem Turns.of_kept {z r : Nat} {w w' : World} (h : Kept z w w') (hz : ∃ s v, IntAt w z (.bool s) v) : Turns z r w w' := by
  obtain ⟨s, v, hz⟩ := hz
  exact ⟨fun _ _ hb _ k => k.other h hb hz, fun _ h1 _ h3 => h.below_of h1 h3, h.size⟩
theorem Turns.of_kept' {z r : Nat} {w w' : World} (h : Kept r w w') (hz : ∃ s v, IntAt w r (.bool s) v) : Turns z r w w' := by
  obtain ⟨s, v, hz⟩ := hz
  exact ⟨fun _ _ _ hb k => k.other h hb hz, fun _ _ h1 h3 => h.below_of h1 h3, h.size⟩
theorem Turns.trans {z r : Nat} {a b c : World} (h : Turns z r a b) (k : Turns z r b c) : Turns z r a c :=
  ⟨fun i y h1 h2 n => k.1 i y h1 h2 (h.1 i y h1 h2 n), fun B h1 h2 h3 => (h.2.1 B h1 h2 h3).trans (k.2.1 B h1 h2 (Nat.le_trans h3 h.2.2)), Nat.le_trans h.2.2 k.2.2⟩

/-- The quotient rounded down, by the sizes. -/
theorem floor_pos {x y : Int} (hy : 0 < y) (hm : ¬ sgnZ (decide (x < 0)) (absZ x % absZ y) < 0) : sgnZ (negZ x y) (absZ x / absZ y) = x / y ∧ sgnZ (decide (x < 0)) (absZ x % absZ y) = x % y := by
  have ey : absZ y = y := by unfold absZ; rw [if_neg (by omega)]
  have hn : negZ x y = decide (x < 0) := by unfold negZ; rw [decide_eq_false (show ¬ y < 0 by omega)]; cases decide (x < 0) <;> rfl
  rw [ey] at hm ⊢
  rw [hn]
  by_cases hx : x < 0
  · have ex : absZ x = -x := by unfold absZ; rw [if_pos hx]
    rw [ex, decide_eq_true hx] at hm ⊢
    have r0 : 0 ≤ -x % y := Int.emod_nonneg _ (by omega)
    have hr : -x % y = 0 := by
      have : ¬ -(-x % y) < 0 := hm
      omega
    have e : y * (-x / y) + -x % y = -x := Int.mul_ediv_add_emod _ _
    have e2 : x / y = -(-x / y) := ediv_of hy (by rw [Int.mul_neg]; omega) (by rw [Int.mul_neg]; omega)
    have e3 : x % y = 0 := by rw [Int.emod_def, e2, Int.mul_neg]; omega
    exact ⟨e2.symm, by rw [hr, e3]; rfl⟩
  · have ex : absZ x = x := by unfold absZ; rw [if_neg hx]
    rw [ex, decide_eq_false hx]
    exact ⟨rfl, rfl⟩
theorem floor_neg {x y : Int} (hy : 0 < y) (hm : sgnZ (decide (x < 0)) (absZ x % absZ y) < 0) : sgnZ (negZ x y) (absZ x / absZ y) - 1 = x / y ∧ sgnZ (decide (x < 0)) (absZ x % absZ y) + y = x % y := by
  have ey : absZ y = y := by unfold absZ; rw [if_neg (by omega)]
  have hn : negZ x y = decide (x < 0) := by unfold negZ; rw [decide_eq_false (show ¬ y < 0 by omega)]; cases decide (x < 0) <;> rfl
  rw [ey] at hm ⊢
  rw [hn]
  have r0 : 0 ≤ absZ x % y := Int.emod_nonneg _ (by omega)
  have r1 : absZ x % y < y := Int.emod_lt_of_pos _ hy
  by_cases hx : x < 0
  · have ex : absZ x = -x := by unfold absZ; rw [if_pos hx]
    rw [ex] at hm r0 r1 ⊢
    rw [decide_eq_true hx] at hm ⊢
    have hr : -(-x % y) < 0 := hm
    have e : y * (-x / y) + -x % y = -x := Int.mul_ediv_add_emod _ _
    have e2 : x / y = -(-x / y) - 1 := ediv_of hy (by rw [Int.mul_sub, Int.mul_neg, Int.mul_one]; omega) (by rw [Int.mul_sub, Int.mul_neg, Int.mul_one]; omega)
    have e3 : x % y = -(-x % y) + y := by rw [Int.emod_def, e2, Int.mul_sub, Int.mul_neg, Int.mul_one]; omega
    exact ⟨e2.symm, e3.symm⟩
  · rw [decide_eq_false hx] at hm
    have : absZ x % y < 0 := hm
    omega
theorem bd_le {x y : Int} (h : Bd y) (hx : absZ x ≤ absZ y) : Bd x := by unfold Bd at *; omega

set_option maxHeartbeats 1000000 in
set_option maxRecDepth 100000 in
theorem divMod_any (z bx by_ m : Nat) (x y : Int) (s0 s1 : Bool) (v0 v1 : Value) (w : World) (hz : IntAt w z (.bool s0) v0) (hm : IntAt w m (.bool s1) v1) (hzm : m ≠ z) (hx : Num w bx x) (hy : Num w by_ y) (dx : Bd x) (dy : Bd y) (y0 : 0 < y) (hd : DivOK (absZ x) (absZ y)) :
    Calls Try.prog 42 #[.pointer (some ⟨z, 0, none⟩), .pointer (some ⟨bx, 0, none⟩), .pointer (some ⟨by_, 0, none⟩), .pointer (some ⟨m, 0, none⟩)] w fun e w' =>
      e = .returned (.tuple #[.pointer (some ⟨z, 0, none⟩), .pointer (some ⟨m, 0, none⟩)]) ∧ Num w' z (x / y) ∧ Num w' m (x % y) ∧ Turns z m w w' := by
  have HZ := hide hz; have HM := hide hm; have HX := hide hx; have HY := hide hy; have DX := hide dx; have DY := hide dy; have HD := hide hd
  have zl := hide hz.lt; have ml := hide hm.lt
  have QD := hide (show Bd (sgnZ (negZ x y) (absZ x / absZ y)) from bd_le dx (by
    rw [absZ_sgn (Int.ediv_nonneg (show 0 ≤ absZ x by unfold absZ; split <;> omega) (show 0 ≤ absZ y by unfold absZ; split <;> omega))]
    exact Int.ediv_le_self _ (by unfold absZ; split <;> omega)))
  have RD := hide (show Bd (sgnZ (decide (x < 0)) (absZ x % absZ y)) from bd_le dy (by
    have hy1 : 0 < absZ y := by unfold absZ; split <;> omega
    rw [absZ_sgn (Int.emod_nonneg _ (by omega))]
    exact Int.le_of_lt (Int.emod_lt_of_pos _ hy1)))
  clear hz hm hx hy dx dy hd
  go_enter Try.func42, Try.ntmps42
  go_wp2_with fail
  refine (set_any w.heap.size by_ y _ _ _ (intAt_new w) ((unhide HY).below (below_new w _)) (unhide DY)).mono ?_
  rintro e w1 ⟨rfl, n1, k1⟩
  have N1 := hide n1
  have B1 := hide (below_of_new k1)
  clear n1 k1
  go_wp2_with fail
  refine (quoRem_any z bx by_ m x y _ _ _ _ _ (IntAt.below (unhide HZ) (unhide B1)) (IntAt.below (unhide HM) (unhide B1)) hzm ((unhide HX).below (unhide B1)) ((unhide HY).below (unhide B1)) (unhide DX) (unhide DY) (unhide HD)).mono ?_
  rintro e w2 ⟨rfl, n2, n3, t2⟩
  have N2 := hide n2; have N3 := hide n3; have T2 := hide t2
  have cs := n3.sign
  have ND := hide (t2.1 w.heap.size y (by have := unhide zl; omega) (by have := unhide ml; omega) (unhide N1))
  have cd := (unhide ND).sign
  clear n2 n3 t2
  have yd : decide (y < 0) = false := decide_eq_false (by omega)
  rw [yd] at cd
  by_cases hs : sgnZ (decide (x < 0)) (absZ x % absZ y) < 0
  · have E := hide (floor_neg y0 hs)
    rw [decide_eq_true hs] at cs
    clear hs yd
    go_wp2_with fail
    refine (newInt_any 1 (by unfold R64; omega) _).mono ?_
    rintro e w3 ⟨b3, rfl, hb3, n4, k4⟩
    have N4 := hide n4; have K4 := hide k4
    clear n4 k4 hb3
    have NZ := hide ((unhide N2).below (unhide K4)); have NM := hide ((unhide N3).below (unhide K4)); have ND3 := hide ((unhide ND).below (unhide K4))
    obtain ⟨sz, vz, iz⟩ := (unhide NZ).intAt
    have IZ := hide iz
    clear iz
    go_wp2_with fail
    refine (intSub_any z z b3 _ 1 _ _ _ (unhide IZ) (unhide NZ) (unhide N4) (unhide QD) (bd64 (by unfold R64; omega))).mono ?_
    rintro e w4 ⟨rfl, n5, k5⟩
    have N5 := hide n5; have K5 := hide k5
    clear n5 k5
    have NM4 := hide ((unhide NM).other (unhide K5) hzm (unhide IZ))
    have ND4 := hide ((unhide ND3).other (unhide K5) (by have := unhide zl; omega) (unhide IZ))
    obtain ⟨sm, vm, im⟩ := (unhide NM4).intAt
    have IM := hide im
    clear im
    go_wp2_with fail
    refine (intAdd_any m m w.heap.size _ y _ _ _ (unhide IM) (unhide NM4) (unhide ND4) (unhide RD) (unhide DY)).mono ?_
    rintro e w5 ⟨rfl, n6, k6⟩
    have F := hide (show Num w5 z (x / y) ∧ Num w5 m (x % y) ∧ Turns z m w w5 from by
      have e1 := (unhide E).1
      have e2 := (unhide E).2
      have a := (unhide N5).other k6 (fun h => hzm h.symm) (unhide IM)
      rw [e1] at a
      rw [e2] at n6
      exact ⟨a, n6, ((((Turns.of_below (unhide B1)).trans (unhide T2)).trans (Turns.of_below (unhide K4))).trans (Turns.of_kept (unhide K5) ⟨_, _, unhide IZ⟩)).trans (Turns.of_kept' k6 ⟨_, _, unhide IM⟩)⟩)
    clear n6 k6
    go_wp2_with fail
    go_ret2
    exact ⟨rfl, unhide F⟩
  · have E := hide (floor_pos y0 hs)
    rw [decide_eq_false hs] at cs
    clear hs yd
    go_wp2_with fail
    go_ret2
    have F : Num w2 z (x / y) ∧ Num w2 m (x % y) ∧ Turns z m w w2 := by
      have a := unhide N2
      have b := unhide N3
      rw [(unhide E).1] at a
      rw [(unhide E).2] at b
      exact ⟨a, b, (Turns.of_below (unhide B1)).trans (unhide T2)⟩
    exact ⟨rfl, F⟩

set_option maxHeartbeats 400000 in
theorem down_any (bx by_ : Nat) (x y : Int) (w : World) (hx : Num w bx x) (hy : Num w by_ y) (dx : Bd x) (dy : Bd y) (y0 : 0 < y) (hd : DivOK (absZ x) (absZ y)) :
    Calls Try.prog 20 #[.pointer (some ⟨bx, 0, none⟩), .pointer (some ⟨by_, 0, none⟩)] w fun e w' =>
      ∃ b : Nat, e = .returned (.pointer (some ⟨b, 0, none⟩)) ∧ Num w' b (x / y) ∧ Below w.heap.size w w' := by
  have HX := hide hx; have HY := hide hy; have DX := hide dx; have DY := hide dy; have HD := hide hd
  clear hx hy dx dy hd
  go_enter Try.func20, Try.ntmps20
  go_wp2_with (first | (go_at_call 31; go_in))
  have W2 := hide (show Below w.heap.size w ((w.alloc (.cells #[.bool false, .slice none 0 0] 55)).alloc (.cells #[.bool false, .slice none 0 0] 55)) from
    below_two (below_new w _) (below_new _ _) (by simp))
  have IM := hide (show IntAt ((w.alloc (.cells #[.bool false, .slice none 0 0] 55)).alloc (.cells #[.bool false, .slice none 0 0] 55)) (w.heap.size + 1) (.bool false) (.slice none 0 0) from by
    have h := intAt_new (w.alloc (.cells #[.bool false, .slice none 0 0] 55))
    rw [show (w.alloc (.cells #[.bool false, .slice none 0 0] 55)).heap.size = w.heap.size + 1 by simp] at h
    exact h)
  refine (divMod_any w.heap.size bx by_ (w.heap.size + 1) x y _ _ _ _ _ ((intAt_new w).below (below_new _ _)) (unhide IM) (by omega) ((unhide HX).below (unhide W2)) ((unhide HY).below (unhide W2)) (unhide DX) (unhide DY) y0 (unhide HD)).mono ?_
  rintro e w3 ⟨rfl, n1, n2, t⟩
  have F := hide (show Num w3 w.heap.size (x / y) ∧ Below w.heap.size w w3 from ⟨n1, (unhide W2).trans (t.2.1 w.heap.size (Nat.le_refl _) (by omega) (by simp; omega))⟩)
  clear n1 n2 t
  go_wp2_with fail
  go_ret
  exact ⟨_, rfl, unhide F⟩

end Go.Proofs.Ytgikknoklnbihaa
