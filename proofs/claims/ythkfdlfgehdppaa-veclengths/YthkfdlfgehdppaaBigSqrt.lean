/- Contract of the reference's whole numbers of any size: the whole root, bit by bit from above. -/
import Derived.Test.YthkfdlfgehdppaaBigCmp
namespace Go.Proofs.Ythkfdlfgehdppaa
open Go.RowKit

/-- What the root's search keeps ahead of bit k - 1. -/
def BRoot (x R : Int) (k : Nat) : Prop := 0 ≤ R ∧ R % 2 ^ k = 0 ∧ R * R ≤ x ∧ x < (R + 2 ^ k) * (R + 2 ^ k)

theorem mul_self_lt {a b : Int} (b0 : 0 ≤ b) (h : a * a < b * b) : a < b := by
  rcases Int.lt_or_le a b with h1 | h1
  · exact h1
  · have := Int.mul_le_mul h1 h1 b0 (by omega)
    omega
theorem broot_start {x : Int} {L : Nat} (x0 : 0 ≤ x) (h : x < 2 ^ L) : BRoot x 0 ((L + 1) / 2 + 1) := by
  refine ⟨Int.le_refl _, by simp, by omega, ?_⟩
  rw [Int.zero_add, ← Int.pow_add]
  exact Int.lt_of_lt_of_le h (pow_le_two (by omega))
theorem broot_bit {x R : Int} {k : Nat} (h : BRoot x R (k + 1)) : R / 2 ^ k % 2 = 0 := by
  have h1 := h.2.1
  have e := Int.mul_ediv_add_emod R (2 ^ (k + 1))
  rw [h1, Int.add_zero, Int.pow_succ, Int.mul_assoc] at e
  have hp := two_pos k
  rw [← e, Int.mul_ediv_cancel_left _ (by omega)]
  omega
theorem broot_low {x R : Int} {k : Nat} (h : BRoot x R (k + 1)) : R % 2 ^ k = 0 := by
  have h1 := h.2.1
  have hd : (2 ^ k : Int) ∣ 2 ^ (k + 1) := ⟨2, Int.pow_succ 2 k⟩
  rw [← Int.emod_emod_of_dvd R hd, h1]
  exact Int.zero_emod _
theorem broot_yes {x R : Int} {k : Nat} (h : BRoot x R (k + 1)) (ht : (R + 2 ^ k) * (R + 2 ^ k) ≤ x) : BRoot x (R + 2 ^ k) k := by
  have hp := two_pos k
  have h0 := h.1
  refine ⟨by omega, ?_, ht, ?_⟩
  · rw [Int.add_emod_right, broot_low h]
  · have := h.2.2.2
    rw [Int.pow_succ] at this
    rw [show R + 2 ^ k + 2 ^ k = R + 2 ^ k * 2 by omega]
    exact this
theorem broot_no {x R : Int} {k : Nat} (h : BRoot x R (k + 1)) (ht : x < (R + 2 ^ k) * (R + 2 ^ k)) : BRoot x R k := ⟨h.1, broot_low h, h.2.2.1, ht⟩
theorem broot_bd {x R : Int} {k : Nat} (h : BRoot x R (k + 1)) (hx : x < 2 ^ 200) (hk : k ≤ 100) : Bd (R + 2 ^ k) ∧ Bd ((R + 2 ^ k) * (R + 2 ^ k)) ∧ Bd R := by
  have hp := two_pos k
  have h0 := h.1
  have hR : R < 2 ^ 100 := mul_self_lt (by decide) (Int.lt_of_le_of_lt h.2.2.1 (by rw [← Int.pow_add]; exact hx))
  have hk2 := pow_le_two hk
  have hs : R + 2 ^ k < 2 ^ 101 := by rw [show (2 : Int) ^ 101 = 2 ^ 100 + 2 ^ 100 by decide]; omega
  have hq : (R + 2 ^ k) * (R + 2 ^ k) ≤ 2 ^ 101 * 2 ^ 101 := Int.mul_le_mul (Int.le_of_lt hs) (Int.le_of_lt hs) (by omega) (by decide)
  have hq0 : 0 ≤ (R + 2 ^ k) * (R + 2 ^ k) := Int.mul_nonneg (by omega) (by omega)
  have e1 : ∀ y : Int, 0 ≤ y → absZ y = y := fun y hy => by unfold absZ; rw [if_neg (by omega)]
  have e7 : (4294967296 : Int) ^ 7 = 2 ^ 224 := by decide
  have e8 : (2 : Int) ^ 101 < 2 ^ 224 := by decide
  have e9 : (2 : Int) ^ 101 * 2 ^ 101 < 2 ^ 224 := by decide
  refine ⟨bd_of (k := 7) ?_ (by decide), bd_of (k := 7) ?_ (by decide), bd_of (k := 7) ?_ (by decide)⟩
  · rw [e1 _ (by omega), e7]; omega
  · rw [e1 _ hq0, e7]; omega
  · rw [e1 _ h0, e7]; omega
theorem broot_end {x R : Int} (h : BRoot x R 0) : 0 ≤ R ∧ R * R ≤ x ∧ x < (R + 1) * (R + 1) := ⟨h.1, h.2.2.1, h.2.2.2⟩
theorem num_new (w : World) : Num (w.alloc (.cells #[.bool false, .slice none 0 0] 57)) w.heap.size 0 :=
  ⟨false, _, 0, fun _ => 0, intAt_new w, Or.inl ⟨rfl, rfl⟩, fun i hi => absurd hi (by omega), Or.inl rfl, rfl, fun _ => rfl⟩

set_option maxHeartbeats 1000000 in
theorem intSqrt_any (z bx : Nat) (x : Int) (x0 : 0 ≤ x) (x1 : x < 2 ^ 200) (s0 : Bool) (v0 : Value) (w : World) (hz : IntAt w z (.bool s0) v0) (hx : Num w bx x) :
    Calls Try.prog 41 #[.pointer (some ⟨z, 0, none⟩), .pointer (some ⟨bx, 0, none⟩)] w fun e w' =>
      e = .returned (.pointer (some ⟨z, 0, none⟩)) ∧ (∃ R, 0 ≤ R ∧ R * R ≤ x ∧ x < (R + 1) * (R + 1) ∧ Num w' z R) ∧ Kept z w w' := by
  have HX := hide hx; have HZ := hide hz; have HX1 := hide x1
  have BX := hide (show Bd x from bd_of (k := 7) (by unfold absZ; rw [if_neg (by omega)]; exact Int.lt_trans x1 (by decide)) (by decide))
  obtain ⟨xn, xv, n, fa, hx1, hx2, hx3, hx4, hx5, hx6⟩ := hx
  have hn : n ≤ 100 := by
    have dx := unhide BX
    unfold Bd at dx
    rw [hx5, absZ_sgn (val_bd hx3).1] at dx
    exact len_le hx3 hx4 dx
  obtain rfl : xn = false := by
    cases xn
    · rfl
    · rcases Nat.eq_zero_or_pos n with h | h
      · exact hx6 h
      · have := val_pos hx3 hx4 (by omega)
        have e : x = - val fa n := hx5
        omega
  have EV := hide (show x = val fa n from hx5)
  obtain ⟨ao, cap, rfl, -, -, -⟩ := hx2.view
  have c0 := hx1.cell0
  have c1 := cell_below hx1.cell1 (below_new w (.cells #[.bool false, .slice none 0 0] 57))
  have HX2 := hide hx2; have HX3 := hide hx3; have HX4 := hide hx4
  clear hx1 hx2 hx3 hx4 hx5 hx6 hz x1
  go_enter Try.func41, Try.ntmps41
  go_wp2_with fail
  refine (length_words _ n fa (by omega) _ ((unhide HX2).below (below_new w _)) (unhide HX3) (unhide HX4)).mono ?_
  rintro e w1 ⟨L, rfl, l0, l1, l2, rfl⟩
  have hL : L ≤ 200 := by
    rcases Nat.eq_zero_or_pos n with h | h
    · rw [l0 h]; omega
    · have h3 := l2 (by omega)
      rw [← unhide EV] at h3
      have h4 : (2 : Int) ^ L < 2 ^ 201 := by
        have := unhide HX1
        rw [show (2 : Int) ^ 201 = 2 * 2 ^ 200 by decide]; omega
      exact Nat.le_of_lt_succ (exp_lt h4)
  have HR := hide (broot_start x0 (show x < 2 ^ L by rw [unhide EV]; exact l1))
  clear l0 l1 l2
  go_wp2_with fail
  go_loopw [5, 6, 7] (fun rs is _ wr => ∃ (k br : Nat) (R : Int), rs = .pointer (some ⟨br, 0, none⟩) ∧ is = .int .i64 ((k : Int) - 1) ∧ k ≤ 101 ∧ Num wr br R ∧ BRoot x R k ∧ Below w.heap.size w wr)
    (fun _ is _ _ => (intOf is + 1).toNat)
  case atStart => exact ⟨(L + 1) / 2 + 1, w.heap.size, 0, rfl, congrArg (Value.int .i64) (by omega), by omega, num_new w, unhide HR, below_new w _⟩
  case round =>
    rename_i wr
    obtain ⟨k, br, R, rfl, rfl, hk, hN, hroot, hB⟩ := hrel
    have HN := hide hN; have HRt := hide hroot; have HB := hide hB
    clear hN hroot hB
    rcases Nat.eq_zero_or_pos k with h | h
    · subst h
      have HE := hide (broot_end (unhide HRt))
      have BR := hide (show Bd R from by
        have h1 := unhide HE
        have hR : R < 2 ^ 100 := mul_self_lt (by decide) (Int.lt_of_le_of_lt h1.2.1 (by rw [← Int.pow_add]; exact unhide HX1))
        exact bd_of (k := 7) (by unfold absZ; rw [if_neg (by omega)]; exact Int.lt_trans hR (by decide)) (by decide))
      go_wp2_with fail
      refine (set_any z br R _ _ _ ((unhide HZ).below (unhide HB)) (unhide HN) (unhide BR)).mono ?_
      rintro e w2 ⟨rfl, hnum, hkp⟩
      have F := hide (show Num w2 z R ∧ Kept z w w2 from ⟨hnum, (Kept.of_below (unhide HB)).trans hkp (Or.inl rfl)⟩)
      clear hnum hkp
      go_wp2_with fail
      go_ret
      exact ⟨rfl, ⟨R, (unhide HE).1, (unhide HE).2.1, (unhide HE).2.2, (unhide F).1⟩, (unhide F).2⟩
    · obtain ⟨i, rfl⟩ : ∃ i, k = i + 1 := ⟨k - 1, by omega⟩
      rw [show (((i + 1 : Nat) : Int) - 1) = (i : Int) by omega]
      obtain ⟨d1, d2, d3⟩ := broot_bd (unhide HRt) (unhide HX1) (show i ≤ 100 by omega)
      have D1 := hide d1; have D2 := hide d2; have D3 := hide d3
      clear d1 d2 d3 h
      go_wp2_with fail
      refine (setBit_any wr.heap.size br i R (by omega) (unhide HRt).1 (broot_bit (unhide HRt)) _ _ _ (intAt_new wr) ((unhide HN).below (below_new wr _)) (unhide D3)).mono ?_
      rintro e w2 ⟨rfl, n2, k2⟩
      have N2 := hide n2
      have K2 := hide (below_of_new k2)
      clear n2 k2
      go_wp2_with fail
      refine (intMul_any w2.heap.size wr.heap.size wr.heap.size _ _ _ _ _ (intAt_new w2) ((unhide N2).below (below_new w2 _)) ((unhide N2).below (below_new w2 _)) (unhide D1) (unhide D1)).mono ?_
      rintro e w3 ⟨rfl, n3, k3⟩
      have N3 := hide n3
      have K3 := hide (below_of_new k3)
      have X3 := hide ((((unhide HX).below (unhide HB)).below (unhide K2)).below (unhide K3))
      clear n3 k3
      go_wp2_with fail
      refine (cmp_any w2.heap.size bx _ x _ (unhide N3) (unhide X3) (unhide D2) (unhide BX)).mono ?_
      rintro e w4 ⟨rfl, hd⟩
      have HB4 := hide (show Below w.heap.size w w4 from by
        have h1 := unhide HB
        have h2 := below_two h1 (unhide K2) h1.size
        have h3 := below_two h2 (unhide K3) h2.size
        exact h3.trans (hd.below _))
      have N4 := hide (((unhide N2).below (unhide K3)).below (hd.below _))
      have NR4 := hide ((((unhide HN).below (unhide K2)).below (unhide K3)).below (hd.below _))
      clear hd
      rcases Int.lt_or_le x ((R + 2 ^ i) * (R + 2 ^ i)) with h | h
      · have HQ := hide (broot_no (unhide HRt) h)
        rw [cmpZ_gt h]
        clear h
        go_wp2_with fail
        go_roundw
        case rel => exact ⟨i, br, R, rfl, by go_num, by omega, unhide NR4, unhide HQ, unhide HB4⟩
        case measure => simp [intOf]
      · have HQ := hide (broot_yes (unhide HRt) h)
        have hc : cmpZ ((R + 2 ^ i) * (R + 2 ^ i)) x ≤ 0 := by unfold cmpZ; split <;> (try split) <;> omega
        obtain ⟨c, ec⟩ : ∃ c, cmpZ ((R + 2 ^ i) * (R + 2 ^ i)) x = c := ⟨_, rfl⟩
        rw [ec] at hc ⊢
        clear h ec
        go_wp2_with fail
        go_roundw
        case rel => exact ⟨i, wr.heap.size, R + 2 ^ i, rfl, by go_num, by omega, unhide N4, unhide HQ, unhide HB4⟩
        case measure => simp [intOf]

end Go.Proofs.Ythkfdlfgehdppaa
