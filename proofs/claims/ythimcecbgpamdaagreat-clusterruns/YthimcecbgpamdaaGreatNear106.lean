/- Joined: BigOps, BigStop, BigStop2, BigStop3, BigRef. -/
import Derived.Test.YthimcecbgpamdaaGreatJoinB
import Derived.Test.YthimcecbgpamdaaGreatNear95
namespace Go.Proofs.YthimcecbgpamdaaGreat
open Go.RowKit

/-- Numbers of at most a hundred words. -/
def Bd (x : Int) : Prop := absZ x < 4294967296 ^ 100
theorem len_le {n k : Nat} {f : Nat → Int} (hw : Wd n f) (hn : Nm n f) (h : val f n < 4294967296 ^ k) : n ≤ k := by
  rcases Nat.lt_or_ge k n with hl | hl
  · obtain ⟨l, rfl⟩ : ∃ l, n = l + 1 := ⟨n - 1, by omega⟩
    have h2 := val_ge hw (by rcases hn with h | h; exact absurd h (by omega); exact h)
    have h3 : (4294967296 : Int) ^ k ≤ 4294967296 ^ l := by
      obtain ⟨d, rfl⟩ : ∃ d, l = k + d := ⟨l - k, by omega⟩
      rw [Int.pow_add]
      have := Int.mul_le_mul_of_nonneg_left (show 1 ≤ (4294967296 : Int) ^ d from pow_pos d) (Int.le_of_lt (pow_pos k))
      omega
    omega
  · exact hl
theorem absZ_sgn {s : Bool} {v : Int} (h : 0 ≤ v) : absZ (sgnZ s v) = v := by grind [absZ, sgnZ]
theorem bd_len {x : Int} {s : Bool} {n : Nat} {f : Nat → Int} (h : Bd x) (hx : x = sgnZ s (val f n)) (hw : Wd n f) (hn : Nm n f) : n ≤ 549755813888 := by
  unfold Bd at h
  rw [hx, absZ_sgn (val_bd hw).1] at h
  have := len_le hw hn h
  omega

/-- Two numbers' cells. -/
def Two (bx by_ : Nat) (xs xv ys yv : Value) (w : World) : Prop :=
  w.cell? ⟨bx, 0, none⟩ = some xs ∧ w.cell? ⟨bx, 1, none⟩ = some xv ∧ w.cell? ⟨by_, 0, none⟩ = some ys ∧ w.cell? ⟨by_, 1, none⟩ = some yv
theorem cell_below {w w' : World} {a : Addr} {v : Value} (h : w.cell? a = some v) (k : Below w.heap.size w w') : w'.cell? a = some v :=
  (k.cell (World.block_lt_of_cell? w a h)).trans h
theorem Two.below {bx by_ : Nat} {xs xv ys yv : Value} {w w' : World} (h : Two bx by_ xs xv ys yv w) (k : Below w.heap.size w w') : Two bx by_ xs xv ys yv w' :=
  ⟨cell_below h.1 k, cell_below h.2.1 k, cell_below h.2.2.1 k, cell_below h.2.2.2 k⟩

set_option maxHeartbeats 1000000 in
theorem intAdd_any (z bx by_ : Nat) (x y : Int) (s0 : Bool) (v0 : Value) (w : World) (hz : IntAt w z (.bool s0) v0) (hx : Num w bx x) (hy : Num w by_ y) (dx : Bd x) (dy : Bd y) :
    Calls Tryz.prog 83 #[.pointer (some ⟨z, 0, none⟩), .pointer (some ⟨bx, 0, none⟩), .pointer (some ⟨by_, 0, none⟩)] w fun e w' =>
      e = .returned (.pointer (some ⟨z, 0, none⟩)) ∧ Num w' z (x + y) ∧ Kept z w w' := by
  obtain ⟨xn, xv, n, fa, hx1, hx2, hx3, hx4, hx5, hx6⟩ := hx
  obtain ⟨yn, yv, m, fb, hy1, hy2, hy3, hy4, hy5, hy6⟩ := hy
  have c1 := hx1.cell0; have c2 := hx1.cell1; have c3 := hy1.cell0; have c4 := hy1.cell1
  have L1 := hide (bd_len dx hx5 hx3 hx4); have L2 := hide (bd_len dy hy5 hy3 hy4)
  have HX2 := hide hx2; have HX3 := hide hx3; have HX4 := hide hx4; have HY2 := hide hy2; have HY3 := hide hy3; have HY4 := hide hy4
  have E := hide (show x + y = sgnZ xn (val fa n) + sgnZ yn (val fb m) by rw [hx5, hy5])
  have HZ := hide hz
  obtain ⟨ao, capa, rfl, -, -, -⟩ := hx2.view
  obtain ⟨bo, capb, rfl, -, -, -⟩ := hy2.view
  clear hx1 hx2 hx3 hx4 hx5 hx6 hy1 hy2 hy3 hy4 hy5 hy6 hz dx dy
  go_enter Tryz.func83, Tryz.ntmps83
  go_wp2_with fail
  refine region_by (S := Two bx by_ (.bool xn) (.slice ao n capa) (.bool yn) (.slice bo m capb))
    [(0, false), (1, false), (2, false), (3, false), (4, false), (5, false), (6, false), (7, false), (8, false), (9, false), (10, false), (11, false), (12, false), (13, false), (14, false), (15, false), (16, false), (17, true), (18, false), (19, false), (20, true), (21, true)] [20, 21] (by kernel_rfl) (by kernel_rfl) ?_
  have hS : Two bx by_ (.bool xn) (.slice ao n capa) (.bool yn) (.slice bo m capb) w.drew := ⟨c1, c2, c3, c4⟩
  clear c1 c2 c3 c4
  iterate 17
    refine seq_read (v := ?_) rfl (fun _ _ _ h => h) (by rfl) hS ?_ ?_
    rotate_left 1
    · intro wx hwx
      obtain ⟨k1, k2, k3, k4⟩ := hwx
      go_simp <;> exact rfl
    go_frame
  refine seq_do rfl (fun K hK => ?_)
  go_simp
  refine (sum_any xn yn _ _ n m fa fb (unhide L1) (unhide L2) _ (by exact unhide HX2) (by exact unhide HY2) (unhide HX3) (unhide HY3) (unhide HX4) (unhide HY4)).mono ?_
  rintro e w1 ⟨s, v, l, f, rfl, h2, h3, h4, h5, h6⟩
  have H2 := hide h2; have H3 := hide h3; have H4 := hide h4; have H5 := hide h5; have H6 := hide h6
  obtain ⟨vo, cap, rfl, -, -, -⟩ := h2.view
  have hS1 := hS.below h6
  refine hK _ _ (fun _ => hS1) ?_
  clear hS hK K h2 h3 h4 h5 h6
  iterate 2
    refine seq_read (v := ?_) rfl (fun _ _ _ h => h) (by rfl) hS1 ?_ ?_
    rotate_left 1
    · intro wx hwx
      clear hwx
      go_simp <;> exact rfl
    go_frame
  refine seq_do rfl (fun K hK => ?_)
  go_simp
  refine (give_any z _ _ _ _ _ _ _ (IntAt.below (w := w.drew) (unhide HZ) (unhide H6))).mono ?_
  rintro e w2 ⟨rfl, g1, g2⟩
  refine hK _ _ (fun h => by cases h) ?_
  have F := hide (show Num w2 z (x + y) ∧ Kept z w w2 from by
    have hsl := (unhide H2).other g2 (IntAt.below (w := w.drew) (unhide HZ) (unhide H6))
    have hnum := num_of_give g1 hsl (unhide H3) (unhide H4)
    rw [unhide H5, ← unhide E] at hnum
    exact ⟨hnum, (Kept.of_below (show Below w.heap.size w w1 from ((Drw.refl w).drew.below _).trans (unhide H6))).trans g2 (Or.inl rfl)⟩)
  clear g1 g2 hK K hS1
  refine seq_do rfl (fun K hK => ?_)
  go_simp
  refine hK _ _ (fun h => by cases h) ?_
  clear hK K
  refine seq_end ?_
  go_wp2_with fail
  go_ret
  exact ⟨rfl, (unhide F).1, (unhide F).2⟩

set_option maxHeartbeats 1000000 in
theorem intSub_any (z bx by_ : Nat) (x y : Int) (s0 : Bool) (v0 : Value) (w : World) (hz : IntAt w z (.bool s0) v0) (hx : Num w bx x) (hy : Num w by_ y) (dx : Bd x) (dy : Bd y) :
    Calls Tryz.prog 167 #[.pointer (some ⟨z, 0, none⟩), .pointer (some ⟨bx, 0, none⟩), .pointer (some ⟨by_, 0, none⟩)] w fun e w' =>
      e = .returned (.pointer (some ⟨z, 0, none⟩)) ∧ Num w' z (x - y) ∧ Kept z w w' := by
  obtain ⟨xn, xv, n, fa, hx1, hx2, hx3, hx4, hx5, hx6⟩ := hx
  obtain ⟨yn, yv, m, fb, hy1, hy2, hy3, hy4, hy5, hy6⟩ := hy
  have c1 := hx1.cell0; have c2 := hx1.cell1; have c3 := hy1.cell0; have c4 := hy1.cell1
  have L1 := hide (bd_len dx hx5 hx3 hx4); have L2 := hide (bd_len dy hy5 hy3 hy4)
  have HX2 := hide hx2; have HX3 := hide hx3; have HX4 := hide hx4; have HY2 := hide hy2; have HY3 := hide hy3; have HY4 := hide hy4
  have E := hide (show x - y = sgnZ xn (val fa n) + sgnZ (!yn) (val fb m) by rw [hx5, hy5]; cases yn <;> simp [sgnZ] <;> omega)
  have HZ := hide hz
  obtain ⟨ao, capa, rfl, -, -, -⟩ := hx2.view
  obtain ⟨bo, capb, rfl, -, -, -⟩ := hy2.view
  clear hx1 hx2 hx3 hx4 hx5 hx6 hy1 hy2 hy3 hy4 hy5 hy6 hz dx dy
  go_enter Tryz.func167, Tryz.ntmps167
  go_wp2_with fail
  refine region_by (S := Two bx by_ (.bool xn) (.slice ao n capa) (.bool yn) (.slice bo m capb))
    [(0, false), (1, false), (2, false), (3, false), (4, false), (5, false), (6, false), (7, false), (8, false), (9, false), (10, false), (11, false), (12, false), (13, false), (14, false), (15, false), (16, false), (17, false), (18, true), (19, false), (20, false), (21, true), (22, true)] [21, 22] (by kernel_rfl) (by kernel_rfl) ?_
  have hS : Two bx by_ (.bool xn) (.slice ao n capa) (.bool yn) (.slice bo m capb) w.drew := ⟨c1, c2, c3, c4⟩
  clear c1 c2 c3 c4
  iterate 18
    refine seq_read (v := ?_) rfl (fun _ _ _ h => h) (by rfl) hS ?_ ?_
    rotate_left 1
    · intro wx hwx
      obtain ⟨k1, k2, k3, k4⟩ := hwx
      go_simp <;> exact rfl
    go_frame
  refine seq_do rfl (fun K hK => ?_)
  go_simp
  refine (sum_any xn (!yn) _ _ n m fa fb (unhide L1) (unhide L2) _ (by exact unhide HX2) (by exact unhide HY2) (unhide HX3) (unhide HY3) (unhide HX4) (unhide HY4)).mono ?_
  rintro e w1 ⟨s, v, l, f, rfl, h2, h3, h4, h5, h6⟩
  have H2 := hide h2; have H3 := hide h3; have H4 := hide h4; have H5 := hide h5; have H6 := hide h6
  obtain ⟨vo, cap, rfl, -, -, -⟩ := h2.view
  have hS1 := hS.below h6
  refine hK _ _ (fun _ => hS1) ?_
  clear hS hK K h2 h3 h4 h5 h6
  iterate 2
    refine seq_read (v := ?_) rfl (fun _ _ _ h => h) (by rfl) hS1 ?_ ?_
    rotate_left 1
    · intro wx hwx
      clear hwx
      go_simp <;> exact rfl
    go_frame
  refine seq_do rfl (fun K hK => ?_)
  go_simp
  refine (give_any z _ _ _ _ _ _ _ (IntAt.below (w := w.drew) (unhide HZ) (unhide H6))).mono ?_
  rintro e w2 ⟨rfl, g1, g2⟩
  refine hK _ _ (fun h => by cases h) ?_
  have F := hide (show Num w2 z (x - y) ∧ Kept z w w2 from by
    have hsl := (unhide H2).other g2 (IntAt.below (w := w.drew) (unhide HZ) (unhide H6))
    have hnum := num_of_give g1 hsl (unhide H3) (unhide H4)
    rw [unhide H5, ← unhide E] at hnum
    exact ⟨hnum, (Kept.of_below (show Below w.heap.size w w1 from ((Drw.refl w).drew.below _).trans (unhide H6))).trans g2 (Or.inl rfl)⟩)
  clear g1 g2 hK K hS1
  refine seq_do rfl (fun K hK => ?_)
  go_simp
  refine hK _ _ (fun h => by cases h) ?_
  clear hK K
  refine seq_end ?_
  go_wp2_with fail
  go_ret
  exact ⟨rfl, (unhide F).1, (unhide F).2⟩

end Go.Proofs.YthimcecbgpamdaaGreat

namespace Go.Proofs.YthimcecbgpamdaaGreat
open Go.RowKit

/-- A word's length in bits: what is left behind k halvings. -/
def Halved (t0 t : Int) (k : Nat) : Prop := t = t0 / 2 ^ k ∧ (k = 0 ∨ 2 ^ (k - 1) ≤ t0)
theorem two_pos (k : Nat) : (0 : Int) < 2 ^ k := Int.pow_pos (by decide)
theorem halved_next {t0 t : Int} {k : Nat} (h : Halved t0 t k) (ht : t ≠ 0) (h0 : 0 ≤ t0) : Halved t0 (t / 2) (k + 1) := by
  obtain ⟨h1, h2⟩ := h
  refine ⟨?_, Or.inr ?_⟩
  · rw [h1, Int.pow_succ, Int.ediv_ediv_of_nonneg (Int.le_of_lt (two_pos k))]
  · show 2 ^ k ≤ t0
    rcases Int.lt_or_le t0 (2 ^ k) with h | h
    · exact absurd (h1.trans (Int.ediv_eq_zero_of_lt h0 h)) ht
    · exact h
theorem halved_end {t0 : Int} {k : Nat} (h : Halved t0 0 k) : t0 < 2 ^ k := by
  have h1 := h.1
  rcases Int.lt_or_le t0 (2 ^ k) with h2 | h2
  · exact h2
  · have : 1 ≤ t0 / 2 ^ k := by rw [Int.le_ediv_iff_mul_le (two_pos k)]; omega
    omega

theorem pow32 (n : Nat) : (4294967296 : Int) ^ n = 2 ^ (32 * n) := by
  rw [Int.pow_mul]; rfl

set_option maxHeartbeats 400000 in
theorem length_core (ao : Option Addr) (n cap : Nat) (f : Nat → Int) (hn : n ≤ 549755813888) (w : World) (ha : Has w ao n f) (wa : Wd n f) (na : Nm n f) :
    Calls Tryz.prog 208 #[.slice ao n cap] w fun e w' => ∃ L : Nat, e = .returned (.int .i64 L) ∧ (n = 0 → L = 0) ∧ val f n < 2 ^ L ∧ (n ≠ 0 → 2 ^ L ≤ 2 * val f n) ∧ w' = w := by
  rcases Nat.eq_zero_or_pos n with h0 | h0
  · subst h0
    clear ha wa na
    go_enter Tryz.func208, Tryz.ntmps208
    go_wp2_with fail
    go_ret
    exact ⟨0, rfl, fun _ => rfl, (show (0 : Int) < 2 ^ 0 by decide), fun h => absurd rfl h, rfl⟩
  · obtain ⟨m, rfl⟩ : ∃ m, n = m + 1 := ⟨n - 1, by omega⟩
    obtain ⟨b, rfl, hb, hr⟩ := ha h0
    have hc := hr m (by omega)
    obtain ⟨t0, t1⟩ := wa m (by omega)
    have htop : f m ≠ 0 := by rcases na with h | h; exact absurd h (by omega); exact h
    have WA := hide wa
    have HT := hide htop
    have t : ((m : Int) + 1 == 0) = false := by simp; omega
    clear wa na hr ha htop
    go_enter Tryz.func208, Tryz.ntmps208
    go_wp2_with fail
    go_loop [3, 4] (fun ns ts => ∃ (k : Nat) (t : Int), ns = .int .i64 k ∧ ts = .int .u32 t ∧ k ≤ 32 ∧ 0 ≤ t ∧ t ≤ f m ∧ Halved (f m) t k) (fun _ ts => (intOf ts).toNat)
    case atStart => exact ⟨0, f m, rfl, rfl, by decide, t0, Int.le_refl _, by show f m = f m / 1; omega, Or.inl rfl⟩
    case round =>
      obtain ⟨k, t, rfl, rfl, hk, ht0, ht1, hh⟩ := hrel
      have HH := hide hh
      clear hh
      by_cases hz : t = 0
      · subst hz
        have F := hide (show val f (m + 1) < 2 ^ (32 * m + k) ∧ (2 : Int) ^ (32 * m + k) ≤ 2 * val f (m + 1) from by
          have h1 := halved_end (unhide HH)
          have h2 := (unhide HH).2
          have h3 := val_bd ((unhide WA).less (show m ≤ m + 1 by omega))
          have hp := pow_pos m
          rw [Int.pow_add, ← pow32]
          have e : val f (m + 1) = val f m + f m * 4294967296 ^ m := rfl
          rw [e]
          constructor
          · have := Int.mul_le_mul_of_nonneg_right (show f m + 1 ≤ 2 ^ k by omega) (Int.le_of_lt hp)
            rw [Int.add_mul, Int.one_mul] at this
            rw [Int.mul_comm (4294967296 ^ m)]
            omega
          · rcases h2 with h2 | h2
            · subst h2
              have : f m ≠ 0 := unhide HT
              have e0 : f m < 1 := h1
              omega
            · have h4 : (2 : Int) ^ k ≤ 2 * f m := by
                rcases Nat.eq_zero_or_pos k with h5 | h5
                · subst h5
                  have : (1 : Int) ≤ f m := by have := unhide HT; omega
                  show (1 : Int) ≤ 2 * f m
                  omega
                · obtain ⟨j, rfl⟩ : ∃ j, k = j + 1 := ⟨k - 1, by omega⟩
                  have e3 : (2 : Int) ^ (j + 1 - 1) = 2 ^ j := rfl
                  rw [e3] at h2
                  rw [Int.pow_succ]; omega
              have := Int.mul_le_mul_of_nonneg_right h4 (Int.le_of_lt hp)
              rw [Int.mul_assoc] at this
              rw [Int.mul_comm (4294967296 ^ m)]
              omega)
        go_wp2_with fail
        go_ret
        exact ⟨32 * m + k, congrArg (fun z => Ending.returned (Value.int .i64 z)) (by omega), (unhide F).1, (unhide F).2, rfl⟩
      · have tz : (t != 0) = true := by simpa using hz
        have HN := hide (halved_next (unhide HH) hz t0)
        have hk2 : k < 32 := by
          rcases Nat.lt_or_ge k 32 with h | h
          · exact h
          · have : k = 32 := by omega
            subst this
            have h1 := (unhide HH).1
            have : f m / 2 ^ 32 = 0 := Int.ediv_eq_zero_of_lt t0 t1
            omega
        clear hz
        go_wp2_with fail
        go_round
        case rel => exact ⟨k + 1, _, by go_num, rfl, by omega, by omega, by omega, unhide HN⟩
        case measure => simp [intOf]; have := tz; simp at this; omega

theorem length_words (va : Value) (n : Nat) (f : Nat → Int) (hn : n ≤ 549755813888) (w : World) (ha : Sl w va n f) (wa : Wd n f) (na : Nm n f) :
    Calls Tryz.prog 208 #[va] w fun e w' => ∃ L : Nat, e = .returned (.int .i64 L) ∧ (n = 0 → L = 0) ∧ val f n < 2 ^ L ∧ (n ≠ 0 → 2 ^ L ≤ 2 * val f n) ∧ w' = w := by
  obtain ⟨ao, capa, rfl, -, -, ha⟩ := ha.view
  exact length_core ao n capa f hn w ha wa na

/-! Bits. -/
theorem Int.mul_add_ediv_left' (x y : Int) {c : Int} (hc : 0 < c) (h0 : 0 ≤ y) (h1 : y < c) : (c * x + y) / c = x := ediv_of hc (by omega) (by omega)
theorem val_split (f : Nat → Int) : ∀ (q d : Nat), val f (q + d) = val f q + 4294967296 ^ q * val (fun i => f (q + i)) d
  | q, 0 => by show val f q = val f q + 4294967296 ^ q * 0; omega
  | q, d + 1 => by
    show val f (q + d) + f (q + d) * 4294967296 ^ (q + d) = val f q + 4294967296 ^ q * (val (fun i => f (q + i)) d + f (q + d) * 4294967296 ^ d)
    rw [val_split f q d, Int.pow_add, Int.mul_add, ← Int.mul_assoc, Int.mul_comm (f (q + d)), Int.mul_assoc (4294967296 ^ q), Int.add_assoc]
/-- Bit i of a number, by its words. -/
theorem val_bit {f : Nat → Int} {n i : Nat} (hw : Wd n f) (hi : i / 32 < n) : val f n / 2 ^ i % 2 = f (i / 32) / 2 ^ (i % 32) % 2 := by
  obtain ⟨d, rfl⟩ : ∃ d, n = i / 32 + (d + 1) := ⟨n - i / 32 - 1, by omega⟩
  generalize hq : i / 32 = q at *
  generalize hr : i % 32 = r at *
  have hi2 : i = 32 * q + r := by omega
  rw [val_split]
  have e1 : val (fun i => f (q + i)) (d + 1) = f q + 4294967296 * val (fun i => f (q + (i + 1))) d := by
    have := val_split (fun i => f (q + i)) 1 d
    rw [show 1 + d = d + 1 by omega] at this
    rw [this]
    have e0 : val (fun i => f (q + i)) 1 = f q := by show 0 + f (q + 0) * 4294967296 ^ 0 = f q; simp
    rw [e0]
    have e2 : (fun i => (fun i => f (q + i)) (1 + i)) = fun i => f (q + (i + 1)) := by funext j; show f (q + (1 + j)) = _; rw [Nat.add_comm 1 j]
    rw [e2]; rfl
  rw [e1]
  obtain ⟨v0, v1⟩ := val_bd (hw.less (show q ≤ q + (d + 1) by omega))
  rw [hi2, Int.pow_add, ← pow32, ← Int.ediv_ediv_of_nonneg (Int.le_of_lt (pow_pos q)), Int.add_comm (val f q), Int.mul_add_ediv_left' _ _ (pow_pos q) v0 v1]
  have h32 : (4294967296 : Int) = 2 ^ r * 2 ^ (32 - r) := by rw [← Int.pow_add, show r + (32 - r) = 32 by omega]; rfl
  rw [h32, Int.mul_assoc, Int.add_mul_ediv_left _ _ (by have := two_pos r; omega)]
  have h33 : (2 : Int) ^ (32 - r) = 2 * 2 ^ (31 - r) := by rw [show 32 - r = (31 - r) + 1 by omega, Int.pow_succ, Int.mul_comm]
  rw [h33, Int.mul_assoc]
  omega

end Go.Proofs.YthimcecbgpamdaaGreat

namespace Go.Proofs.YthimcecbgpamdaaGreat
open Go.RowKit

set_option maxHeartbeats 400000 in
theorem bit_any (b n cap i : Nat) (f : Nat → Int) (hn : n ≤ 549755813888) (w : World) (hr : Row w b n f) (wa : Wd n f) (hi : i / 32 < n) :
    Calls Tryz.prog 224 #[.slice (some ⟨b, 0, none⟩) n cap, .int .i64 i] w fun e w' => e = .returned (.int .u64 (val f n / 2 ^ i % 2)) ∧ w' = w := by
  have hc := hr (i / 32) hi
  obtain ⟨t0, t1⟩ := wa (i / 32) hi
  have E := hide (val_bit wa hi)
  have hp := two_pos (i % 32)
  have q0 : 0 ≤ f (i / 32) / 2 ^ (i % 32) := Int.ediv_nonneg t0 (Int.le_of_lt hp)
  have q1 : f (i / 32) / 2 ^ (i % 32) ≤ f (i / 32) := Int.ediv_le_self _ t0
  have EA := hide (show bits .and .u64 (f (i / 32) / 2 ^ (i % 32)) 1 = f (i / 32) / 2 ^ (i % 32) % 2 from by
    rw [u64_and _ _ q0 (by omega) (by omega) (by omega)]
    rw [show (1 : Int).toNat = 1 from rfl, nat_mask1]
    omega)
  clear hr wa hp
  go_enter Tryz.func224, Tryz.ntmps224
  go_wp2_with fail
  go_ret
  exact ⟨by rw [unhide E, ← unhide EA]; rfl, rfl⟩

theorem even_next {v : Int} {k : Nat} (h : v % 2 ^ k = 0) (h2 : v / 2 ^ k % 2 = 0) : v % 2 ^ (k + 1) = 0 := by
  have e1 : 2 ^ k * (v / 2 ^ k) + v % 2 ^ k = v := Int.mul_ediv_add_emod v (2 ^ k)
  have e2 : 2 * (v / 2 ^ k / 2) + v / 2 ^ k % 2 = v / 2 ^ k := Int.mul_ediv_add_emod _ 2
  rw [h, h2] at *
  have e3 : v = 2 ^ (k + 1) * (v / 2 ^ k / 2) := by
    rw [Int.pow_succ, Int.mul_assoc]
    rw [show 2 * (v / 2 ^ k / 2) = v / 2 ^ k by omega]
    omega
  rw [e3]
  exact Int.mul_emod_right _ _
theorem pow_le_of_mod {v : Int} {k : Nat} (h : v % 2 ^ k = 0) (h0 : 0 < v) : 2 ^ k ≤ v := by
  rcases Int.lt_or_le v (2 ^ k) with h1 | h1
  · rw [Int.emod_eq_of_lt (by omega) h1] at h; omega
  · exact h1
theorem exp_lt {k m : Nat} (h : (2 : Int) ^ k < 2 ^ m) : k < m := by
  rcases Nat.lt_or_ge k m with h1 | h1
  · exact h1
  · obtain ⟨d, rfl⟩ : ∃ d, k = m + d := ⟨k - m, by omega⟩
    rw [Int.pow_add] at h
    have := Int.mul_le_mul_of_nonneg_left (show 1 ≤ (2 : Int) ^ d from two_pos d) (Int.le_of_lt (two_pos m))
    omega

set_option maxHeartbeats 400000 in
theorem trailing_any (b bv n cap : Nat) (s : Value) (f : Nat → Int) (hn : n ≤ 1000) (h0 : n ≠ 0) (w : World) (hi : IntAt w b s (.slice (some ⟨bv, 0, none⟩) n cap)) (hr : Row w bv n f) (wa : Wd n f) (na : Nm n f) :
    Calls Tryz.prog 210 #[.pointer (some ⟨b, 0, none⟩)] w fun e w' => ∃ k : Nat, e = .returned (.int .u64 k) ∧ k < 32 * n ∧ val f n % 2 ^ k = 0 ∧ val f n / 2 ^ k % 2 = 1 ∧ w' = w := by
  have c1 := hi.cell1
  have hpos := val_pos wa na h0
  have hlt := (val_bd wa).2
  rw [pow32] at hlt
  have HP := hide hpos; have HL := hide hlt; have HR := hide hr; have WA := hide wa
  have t : ((n : Int) == 0) = false := by simp; omega
  clear hi hr wa na hpos hlt h0
  go_enter Tryz.func210, Tryz.ntmps210
  go_wp2_with fail
  go_loopw [3] (fun ns wr => ∃ k : Nat, ns = .int .u64 k ∧ k < 32 * n ∧ val f n % 2 ^ k = 0 ∧ wr = w) (fun ns _ => 32 * n - (intOf ns).toNat)
  case atStart => exact ⟨0, rfl, exp_lt (Int.lt_of_le_of_lt (show (2 : Int) ^ 0 ≤ val f n from unhide HP) (unhide HL)), by show _ % 1 = 0; omega, rfl⟩
  case round =>
    obtain ⟨k, rfl, hk, hm, rfl⟩ := hrel
    have HM := hide hm
    clear hm
    go_wp2_with fail
    refine (bit_any bv n cap k f (by omega) _ (unhide HR) (unhide WA) (by omega)).mono ?_
    rintro e w1 ⟨rfl, rfl⟩
    rcases Int.emod_two_eq (val f n / 2 ^ k) with h | h
    · have HN := hide (even_next (unhide HM) h)
      have hk2 : Hid (k + 1 < 32 * n) := exp_lt (Int.lt_of_le_of_lt (pow_le_of_mod (unhide HN) (unhide HP)) (unhide HL))
      rw [h]
      clear h
      go_wp2_with fail
      go_roundw
      case rel => exact ⟨k + 1, by go_num, unhide hk2, unhide HN, trivial⟩
      case measure => simp [intOf]; omega
    · have HH := hide h
      rw [h]
      clear h
      go_wp2_with fail
      go_ret
      exact ⟨k, rfl, hk, unhide HM, unhide HH, rfl⟩

end Go.Proofs.YthimcecbgpamdaaGreat

namespace Go.Proofs.YthimcecbgpamdaaGreat
open Go.RowKit

theorem pow_le_two {k m : Nat} (h : k ≤ m) : (2 : Int) ^ k ≤ 2 ^ m := by
  obtain ⟨d, rfl⟩ : ∃ d, m = k + d := ⟨m - k, by omega⟩
  rw [Int.pow_add]
  have := Int.mul_le_mul_of_nonneg_left (show 1 ≤ (2 : Int) ^ d from two_pos d) (Int.le_of_lt (two_pos k))
  omega
theorem bentZ_not {x : Int} (h : ¬ R64 x) : bentZ x = true := by
  cases hx : bentZ x
  · exact absurd (bentZ_false hx) h
  · rfl
/-- The number whose lowest set bit is bit 63, below 2^64. -/
theorem trail63 {v : Int} {k : Nat} (h1 : v % 2 ^ k = 0) (h2 : v / 2 ^ k % 2 = 1) (h3 : 9223372036854775808 ≤ v) (h4 : v < 18446744073709551616) : (((k : Nat) : Int) == 63) = decide (v = 9223372036854775808) := by
  by_cases hk : k = 63
  · subst hk
    have e : (2 : Int) ^ 63 = 9223372036854775808 := by decide
    rw [e] at h1 h2
    rw [decide_eq_true (by omega)]; rfl
  · have hne : ((k : Int) == 63) = false := by simp; omega
    rw [hne]
    symm
    apply decide_eq_false
    intro hv
    subst hv
    rcases Nat.lt_or_ge k 63 with h | h
    · obtain ⟨d, hd⟩ : ∃ d, 63 = k + (d + 1) := ⟨62 - k, by omega⟩
      have e : (9223372036854775808 : Int) = 2 ^ k * (2 ^ d * 2) := by
        rw [← Int.pow_succ, ← Int.pow_add, ← hd]; decide
      rw [e, Int.mul_ediv_cancel_left _ (by have := two_pos k; omega)] at h2
      omega
    · have := pow_le_of_mod h1 (by decide)
      have h64 := pow_le_two (show 64 ≤ k by omega)
      have e : (2 : Int) ^ 64 = 18446744073709551616 := by decide
      omega

set_option maxHeartbeats 1000000 in
theorem isInt64_any (b : Nat) (x : Int) (w : World) (hx : Num w b x) (dx : Bd x) :
    Calls Tryz.prog 190 #[.pointer (some ⟨b, 0, none⟩)] w fun e w' => e = .returned (.bool (!bentZ x)) ∧ w' = w := by
  obtain ⟨neg, v, n, f, h1, h2, h3, h4, h5, h6⟩ := hx
  have hn : n ≤ 100 := by
    unfold Bd at dx
    rw [h5, absZ_sgn (val_bd h3).1] at dx
    exact len_le h3 h4 dx
  have c0 := h1.cell0; have c1 := h1.cell1
  have H1 := hide h1; have H2 := hide h2; have H3 := hide h3; have H4 := hide h4; have H5 := hide h5
  obtain ⟨ao, cap, rfl, -, -, -⟩ := h2.view
  clear h1 h2 h3 h4 h5 h6 dx
  go_enter Tryz.func190, Tryz.ntmps190
  go_wp2_with fail
  refine (length_words _ n f (by omega) _ (unhide H2) (unhide H3) (unhide H4)).mono ?_
  rintro e w1 ⟨L, rfl, l0, l1, l2, rfl⟩
  have v0 := (val_bd (unhide H3)).1
  rcases Nat.lt_trichotomy L 64 with hL | hL | hL
  · have E := hide (show bentZ x = false from by
      apply bentZ_in
      have := pow_le_two (show L ≤ 63 by omega)
      have e : (2 : Int) ^ 63 = 9223372036854775808 := by decide
      rw [unhide H5]
      unfold R64 sgnZ
      cases neg
      · rw [if_neg (by decide)]; omega
      · rw [if_pos rfl]; omega)
    clear l0 l1 l2 v0
    go_wp2_with fail
    go_ret
    exact ⟨by rw [unhide E]; rfl, rfl⟩
  · subst hL
    have hn0 : n ≠ 0 := fun h => absurd (l0 h) (by decide)
    have l3 := l2 hn0
    have e64 : (2 : Int) ^ 64 = 18446744073709551616 := by decide
    rw [e64] at l1 l3
    cases neg
    · have E := hide (show bentZ x = true from by
        rw [unhide H5]
        exact bentZ_up (z := val f n) (by omega))
      clear l0 l1 l2 l3 v0 e64 hn0
      go_wp2_with fail
      go_ret
      exact ⟨by rw [unhide E]; rfl, rfl⟩
    · have hsl := unhide H2
      rcases hsl with ⟨-, h⟩ | ⟨bv, cap', hv, -, -, -, hr⟩
      · exact absurd h hn0
      · obtain ⟨rfl, rfl⟩ : ao = some ⟨bv, 0, none⟩ ∧ cap = cap' := by cases hv; exact ⟨rfl, rfl⟩
        have HR := hide hr
        have L1 := hide l1; have L3 := hide l3; have HN0 := hide hn0
        clear l0 l1 l2 l3 v0 e64 hn0 hr hv
        go_wp2_with fail
        refine (trailing_any b bv n cap (.bool true) f (by omega) (unhide HN0) _ (unhide H1) (unhide HR) (unhide H3) (unhide H4)).mono ?_
        rintro e w2 ⟨k, rfl, k0, k1, k2, rfl⟩
        have E := hide (trail63 k1 k2 (by have := unhide L3; omega) (unhide L1))
        have EB := hide (show bentZ x = !decide (val f n = 9223372036854775808) from by
          have h3' := unhide L3
          rw [unhide H5]
          show bentZ (-val f n) = _
          by_cases h : val f n = 9223372036854775808
          · rw [decide_eq_true h, h]; decide
          · rw [decide_eq_false h, bentZ_down (z := -val f n) (by omega)]; rfl)
        clear k1 k2
        cases hd : decide (val f n = 9223372036854775808)
        · have t : ((k : Int) == 63) = false := (unhide E).trans hd
          have HD := hide hd
          clear hd
          go_wp2_with fail
          go_ret
          exact ⟨by rw [unhide EB, unhide HD]; rfl, rfl⟩
        · have t : ((k : Int) == 63) = true := (unhide E).trans hd
          have HD := hide hd
          clear hd
          go_wp2_with fail
          go_ret
          exact ⟨by rw [unhide EB, unhide HD]; rfl, rfl⟩
  · have hn0 : n ≠ 0 := fun h => absurd (l0 h) (by omega)
    have l3 := l2 hn0
    have E := hide (show bentZ x = true from by
      have := pow_le_two (show 65 ≤ L by omega)
      have e : (2 : Int) ^ 65 = 36893488147419103232 := by decide
      apply bentZ_not
      rw [unhide H5]
      unfold R64 sgnZ
      cases neg
      · rw [if_neg (by decide)]; omega
      · rw [if_pos rfl]; omega)
    clear l0 l1 l2 l3 v0 hn0
    have t : ((L : Int) == 64) = false := by simp; omega
    go_wp2_with fail
    go_ret
    exact ⟨by rw [unhide E]; exact congrArg (fun b => Ending.returned (Value.bool b)) (decide_eq_false (by omega)), rfl⟩

theorem or_join32' (x y : Int) (x0 : 0 ≤ x) (x1 : x < 4294967296) (y0 : 0 ≤ y) (y1 : y < 4294967296) : bits .or .u64 y (x * 4294967296) = x * 4294967296 + y := by
  rw [← or_join32 x y x0 x1 y0 y1]
  rw [u64_or _ _ y0 (by omega) (by omega) (by omega), u64_or _ _ (by omega) (by omega) y0 (by omega), Nat.or_comm]

set_option maxHeartbeats 1000000 in
theorem int64_any (b : Nat) (x : Int) (w : World) (hx : Num w b x) (rx : R64 x) :
    Calls Tryz.prog 85 #[.pointer (some ⟨b, 0, none⟩)] w fun e w' => e = .returned (.int .i64 x) ∧ w' = w := by
  obtain ⟨neg, v, n, f, h1, h2, h3, h4, h5, h6⟩ := hx
  have v0 := (val_bd h3).1
  have habs : val f n ≤ 9223372036854775808 ∧ (neg = false → val f n ≤ 9223372036854775807) := by
    unfold R64 at rx
    rw [h5] at rx
    unfold sgnZ at rx
    cases neg
    · rw [if_neg (by decide)] at rx; exact ⟨by omega, fun _ => by omega⟩
    · rw [if_pos rfl] at rx; exact ⟨by omega, fun h => by cases h⟩
  have hn : n ≤ 2 := by
    apply len_le h3 h4
    show val f n < 18446744073709551616
    omega
  have c0 := h1.cell0; have c1 := h1.cell1
  have H5 := hide h5
  rcases (show n = 0 ∨ n = 1 ∨ n = 2 by omega) with rfl | rfl | rfl
  · have hv : x = 0 := by rw [h5, h6 rfl]; rfl
    have hneg := h6 rfl
    subst hneg
    have HV := hide hv
    obtain ⟨ao, cap, rfl, -, -, -⟩ := h2.view
    clear h1 h2 h3 h4 h5 h6 hv habs v0 rx
    go_enter Tryz.func85, Tryz.ntmps85
    go_wp2
    go_ret
    exact ⟨by rw [unhide HV]; rfl, rfl⟩
  · have ev : val f 1 = f 0 := by show 0 + f 0 * 4294967296 ^ 0 = f 0; simp
    rw [ev] at habs
    obtain ⟨t0, t1⟩ := h3 0 (by omega)
    rcases h2 with ⟨-, h⟩ | ⟨bv, cap, rfl, -, -, -, hr⟩
    · cases h
    have k0 := hr 0 (by omega)
    cases neg
    · have HV := hide (show x = f 0 by rw [h5, ev]; rfl)
      clear h1 h3 h4 h5 h6 habs v0 rx hr ev
      go_enter Tryz.func85, Tryz.ntmps85
      go_wp2
      go_ret
      exact ⟨by rw [unhide HV]; rfl, rfl⟩
    · have HV := hide (show x = -f 0 by rw [h5, ev]; rfl)
      clear h1 h3 h4 h5 h6 habs v0 rx hr ev
      go_enter Tryz.func85, Tryz.ntmps85
      go_wp2
      go_ret
      exact ⟨by rw [unhide HV]; rfl, rfl⟩
  · have ev : val f 2 = f 0 + f 1 * 4294967296 := by show 0 + f 0 * 4294967296 ^ 0 + f 1 * 4294967296 ^ 1 = _; simp
    rw [ev] at habs
    obtain ⟨t0, t1⟩ := h3 0 (by omega)
    obtain ⟨t2, t3⟩ := h3 1 (by omega)
    rcases h2 with ⟨-, h⟩ | ⟨bv, cap, rfl, -, -, -, hr⟩
    · cases h
    have k0 := hr 0 (by omega)
    have k1 := hr 1 (by omega)
    have eo := or_join32' (f 1) (f 0) t2 t3 t0 t1
    obtain ⟨u, eu⟩ : ∃ u, f 0 + f 1 * 4294967296 = u := ⟨_, rfl⟩
    rw [show f 1 * 4294967296 + f 0 = u by omega] at eo
    rw [eu] at habs
    have u0 : 0 ≤ u := by omega
    cases neg
    · have HV := hide (show x = u by rw [h5, ev, eu]; rfl)
      have u1 := habs.2 rfl
      clear h1 h3 h4 h5 h6 habs v0 rx hr ev eu
      go_enter Tryz.func85, Tryz.ntmps85
      go_wp2
      go_ret
      exact ⟨by rw [unhide HV]; rfl, rfl⟩
    · have HV := hide (show x = wrap64 (-wrap64 u) by rw [h5, ev, eu]; show -u = _; unfold wrap64; have := habs.1; omega)
      have u1 := habs.1
      clear h1 h3 h4 h5 h6 habs v0 rx hr ev eu
      go_enter Tryz.func85, Tryz.ntmps85
      go_wp2
      go_ret
      exact ⟨by rw [unhide HV]; rfl, rfl⟩

end Go.Proofs.YthimcecbgpamdaaGreat

namespace Go.Proofs.YthimcecbgpamdaaGreat
open Go.RowKit

set_option maxHeartbeats 400000 in
theorem sign_any (b : Nat) (x : Int) (w : World) (hx : Num w b x) :
    Calls Tryz.prog 191 #[.pointer (some ⟨b, 0, none⟩)] w fun e w' => e = .returned (.int .i64 (cmpZ x 0)) ∧ w' = w := by
  obtain ⟨neg, v, n, f, h1, h2, h3, h4, h5, h6⟩ := hx
  have c0 := h1.cell0; have c1 := h1.cell1
  obtain ⟨ao, cap, rfl, -, -, -⟩ := h2.view
  rcases Nat.eq_zero_or_pos n with h0 | h0
  · subst h0
    have E := hide (cmpZ_eq (show x = 0 by rw [h5, h6 rfl]; rfl))
    clear h1 h2 h3 h4 h5 h6
    go_enter Tryz.func191, Tryz.ntmps191
    go_wp2
    go_ret
    exact ⟨by rw [unhide E]; rfl, rfl⟩
  · have t : ((n : Int) == 0) = false := by simp; omega
    have hp := val_pos h3 h4 (by omega)
    cases neg
    · have E := hide (cmpZ_gt (show 0 < x by rw [h5]; exact hp))
      clear h1 h2 h3 h4 h5 h6 hp
      go_enter Tryz.func191, Tryz.ntmps191
      go_wp2
      go_ret
      exact ⟨by rw [unhide E]; rfl, rfl⟩
    · have E := hide (cmpZ_lt (show x < 0 by rw [h5]; show -val f n < 0; omega))
      clear h1 h2 h3 h4 h5 h6 hp
      go_enter Tryz.func191, Tryz.ntmps191
      go_wp2
      go_ret
      exact ⟨by rw [unhide E]; rfl, rfl⟩

set_option maxHeartbeats 400000 in
theorem refStop_any (b : Nat) (x : Int) (w : World) (hx : Num w b x) (dx : Bd x) :
    Calls Tryz.prog 168 #[.pointer (some ⟨b, 0, none⟩)] w fun e w' => e = .returned (.tuple #[.int .i64 (clampZ x), .bool (bentZ x)]) ∧ w' = w := by
  have HX := hide hx; have DX := hide dx
  clear hx dx
  go_enter Tryz.func168, Tryz.ntmps168
  go_wp2_with fail
  refine (isInt64_any b x _ (unhide HX) (unhide DX)).mono ?_
  rintro e w1 ⟨rfl, rfl⟩
  by_cases h : R64 x
  · rw [bentZ_in h]
    have E := hide (clampZ_in h)
    have HR := hide h
    have hx1 := h.1; have hx2 := h.2
    clear h
    go_wp2_with fail
    refine (int64_any b x _ (unhide HX) (unhide HR)).mono ?_
    rintro e w2 ⟨rfl, rfl⟩
    go_wp2_with fail
    go_ret2
    exact ⟨by rw [unhide E, bentZ_in (unhide HR)]; rfl, rfl⟩
  · rw [bentZ_not h]
    have EB := hide (bentZ_not h)
    by_cases hp : 0 < x
    · have E := hide (clampZ_up (show 9223372036854775807 < x by unfold R64 at h; omega))
      have EC := hide (cmpZ_gt hp)
      clear h
      go_wp2_with fail
      refine (sign_any b x _ (unhide HX)).mono ?_
      rintro e w2 ⟨rfl, rfl⟩
      rw [unhide EC]
      go_wp2_with fail
      go_ret2
      exact ⟨by rw [unhide E, unhide EB]; rfl, rfl⟩
    · have E := hide (clampZ_down (show x < -9223372036854775808 by unfold R64 at h; omega))
      have EC := hide (cmpZ_lt (show x < 0 by unfold R64 at h; omega))
      clear h hp
      go_wp2_with fail
      refine (sign_any b x _ (unhide HX)).mono ?_
      rintro e w2 ⟨rfl, rfl⟩
      rw [unhide EC]
      go_wp2_with fail
      go_ret2
      exact ⟨by rw [unhide E, unhide EB]; rfl, rfl⟩

theorem bd_of {x : Int} {k : Nat} (h : absZ x < 4294967296 ^ k) (hk : k ≤ 100) : Bd x := by
  unfold Bd
  obtain ⟨d, hd⟩ : ∃ d, 100 = k + d := ⟨100 - k, by omega⟩
  rw [hd, Int.pow_add]
  have := Int.mul_le_mul_of_nonneg_left (show 1 ≤ (4294967296 : Int) ^ d from pow_pos d) (Int.le_of_lt (pow_pos k))
  omega
theorem bd64 {x : Int} (h : R64 x) : Bd x := bd_of (k := 2) (by have := absZ_bd h; show _ < (18446744073709551616 : Int); omega) (by decide)
theorem absZ_add (x y : Int) : absZ (x + y) ≤ absZ x + absZ y := by unfold absZ; split <;> split <;> split <;> omega
theorem absZ_sub (x y : Int) : absZ (x - y) ≤ absZ x + absZ y := by unfold absZ; split <;> split <;> split <;> omega
/-- Below a block, over two steps. -/
theorem below_two {B : Nat} {a b c : World} (h : Below B a b) (k : Below b.heap.size b c) (hB : B ≤ b.heap.size) : Below B a c := h.trans (k.mono hB)
/-- A step that writes one block which was not there. -/
theorem below_kept {w w1 w2 : World} {z : Nat} (h : Below w.heap.size w w1) (k : Kept z w1 w2) (hz : w.heap.size ≤ z) : Below w.heap.size w w2 :=
  ((Kept.of_below (z := z) h).trans k (Or.inl rfl)).below hz

set_option maxHeartbeats 400000 in
theorem refAdd_any (a b : Int) (ha : R64 a) (hb : R64 b) (w : World) :
    Calls Tryz.prog 143 #[.int .i64 a, .int .i64 b] w fun e w' => e = .returned (.tuple #[.int .i64 (clampZ (a + b)), .bool (bentZ (a + b))]) ∧ Below w.heap.size w w' := by
  have HA := hide ha; have HB := hide hb
  have D := hide (show Bd (a + b) from bd_of (k := 3) (by have h1 := absZ_bd ha; have h2 := absZ_bd hb; have h3 := absZ_add a b; show _ < (79228162514264337593543950336 : Int); omega) (by decide))
  clear ha hb
  go_enter Tryz.func143, Tryz.ntmps143
  go_wp2_with fail
  refine (whole_any a (unhide HA) _).mono ?_
  rintro e w1 ⟨b1, rfl, hb1, n1, k1⟩
  have N1 := hide n1; have K1 := hide k1
  clear n1 k1 hb1
  go_wp2_with fail
  refine (whole_any b (unhide HB) _).mono ?_
  rintro e w2 ⟨b2, rfl, hb2, n2, k2⟩
  have N2 := hide n2; have K2 := hide k2
  clear n2 k2 hb2
  have HW := hide (show Below w.heap.size w w2 from by
    have h1 := below_two (below_new w _) (unhide K1) (by simp)
    exact below_two h1 (unhide K2) h1.size)
  go_wp2_with fail
  refine (intAdd_any w.heap.size b1 b2 a b _ _ _ (((intAt_new w).below (unhide K1)).below (unhide K2)) ((unhide N1).below (unhide K2)) (unhide N2) (bd64 (unhide HA)) (bd64 (unhide HB))).mono ?_
  rintro e w3 ⟨rfl, n3, k3⟩
  have N3 := hide n3
  have HW3 := hide (below_kept (unhide HW) k3 (Nat.le_refl _))
  clear n3 k3
  go_wp2_with fail
  refine (refStop_any _ _ _ (unhide N3) (unhide D)).mono ?_
  rintro e w4 ⟨rfl, rfl⟩
  go_wp2_with fail
  go_ret2
  exact ⟨rfl, unhide HW3⟩

set_option maxHeartbeats 400000 in
theorem refSub_any (a b : Int) (ha : R64 a) (hb : R64 b) (w : World) :
    Calls Tryz.prog 141 #[.int .i64 a, .int .i64 b] w fun e w' => e = .returned (.tuple #[.int .i64 (clampZ (a - b)), .bool (bentZ (a - b))]) ∧ Below w.heap.size w w' := by
  have HA := hide ha; have HB := hide hb
  have D := hide (show Bd (a - b) from bd_of (k := 3) (by have h1 := absZ_bd ha; have h2 := absZ_bd hb; have h3 := absZ_sub a b; show _ < (79228162514264337593543950336 : Int); omega) (by decide))
  clear ha hb
  go_enter Tryz.func141, Tryz.ntmps141
  go_wp2_with fail
  refine (whole_any a (unhide HA) _).mono ?_
  rintro e w1 ⟨b1, rfl, hb1, n1, k1⟩
  have N1 := hide n1; have K1 := hide k1
  clear n1 k1 hb1
  go_wp2_with fail
  refine (whole_any b (unhide HB) _).mono ?_
  rintro e w2 ⟨b2, rfl, hb2, n2, k2⟩
  have N2 := hide n2; have K2 := hide k2
  clear n2 k2 hb2
  have HW := hide (show Below w.heap.size w w2 from by
    have h1 := below_two (below_new w _) (unhide K1) (by simp)
    exact below_two h1 (unhide K2) h1.size)
  go_wp2_with fail
  refine (intSub_any w.heap.size b1 b2 a b _ _ _ (((intAt_new w).below (unhide K1)).below (unhide K2)) ((unhide N1).below (unhide K2)) (unhide N2) (bd64 (unhide HA)) (bd64 (unhide HB))).mono ?_
  rintro e w3 ⟨rfl, n3, k3⟩
  have N3 := hide n3
  have HW3 := hide (below_kept (unhide HW) k3 (Nat.le_refl _))
  clear n3 k3
  go_wp2_with fail
  refine (refStop_any _ _ _ (unhide N3) (unhide D)).mono ?_
  rintro e w4 ⟨rfl, rfl⟩
  go_wp2_with fail
  go_ret2
  exact ⟨rfl, unhide HW3⟩

end Go.Proofs.YthimcecbgpamdaaGreat
