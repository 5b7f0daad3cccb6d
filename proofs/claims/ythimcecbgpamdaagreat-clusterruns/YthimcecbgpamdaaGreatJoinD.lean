/- Joined: BigShift, BigTwin, BigNeg. -/
import Derived.Test.YthimcecbgpamdaaGreatNear106
import Derived.Laws.AppendOwnNone
namespace Go.Proofs.YthimcecbgpamdaaGreat
open Go.RowKit

theorem u32_join (x y : Int) (s : Nat) (hs : s ≤ 32) (x0 : 0 ≤ x) (x1 : x < 2 ^ s) (y0 : 0 ≤ y) (y1 : y < 4294967296) (hy : y % 2 ^ s = 0) : bits .or .u32 x y = x + y ∧ x + y < 4294967296 := by
  obtain ⟨x, rfl⟩ := Int.eq_ofNat_of_zero_le x0
  obtain ⟨y, rfl⟩ := Int.eq_ofNat_of_zero_le y0
  have c : ((2 : Int) ^ s) = ((2 ^ s : Nat) : Int) := by simp
  rw [c] at x1 hy
  have x2 : x < 2 ^ s := by omega
  have y2 : y % 2 ^ s = 0 := by omega
  have h32 : 2 ^ s * 2 ^ (32 - s) = 4294967296 := by rw [← Nat.pow_add, show s + (32 - s) = 32 by omega]
  have hsum : x + y < 4294967296 := by
    have e : 2 ^ s * (y / 2 ^ s) + y % 2 ^ s = y := Nat.div_add_mod y (2 ^ s)
    have hlt : y / 2 ^ s < 2 ^ (32 - s) := by
      rw [Nat.div_lt_iff_lt_mul (Nat.two_pow_pos s), Nat.mul_comm, h32]; omega
    have := Nat.mul_le_mul_left (2 ^ s) (show y / 2 ^ s + 1 ≤ 2 ^ (32 - s) from hlt)
    rw [h32, Nat.mul_add, Nat.mul_one] at this
    omega
  have hle : 2 ^ s ≤ 4294967296 := by rw [← h32]; exact Nat.le_mul_of_pos_right _ (Nat.two_pow_pos _)
  have h := u32_or_nat x y (by omega) (by omega)
  rw [Nat.or_comm, nat_join s y x y2 x2] at h
  refine ⟨by rw [h]; omega, by omega⟩

/-- One word of a shift to the left. -/
theorem left_step {fa g : Nat → Int} {k ww s : Nat} (hs : s < 32) (hw : ∀ j, 0 ≤ g j ∧ g j < 4294967296) (hc : g (k + ww) < 2 ^ s) (hz : ∀ j, k + ww < j → g j = 0)
    (h : val g (k + ww + 1) = val fa k * 2 ^ s * 4294967296 ^ ww) (a0 : 0 ≤ fa k) (a1 : fa k < 4294967296) :
    let x := fa k * 2 ^ s
    bits .or .u32 (g (k + ww)) (x % 4294967296) = g (k + ww) + x % 4294967296 ∧ bits .or .u32 (g (k + ww + 1)) (x / 4294967296) = x / 4294967296 ∧
    (∀ j, 0 ≤ upd (upd g (k + ww) (g (k + ww) + x % 4294967296)) (k + ww + 1) (x / 4294967296) j ∧ upd (upd g (k + ww) (g (k + ww) + x % 4294967296)) (k + ww + 1) (x / 4294967296) j < 4294967296) ∧
    upd (upd g (k + ww) (g (k + ww) + x % 4294967296)) (k + ww + 1) (x / 4294967296) (k + 1 + ww) < 2 ^ s ∧
    (∀ j, k + 1 + ww < j → upd (upd g (k + ww) (g (k + ww) + x % 4294967296)) (k + ww + 1) (x / 4294967296) j = 0) ∧
    val (upd (upd g (k + ww) (g (k + ww) + x % 4294967296)) (k + ww + 1) (x / 4294967296)) (k + 1 + ww + 1) = val fa (k + 1) * 2 ^ s * 4294967296 ^ ww := by
  intro x
  have hp := two_pos s
  have x0 : 0 ≤ x := Int.mul_nonneg a0 (Int.le_of_lt hp)
  have h32 : (2 : Int) ^ s * 2 ^ (32 - s) = 4294967296 := by rw [← Int.pow_add, show s + (32 - s) = 32 by omega]; rfl
  have hq := two_pos (32 - s)
  have hi1 : x / 4294967296 < 2 ^ s := by
    rw [Int.ediv_lt_iff_lt_mul (by decide)]
    have := Int.mul_lt_mul_of_pos_right a1 hp
    rw [Int.mul_comm (2 ^ s)]; exact this
  have hi0 : 0 ≤ x / 4294967296 := by omega
  have hs32 : (2 : Int) ^ s ≤ 4294967296 := by
    have := Int.mul_le_mul_of_nonneg_left (show 1 ≤ (2 : Int) ^ (32 - s) from hq) (Int.le_of_lt hp)
    omega
  have hlo : x % 4294967296 % 2 ^ s = 0 := by
    have hd : (2 ^ s : Int) ∣ 4294967296 := ⟨_, h32.symm⟩
    rw [Int.emod_emod_of_dvd _ hd]
    exact Int.mul_emod_left _ _
  obtain ⟨j1, j2⟩ := u32_join (g (k + ww)) (x % 4294967296) s (by omega) (hw _).1 hc (by omega) (by omega) hlo
  have hz1 : g (k + ww + 1) = 0 := hz _ (by omega)
  have j3 := (u32_join 0 (x / 4294967296) 0 (by omega) (by omega) (by decide) hi0 (by omega) (by omega)).1
  refine ⟨j1, by rw [hz1, j3]; omega, ?_, ?_, ?_, ?_⟩
  · intro j
    unfold upd
    split
    · exact ⟨hi0, by omega⟩
    · split
      · exact ⟨by have := (hw (k + ww)).1; omega, j2⟩
      · exact hw j
  · rw [show k + 1 + ww = k + ww + 1 by omega, upd_same]; exact hi1
  · intro j hj
    rw [upd_other _ _ (by omega), upd_other _ _ (by omega)]
    exact hz j (by omega)
  · rw [show k + 1 + ww + 1 = k + ww + 1 + 1 by omega, val_upd, val_upd]
    have e1 : val g (k + ww + 1) = val g (k + ww) + g (k + ww) * 4294967296 ^ (k + ww) := rfl
    have e2 : val fa (k + 1) = val fa k + fa k * 4294967296 ^ k := rfl
    have e3 : x % 4294967296 * 4294967296 ^ (k + ww) + x / 4294967296 * 4294967296 ^ (k + ww + 1) = x * 4294967296 ^ (k + ww) := by
      rw [Int.pow_succ, Int.mul_comm (4294967296 ^ (k + ww)) 4294967296, ← Int.mul_assoc, ← Int.add_mul]
      congr 1; omega
    have e4 : fa k * 4294967296 ^ k * 2 ^ s * 4294967296 ^ ww = x * 4294967296 ^ (k + ww) := by
      show _ = fa k * 2 ^ s * 4294967296 ^ (k + ww)
      rw [Int.pow_add, Int.mul_right_comm (fa k), Int.mul_assoc]
    have e5 : (val fa k + fa k * 4294967296 ^ k) * 2 ^ s * 4294967296 ^ ww = val fa k * 2 ^ s * 4294967296 ^ ww + fa k * 4294967296 ^ k * 2 ^ s * 4294967296 ^ ww := by rw [Int.add_mul, Int.add_mul]
    rw [e2, e5, ← h, e1, e4, Int.add_mul]
    omega

set_option maxHeartbeats 1000000 in
theorem left_core (ao : Option Addr) (n cap ww s : Nat) (fa : Nat → Int) (h0 : 0 < n) (hn : n ≤ 100000) (hww : ww ≤ 100000) (hs : s < 32) (w : World) (ha : Has w ao n fa) (wa : Wd n fa) :
    Calls Tryz.prog 193 #[.slice ao n cap, .int .u64 ((32 * ww + s : Nat) : Int)] w fun e w' =>
      ∃ (v : Value) (l : Nat) (f : Nat → Int), e = .returned v ∧ Sl w' v l f ∧ Wd l f ∧ Nm l f ∧ val f l = val fa n * 2 ^ s * 4294967296 ^ ww ∧ Below w.heap.size w w' := by
  have hmk := fun wx => run_make_row' (P := Tryz.prog) 168 200 (.int .u32 0) 4 Tryz.underlying168 Tryz.infoU32 rfl .i64 .i64 (n + ww + 1) (by omega) (by omega) wx
  rw [show ((n + ww + 1 : Nat) : Int) = (n : Int) + (ww : Int) + 1 by omega] at hmk
  obtain ⟨p, ep⟩ : ∃ p : Int, ((32 * ww + s : Nat) : Int) = p := ⟨_, rfl⟩
  have e1 : p / 32 = (ww : Int) := by omega
  have e2 : p % 32 = (s : Int) := by omega
  have p0 : 0 ≤ p := by omega
  have p1 : p < 4000000 := by omega
  rw [ep]
  have t : ((n : Int) == 0) = false := by simp; omega
  have HA := hide ha; have WA := hide wa
  clear ha wa ep
  go_enter Tryz.func193, Tryz.ntmps193
  go_wp2_with fail
  clear hmk e1
  go_loopw [8] (fun is wr => ∃ (k : Nat) (g : Nat → Int), is = .int .i64 k ∧ k ≤ n ∧ Own wr w.heap.size (n + ww + 1) g ∧ (∀ j, 0 ≤ g j ∧ g j < 4294967296) ∧ g (k + ww) < 2 ^ s ∧ (∀ j, k + ww < j → g j = 0) ∧ val g (k + ww + 1) = val fa k * 2 ^ s * 4294967296 ^ ww ∧ Below w.heap.size w wr)
    (fun is _ => n - (intOf is).toNat)
  case atStart => exact ⟨0, _, rfl, Nat.zero_le _, own_made w (n + ww + 1), fun _ => ⟨Int.le_refl _, by decide⟩, two_pos s, fun _ _ => rfl, by rw [val_noughts (m := 0) (by omega) (fun _ _ _ => rfl)]; show 0 = 0 * 2 ^ s * 4294967296 ^ ww; rw [Int.zero_mul, Int.zero_mul], below_new w _⟩
  case round =>
    obtain ⟨k, g, rfl, hk, hO, hW, hc, hz, hv, hBl⟩ := hrel
    have HO := hide hO; have HW := hide hW; have HC := hide hc; have HZ := hide hz; have HV := hide hv; have HBl := hide hBl
    clear hO hW hc hz hv hBl
    by_cases hkn : k < n
    · obtain ⟨ba, rfl, hba, hra⟩ := Has.below' (unhide HA) (unhide HBl) (by omega)
      have ca := hra k hkn
      obtain ⟨a0, a1⟩ := unhide WA k hkn
      obtain ⟨q1, q2, q3, q4, q5, q6⟩ := left_step hs (unhide HW) (unhide HC) (unhide HZ) (unhide HV) a0 a1
      obtain ⟨x, ex⟩ : ∃ x, fa k * 2 ^ s = x := ⟨_, rfl⟩
      have x0 : 0 ≤ x := by rw [← ex]; exact Int.mul_nonneg a0 (Int.le_of_lt (two_pos s))
      have x1 : x < 18446744073709551616 := by
        have h1 := Int.mul_lt_mul_of_pos_right a1 (two_pos s)
        have h2 := pow_le_two (show s ≤ 32 by omega)
        have e3 : (2 : Int) ^ 32 = 4294967296 := by decide
        rw [ex] at h1
        omega
      rw [ex] at q1 q2 q3 q4 q5 q6
      have g0 := (unhide HW (k + ww))
      obtain ⟨y, ey⟩ : ∃ y, g (k + ww) + x % 4294967296 = y := ⟨_, rfl⟩
      rw [ey] at q1 q3 q4 q5 q6
      have Q3 := hide q3; have Q4 := hide q4; have Q5 := hide q5; have Q6 := hide q6
      have co := (unhide HO).cell (show k + ww < n + ww + 1 by omega)
      have fo := (unhide HO).free (k + ww)
      have HO2 := hide ((unhide HO).set (k + ww) y)
      have co2 := (unhide HO2).cell (show k + ww + 1 < n + ww + 1 by omega)
      rw [upd_other _ _ (by omega)] at co2
      have fo2 := (unhide HO2).free (k + ww + 1)
      clear hra q3 q4 q5 q6 g0
      go_wp2_with fail
      go_roundw
      case rel => exact ⟨k + 1, _, by go_num, by omega, (unhide HO2).set (k + ww + 1) (x / 4294967296), unhide Q3, unhide Q4, unhide Q5, unhide Q6, ((unhide HBl).setCell (Nat.le_refl _) _).setCell (Nat.le_refl _) _⟩
      case measure => simp [intOf]; omega
    · have hkn2 : k = n := by omega
      subst hkn2
      have HWD := hide (show Wd (k + ww + 1) g from fun i _ => unhide HW i)
      have HOL := hide (unhide HO).lt
      go_wp2_with fail
      refine (trim_core w.heap.size (k + ww + 1) (k + ww + 1) g (Nat.le_refl _) (by omega) _ (unhide HO).row).mono ?_
      rintro e w1 ⟨l, rfl, hl, hz, hnm, rfl⟩
      have F := hide (show Sl w1 (.slice (some ⟨w.heap.size, 0, none⟩) l (k + ww + 1)) l g ∧ Wd l g ∧ Nm l g ∧ val g l = val fa k * 2 ^ s * 4294967296 ^ ww ∧ Below w.heap.size w w1 from
        ⟨Or.inr ⟨_, _, rfl, hl, by omega, unhide HOL, (unhide HO).row.less hl⟩, (unhide HWD).less hl, hnm, by rw [← val_noughts hl hz]; exact unhide HV, unhide HBl⟩)
      clear hz hnm
      go_wp2_with fail
      go_ret
      exact ⟨_, l, _, rfl, unhide F⟩

/-- A list of words shifted to the left. -/
theorem left_words (va : Value) (n p : Nat) (fa : Nat → Int) (hn : n ≤ 100000) (hp : p ≤ 3000000) (w : World) (ha : Sl w va n fa) (wa : Wd n fa) :
    Calls Tryz.prog 193 #[va, .int .u64 (p : Int)] w fun e w' =>
      ∃ (v : Value) (l : Nat) (f : Nat → Int), e = .returned v ∧ Sl w' v l f ∧ Wd l f ∧ Nm l f ∧ val f l = val fa n * 2 ^ p ∧ Below w.heap.size w w' := by
  obtain ⟨ao, cap, rfl, -, -, ha⟩ := ha.view
  rcases Nat.eq_zero_or_pos n with h0 | h0
  · subst h0
    clear ha wa
    go_enter Tryz.func193, Tryz.ntmps193
    go_wp2_with fail
    go_ret
    exact ⟨_, 0, fa, rfl, Or.inl ⟨rfl, rfl⟩, fun i hi => absurd hi (by omega), Or.inl rfl, by show 0 = 0 * 2 ^ p; rw [Int.zero_mul], Below.refl _ _⟩
  · have h := left_core ao n cap (p / 32) (p % 32) fa h0 hn (by omega) (by omega) w ha wa
    rw [show 32 * (p / 32) + p % 32 = p by omega] at h
    refine h.mono ?_
    rintro e w' ⟨v, l, f, h1, h2, h3, h4, h5, h6⟩
    refine ⟨v, l, f, h1, h2, h3, h4, ?_, h6⟩
    rw [h5, pow32, Int.mul_assoc, ← Int.pow_add, show p % 32 + 32 * (p / 32) = p by omega]

/-- A number's two cells. -/
def One (bx : Nat) (xs xv : Value) (w : World) : Prop := w.cell? ⟨bx, 0, none⟩ = some xs ∧ w.cell? ⟨bx, 1, none⟩ = some xv
theorem One.below {bx : Nat} {xs xv : Value} {w w' : World} (h : One bx xs xv w) (k : Below w.heap.size w w') : One bx xs xv w' := ⟨cell_below h.1 k, cell_below h.2 k⟩

set_option maxHeartbeats 1000000 in
theorem lsh_any (z bx p : Nat) (x : Int) (hp : p ≤ 3000000) (s0 : Bool) (v0 : Value) (w : World) (hz : IntAt w z (.bool s0) v0) (hx : Num w bx x) (dx : Bd x) :
    Calls Tryz.prog 171 #[.pointer (some ⟨z, 0, none⟩), .pointer (some ⟨bx, 0, none⟩), .int .u64 (p : Int)] w fun e w' =>
      e = .returned (.pointer (some ⟨z, 0, none⟩)) ∧ Num w' z (x * 2 ^ p) ∧ Kept z w w' := by
  obtain ⟨xn, xv, n, fa, hx1, hx2, hx3, hx4, hx5, hx6⟩ := hx
  have hn : n ≤ 100 := by
    unfold Bd at dx
    rw [hx5, absZ_sgn (val_bd hx3).1] at dx
    exact len_le hx3 hx4 dx
  have c1 := hx1.cell0; have c2 := hx1.cell1
  have HX2 := hide hx2; have HX3 := hide hx3
  have E := hide (show sgnZ xn (val fa n * 2 ^ p) = x * 2 ^ p by rw [hx5]; cases xn; rfl; show -(val fa n * 2 ^ p) = -val fa n * 2 ^ p; rw [Int.neg_mul])
  have HZ := hide hz
  obtain ⟨ao, capa, rfl, -, -, -⟩ := hx2.view
  clear hx1 hx2 hx3 hx4 hx5 hx6 hz dx
  go_enter Tryz.func171, Tryz.ntmps171
  go_wp2_with fail
  refine region_by (S := One bx (.bool xn) (.slice ao n capa))
    [(0, false), (1, false), (2, false), (3, false), (4, false), (5, false), (6, false), (7, false), (8, false), (9, false), (10, true), (11, true), (12, true)] [11, 12] (by kernel_rfl) (by kernel_rfl) ?_
  have hS : One bx (.bool xn) (.slice ao n capa) w.drew := ⟨c1, c2⟩
  clear c1 c2
  iterate 10
    refine seq_read (v := ?_) rfl (fun _ _ _ h => h) (by rfl) hS ?_ ?_
    rotate_left 1
    · intro wx hwx
      obtain ⟨k1, k2⟩ := hwx
      go_simp <;> exact rfl
    go_frame
  refine seq_do rfl (fun K hK => ?_)
  go_simp
  refine (left_words _ n p fa (by omega) hp _ (by exact unhide HX2) (unhide HX3)).mono ?_
  rintro e w1 ⟨v, l, f, rfl, h2, h3, h4, h5, h6⟩
  have H2 := hide h2; have H3 := hide h3; have H4 := hide h4; have H5 := hide h5; have H6 := hide h6
  obtain ⟨vo, cap, rfl, -, -, -⟩ := h2.view
  have hS1 := hS.below h6
  refine hK _ _ (fun _ => hS1) ?_
  clear hS hK K h2 h3 h4 h5 h6 hS1
  refine seq_do rfl (fun K hK => ?_)
  go_simp
  refine (give_any z _ _ _ _ _ _ _ (IntAt.below (w := w.drew) (unhide HZ) (unhide H6))).mono ?_
  rintro e w2 ⟨rfl, g1, g2⟩
  refine hK _ _ (fun h => by cases h) ?_
  have F := hide (show Num w2 z (x * 2 ^ p) ∧ Kept z w w2 from by
    have hsl := (unhide H2).other g2 (IntAt.below (w := w.drew) (unhide HZ) (unhide H6))
    have hnum := num_of_give g1 hsl (unhide H3) (unhide H4)
    rw [unhide H5, unhide E] at hnum
    exact ⟨hnum, (Kept.of_below (show Below w.heap.size w w1 from ((Drw.refl w).drew.below _).trans (unhide H6))).trans g2 (Or.inl rfl)⟩)
  clear g1 g2 hK K
  refine seq_do rfl (fun K hK => ?_)
  go_simp
  refine hK _ _ (fun h => by cases h) ?_
  clear hK K
  refine seq_end ?_
  go_wp2_with fail
  go_ret
  exact ⟨rfl, (unhide F).1, (unhide F).2⟩

set_option maxHeartbeats 400000 in
theorem power_any (p : Nat) (hp : p ≤ 3000000) (w : World) :
    Calls Tryz.prog 170 #[.int .u64 (p : Int)] w fun e w' => ∃ b : Nat, e = .returned (.pointer (some ⟨b, 0, none⟩)) ∧ w.heap.size ≤ b ∧ Num w' b (2 ^ p) ∧ Below w.heap.size w w' := by
  go_enter Tryz.func170, Tryz.ntmps170
  go_wp2_with fail
  refine (newInt_any 1 (by unfold R64; omega) _).mono ?_
  rintro e w1 ⟨b1, rfl, hb1, n1, k1⟩
  have N1 := hide n1; have K1 := hide k1
  clear n1 k1 hb1
  go_wp2_with fail
  refine (lsh_any w.heap.size b1 p 1 hp _ _ _ ((intAt_new w).below (unhide K1)) (unhide N1) (bd64 (by unfold R64; omega))).mono ?_
  rintro e w2 ⟨rfl, n2, k2⟩
  rw [Int.one_mul] at n2
  have N2 := hide n2
  have HW := hide (below_kept (below_two (below_new w _) (unhide K1) (by simp)) k2 (Nat.le_refl _))
  clear n2 k2
  go_wp2_with fail
  go_ret
  exact ⟨_, rfl, Nat.le_refl _, unhide N2, unhide HW⟩

end Go.Proofs.YthimcecbgpamdaaGreat

namespace Go.Proofs.YthimcecbgpamdaaGreat
open Go.RowKit

/-- What an append to nothing owns is a slice of words. -/
theorem sl_of_owns {w : World} {base n : Nat} {v : Value} {f : Nat → Int} {xs : List Value} (h : w.ownsRow base 200 1 v n xs) (hx : ∀ i, i < n → xs[i]? = some (.int .u32 (f i))) : Sl w v n f := by
  have h0 := h
  obtain ⟨hl, h1⟩ := h
  rcases h1 with ⟨rfl, rfl⟩ | ⟨g, cap, cur, rfl, hg, hh, hc, hm, hsz, hcur⟩
  · exact Or.inl ⟨rfl, rfl⟩
  · exact Or.inr ⟨g, cap, rfl, hc, hm, lt_of_block hh, fun i hi => by rw [h0.cellAt i (by omega)]; exact hx i hi⟩
theorem below_of_grown {w w' : World} (h : w.grownBy w' none) : Below w.heap.size w w' := ⟨h.os, h.tape, h.output, h.size, fun k hk => h.block k hk (by simp)⟩

set_option maxHeartbeats 400000 in
theorem twin_words (va : Value) (n : Nat) (f : Nat → Int) (hn : n ≤ 100000) (w : World) (ha : Sl w va n f) :
    Calls Tryz.prog 188 #[va] w fun e w' => ∃ v : Value, e = .returned v ∧ Sl w' v n f ∧ Below w.heap.size w w' := by
  obtain ⟨i0, hi, hz0, hz1, hz2⟩ := info_parts Tryz.infoU32
  rcases ha with ⟨rfl, rfl⟩ | ⟨b, cap, rfl, h1, h2, h3, h4⟩
  · go_enter Tryz.func188, Tryz.ntmps188
    go_wp2_with (at_builtin; refine wpList_append_own_none rfl _ _ 168 rfl w.heap.size 200 i0 1 Tryz.underlying168 hi (.slice none 0 0) 0 [] rfl (World.ownsRow_nil _ _ _ _) rfl ?_)
    go_ret
    exact ⟨_, rfl, Or.inl ⟨rfl, rfl⟩, Below.refl _ _⟩
  · have HR := hide h4
    have hnews : ∀ (j : Nat) (u : Value), ((List.range n).map (fun i => Value.int .u32 (f i)))[j]? = some u → w.cell? ((⟨b, 0, none⟩ : Addr).add j) = some u := by
      intro j u hj
      rw [List.getElem?_map] at hj
      rcases Nat.lt_or_ge j n with h | h
      · rw [List.getElem?_range h] at hj
        have := h4 j h
        simp at hj
        subst hj
        have e : (⟨b, 0, none⟩ : Addr).add j = ⟨b, j, none⟩ := by unfold Addr.add; by_cases hj0 : j = 0 <;> simp [hj0]
        rw [e]; exact this
      · rw [List.getElem?_eq_none (by simpa using h)] at hj
        cases hj
    have h1c : ∀ u ∈ (List.range n).map (fun i => Value.int .u32 (f i)), u.oneCell' = true := by
      intro u hu
      obtain ⟨i, _, rfl⟩ := List.mem_map.1 hu
      rfl
    have hx : ∀ i, i < n → ((List.range n).map (fun i => Value.int .u32 (f i)))[i]? = some (.int .u32 (f i)) := by
      intro i hi
      rw [List.getElem?_map, List.getElem?_range hi]; rfl
    have HX := hide hx; have H1C := hide h1c; have HNW := hide hnews
    have hlen : Hid (((List.range n).map (fun i => Value.int .u32 (f i))).length = n * 1) := by show _ = _; simp
    clear h4 hnews h1c hx
    generalize (List.range n).map (fun i => Value.int .u32 (f i)) = news at *
    go_enter Tryz.func188, Tryz.ntmps188
    go_wp2_with (at_builtin; refine wpList_append_own _ rfl _ _ 168 rfl w.heap.size 200 i0 (.int .u32 0) 1 4 Tryz.underlying168 hi hz0 hz1 hz2 rfl (by decide) (.slice none 0 0) 0 [] rfl (World.ownsRow_nil _ _ _ _) ⟨b, 0, none⟩ n cap news rfl (unhide hlen) (unhide HNW) (unhide H1C) (by unfold maxLen; omega) (by omega) (Nat.le_refl _) ?_)
    intro v' w1 hown hgr hnil
    have F := hide (show Sl w1 v' n f ∧ Below w.heap.size w w1 from by
      exact ⟨sl_of_owns hown (unhide HX), below_of_grown hgr⟩)
    clear hown hgr hnil
    go_wp2_with fail
    go_ret
    exact ⟨_, rfl, unhide F⟩

set_option maxHeartbeats 1000000 in
theorem set_any (z bx : Nat) (x : Int) (s0 : Bool) (v0 : Value) (w : World) (hz : IntAt w z (.bool s0) v0) (hx : Num w bx x) (dx : Bd x) :
    Calls Tryz.prog 165 #[.pointer (some ⟨z, 0, none⟩), .pointer (some ⟨bx, 0, none⟩)] w fun e w' =>
      e = .returned (.pointer (some ⟨z, 0, none⟩)) ∧ Num w' z x ∧ Kept z w w' := by
  obtain ⟨xn, xv, n, fa, hx1, hx2, hx3, hx4, hx5, hx6⟩ := hx
  have hn : n ≤ 100 := by
    unfold Bd at dx
    rw [hx5, absZ_sgn (val_bd hx3).1] at dx
    exact len_le hx3 hx4 dx
  have c1 := hx1.cell0; have c2 := hx1.cell1
  have HX2 := hide hx2; have HX3 := hide hx3; have HX4 := hide hx4
  have E := hide hx5
  have HZ := hide hz
  obtain ⟨ao, capa, rfl, -, -, -⟩ := hx2.view
  clear hx1 hx2 hx3 hx4 hx5 hx6 hz dx
  go_enter Tryz.func165, Tryz.ntmps165
  go_wp2_with fail
  refine region_by (S := One bx (.bool xn) (.slice ao n capa))
    [(0, false), (1, false), (2, false), (3, false), (4, false), (5, false), (6, false), (7, false), (8, false), (9, true), (10, true), (11, true)] [10, 11] (by kernel_rfl) (by kernel_rfl) ?_
  have hS : One bx (.bool xn) (.slice ao n capa) w.drew := ⟨c1, c2⟩
  clear c1 c2
  iterate 9
    refine seq_read (v := ?_) rfl (fun _ _ _ h => h) (by rfl) hS ?_ ?_
    rotate_left 1
    · intro wx hwx
      obtain ⟨k1, k2⟩ := hwx
      go_simp <;> exact rfl
    go_frame
  refine seq_do rfl (fun K hK => ?_)
  go_simp
  refine (twin_words _ n fa (by omega) _ (by exact unhide HX2)).mono ?_
  rintro e w1 ⟨v, rfl, h2, h6⟩
  have H2 := hide h2; have H6 := hide h6
  obtain ⟨vo, cap, rfl, -, -, -⟩ := h2.view
  have hS1 := hS.below h6
  refine hK _ _ (fun _ => hS1) ?_
  clear hS hK K h2 h6 hS1
  refine seq_do rfl (fun K hK => ?_)
  go_simp
  refine (give_any z _ _ _ _ _ _ _ (IntAt.below (w := w.drew) (unhide HZ) (unhide H6))).mono ?_
  rintro e w2 ⟨rfl, g1, g2⟩
  refine hK _ _ (fun h => by cases h) ?_
  have F := hide (show Num w2 z x ∧ Kept z w w2 from by
    have hsl := (unhide H2).other g2 (IntAt.below (w := w.drew) (unhide HZ) (unhide H6))
    have hnum := num_of_give g1 hsl (unhide HX3) (unhide HX4)
    rw [← unhide E] at hnum
    exact ⟨hnum, (Kept.of_below (show Below w.heap.size w w1 from ((Drw.refl w).drew.below _).trans (unhide H6))).trans g2 (Or.inl rfl)⟩)
  clear g1 g2 hK K
  refine seq_do rfl (fun K hK => ?_)
  go_simp
  refine hK _ _ (fun h => by cases h) ?_
  clear hK K
  refine seq_end ?_
  go_wp2_with fail
  go_ret
  exact ⟨rfl, (unhide F).1, (unhide F).2⟩

end Go.Proofs.YthimcecbgpamdaaGreat

namespace Go.Proofs.YthimcecbgpamdaaGreat
open Go.RowKit

set_option maxHeartbeats 1000000 in
theorem neg_any (z bx : Nat) (x : Int) (s0 : Bool) (v0 : Value) (w : World) (hz : IntAt w z (.bool s0) v0) (hx : Num w bx x) (dx : Bd x) :
    Calls Tryz.prog 172 #[.pointer (some ⟨z, 0, none⟩), .pointer (some ⟨bx, 0, none⟩)] w fun e w' =>
      e = .returned (.pointer (some ⟨z, 0, none⟩)) ∧ Num w' z (-x) ∧ Kept z w w' := by
  obtain ⟨xn, xv, n, fa, hx1, hx2, hx3, hx4, hx5, hx6⟩ := hx
  have hn : n ≤ 100 := by
    unfold Bd at dx
    rw [hx5, absZ_sgn (val_bd hx3).1] at dx
    exact len_le hx3 hx4 dx
  have c1 := hx1.cell0; have c2 := hx1.cell1
  have HX2 := hide hx2; have HX3 := hide hx3; have HX4 := hide hx4
  have E := hide (show sgnZ (!xn) (val fa n) = -x by rw [hx5]; cases xn <;> simp [sgnZ])
  have HZ := hide hz
  obtain ⟨ao, capa, rfl, -, -, -⟩ := hx2.view
  clear hx1 hx2 hx3 hx4 hx5 hx6 hz dx
  go_enter Tryz.func172, Tryz.ntmps172
  go_wp2_with fail
  refine region_by (S := One bx (.bool xn) (.slice ao n capa))
    [(0, false), (1, false), (2, false), (3, false), (4, false), (5, false), (6, false), (7, false), (8, false), (9, false), (10, true), (11, true), (12, true)] [11, 12] (by kernel_rfl) (by kernel_rfl) ?_
  have hS : One bx (.bool xn) (.slice ao n capa) w.drew := ⟨c1, c2⟩
  clear c1 c2
  iterate 10
    refine seq_read (v := ?_) rfl (fun _ _ _ h => h) (by rfl) hS ?_ ?_
    rotate_left 1
    · intro wx hwx
      obtain ⟨k1, k2⟩ := hwx
      go_simp <;> exact rfl
    go_frame
  refine seq_do rfl (fun K hK => ?_)
  go_simp
  refine (twin_words _ n fa (by omega) _ (by exact unhide HX2)).mono ?_
  rintro e w1 ⟨v, rfl, h2, h6⟩
  have H2 := hide h2; have H6 := hide h6
  obtain ⟨vo, cap, rfl, -, -, -⟩ := h2.view
  have hS1 := hS.below h6
  refine hK _ _ (fun _ => hS1) ?_
  clear hS hK K h2 h6 hS1
  refine seq_do rfl (fun K hK => ?_)
  go_simp
  refine (give_any z _ _ _ _ _ _ _ (IntAt.below (w := w.drew) (unhide HZ) (unhide H6))).mono ?_
  rintro e w2 ⟨rfl, g1, g2⟩
  refine hK _ _ (fun h => by cases h) ?_
  have F := hide (show Num w2 z (-x) ∧ Kept z w w2 from by
    have hsl := (unhide H2).other g2 (IntAt.below (w := w.drew) (unhide HZ) (unhide H6))
    have hnum := num_of_give g1 hsl (unhide HX3) (unhide HX4)
    rw [unhide E] at hnum
    exact ⟨hnum, (Kept.of_below (show Below w.heap.size w w1 from ((Drw.refl w).drew.below _).trans (unhide H6))).trans g2 (Or.inl rfl)⟩)
  clear g1 g2 hK K
  refine seq_do rfl (fun K hK => ?_)
  go_simp
  refine hK _ _ (fun h => by cases h) ?_
  clear hK K
  refine seq_end ?_
  go_wp2_with fail
  go_ret
  exact ⟨rfl, (unhide F).1, (unhide F).2⟩

end Go.Proofs.YthimcecbgpamdaaGreat
