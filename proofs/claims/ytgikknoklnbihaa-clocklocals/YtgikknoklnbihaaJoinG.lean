/- Joined: BigRight, BigDiv1. -/
import Derived.Test.YtgikknoklnbihaaJoinF
import Derived.Test.YtgikknoklnbihaaJoinE
namespace Go.Proofs.Ytgikknoklnbihaa
open Go.RowKit

/-- One word of a shift to the right. -/
theorem right_word {a b : Int} {s : Nat} (hs : s < 32) (a0 : 0 ≤ a) (a1 : a < 4294967296) :
    0 ≤ (b * 4294967296 + a) / 2 ^ s % 4294967296 ∧ (b * 4294967296 + a) / 2 ^ s % 4294967296 < 4294967296 ∧
    (b * 4294967296 + a) / 2 ^ s % 4294967296 * 2 ^ s = a - a % 2 ^ s + b % 2 ^ s * 4294967296 := by
  have hp := two_pos s
  have hq := two_pos (32 - s)
  have h32 : (2 : Int) ^ s * 2 ^ (32 - s) = 4294967296 := by rw [← Int.pow_add, show s + (32 - s) = 32 by omega]; rfl
  obtain ⟨P, eP⟩ : ∃ P : Int, 2 ^ s = P := ⟨_, rfl⟩
  obtain ⟨Q, eQ⟩ : ∃ Q : Int, 2 ^ (32 - s) = Q := ⟨_, rfl⟩
  rw [eP] at hp h32 ⊢
  rw [eQ] at hq h32
  clear eP eQ
  have ea : P * (a / P) + a % P = a := Int.mul_ediv_add_emod a P
  have eb : P * (b / P) + b % P = b := Int.mul_ediv_add_emod b P
  have ra0 : 0 ≤ a % P := Int.emod_nonneg _ (by omega)
  have ra1 : a % P < P := Int.emod_lt_of_pos _ hp
  have rb0 : 0 ≤ b % P := Int.emod_nonneg _ (by omega)
  have rb1 : b % P < P := Int.emod_lt_of_pos _ hp
  have qa0 : 0 ≤ a / P := Int.ediv_nonneg a0 (by omega)
  have qa1 : a / P < Q := by rw [Int.ediv_lt_iff_lt_mul hp, Int.mul_comm, h32]; exact a1
  have e1 : (b * 4294967296 + a) / P = b * Q + a / P := by
    apply ediv_of hp
    · rw [Int.mul_add, Int.mul_left_comm, h32]; omega
    · rw [Int.mul_add, Int.mul_left_comm, h32]; omega
  have e2 : b * Q + a / P = (b % P * Q + a / P) + 4294967296 * (b / P) := by
    have : b * Q = P * (b / P) * Q + b % P * Q := by rw [← Int.add_mul, eb]
    rw [this, Int.mul_right_comm, h32]; omega
  have m0 : 0 ≤ b % P * Q := Int.mul_nonneg rb0 (by omega)
  have m1 : b % P * Q + Q ≤ 4294967296 := by
    have := Int.mul_le_mul_of_nonneg_right (show b % P + 1 ≤ P by omega) (Int.le_of_lt hq)
    rw [h32, Int.add_mul, Int.one_mul] at this
    exact this
  have e3 : (b * 4294967296 + a) / P % 4294967296 = b % P * Q + a / P := by
    rw [e1, e2, Int.add_mul_emod_self_left, Int.emod_eq_of_lt (by omega) (by omega)]
  rw [e3]
  refine ⟨by omega, by omega, ?_⟩
  rw [Int.add_mul, Int.mul_assoc, Int.mul_comm Q P, h32, Int.mul_comm (a / P)]
  omega

/-- What a shift to the right has laid of the words h. -/
theorem right_step {h g : Nat → Int} {s k : Nat} {x : Int} (hv : val g k * 2 ^ s = val h k - h 0 % 2 ^ s + h k % 2 ^ s * 4294967296 ^ k) (hx : x * 2 ^ s = h k - h k % 2 ^ s + h (k + 1) % 2 ^ s * 4294967296) :
    val (upd g k x) (k + 1) * 2 ^ s = val h (k + 1) - h 0 % 2 ^ s + h (k + 1) % 2 ^ s * 4294967296 ^ (k + 1) := by
  rw [val_upd, Int.add_mul, hv, Int.mul_right_comm, hx]
  show _ = val h k + h k * 4294967296 ^ k - h 0 % 2 ^ s + h (k + 1) % 2 ^ s * 4294967296 ^ (k + 1)
  rw [Int.pow_succ, Int.mul_comm (4294967296 ^ k) 4294967296, ← Int.mul_assoc, Int.add_mul, Int.sub_mul]
  omega

set_option maxHeartbeats 1000000 in
theorem right_core (ao : Option Addr) (n cap ww s : Nat) (fa : Nat → Int) (h0 : ww < n) (hn : n ≤ 100000) (hs : s < 32) (w : World) (ha : Has w ao n fa) (wa : Wd n fa) :
    Calls Try.prog 78 #[.slice ao n cap, .int .u64 ((32 * ww + s : Nat) : Int)] w fun e w' =>
      ∃ (v : Value) (l : Nat) (f : Nat → Int), e = .returned v ∧ Sl w' v l f ∧ Wd l f ∧ Nm l f ∧ val f l = val fa n / 4294967296 ^ ww / 2 ^ s ∧ Below w.heap.size w w' := by
  have hmk := fun wx => run_make_row' (P := Try.prog) 53 66 (.int .u32 0) 4 Try.underlying53 Try.infoU32 rfl .i64 .i64 (n - ww) (by omega) (by omega) wx
  rw [show ((n - ww : Nat) : Int) = (n : Int) - (ww : Int) by omega] at hmk
  obtain ⟨p, ep⟩ : ∃ p : Int, ((32 * ww + s : Nat) : Int) = p := ⟨_, rfl⟩
  have e1 : p / 32 = (ww : Int) := by omega
  have e2 : p % 32 = (s : Int) := by omega
  have p0 : 0 ≤ p := by omega
  have p1 : p < 4000000 := by omega
  rw [ep]
  obtain ⟨h, eh⟩ : ∃ h : Nat → Int, h = fun i => padF n fa (ww + i) := ⟨_, rfl⟩
  have hh1 : ∀ i, ww + i < n → h i = fa (ww + i) := fun i hi => by rw [eh]; exact if_pos hi
  have hh2 : ∀ i, ¬ ww + i < n → h i = 0 := fun i hi => by rw [eh]; exact if_neg hi
  have hhw : ∀ i, 0 ≤ h i ∧ h i < 4294967296 := fun i => by
    by_cases hi : ww + i < n
    · rw [hh1 i hi]; exact wa _ hi
    · rw [hh2 i hi]; exact ⟨Int.le_refl _, by decide⟩
  have EV := hide (show val fa n / 4294967296 ^ ww = val h (n - ww) from by
    have e := val_split fa ww (n - ww)
    rw [show ww + (n - ww) = n by omega] at e
    have b := val_bd (wa.less (show ww ≤ n by omega))
    rw [e, Int.add_comm, Int.mul_add_ediv_left' _ _ (pow_pos ww) b.1 b.2]
    exact val_congr (fun i hi => (hh1 i (by omega)).symm))
  have HA := hide ha; have H1 := hide hh1; have H2 := hide hh2; have HW := hide hhw
  clear ha wa ep eh hh1 hh2 hhw
  go_enter Try.func78, Try.ntmps78
  go_wp2_with fail
  clear hmk e1
  go_loopw [8, 9] (fun is _ wr => ∃ (k : Nat) (g : Nat → Int), is = .int .i64 k ∧ k ≤ n - ww ∧ Own wr w.heap.size (n - ww) g ∧ (∀ j, 0 ≤ g j ∧ g j < 4294967296) ∧ val g k * 2 ^ s = val h k - h 0 % 2 ^ s + h k % 2 ^ s * 4294967296 ^ k ∧ Below w.heap.size w wr)
    (fun is _ _ => n - ww - (intOf is).toNat)
  case atStart => exact ⟨0, _, rfl, Nat.zero_le _, own_made w (n - ww), fun _ => ⟨Int.le_refl _, by decide⟩, by show 0 * _ = 0 - h 0 % 2 ^ s + h 0 % 2 ^ s * 4294967296 ^ 0; simp; omega, below_new w _⟩
  case round =>
    obtain ⟨k, g, rfl, hk, hO, hG, hv, hB⟩ := hrel
    have HO := hide hO; have HG := hide hG; have HV := hide hv; have HB := hide hB
    clear hO hG hv hB
    by_cases hkn : k < n - ww
    · obtain ⟨ba, rfl, hba, hra⟩ := Has.below' (unhide HA) (unhide HB) (by omega)
      have ca := hra (k + ww) (by omega)
      rw [show fa (k + ww) = h k by rw [unhide H1 k (by omega), Nat.add_comm]] at ca
      obtain ⟨a0, a1⟩ := unhide HW k
      obtain ⟨b0, b1⟩ := unhide HW (k + 1)
      have co := (unhide HO).cell (show k < n - ww by omega)
      have fo := (unhide HO).free k
      obtain ⟨q0, q1, q2⟩ := right_word (b := h (k + 1)) hs a0 a1
      have HS := hide (right_step (unhide HV) q2)
      have eo := or_join32' (h (k + 1)) (h k) b0 b1 a0 a1
      obtain ⟨y, ey⟩ : ∃ y, h (k + 1) * 4294967296 + h k = y := ⟨_, rfl⟩
      have y0 : 0 ≤ y := by omega
      have y1 : y < 18446744073709551616 := by omega
      rw [ey] at eo q0 q1 HS
      have z0 : 0 ≤ y / 2 ^ s := Int.ediv_nonneg y0 (Int.le_of_lt (two_pos s))
      have z1 : y / 2 ^ s ≤ y := Int.ediv_le_self _ y0
      clear q2
      by_cases hl : ww + k + 1 < n
      · have ca2 := hra (k + ww + 1) (by omega)
        rw [show fa (k + ww + 1) = h (k + 1) by rw [unhide H1 (k + 1) (by omega)]; congr 1; omega] at ca2
        clear hra ey
        go_wp2_with fail
        go_roundw
        case rel => exact ⟨k + 1, _, by go_num, by omega, (unhide HO).set k _, rng_upd (unhide HG) q0 q1, unhide HS, (unhide HB).setCell (Nat.le_refl _) _⟩
        case measure => simp [intOf]; omega
      · have e0 : h (k + 1) = 0 := unhide H2 (k + 1) (by omega)
        have ey2 : h k = y := by rw [e0] at ey; omega
        rw [ey2] at ca
        clear hra ey eo e0 a0 a1 b0 b1
        go_wp2_with fail
        go_roundw
        case rel => exact ⟨k + 1, _, by go_num, by omega, (unhide HO).set k _, rng_upd (unhide HG) q0 q1, unhide HS, (unhide HB).setCell (Nat.le_refl _) _⟩
        case measure => simp [intOf]; omega
    · have hkn2 : k = n - ww := by omega
      subst hkn2
      have E1 := hide (show val g (n - ww) = val fa n / 4294967296 ^ ww / 2 ^ s from by
        have hv := unhide HV
        rw [unhide H2 (n - ww) (by omega), Int.zero_emod, Int.zero_mul] at hv
        have m0 := Int.emod_nonneg (h 0) (show (2 : Int) ^ s ≠ 0 by have := two_pos s; omega)
        have m1 := Int.emod_lt_of_pos (h 0) (two_pos s)
        rw [unhide EV]
        symm
        apply ediv_of (two_pos s)
        · rw [Int.mul_comm]; omega
        · rw [Int.mul_comm]; omega)
      have HWD := hide (show Wd (n - ww) g from fun i _ => unhide HG i)
      have HOL := hide (unhide HO).lt
      go_wp2_with fail
      refine (trim_core w.heap.size (n - ww) (n - ww) g (Nat.le_refl _) (by omega) _ (unhide HO).row).mono ?_
      rintro e w1 ⟨l, rfl, hl, hz, hnm, rfl⟩
      have F := hide (show Sl w1 (.slice (some ⟨w.heap.size, 0, none⟩) l (n - ww)) l g ∧ Wd l g ∧ Nm l g ∧ val g l = val fa n / 4294967296 ^ ww / 2 ^ s ∧ Below w.heap.size w w1 from
        ⟨Or.inr ⟨_, _, rfl, hl, by omega, unhide HOL, (unhide HO).row.less hl⟩, (unhide HWD).less hl, hnm, by rw [← val_noughts hl hz]; exact unhide E1, unhide HB⟩)
      clear hz hnm
      go_wp2_with fail
      go_ret
      exact ⟨_, l, _, rfl, unhide F⟩

/-- A list of words shifted to the right. -/
theorem right_words (va : Value) (n p : Nat) (fa : Nat → Int) (hn : n ≤ 100000) (hp : p ≤ 3000000) (w : World) (ha : Sl w va n fa) (wa : Wd n fa) :
    Calls Try.prog 78 #[va, .int .u64 (p : Int)] w fun e w' =>
      ∃ (v : Value) (l : Nat) (f : Nat → Int), e = .returned v ∧ Sl w' v l f ∧ Wd l f ∧ Nm l f ∧ val f l = val fa n / 2 ^ p ∧ Below w.heap.size w w' := by
  obtain ⟨ao, cap, rfl, -, -, ha⟩ := ha.view
  rcases Nat.lt_or_ge (p / 32) n with h0 | h0
  · have h := right_core ao n cap (p / 32) (p % 32) fa h0 hn (by omega) w ha wa
    rw [show 32 * (p / 32) + p % 32 = p by omega] at h
    refine h.mono ?_
    rintro e w' ⟨v, l, f, h1, h2, h3, h4, h5, h6⟩
    refine ⟨v, l, f, h1, h2, h3, h4, ?_, h6⟩
    rw [h5, pow32, Int.ediv_ediv_of_nonneg (Int.le_of_lt (two_pos _)), ← Int.pow_add, show 32 * (p / 32) + p % 32 = p by omega]
  · have EV := hide (show val fa n / 2 ^ p = 0 from by
      have b := val_bd wa
      refine Int.ediv_eq_zero_of_lt b.1 (Int.lt_of_lt_of_le b.2 ?_)
      rw [pow32]
      exact pow_le_two (by omega))
    clear ha wa
    obtain ⟨q, eq⟩ : ∃ q : Int, (p : Int) = q := ⟨_, rfl⟩
    obtain ⟨ww, eww⟩ : ∃ ww : Nat, p / 32 = ww := ⟨_, rfl⟩
    have e1 : q / 32 = (ww : Int) := by omega
    have q0 : 0 ≤ q := by omega
    have q1 : q < 4000000 := by omega
    rw [eq]
    rw [eww] at h0
    clear eq eww
    go_enter Try.func78, Try.ntmps78
    go_wp2_with fail
    go_ret
    exact ⟨_, 0, fa, rfl, Or.inl ⟨rfl, rfl⟩, fun i hi => absurd hi (by omega), Or.inl rfl, by rw [unhide EV]; rfl, Below.refl _ _⟩

end Go.Proofs.Ytgikknoklnbihaa

namespace Go.Proofs.Ytgikknoklnbihaa
open Go.RowKit

set_option maxHeartbeats 1000000 in
set_option maxRecDepth 100000 in
theorem div_one (X Y : Int) (h0 : 0 < Y) (h : 18446744073709551616 ≤ X) (h1 : Y < 4294967296) : DivOK X Y := by
  intro n m fa fb va vb w ha hb wa wb na nb hn hm hX hY
  have m0 : m ≠ 0 := by
    intro h2
    subst h2
    have : val fb 0 = 0 := rfl
    omega
  obtain rfl : m = 1 := by
    have := len_le (k := 1) wb nb (show val fb m < 4294967296 by omega)
    omega
  have n3 : 3 ≤ n := by
    rcases Nat.lt_or_ge n 3 with h2 | h2
    · have := (val_bd wa).2
      have h3 : (4294967296 : Int) ^ n ≤ 4294967296 ^ 2 := by rw [pow32, pow32]; exact pow_le_two (by omega)
      have h4 : (4294967296 : Int) ^ 2 = 18446744073709551616 := by decide
      omega
    · exact h2
  have c0 : 0 ≤ cmpZ (val fa n) (val fb 1) := by unfold cmpZ; rw [if_neg (by omega)]; split <;> decide
  obtain rfl : fb 0 = Y := by rw [← hY]; show fb 0 = 0 + fb 0 * 4294967296 ^ 0; simp
  have HA := hide ha; have HB := hide hb; have WA := hide wa; have WB := hide wb; have NA := hide na; have NB := hide nb; have HX := hide hX
  obtain ⟨ao, capa, rfl, -, -, -⟩ := ha.view
  rcases hb with ⟨-, h2⟩ | ⟨bb, capb, rfl, -, -, hbb, hrb⟩
  · cases h2
  have cb := hrb 0 (by omega)
  have r0 : 0 ≤ X % fb 0 := Int.emod_nonneg _ (by omega)
  have r1 : X % fb 0 < fb 0 := Int.emod_lt_of_pos _ h0
  clear ha wa wb na nb hX hY hrb m0 h
  go_enter Try.func67, Try.ntmps67
  go_wp2_with fail
  refine (cmp_words _ _ n 1 fa fb (by omega) (by omega) _ (unhide HA) (unhide HB) (unhide WA) (unhide WB) (unhide NA) (unhide NB)).mono ?_
  rintro e w1 ⟨rfl, hd⟩
  have HD := hide (hd.below w.heap.size)
  have cb1 := cell_below cb (unhide HD)
  clear hd
  go_wp2_with fail
  refine (small_any _ n fa (fb 0) h0 h1 (by omega) _ ((unhide HA).below (unhide HD)) (unhide WA)).mono ?_
  rintro e w2 ⟨v1, l1, f1, rfl, s1, d1, m1, e1, b1⟩
  rw [unhide HX] at e1
  have S1 := hide s1; have D1 := hide d1; have M1 := hide m1; have E1 := hide e1
  have B2 := hide (below_two (unhide HD) b1 (unhide HD).size)
  clear s1 d1 m1 e1 b1
  rw [unhide HX]
  obtain ⟨r, er⟩ : ∃ r, X % fb 0 = r := ⟨_, rfl⟩
  rw [er] at r0 r1 ⊢
  go_wp2_with fail
  have hr : Row (w2.alloc (.cells #[.int .u32 r] 66)) w2.heap.size 1 (fun _ => r) := by
    intro i hi
    rw [World.cell?_alloc_new]
    match i, hi with
    | 0, _ => rfl
  refine (trim_core w2.heap.size 1 1 _ (by decide) (by decide) _ hr).mono ?_
  rintro e w3 ⟨l, rfl, hl, hz, hnm, rfl⟩
  have F := hide (show Sl (w2.alloc (.cells #[.int .u32 r] 66)) v1 l1 f1 ∧ Wd l1 f1 ∧ Nm l1 f1 ∧ Sl (w2.alloc (.cells #[.int .u32 r] 66)) (.slice (some ⟨w2.heap.size, 0, none⟩) l 1) l (fun _ => r) ∧ Wd l (fun _ => r) ∧ Nm l (fun _ => r) ∧ val f1 l1 = X / fb 0 ∧ val (fun _ => r) l = X % fb 0 ∧ Below w.heap.size w (w2.alloc (.cells #[.int .u32 r] 66)) from by
    refine ⟨(unhide S1).below (below_new w2 _), unhide D1, unhide M1, Or.inr ⟨_, _, rfl, hl, by decide, by simp, hr.less hl⟩, fun _ _ => ⟨r0, show r < 4294967296 by omega⟩, hnm, unhide E1, ?_, below_two (unhide B2) (below_new w2 _) (unhide B2).size⟩
    rw [← val_noughts hl hz, er]
    show 0 + r * 4294967296 ^ 0 = r
    simp)
  clear hr hz hnm
  go_wp2_with fail
  go_ret2
  exact ⟨_, _, l1, l, f1, _, rfl, unhide F⟩

end Go.Proofs.Ytgikknoklnbihaa
