/- Contracts of the reference's whole numbers of any size: of and SetBit for numbers not below nought, where the bit was nought. -/
import Derived.Test.YthkfdlfgehdppaaBigLow
namespace Go.Proofs.Ythkfdlfgehdppaa
open Go.RowKit

theorem nat_keep (a s : Nat) (hs : s < 32) (ha : a < 4294967296) (hb : a / 2 ^ s % 2 = 0) : a &&& (4294967295 - 2 ^ s) = a := by
  apply Nat.eq_of_testBit_eq
  intro j
  rw [Nat.testBit_and, show 4294967295 - 2 ^ s = 2 ^ 32 - (2 ^ s + 1) by omega, Nat.testBit_two_pow_sub_succ (Nat.pow_lt_pow_right (by decide) hs), Nat.testBit_two_pow]
  by_cases h1 : j < 32
  · by_cases h2 : s = j
    · subst h2
      have : a.testBit s = false := by rw [Nat.testBit_eq_decide_div_mod_eq, hb]; rfl
      rw [this]; rfl
    · simp [h1, h2]
  · have : a.testBit j = false := Nat.testBit_lt_two_pow (Nat.lt_of_lt_of_le ha (show 2 ^ 32 ≤ 2 ^ j from Nat.pow_le_pow_right (by decide) (by omega)))
    rw [this]; rfl
theorem nat_setbit (a s : Nat) (hb : a / 2 ^ s % 2 = 0) : a ||| 2 ^ s = a + 2 ^ s := by
  have e1 := Nat.div_add_mod a (2 ^ (s + 1))
  have hm : a % 2 ^ (s + 1) < 2 ^ s := by
    rw [Nat.pow_succ, Nat.mod_mul, hb]
    have := Nat.mod_lt a (Nat.two_pow_pos s)
    omega
  have hp : 2 ^ (s + 1) = 2 ^ s + 2 ^ s := by rw [Nat.pow_succ]; omega
  have j1 := nat_join (s + 1) (2 ^ (s + 1) * (a / 2 ^ (s + 1))) (a % 2 ^ (s + 1)) (Nat.mul_mod_right _ _) (by omega)
  have j2 := nat_join s (2 ^ s) (a % 2 ^ (s + 1)) (Nat.mod_self _) hm
  have j3 := nat_join (s + 1) (2 ^ (s + 1) * (a / 2 ^ (s + 1))) (2 ^ s + a % 2 ^ (s + 1)) (Nat.mul_mod_right _ _) (by omega)
  have : a ||| 2 ^ s = (2 ^ (s + 1) * (a / 2 ^ (s + 1)) ||| a % 2 ^ (s + 1)) ||| 2 ^ s := by rw [j1, e1]
  rw [this, Nat.or_assoc, Nat.or_comm (a % 2 ^ (s + 1)), j2, j3]
  omega
theorem word_setbit (a : Int) (s : Nat) (hs : s < 32) (a0 : 0 ≤ a) (a1 : a < 4294967296) (hb : a / 2 ^ s % 2 = 0) :
    bits .andNot .u32 a (2 ^ s) = a ∧ bits .or .u32 a (2 ^ s) = a + 2 ^ s ∧ a + 2 ^ s < 4294967296 := by
  obtain ⟨a, rfl⟩ := Int.eq_ofNat_of_zero_le a0
  have c : ((2 : Int) ^ s) = ((2 ^ s : Nat) : Int) := by simp
  rw [c] at hb ⊢
  have hb2 : a / 2 ^ s % 2 = 0 := by omega
  have hl : 2 ^ s < 4294967296 := show 2 ^ s < 2 ^ 32 from Nat.pow_lt_pow_right (by decide) hs
  refine ⟨by rw [u32_andNot_nat a _ (by omega) hl, nat_keep a s hs (by omega) hb2], by rw [u32_or_nat a _ (by omega) hl, nat_setbit a s hb2]; omega, ?_⟩
  have e := nat_setbit a s hb2
  have := Nat.or_lt_two_pow (x := a) (y := 2 ^ s) (n := 32) (by omega) (by omega)
  omega

set_option maxHeartbeats 400000 in
theorem intOf_any (z b n cap : Nat) (g : Nat → Int) (h0 : 0 < n) (hc : n ≤ cap) (hm : cap ≤ 1000000) (ht : g (n - 1) = 0) (s0 : Bool) (v0 : Value) (w : World) (hz : IntAt w z (.bool s0) v0) (hb : b < w.heap.size) (hr : Row w b n g) (hw : Wd n g) :
    Calls Try.prog 72 #[.pointer (some ⟨z, 0, none⟩), .slice (some ⟨b, 0, none⟩) n cap] w fun e w' =>
      e = .returned (.pointer (some ⟨z, 0, none⟩)) ∧ Num w' z (val g n) ∧ Kept z w w' := by
  obtain ⟨m, rfl⟩ : ∃ m, n = m + 1 := ⟨n - 1, by omega⟩
  have hc1 := hr m (by omega)
  rw [show g m = 0 from ht] at hc1
  have HR := hide hr; have HW := hide hw; have HZ := hide hz
  clear hr hw hz ht
  go_enter Try.func72, Try.ntmps72
  go_wp2_with fail
  refine (trim_core b cap (m + 1) g hc (by omega) _ (unhide HR)).mono ?_
  rintro e w1 ⟨l, rfl, hl, hz, hnm, rfl⟩
  have F := hide (show Sl w1 (.slice (some ⟨b, 0, none⟩) l cap) l g ∧ Wd l g ∧ Nm l g ∧ val g (m + 1) = val g l from
    ⟨Or.inr ⟨_, _, rfl, by omega, by omega, hb, (unhide HR).less hl⟩, (unhide HW).less hl, hnm, val_noughts hl hz⟩)
  clear hz hnm
  go_wp2_with fail
  refine (give_any z _ _ _ false _ _ _ (unhide HZ)).mono ?_
  rintro e w2 ⟨rfl, hi, hk⟩
  have G := hide (show Num w2 z (val g (m + 1)) ∧ Kept z w1 w2 from by
    have hnum := num_of_give hi ((unhide F).1.other hk (unhide HZ)) (unhide F).2.1 (unhide F).2.2.1
    rw [(unhide F).2.2.2]
    exact ⟨hnum, hk⟩)
  clear hi hk
  go_wp2_with fail
  go_ret
  exact ⟨rfl, (unhide G).1, (unhide G).2⟩

/-- What SetBit lays. -/
theorem setbit_val {f : Nat → Int} {l k i : Nat} (hl : l ≤ k) (hi : i / 32 < k) (hw : Wd l f) (hb : val f l / 2 ^ i % 2 = 0) :
    let g := padF l f
    0 ≤ g (i / 32) ∧ bits .andNot .u32 (g (i / 32)) (2 ^ (i % 32)) = g (i / 32) ∧ bits .or .u32 (g (i / 32)) (2 ^ (i % 32)) = g (i / 32) + 2 ^ (i % 32) ∧ g (i / 32) + 2 ^ (i % 32) < 4294967296 ∧
    Wd (k + 1) (upd (upd g (i / 32) (g (i / 32))) (i / 32) (g (i / 32) + 2 ^ (i % 32))) ∧ upd (upd g (i / 32) (g (i / 32))) (i / 32) (g (i / 32) + 2 ^ (i % 32)) k = 0 ∧
    val (upd (upd g (i / 32) (g (i / 32))) (i / 32) (g (i / 32) + 2 ^ (i % 32))) (k + 1) = val f l + 2 ^ i := by
  intro g
  have hg : ∀ j, 0 ≤ g j ∧ g j < 4294967296 := by
    intro j
    show 0 ≤ (if j < l then f j else 0) ∧ (if j < l then f j else 0) < 4294967296
    split
    · rename_i h; exact hw j h
    · exact ⟨Int.le_refl _, by decide⟩
  have hv : val g (k + 1) = val f l := val_pad f (by omega)
  have hbit := val_bit (f := g) (n := k + 1) (i := i) (fun j _ => hg j) (by omega)
  rw [hv, hb] at hbit
  obtain ⟨w1, w2, w3⟩ := word_setbit (g (i / 32)) (i % 32) (by omega) (hg _).1 (hg _).2 hbit.symm
  have hp := two_pos (i % 32)
  refine ⟨(hg _).1, w1, w2, w3, ?_, ?_, ?_⟩
  · intro j _
    unfold upd
    split
    · have := (hg (i / 32)).1; omega
    · exact hg j
  · rw [upd_other _ _ (by omega), upd_other _ _ (by omega)]
    show (if k < l then f k else 0) = 0
    rw [if_neg (by omega)]
  · rw [val_upd_at _ _ _ (by omega), val_upd_at _ _ _ (by omega), upd_same, hv]
    have e : (2 : Int) ^ i = 2 ^ (i % 32) * 4294967296 ^ (i / 32) := by rw [pow32, ← Int.pow_add, show i % 32 + 32 * (i / 32) = i by omega]
    rw [e, show g (i / 32) + 2 ^ (i % 32) - g (i / 32) = 2 ^ (i % 32) by omega, Int.sub_self, Int.zero_mul]
    omega

set_option maxHeartbeats 1000000 in
theorem setBit_any (z bx i : Nat) (x : Int) (hi : i ≤ 3000) (x0 : 0 ≤ x) (hbit : x / 2 ^ i % 2 = 0) (s0 : Bool) (v0 : Value) (w : World) (hz : IntAt w z (.bool s0) v0) (hx : Num w bx x) (dx : Bd x) :
    Calls Try.prog 58 #[.pointer (some ⟨z, 0, none⟩), .pointer (some ⟨bx, 0, none⟩), .int .i64 (i : Int), .int .u64 1] w fun e w' =>
      e = .returned (.pointer (some ⟨z, 0, none⟩)) ∧ Num w' z (x + 2 ^ i) ∧ Kept z w w' := by
  obtain ⟨xn, xv, n, fa, hx1, hx2, hx3, hx4, hx5, hx6⟩ := hx
  have hn : n ≤ 100 := by
    unfold Bd at dx
    rw [hx5, absZ_sgn (val_bd hx3).1] at dx
    exact len_le hx3 hx4 dx
  obtain rfl : xn = false := by
    cases xn
    · rfl
    · rcases Nat.eq_zero_or_pos n with h | h
      · exact hx6 h
      · have := val_pos hx3 hx4 (by omega)
        have e : x = - val fa n := hx5
        omega
  obtain rfl : x = val fa n := hx5
  obtain ⟨ao, cap, rfl, -, -, -⟩ := hx2.view
  have c1 := hx1.cell1
  obtain ⟨k, hk1, hk2, hk3, hk4, hk5⟩ : ∃ k : Nat, n ≤ k ∧ i / 32 < k ∧ k ≤ 200 ∧ (n < i / 32 + 1 → k = i / 32 + 1) ∧ (i / 32 + 1 ≤ n → k = n) := by
    rcases Nat.lt_or_ge n (i / 32 + 1) with h | h
    · exact ⟨i / 32 + 1, by omega, by omega, by omega, fun _ => rfl, fun h => by omega⟩
    · exact ⟨n, by omega, by omega, by omega, fun h => by omega, fun _ => rfl⟩
  obtain ⟨b0, q1, q2, q3, q4, q5, q6⟩ := setbit_val (l := n) (k := k) (i := i) hk1 hk2 hx3 hbit
  have hpl := pow_le_two (show i % 32 ≤ 31 by omega)
  have e1 : (2 : Int) ^ (i % 32) % 4294967296 = 2 ^ (i % 32) := Int.emod_eq_of_lt (Int.le_of_lt (two_pos _)) (Int.lt_of_le_of_lt hpl (by decide))
  have e2 : bits .and .u64 1 1 % 4294967296 = 1 := by rw [u64_and _ _ (by omega) (by omega) (by omega) (by omega)]; rfl
  clear hpl
  have HX1 := hide hx1; have HX2 := hide hx2; have HZ := hide hz
  have Q4 := hide q4; have Q5 := hide q5; have Q6 := hide q6
  clear hx1 hx2 hx3 hx4 hx6 dx hz q4 q5 q6 x0 hbit
  go_enter Try.func58, Try.ntmps58
  go_wp2_with fail
  all_goals
    first
    | rw [show ((n : Int) + 1) = ((k + 1 : Nat) : Int) by omega]
    | rw [show ((i : Int) / 32 + 1 + 1) = ((k + 1 : Nat) : Int) by omega]
    refine (low_any bx (k + 1) n cap ao fa (by omega) (by omega) w (unhide HX1) (unhide HX2)).mono ?_
    rintro e w1 ⟨rfl, ho, hb⟩
    have co := ho.cell (show i / 32 < k + 1 by omega)
    have fo := ho.free (i / 32)
    have ho2 := ho.set (i / 32) (padF n fa (i / 32))
    have co2 := ho2.cell (show i / 32 < k + 1 by omega)
    rw [upd_same] at co2
    have fo2 := ho2.free (i / 32)
    have HO := hide ho; have HB := hide hb; have HO2 := hide ho2
    clear ho hb ho2
    go_wp2_with fail
    have ho3 := (unhide HO2).set (i / 32) (padF n fa (i / 32) + 2 ^ (i % 32))
    have HB2 := hide (((unhide HB).setCell (p := ⟨w.heap.size, i / 32, none⟩) (Nat.le_refl w.heap.size) (Value.int .u32 (padF n fa (i / 32)))).setCell (p := ⟨w.heap.size, i / 32, none⟩) (Nat.le_refl w.heap.size) (Value.int .u32 (padF n fa (i / 32) + 2 ^ (i % 32))))
    refine (intOf_any z w.heap.size (k + 1) (k + 1) _ (by omega) (Nat.le_refl _) (by omega) (unhide Q5) s0 v0 _ ((unhide HZ).below (unhide HB2)) ho3.lt ho3.row (unhide Q4)).mono ?_
    rintro e w2 ⟨rfl, hnum, hk⟩
    rw [unhide Q6] at hnum
    have F := hide (show Num w2 z (val fa n + 2 ^ i) ∧ Kept z w w2 from ⟨hnum, (Kept.of_below (unhide HB2)).trans hk (Or.inl rfl)⟩)
    clear hnum hk ho3 co co2 fo fo2
    go_wp2_with fail
    go_ret
    exact ⟨rfl, (unhide F).1, (unhide F).2⟩

end Go.Proofs.Ythkfdlfgehdppaa
