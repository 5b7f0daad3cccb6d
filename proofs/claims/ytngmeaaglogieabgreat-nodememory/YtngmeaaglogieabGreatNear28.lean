/- Joined: SumMore, SumBits. -/
import Derived.Test.YtngmeaaglogieabGreatSumStep
import Derived.Test.YtngmeaaglogieabGreatByteMem
import Derived.Laws.BitsLemmas
namespace Go.Proofs.YtngmeaaglogieabGreat
open Go.RowKit

/-- Where the register begins. -/
def bgS (s : Int) : Nat := 4294967295 - (s % 4294967296).toNat
theorem bgS_lt (s : Int) : bgS s < 4294967296 := by unfold bgS; omega
/-- What More answers. -/
def moreN (s : Int) (g : Nat → Nat) (n : Nat) : Nat := 4294967295 - cF (bgS s) g n
theorem moreN_lt (s : Int) (g : Nat → Nat) (n : Nat) : moreN s g n < 4294967296 := by unfold moreN; omega

theorem not32 (x : Nat) (h : x < 4294967296) : 4294967295 ^^^ x = 4294967295 - x := by
  have e : BitVec.allOnes 32 ^^^ BitVec.ofNat 32 x = ~~~ BitVec.ofNat 32 x := BitVec.allOnes_xor
  have e2 := congrArg BitVec.toNat e
  rw [BitVec.toNat_xor, BitVec.toNat_not, BitVec.toNat_allOnes, BitVec.toNat_ofNat, Nat.mod_eq_of_lt (by omega)] at e2
  exact e2
theorem u32_not (x : Nat) (h : x < 4294967296) : bits .xor .u32 IntKind.u32.max (x : Int) = ((4294967295 - x : Nat) : Int) := by
  have e : IntKind.u32.max = ((4294967295 : Nat) : Int) := by decide
  rw [e, u32_xor_nat 4294967295 x (by omega) h, not32 x h]
theorem beg_not (s : Int) : bits .xor .u32 IntKind.u32.max (s % 4294967296) = (bgS s : Nat) := by
  have e : s % 4294967296 = (((s % 4294967296).toNat : Nat) : Int) := by omega
  rw [e, u32_not _ (by omega)]
  rfl
theorem u8_mix (x c : Nat) (hc : c < 256) : bits .xor .u8 (((x % 256 : Nat) : Int)) (c : Int) = ((x % 256 ^^^ c : Nat) : Int) := u8_xor_nat _ _ (by omega) hc
theorem mix_lt (x c : Nat) (hc : c < 256) : x % 256 ^^^ c < 256 := Nat.xor_lt_two_pow (n := 8) (by omega) hc

set_option maxRecDepth 100000 in
set_option maxHeartbeats 1000000 in
theorem more_any (s : Int) (ao : Option Addr) (len cap : Nat) (g : Nat → Nat) (w : World) (hg : ∀ i, g i < 256) (hl : len ≤ 9223372036854775807) (hr : Rd w ao len (bF g)) :
    Calls Tryz.prog 52 #[.int .i64 s, .slice ao len cap] w fun e w' => e = .returned (.int .i64 (moreN s g len : Nat)) ∧ Below w.heap.size w w' := by
  obtain ⟨z33, s33⟩ := zero_of_info info33
  obtain ⟨Z, eZ⟩ : ∃ Z, Z = tabZ := ⟨_, rfl⟩
  rw [← eZ] at z33
  have hZ : Z.size = 256 := by rw [eZ]; simp [tabZ]
  have HZ := hide hZ; have HR := hide hr; have HG := hide hg
  clear eZ hZ hr hg s33
  go_enter Tryz.func52, Tryz.ntmps52
  go_wp2_with fail
  refine (steps_any w).mono ?_
  rintro e w1 ⟨rfl, k1⟩
  obtain ⟨T, eT⟩ : ∃ T : Array Value, T = (rowV tabF 256).toArray := ⟨_, rfl⟩
  rw [← eT]
  have sT : T.size = 256 := by rw [eT]; simp [rowV_length]
  have oT : T.all (·.oneCell') = true := by rw [eT]; rw [Array.all_eq_true_iff_forall_mem]; intro u hu; exact rowV_one tabF 256 (fun i _ => rfl) u (by simpa using hu)
  have st := store_all Tryz.prog w1.heap.size 123 Z T (w1.alloc (.cells Z 123)) (heap_alloc_new _ _) (by rw [unhide HZ, sT]) oT
  rw [World.setRow_alloc_new] at st
  have ET := hide eT; have K1 := hide k1
  clear eT k1 oT
  go_wp2_with fail
  rw [beg_not s]
  have hT : Vh 123 (w1.alloc (.cells T 123)) w1.heap.size 256 256 tabF := Vh.of_row tabF 256 (by unfold maxLen; omega) (by rw [heap_alloc_new, unhide ET]; rfl)
  obtain ⟨w2, e2⟩ : ∃ w2, w2 = w1.alloc (Obj.cells T 123) := ⟨_, rfl⟩
  rw [← e2] at hT ⊢
  have k2 : Below w.heap.size w w2 := by rw [e2]; exact (unhide K1).alloc (unhide K1).size _
  obtain ⟨q, eq⟩ : ∃ q, q = w1.heap.size := ⟨_, rfl⟩
  rw [← eq] at hT ⊢
  have HT := hide hT; have K2 := hide k2; have R2 := hide ((unhide HR).below k2)
  clear hT k2 e2 eq st K1 z33 HR
  go_loop [6, 15] (fun rs is => ∃ i : Nat, is = .int .i64 i ∧ i ≤ len ∧ rs = .int .u32 (cF (bgS s) g i : Nat)) (fun _ is => len - (intOf is).toNat)
  case atStart => exact ⟨0, rfl, Nat.zero_le _, rfl⟩
  case round =>
    obtain ⟨i, rfl, hi, rfl⟩ := hrel
    have hlt : cF (bgS s) g i < 4294967296 := cF_lt (bgS_lt s) (unhide HG) i
    obtain ⟨x, ex⟩ : ∃ x, x = cF (bgS s) g i := ⟨_, rfl⟩
    rw [← ex] at hlt ⊢
    have EX := hide ex
    clear ex
    by_cases hin : i < len
    · obtain ⟨b, o, rfl, hcs⟩ := unhide R2 (by omega)
      have hc : w2.cell? ⟨b, o + i, none⟩ = some (.int .u8 (g i : Nat)) := hcs i hin
      clear hcs
      have hb := unhide HG i
      obtain ⟨c, ec⟩ : ∃ c, c = g i := ⟨_, rfl⟩
      rw [← ec] at hc hb
      have EC := hide ec
      clear ec
      have m1 : bits .xor .u8 ((x : Int) % 256) (c : Int) = ((x % 256 ^^^ c : Nat) : Int) := u8_mix x c hb
      have m2 := mix_lt x c hb
      obtain ⟨y, ey⟩ : ∃ y, y = x % 256 ^^^ c := ⟨_, rfl⟩
      rw [← ey] at m1 m2
      have m3 : (y : Int) < 256 := by omega
      have EY := hide ey
      clear ey
      have l1 : w2.cell? ⟨q, y, none⟩ = some (.int .u32 (cN 8 y : Nat)) := (unhide HT).cell m2
      have m4 : bits .xor .u32 (cN 8 y : Nat) ((x : Int) / 256) = ((cN 8 y ^^^ x / 256 : Nat) : Int) := u32_xor_nat (cN 8 y) (x / 256) (cN_lt (by omega)) (by omega)
      go_wp2_with fail
      go_round
      case rel => exact ⟨i + 1, by go_num, by omega, by show _ = Value.int .u32 ((cN 8 (cF (bgS s) g i ^^^ g i) : Nat) : Int); rw [← unhide EX, ← unhide EC, c8_split, ← unhide EY]⟩
      case measure => simp [intOf]; omega
    · have e6 : i = len := by omega
      subst e6
      have n1 := u32_not x hlt
      go_wp2_with fail
      go_ret
      exact ⟨by unfold moreN; rw [unhide EX]; rfl, unhide K2⟩

theorem csum_any (ao : Option Addr) (len cap : Nat) (g : Nat → Nat) (w : World) (hg : ∀ i, g i < 256) (hl : len ≤ 9223372036854775807) (hr : Rd w ao len (bF g)) :
    Calls Tryz.prog 36 #[.slice ao len cap] w fun e w' => e = .returned (.int .i64 (moreN 0 g len : Nat)) ∧ Below w.heap.size w w' := by
  go_enter Tryz.func36, Tryz.ntmps36
  go_wp2_with fail
  refine (more_any 0 ao len cap g w hg hl hr).mono ?_
  rintro e w1 ⟨rfl, k1⟩
  go_wp2_with fail
  go_ret
  exact ⟨rfl, k1⟩

end Go.Proofs.YtngmeaaglogieabGreat

namespace Go.Proofs.YtngmeaaglogieabGreat
open Go.RowKit

theorem i64_and1 (n : Int) : bits .and .i64 n 1 = n % 2 := by
  show IntKind.i64.wrap ((BitVec.ofInt 64 n &&& BitVec.ofInt 64 1).toNat : Int) = _
  have h1 : (BitVec.ofInt 64 1).toNat = 1 := by decide
  rw [BitVec.toNat_and, h1, Nat.and_two_pow_sub_one_eq_mod _ 1, BitVec.toNat_ofInt]
  rw [IntKind.wrap_i64]
  omega
theorem i64_xor_nat (a b : Nat) (ha : a < 9223372036854775808) (hb : b < 9223372036854775808) : bits .xor .i64 (a : Int) (b : Int) = ((a ^^^ b : Nat) : Int) := by
  show IntKind.i64.wrap ((BitVec.ofInt 64 (a : Int) ^^^ BitVec.ofInt 64 (b : Int)).toNat : Int) = _
  have h1 : (BitVec.ofInt 64 (a : Int)).toNat = a := by rw [BitVec.toNat_ofInt]; omega
  have h2 : (BitVec.ofInt 64 (b : Int)).toNat = b := by rw [BitVec.toNat_ofInt]; omega
  have h3 : a ^^^ b < 9223372036854775808 := Nat.xor_lt_two_pow (n := 63) ha hb
  rw [BitVec.toNat_xor, h1, h2, IntKind.wrap_i64]
  omega

/-- A bit. -/
def bT (x i : Nat) : Nat := x / 2 ^ i % 2
theorem bT_lt (x i : Nat) : bT x i < 2 := by unfold bT; omega
theorem bT_bit (x i : Nat) : bT x i = (x.testBit i).toNat := by
  unfold bT
  rw [Nat.testBit_eq_decide_div_mod_eq]
  rcases Nat.mod_two_eq_zero_or_one (x / 2 ^ i) with h | h <;> simp [h]
theorem bT_x (x y i : Nat) : bT (x ^^^ y) i = bT x i ^^^ bT y i := by
  rw [bT_bit, bT_bit, bT_bit, Nat.testBit_xor]
  cases x.testBit i <;> cases y.testBit i <;> rfl
theorem bT_half (x i : Nat) : bT (x / 2) i = bT x (i + 1) := by
  unfold bT
  rw [Nat.div_div_eq_div_mul, Nat.pow_succ, Nat.mul_comm 2]
theorem bT_high {x i : Nat} (h : x < 2 ^ i) : bT x i = 0 := by unfold bT; rw [Nat.div_eq_of_lt h]
/-- The register bit by bit, as values. -/
def rB (r : Nat) (i : Nat) : Value := .int .i64 (bT r i : Nat)

theorem pow_le_32 {k : Nat} (h : k ≤ 32) : 2 ^ k * 2 ^ (32 - k) = 4294967296 := by rw [← Nat.pow_add, show k + (32 - k) = 32 by omega]
/-- How the register begins. -/
theorem beg_bit (s : Int) {k : Nat} (hk : k < 32) : 1 - s / 2 ^ k % 2 = (bT (bgS s) k : Nat) := by
  obtain ⟨m, hm⟩ : ∃ m : Nat, (m : Int) = s % 4294967296 := ⟨(s % 4294967296).toNat, by omega⟩
  have hb : bgS s = 4294967295 - m := by unfold bgS; omega
  have hlt : m < 4294967296 := by omega
  have e1 : s / 2 ^ k % 2 = ((m / 2 ^ k % 2 : Nat) : Int) := by
    have e : s = (m : Int) + 2 ^ k * (2 * (2 ^ (31 - k) * (s / 4294967296))) := by
      have p : (2 : Int) ^ k * (2 * 2 ^ (31 - k)) = 4294967296 := by
        rw [← Int.pow_succ', ← Int.pow_add, show k + (31 - k + 1) = 32 by omega]; decide
      have : (2 : Int) ^ k * (2 * (2 ^ (31 - k) * (s / 4294967296))) = 4294967296 * (s / 4294967296) := by rw [← p]; simp only [Int.mul_assoc]
      rw [this, hm]; omega
    have pk : (2 : Int) ^ k ≠ 0 := by have : (0 : Int) < 2 ^ k := Int.pow_pos (by omega); omega
    rw [e, Int.add_mul_ediv_left _ _ pk, Int.add_mul_emod_self_left]
    simp
  have e2 : bT (4294967295 - m) k = 1 - m / 2 ^ k % 2 := by
    have := bT_x 4294967295 m k
    rw [not32 m hlt] at this
    rw [this]
    have h1 : bT 4294967295 k = 1 := by
      rw [bT_bit, show 4294967295 = 2 ^ 32 - 1 by decide, Nat.testBit_two_pow_sub_one]; simp [hk]
    rw [h1]
    show 1 ^^^ bT m k = 1 - bT m k
    have := bT_lt m k
    rcases (show bT m k = 0 ∨ bT m k = 1 by omega) with h | h <;> rw [h] <;> rfl
  rw [e1, hb, e2]
  omega

/-- The register over the first k bits of a byte. -/
def cB (r c : Nat) : Nat → Nat
  | 0 => r
  | k + 1 => cS (cB r c k ^^^ bT c k)
theorem cB_lt {r : Nat} (hr : r < 4294967296) (c k : Nat) : cB r c k < 4294967296 := by
  induction k with
  | zero => exact hr
  | succ k ih => exact cS_lt (Nat.xor_lt_two_pow (n := 32) ih (by have := bT_lt c k; omega))
theorem cB_N (r c k : Nat) : cB r c k ^^^ c / 2 ^ k = cN k (r ^^^ c) := by
  induction k with
  | zero => show r ^^^ c / 1 = r ^^^ c; rw [Nat.div_one]
  | succ k ih =>
    rw [cN_succ, ← ih]
    have e : c / 2 ^ k = bT c k ^^^ (c / 2 ^ (k + 1)) * 2 ^ 1 := by
      have h := low_x (x := bT c k) 1 (bT_lt c k) (c / 2 ^ (k + 1))
      rw [← h, Nat.pow_succ, ← Nat.div_div_eq_div_mul]
      unfold bT; omega
    rw [e, ← Nat.xor_assoc, cS_x]
    have h2 : cS (c / 2 ^ (k + 1) * 2 ^ 1) = c / 2 ^ (k + 1) := cN_up 1 (c / 2 ^ (k + 1))
    rw [h2]
    rfl
theorem cB_8 (r c : Nat) (hc : c < 256) : cB r c 8 = cN 8 (r ^^^ c) := by
  rw [← cB_N, Nat.div_eq_of_lt (show c < 2 ^ 8 by omega), Nat.xor_zero]
/-- One step, the bit that goes out being known. -/
theorem cS_out (r b : Nat) (hb : b < 2) (h : (bT r 0 ^^^ b) = 0) : cS (r ^^^ b) = r / 2 := by
  have e : (r ^^^ b) % 2 = 0 := by
    have := bT_x r b 0
    rw [show bT b 0 = b by unfold bT; omega, h] at this
    unfold bT at this; omega
  unfold cS
  rw [if_pos e, x_div2, Nat.div_eq_of_lt hb, Nat.xor_zero]
theorem cS_in (r b : Nat) (hb : b < 2) (h : (bT r 0 ^^^ b) = 1) : cS (r ^^^ b) = r / 2 ^^^ 3988292384 := by
  have e : (r ^^^ b) % 2 = 1 := by
    have := bT_x r b 0
    rw [show bT b 0 = b by unfold bT; omega, h] at this
    unfold bT at this; omega
  unfold cS
  rw [if_neg (by omega), x_div2, Nat.div_eq_of_lt hb, Nat.xor_zero]
/-- The number out of its bits, the highest ones first. -/
theorem bits_up (r m : Nat) (hm : m < 32) : 2 * (2 ^ m - 1 - r / 2 ^ (32 - m)) + 1 - bT r (31 - m) = 2 ^ (m + 1) - 1 - r / 2 ^ (31 - m) ∨ ¬ r < 4294967296 := by
  by_cases hr : r < 4294967296
  · left
    have e : r / 2 ^ (32 - m) = r / 2 ^ (31 - m) / 2 := by rw [show 32 - m = (31 - m) + 1 by omega, Nat.pow_succ, Nat.div_div_eq_div_mul]
    have hlt : r / 2 ^ (31 - m) < 2 ^ (m + 1) := by
      apply Nat.div_lt_of_lt_mul
      rw [← Nat.pow_add, show 31 - m + (m + 1) = 32 by omega]; exact hr
    rw [e]
    unfold bT
    rw [Nat.pow_succ] at hlt ⊢
    omega
  · right; exact hr

end Go.Proofs.YtngmeaaglogieabGreat
