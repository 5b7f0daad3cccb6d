/- Joined: SumMore, SumSeal. -/
import Derived.Test.YtngmeaaglogieaaGreatSumStep
import Derived.Test.YtngmeaaglogieaaGreatByteMem
import Derived.Laws.CopyOwn
namespace Go.Proofs.YtngmeaaglogieaaGreat
open Go.RowKit

/-- Where the register begins. -/
def bgS (s : Int) : Nat := 4294967295 - (s % 4294967296).toNat
theorem bgS_lt (s : Int) : bgS s < 4294967296 := by unfold bgS; omega
/-- What More answers. -/
def moreN (s : Int) (g : Nat → Nat) (n : Nat) : Nat := 4294967295 - cF (bgS s) g n
theorem moreN_lt (s : Int) (g : Nat → Nat) (n : Nat) : moreN s g n < 4294967296 := by unfold moreN; omega

theorem not32 (x : Nat) (h : x < 4294967296) : 4294967295 ^^^ x = 4294967295 - x := by
  have e : BitVec.allOnes 32 ^^^ BitVec.ofNat 32 x = ~~~ BitVec.ofNat 32 x := BitVec.allOnes_xor
  have e2 := congrArg BitVec.toNat e
  rw [BitVec.toNat_xor, BitVec.toNat_not, BitVec.toNat_allOnes, BitVec.toNat_ofNat, Nat.mod_eq_of_lt (by omega)] at e2
  exact e2
theorem u32_not (x : Nat) (h : x < 4294967296) : bits .xor .u32 IntKind.u32.max (x : Int) = ((4294967295 - x : Nat) : Int) := by
  have e : IntKind.u32.max = ((4294967295 : Nat) : Int) := by decide
  rw [e, u32_xor_nat 4294967295 x (by omega) h, not32 x h]
theorem beg_not (s : Int) : bits .xor .u32 IntKind.u32.max (s % 4294967296) = (bgS s : Nat) := by
  have e : s % 4294967296 = (((s % 4294967296).toNat : Nat) : Int) := by omega
  rw [e, u32_not _ (by omega)]
  rfl
theorem u8_mix (x c : Nat) (hc : c < 256) : bits .xor .u8 (((x % 256 : Nat) : Int)) (c : Int) = ((x % 256 ^^^ c : Nat) : Int) := u8_xor_nat _ _ (by omega) hc
theorem mix_lt (x c : Nat) (hc : c < 256) : x % 256 ^^^ c < 256 := Nat.xor_lt_two_pow (n := 8) (by omega) hc

set_option maxRecDepth 100000 in
set_option maxHeartbeats 1000000 in
theorem more_any (s : Int) (ao : Option Addr) (len cap : Nat) (g : Nat → Nat) (w : World) (hg : ∀ i, g i < 256) (hl : len ≤ 9223372036854775807) (hr : Rd w ao len (bF g)) :
    Calls Tryz.prog 57 #[.int .i64 s, .slice ao len cap] w fun e w' => e = .returned (.int .i64 (moreN s g len : Nat)) ∧ Below w.heap.size w w' := by
  obtain ⟨z33, s33⟩ := zero_of_info info33
  obtain ⟨Z, eZ⟩ : ∃ Z, Z = tabZ := ⟨_, rfl⟩
  rw [← eZ] at z33
  have hZ : Z.size = 256 := by rw [eZ]; simp [tabZ]
  have HZ := hide hZ; have HR := hide hr; have HG := hide hg
  clear eZ hZ hr hg s33
  go_enter Tryz.func57, Tryz.ntmps57
  go_wp2_with fail
  refine (steps_any w).mono ?_
  rintro e w1 ⟨rfl, k1⟩
  obtain ⟨T, eT⟩ : ∃ T : Array Value, T = (rowV tabF 256).toArray := ⟨_, rfl⟩
  rw [← eT]
  have sT : T.size = 256 := by rw [eT]; simp [rowV_length]
  have oT : T.all (·.oneCell') = true := by rw [eT]; rw [Array.all_eq_true_iff_forall_mem]; intro u hu; exact rowV_one tabF 256 (fun i _ => rfl) u (by simpa using hu)
  have st := store_all Tryz.prog w1.heap.size 117 Z T (w1.alloc (.cells Z 117)) (heap_alloc_new _ _) (by rw [unhide HZ, sT]) oT
  rw [World.setRow_alloc_new] at st
  have ET := hide eT; have K1 := hide k1
  clear eT k1 oT
  go_wp2_with fail
  rw [beg_not s]
  have hT : Vh 117 (w1.alloc (.cells T 117)) w1.heap.size 256 256 tabF := Vh.of_row tabF 256 (by unfold maxLen; omega) (by rw [heap_alloc_new, unhide ET]; rfl)
  obtain ⟨w2, e2⟩ : ∃ w2, w2 = w1.alloc (Obj.cells T 117) := ⟨_, rfl⟩
  rw [← e2] at hT ⊢
  have k2 : Below w.heap.size w w2 := by rw [e2]; exact (unhide K1).alloc (unhide K1).size _
  obtain ⟨q, eq⟩ : ∃ q, q = w1.heap.size := ⟨_, rfl⟩
  rw [← eq] at hT ⊢
  have HT := hide hT; have K2 := hide k2; have R2 := hide ((unhide HR).below k2)
  clear hT k2 e2 eq st K1 z33 HR
  go_loop [6, 15] (fun rs is => ∃ i : Nat, is = .int .i64 i ∧ i ≤ len ∧ rs = .int .u32 (cF (bgS s) g i : Nat)) (fun _ is => len - (intOf is).toNat)
  case atStart => exact ⟨0, rfl, Nat.zero_le _, rfl⟩
  case round =>
    obtain ⟨i, rfl, hi, rfl⟩ := hrel
    have hlt : cF (bgS s) g i < 4294967296 := cF_lt (bgS_lt s) (unhide HG) i
    obtain ⟨x, ex⟩ : ∃ x, x = cF (bgS s) g i := ⟨_, rfl⟩
    rw [← ex] at hlt ⊢
    have EX := hide ex
    clear ex
    by_cases hin : i < len
    · obtain ⟨b, o, rfl, hcs⟩ := unhide R2 (by omega)
      have hc : w2.cell? ⟨b, o + i, none⟩ = some (.int .u8 (g i : Nat)) := hcs i hin
      clear hcs
      have hb := unhide HG i
      obtain ⟨c, ec⟩ : ∃ c, c = g i := ⟨_, rfl⟩
      rw [← ec] at hc hb
      have EC := hide ec
      clear ec
      have m1 : bits .xor .u8 ((x : Int) % 256) (c : Int) = ((x % 256 ^^^ c : Nat) : Int) := u8_mix x c hb
      have m2 := mix_lt x c hb
      obtain ⟨y, ey⟩ : ∃ y, y = x % 256 ^^^ c := ⟨_, rfl⟩
      rw [← ey] at m1 m2
      have m3 : (y : Int) < 256 := by omega
      have EY := hide ey
      clear ey
      have l1 : w2.cell? ⟨q, y, none⟩ = some (.int .u32 (cN 8 y : Nat)) := (unhide HT).cell m2
      have m4 : bits .xor .u32 (cN 8 y : Nat) ((x : Int) / 256) = ((cN 8 y ^^^ x / 256 : Nat) : Int) := u32_xor_nat (cN 8 y) (x / 256) (cN_lt (by omega)) (by omega)
      go_wp2_with fail
      go_round
      case rel => exact ⟨i + 1, by go_num, by omega, by show _ = Value.int .u32 ((cN 8 (cF (bgS s) g i ^^^ g i) : Nat) : Int); rw [← unhide EX, ← unhide EC, c8_split, ← unhide EY]⟩
      case measure => simp [intOf]; omega
    · have e6 : i = len := by omega
      subst e6
      have n1 := u32_not x hlt
      go_wp2_with fail
      go_ret
      exact ⟨by unfold moreN; rw [unhide EX]; rfl, unhide K2⟩

theorem csum_any (ao : Option Addr) (len cap : Nat) (g : Nat → Nat) (w : World) (hg : ∀ i, g i < 256) (hl : len ≤ 9223372036854775807) (hr : Rd w ao len (bF g)) :
    Calls Tryz.prog 33 #[.slice ao len cap] w fun e w' => e = .returned (.int .i64 (moreN 0 g len : Nat)) ∧ Below w.heap.size w w' := by
  go_enter Tryz.func33, Tryz.ntmps33
  go_wp2_with fail
  refine (more_any 0 ao len cap g w hg hl hr).mono ?_
  rintro e w1 ⟨rfl, k1⟩
  go_wp2_with fail
  go_ret
  exact ⟨rfl, k1⟩

end Go.Proofs.YtngmeaaglogieaaGreat

namespace Go.Proofs.YtngmeaaglogieaaGreat
open Go.RowKit

/-- The four bytes of a sum, the lowest one first. -/
def tlF (s : Nat) (i : Nat) : Nat := if i = 0 then s % 256 else if i = 1 then s / 256 % 256 else if i = 2 then s / 65536 % 256 else s / 16777216 % 256
theorem tlF_lt (s i : Nat) : tlF s i < 256 := by unfold tlF; split; omega; split; omega; split; omega; omega

/-- Four bytes set. -/
theorem set4 {w : World} {b : Nat} {f : Nat → Value} {t : TypeId} (h : Vh t w b 4 4 f) (x0 x1 x2 x3 : Value) (g : Nat → Value) (e0 : x0 = g 0) (e1 : x1 = g 1) (e2 : x2 = g 2) (e3 : x3 = g 3) :
    Vh t ((((w.setCell ⟨b, 0, none⟩ x0).setCell ⟨b, 1, none⟩ x1).setCell ⟨b, 2, none⟩ x2).setCell ⟨b, 3, none⟩ x3) b 4 4 g := by
  refine ((((h.set 0 x0).set 1 x1).set 2 x2).set 3 x3).congr (fun i hi => ?_)
  have : i = 0 ∨ i = 1 ∨ i = 2 ∨ i = 3 := by omega
  rcases this with rfl | rfl | rfl | rfl
  · rw [stW_other _ _ (by decide), stW_other _ _ (by decide), stW_other _ _ (by decide), stW_same, e0]
  · rw [stW_other _ _ (by decide), stW_other _ _ (by decide), stW_same, e1]
  · rw [stW_other _ _ (by decide), stW_same, e2]
  · rw [stW_same, e3]

/-- Bytes with their sum behind. -/
def slF (g : Nat → Nat) (n i : Nat) : Nat := if i < n then g i else tlF (moreN 0 g n) (i - n)
theorem slF_lt {g : Nat → Nat} (hg : ∀ i, g i < 256) (n i : Nat) : slF g n i < 256 := by unfold slF; split; exact hg i; exact tlF_lt _ _
theorem slF_row (g : Nat → Nat) (n : Nat) : rowV (bF g) n ++ rowV (bF (tlF (moreN 0 g n))) 4 = rowV (bF (slF g n)) (n + 4) := by
  rw [rowV_append]
  exact rowV_congr (fun i _ => by unfold bF slF; split <;> rfl)

end Go.Proofs.YtngmeaaglogieaaGreat
