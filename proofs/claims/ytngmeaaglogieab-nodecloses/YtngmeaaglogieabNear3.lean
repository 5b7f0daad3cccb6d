/- Joined: SumMore, SumSeal. -/
import Derived.Test.YtngmeaaglogieabSumStep
import Derived.Test.YtngmeaaglogieabByteMem
import Derived.Laws.CopyOwn
namespace Go.Proofs.Ytngmeaaglogieab
open Go.RowKit

/-- Where the register begins. -/
def bgS (s : Int) : Nat := 4294967295 - (s % 4294967296).toNat
theorem bgS_lt (s : Int) : bgS s < 4294967296 := by unfold bgS; omega
/-- What More answers. -/
def moreN (s : Int) (g : Nat → Nat) (n : Nat) : Nat := 4294967295 - cF (bgS s) g n
theorem moreN_lt (s : Int) (g : Nat → Nat) (n : Nat) : moreN s g n < 4294967296 := by unfold moreN; omega

theorem not32 (x : Nat) (h : x < 4294967296) : 4294967295 ^^^ x = 4294967295 - x := by
  have e : BitVec.allOnes 32 ^^^ BitVec.ofNat 32 x = ~~~ BitVec.ofNat 32 x := BitVec.allOnes_xor
  have e2 := congrArg BitVec.toNat e
  rw [BitVec.toNat_xor, BitVec.toNat_not, BitVec.toNat_allOnes, BitVec.toNat_ofNat, Nat.mod_eq_of_lt (by omega)] at e2
  exact e2
theorem u32_not (x : Nat) (h : x < 4294967296) : bits .xor .u32 IntKind.u32.max (x : Int) = ((4294967295 - x : Nat) : Int) := by
  have e : IntKind.u32.max = ((4294967295 : Nat) : Int) := by decide
  rw [e, u32_xor_nat 4294967295 x (by omega) h, not32 x h]
theorem beg_not (s : Int) : bits .xor .u32 IntKind.u32.max (s % 4294967296) = (bgS s : Nat) := by
  have e : s % 4294967296 = (((s % 4294967296).toNat : Nat) : Int) := by omega
  rw [e, u32_not _ (by omega)]
  rfl
theorem u8_mix (x c : Nat) (hc : c < 256) : bits .xor .u8 (((x % 256 : Nat) : Int)) (c : Int) = ((x % 256 ^^^ c : Nat) : Int) := u8_xor_nat _ _ (by omega) hc
theorem mix_lt (x c : Nat) (hc : c < 256) : x % 256 ^^^ c < 256 := Nat.xor_lt_two_pow (n := 8) (by omega) hc

end Go.Proofs.Ytngmeaaglogieab

namespace Go.Proofs.Ytngmeaaglogieab
open Go.RowKit

/-- The four bytes of a sum, the lowest one first. -/
def tlF (s : Nat) (i : Nat) : Nat := if i = 0 then s % 256 else if i = 1 then s / 256 % 256 else if i = 2 then s / 65536 % 256 else s / 16777216 % 256
theorem tlF_lt (s i : Nat) : tlF s i < 256 := by unfold tlF; split; omega; split; omega; split; omega; omega

/-- Four bytes set. -/
theorem set4 {w : World} {b : Nat} {f : Nat → Value} {t : TypeId} (h : Vh t w b 4 4 f) (x0 x1 x2 x3 : Value) (g : Nat → Value) (e0 : x0 = g 0) (e1 : x1 = g 1) (e2 : x2 = g 2) (e3 : x3 = g 3) :
    Vh t ((((w.setCell ⟨b, 0, none⟩ x0).setCell ⟨b, 1, none⟩ x1).setCell ⟨b, 2, none⟩ x2).setCell ⟨b, 3, none⟩ x3) b 4 4 g := by
  refine ((((h.set 0 x0).set 1 x1).set 2 x2).set 3 x3).congr (fun i hi => ?_)
  have : i = 0 ∨ i = 1 ∨ i = 2 ∨ i = 3 := by omega
  rcases this with rfl | rfl | rfl | rfl
  · rw [stW_other _ _ (by decide), stW_other _ _ (by decide), stW_other _ _ (by decide), stW_same, e0]
  · rw [stW_other _ _ (by decide), stW_other _ _ (by decide), stW_same, e1]
  · rw [stW_other _ _ (by decide), stW_same, e2]
  · rw [stW_same, e3]

/-- Bytes with their sum behind. -/
def slF (g : Nat → Nat) (n i : Nat) : Nat := if i < n then g i else tlF (moreN 0 g n) (i - n)
theorem slF_lt {g : Nat → Nat} (hg : ∀ i, g i < 256) (n i : Nat) : slF g n i < 256 := by unfold slF; split; exact hg i; exact tlF_lt _ _
theorem slF_row (g : Nat → Nat) (n : Nat) : rowV (bF g) n ++ rowV (bF (tlF (moreN 0 g n))) 4 = rowV (bF (slF g n)) (n + 4) := by
  rw [rowV_append]
  exact rowV_congr (fun i _ => by unfold bF slF; split <;> rfl)

end Go.Proofs.Ytngmeaaglogieab
