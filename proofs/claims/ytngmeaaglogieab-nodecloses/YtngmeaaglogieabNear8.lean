/- Joined: WireOK, MsgSame. -/
import Derived.Test.YtngmeaaglogieabNear25
import Derived.Test.YtngmeaaglogieabSumOpen
namespace Go.Proofs.Ytngmeaaglogieab
open Go.RowKit

theorem moreN_congr {s : Int} {g h : Nat → Nat} {n : Nat} (e : ∀ i, i < n → g i = h i) : moreN s g n = moreN s h n := by unfold moreN; rw [cF_congr _ n e]
/-- A message's bytes, sealed, and how many. -/
def enS (K F R : Int) (n : Nat) (f : Nat → Int) : Nat → Nat := slF (enF K F R n f) (8 + 8 * n)
def enL (K F R : Int) (n : Nat) : Nat := if wrongM K F R n = 0 then 12 + 8 * n else 0
theorem enS_lt (K F R : Int) (n : Nat) (f : Nat → Int) (i : Nat) : enS K F R n f i < 256 := slF_lt (enF_lt K F R n f) _ _
theorem enL_le (K F R : Int) (n : Nat) : enL K F R n ≤ 204 := by
  unfold enL
  split
  · rename_i h
    have := wrongM_right h
    omega
  · omega
/-- What Encode is held to. -/
def EnOK (fn : Nat) : Prop := ∀ (K F R : Int) (ao : Option Addr) (n cap : Nat) (f : Nat → Int) (w : World), R64 K → R64 F → R64 R → (∀ i, R64 (f i)) → n * 8 ≤ 140737488351232 → n ≤ cap → Sr w ao n cap (iF f) →
  Calls Try.prog fn #[msV K F R (.slice ao n cap)] w fun e w' => ∃ v, e = .returned (.tuple #[v, .int .i64 (wrongM K F R n)]) ∧ w'.ownsRow w.heap.size 5 1 v (enL K F R n) (rowV (bF (enS K F R n f)) (enL K F R n)) ∧ Below w.heap.size w w'

/-- What is wrong of bytes. -/
def dcE (g : Nat → Nat) (len : Nat) (e : Int) : Prop :=
  (220 < len ∧ e = 1) ∨ (len ≤ 220 ∧ (len < 12 ∨ g 0 ≠ 87) ∧ e = 2) ∨ (len ≤ 220 ∧ 12 ≤ len ∧ g 0 = 87 ∧
    ((¬ opG g len ∧ e = 5) ∨ (opG g len ∧ ((24 < g 7 ∧ e = 6) ∨ (g 7 ≤ 24 ∧ ((len ≠ 12 + 8 * g 7 ∧ e = 2) ∨ (len = 12 + 8 * g 7 ∧ e = wrongM (g 1 : Nat) (g 2 : Nat) (dR g : Nat) (g 7))))))))
theorem dcE_one {g : Nat → Nat} {len : Nat} {e e' : Int} (h : dcE g len e) (h' : dcE g len e') : e = e' := by
  unfold dcE at h h'
  rcases h with ⟨a1, a2⟩ | ⟨a1, a2, a3⟩ | ⟨a1, a2, a3, a4⟩ <;> rcases h' with ⟨b1, b2⟩ | ⟨b1, b2, b3⟩ | ⟨b1, b2, b3, b4⟩
  all_goals first | omega | skip
  rcases a4 with ⟨c1, c2⟩ | ⟨c1, ⟨c2, c3⟩ | ⟨c2, ⟨c3, c4⟩ | ⟨c3, c4⟩⟩⟩ <;> rcases b4 with ⟨d1, d2⟩ | ⟨d1, ⟨d2, d3⟩ | ⟨d2, ⟨d3, d4⟩ | ⟨d3, d4⟩⟩⟩
  all_goals first | omega | exact absurd d1 c1 | exact absurd c1 d1 | skip
theorem dcE_right {g : Nat → Nat} {len : Nat} (h : dcE g len 0) : 12 ≤ len ∧ len ≤ 220 ∧ g 0 = 87 ∧ opG g len ∧ g 7 ≤ 24 ∧ len = 12 + 8 * g 7 ∧ wrongM (g 1 : Nat) (g 2 : Nat) (dR g : Nat) (g 7) = 0 := by
  unfold dcE at h
  rcases h with ⟨a1, a2⟩ | ⟨a1, a2, a3⟩ | ⟨a1, a2, a3, a4⟩
  · omega
  · omega
  · rcases a4 with ⟨c1, c2⟩ | ⟨c1, ⟨c2, c3⟩ | ⟨c2, ⟨c3, c4⟩ | ⟨c3, c4⟩⟩⟩
    · omega
    · omega
    · omega
    · exact ⟨a2, a1, a3, c1, c2, c3, c4.symm⟩
/-- A number of the message, or nought where there is none. -/
def dN (e : Int) (x : Nat) : Nat := if e = 0 then x else 0
/-- What Decode is held to. -/
def DcOK (fn : Nat) : Prop := ∀ (ao : Option Addr) (len cap : Nat) (g : Nat → Nat) (w : World), (∀ i, g i < 256) → len ≤ 140737488351232 → len ≤ cap → Sr w ao len cap (bF g) →
  Calls Try.prog fn #[.slice ao len cap] w fun e w' => ∃ (E : Int) (v : Value), dcE g len E ∧ e = .returned (.tuple #[msV (dN E (g 1) : Nat) (dN E (g 2) : Nat) (dN E (dR g) : Nat) v, .int .i64 E]) ∧ w'.ownsRow w.heap.size 3 1 v (dN E (g 7)) (rowV (iF (dV g)) (dN E (g 7))) ∧ Below w.heap.size w w'

/-- A right message's bytes. -/
theorem enS_dc {K F R : Int} {n : Nat} {f : Nat → Int} (h : wrongM K F R n = 0) : dcE (enS K F R n f) (12 + 8 * n) 0 := by
  obtain ⟨h1, h2, h3, h4, h5, h6, h7⟩ := wrongM_right h
  have lo : ∀ i, i < 8 + 8 * n → enS K F R n f i = enF K F R n f i := fun i hi => by unfold enS slF; rw [if_pos hi]
  have e0 : enS K F R n f 0 = 87 := by rw [lo 0 (by omega)]; rfl
  have e1 : (enS K F R n f 1 : Int) = K := by rw [lo 1 (by omega)]; show ((K % 256).toNat : Int) = K; omega
  have e2 : (enS K F R n f 2 : Int) = F := by rw [lo 2 (by omega)]; show ((F % 256).toNat : Int) = F; omega
  have e7 : enS K F R n f 7 = n := by rw [lo 7 (by omega)]; show n % 256 = n; omega
  have eR : (dR (enS K F R n f) : Int) = R := back_R h5 h6 lo
  refine Or.inr (Or.inr ⟨by omega, by omega, e0, Or.inr ⟨?_, Or.inr ⟨by omega, Or.inr ⟨by omega, ?_⟩⟩⟩⟩)
  · refine ⟨by omega, fun i hi => ?_⟩
    have e : 12 + 8 * n - 4 = 8 + 8 * n := by omega
    rw [e]
    have hm : moreN 0 (enS K F R n f) (8 + 8 * n) = moreN 0 (enF K F R n f) (8 + 8 * n) := moreN_congr lo
    rw [hm]
    unfold enS slF
    rw [if_neg (by omega), Nat.add_sub_cancel_left]
  · rw [e1, e2, e7, eR, h]
theorem enS_back {K F R : Int} {n : Nat} {f : Nat → Int} (h : wrongM K F R n = 0) (hf : ∀ i, R64 (f i)) :
    (enS K F R n f 1 : Int) = K ∧ (enS K F R n f 2 : Int) = F ∧ (dR (enS K F R n f) : Int) = R ∧ enS K F R n f 7 = n ∧ ∀ j, j < n → dV (enS K F R n f) j = f j := by
  obtain ⟨h1, h2, h3, h4, h5, h6, h7⟩ := wrongM_right h
  have lo : ∀ i, i < 8 + 8 * n → enS K F R n f i = enF K F R n f i := fun i hi => by unfold enS slF; rw [if_pos hi]
  refine ⟨?_, ?_, back_R h5 h6 lo, ?_, fun j hj => back_V hf lo hj⟩
  · rw [lo 1 (by omega)]; show ((K % 256).toNat : Int) = K; omega
  · rw [lo 2 (by omega)]; show ((F % 256).toNat : Int) = F; omega
  · rw [lo 7 (by omega)]; show n % 256 = n; omega
/-- Bytes that are decoded are what the message is encoded as. -/
theorem dc_only {g : Nat → Nat} {len : Nat} (hg : ∀ i, g i < 256) (h : dcE g len 0) : ∀ i, i < len → enS (g 1 : Nat) (g 2 : Nat) (dR g : Nat) (g 7) (dV g) i = g i := by
  obtain ⟨h1, h2, h3, h4, h5, h6, h7⟩ := dcE_right h
  intro i hi
  have lo : ∀ i, i < 8 + 8 * g 7 → enF (g 1 : Nat) (g 2 : Nat) (dR g : Nat) (g 7) (dV g) i = g i := fun i hi => only_en hg h3 i hi
  unfold enS slF
  by_cases c : i < 8 + 8 * g 7
  · rw [if_pos c, lo i c]
  · rw [if_neg c, moreN_congr lo]
    have := h4.2 (i - (8 + 8 * g 7)) (by omega)
    rw [show len - 4 = 8 + 8 * g 7 by omega, show 8 + 8 * g 7 + (i - (8 + 8 * g 7)) = i by omega] at this
    exact this.symm

end Go.Proofs.Ytngmeaaglogieab

namespace Go.Proofs.Ytngmeaaglogieab
open Go.RowKit

/-- Two messages' variables. -/
theorem mg_pair (w : World) (K F R : Int) (u v : Value) : ∃ w1, w1 = (w.alloc (.cells #[.int .i64 K, .int .i64 F, .int .i64 R, u] 57)).alloc (.cells #[.int .i64 K, .int .i64 F, .int .i64 R, v] 57) ∧
    MgAt w1 w.heap.size K F R u ∧ MgAt w1 (w.heap.size + 1) K F R v ∧ Below w.heap.size w w1 ∧ w1.heap.size = w.heap.size + 1 + 1 := by
  refine ⟨_, rfl, (MgAt.new w K F R u).below (al_below _ _), ?_, ?_, ?_⟩
  · have h := MgAt.new (w.alloc (.cells #[.int .i64 K, .int .i64 F, .int .i64 R, u] 57)) K F R v
    rw [al_size] at h
    exact h
  · exact ((Below.refl _ _).alloc (Nat.le_refl _) _).alloc (by rw [al_size]; omega) _
  · rw [al_size, al_size]

set_option maxHeartbeats 1000000 in
theorem sameInts_ok (ao bo : Option Addr) (l ca cb : Nat) (f g : Nat → Int) (w : World) (hl : l ≤ 1000) (ha : Rd w ao l (iF f)) (hb : Rd w bo l (iF g)) (he : ∀ i, i < l → f i = g i) :
    Calls Try.prog 19 #[.slice ao l ca, .slice bo l cb] w fun e w' => e = .returned (.bool true) ∧ Below w.heap.size w w' := by
  have tl : ((l : Int) != (l : Int)) = false := by simp
  have HA := hide ha; have HB := hide hb; have HE := hide he
  clear ha hb he
  go_enter Try.func19, Try.ntmps19
  go_wp2_with fail
  go_loopw [5, 13] (fun _ is wr => ∃ i : Nat, is = .int .i64 i ∧ i ≤ l ∧ Below w.heap.size w wr)
    (fun _ is _ => l - (intOf is).toNat)
  case atStart => exact ⟨0, rfl, Nat.zero_le _, Below.refl _ _⟩
  case round =>
    obtain ⟨i, rfl, hi, hK⟩ := hrel
    by_cases hin : i < l
    · obtain ⟨b, o, rfl, hc⟩ := unhide HA (by omega)
      obtain ⟨b2, o2, rfl, hc2⟩ := unhide HB (by omega)
      have c1 : (_ : World).cell? ⟨b, o + i, none⟩ = some (.int .i64 (f i)) := at_below (hc i hin) hK
      have c2 : (_ : World).cell? ⟨b2, o2 + i, none⟩ = some (.int .i64 (g i)) := at_below (hc2 i hin) hK
      rw [unhide HE i hin] at c1
      have tg : ((g i) != (g i)) = false := by simp
      have HK := hide hK
      clear hK hc hc2
      go_wp2_with fail
      go_region
      go_wp2_with fail
      go_roundw
      case rel => exact ⟨i + 1, by go_num, by omega, below_drew (unhide HK)⟩
      case measure => simp [intOf] <;> omega
    · have hin2 : i = l := by omega
      subst hin2
      have HK := hide hK
      clear hK
      go_wp2_with fail
      go_ret
      exact ⟨rfl, unhide HK⟩

end Go.Proofs.Ytngmeaaglogieab
