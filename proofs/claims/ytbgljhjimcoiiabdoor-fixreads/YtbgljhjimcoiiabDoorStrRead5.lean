/- Contract of fix's Read: for every text. -/
import Derived.Test.YtbgljhjimcoiiabDoorStrRead4
import Derived.WalkSmall
namespace Go.Proofs.YtbgljhjimcoiiabDoor
open Go.RowKit Go.Lib

def wholeB (l : List UInt8) : Bool := isDig l && (l == [48] || l.head? != some 48)
/-- The parts of a text: is there a '-'; ahead of the point; behind it; is there a point. -/
def negOf (l : List UInt8) : Bool := Lib.hasPrefix l [45]
def partsOf (l : List UInt8) : List UInt8 × List UInt8 × Bool := Lib.cut (Lib.trimPrefix l [45]) [46]
def formB (l : List UInt8) : Bool := wholeB (partsOf l).1 && (!(partsOf l).2.2 || isDig (partsOf l).2.1)
def readM (l : List UInt8) : Int := sgnZ (negOf l) ((wholeV (partsOf l).1 * 4294967296 + fracV (partsOf l).2.1 (negOf l) : Nat) : Int)
def readV (l : List UInt8) : Int := if 60 < l.length then 0 else if formB l = false then 0 else if bentZ (readM l) then 0 else clampZ (readM l)
def readE (l : List UInt8) : Int := if 60 < l.length then 1 else if formB l = false then 2 else if bentZ (readM l) then 3 else 0

theorem fracV_le (l : List UInt8) (neg : Bool) (h : l.all isD = true) : fracV l neg ≤ 4294967296 := by
  have hT : 0 < 10 ^ l.length := Nat.pow_pos (by decide)
  have hF : decV l < 10 ^ l.length := by rw [decV_low]; exact lowV_lt (digOf_lt h) _
  unfold fracV
  obtain ⟨T, eT⟩ : ∃ T, 10 ^ l.length = T := ⟨_, rfl⟩
  rw [eT] at hT hF ⊢
  have h1 : decV l * 2 ^ 32 / T < 2 ^ 32 := by
    rw [Nat.div_lt_iff_lt_mul hT, Nat.mul_comm]
    exact Nat.mul_lt_mul_of_pos_left hF (by decide)
  have h2 : decV l * 2 ^ 33 / T < 2 * (decV l * 2 ^ 32 / T) + 2 := by
    rw [Nat.div_lt_iff_lt_mul hT]
    have h3 := Nat.div_add_mod (decV l * 2 ^ 32) T
    have h4 := Nat.mod_lt (decV l * 2 ^ 32) hT
    have e : decV l * 2 ^ 33 = 2 * (decV l * 2 ^ 32) := by rw [show (2 : Nat) ^ 33 = 2 ^ 32 * 2 by decide, ← Nat.mul_assoc, Nat.mul_comm]
    rw [e, Nat.add_mul, Nat.mul_assoc, Nat.mul_comm (decV l * 2 ^ 32 / T) T]
    omega
  have e32 : (2 : Nat) ^ 32 = 4294967296 := by decide
  split <;> omega

theorem read_long (l : List UInt8) (w : World) (hl : 60 < l.length) :
    Calls Tryd.prog 4 #[.string ⟨l.toArray⟩] w fun e w' => e = .returned (.tuple #[.int .i64 0, .int .i64 1]) ∧ w' = w := by
  have hS := size_mk l
  obtain ⟨n, en⟩ : ∃ n, l.length = n := ⟨_, rfl⟩
  rw [en] at hS hl
  obtain ⟨S, eS⟩ : ∃ S : ByteArray, (⟨l.toArray⟩ : ByteArray) = S := ⟨_, rfl⟩
  rw [eS] at hS ⊢
  have hi : (60 : Int) < (n : Int) := by omega
  clear en eS
  go_enter Tryd.func4, Tryd.ntmps4
  go_wp2_with fail
  go_ret2
  exact ⟨rfl, rfl⟩

set_option maxHeartbeats 1000000 in
theorem read_short (l : List UInt8) (mx : Int) (w : World) (hl : l.length ≤ 60) (hm : w.cell? ⟨0, 0, none⟩ = some (.int .i64 mx)) :
    Calls Tryd.prog 4 #[.string ⟨l.toArray⟩] w fun e w' => e = .returned (.tuple #[.int .i64 (readV l), .int .i64 (readE l)]) ∧ Below w.heap.size w w' := by
  have hS := size_mk l
  have E1 := hide (show readV l = if formB l = false then 0 else if bentZ (readM l) then 0 else clampZ (readM l) from if_neg (by omega))
  have E2 := hide (show readE l = if formB l = false then 2 else if bentZ (readM l) then 3 else 0 from if_neg (by omega))
  have hcp := fun wx => Tryd.strings_CutPrefix ⟨l.toArray⟩ ⟨#[45]⟩ wx
  have hrl : (Lib.trimPrefix l [45]).length ≤ 60 := Nat.le_trans (Lib.trimPrefix_le l [45]) hl
  have hct := fun wx h => Tryd.strings_Cut ⟨(Lib.trimPrefix l [45]).toArray⟩ ⟨#[46]⟩ mx wx (by rw [size_mk]; omega) h
  obtain ⟨wh, fr, pt, epp⟩ : ∃ wh fr pt, partsOf l = (wh, fr, pt) := ⟨_, _, _, rfl⟩
  have hwl : wh.length ≤ 60 ∧ fr.length ≤ 60 ∧ (pt = false → fr = []) := by
    unfold partsOf Lib.cut at epp
    split at epp
    · cases epp
      refine ⟨?_, ?_, fun h => by cases h⟩
      · rw [List.length_take]; omega
      · rw [List.length_drop]; omega
    · cases epp
      exact ⟨hrl, Nat.zero_le _, fun _ => rfl⟩
  obtain ⟨ng, eng⟩ : ∃ ng, negOf l = ng := ⟨_, rfl⟩
  have hcp2 : ∀ wx : World, Calls Tryd.prog 6 #[.string ⟨l.toArray⟩, .string ⟨#[45]⟩] wx fun e w' => e = .returned (.tuple #[.string ⟨(Lib.trimPrefix l [45]).toArray⟩, .bool ng]) ∧ w' = wx := by
    intro wx; rw [← eng]; exact hcp wx
  have hct2 : ∀ wx : World, wx.cell? ⟨0, 0, none⟩ = some (.int .i64 mx) → Calls Tryd.prog 7 #[.string ⟨(Lib.trimPrefix l [45]).toArray⟩, .string ⟨#[46]⟩] wx fun e w' => e = .returned (.tuple #[.string ⟨wh.toArray⟩, .string ⟨fr.toArray⟩, .bool pt]) ∧ ∃ n, w' = wx.drewN n := by
    intro wx h
    have h1 := hct wx h
    have e1 : Lib.cut (⟨(Lib.trimPrefix l [45]).toArray⟩ : ByteArray).data.toList (⟨#[46]⟩ : ByteArray).data.toList = (wh, fr, pt) := epp
    rw [e1] at h1
    exact h1
  obtain ⟨hw1, hf1, hpt⟩ := hwl
  have HFB := hide (show formB l = (wholeB wh && (!pt || isDig fr)) from by unfold formB; rw [epp])
  have HM := hide (show readM l = sgnZ ng ((wholeV wh * 4294967296 + fracV fr ng : Nat) : Int) from by unfold readM; rw [epp, eng])
  have HCP := hide hcp2; have HCT := hide hct2; have HM0 := hide hm; have HPT := hide hpt
  have HIW := hide (fun wx => isWhole_any wh (by omega) wx)
  have HID := hide (fun wx => isDigits_any fr (by omega) wx)
  obtain ⟨n, en⟩ : ∃ n, l.length = n := ⟨_, rfl⟩
  rw [en] at hS hl
  have hli : (n : Int) ≤ 60 := by omega
  obtain ⟨R0, eR0⟩ : ∃ R0 : ByteArray, (⟨(Lib.trimPrefix l [45]).toArray⟩ : ByteArray) = R0 := ⟨_, rfl⟩
  rw [eR0] at HCP HCT
  obtain ⟨S, eS⟩ : ∃ S : ByteArray, (⟨l.toArray⟩ : ByteArray) = S := ⟨_, rfl⟩
  rw [eS] at hS HCP ⊢
  clear en eS hcp hct hcp2 hct2 hm hpt epp eng eR0 hrl
  have base : ∀ (Q : Prop), Q → Q := fun _ h => h
  clear base
  cases hwb : wholeB wh
  · -- no whole part
    have EV := hide (show readV l = 0 ∧ readE l = 2 from by
      have hf : formB l = false := by rw [unhide HFB, hwb]; rfl
      rw [unhide E1, unhide E2, if_pos hf, if_pos hf]; exact ⟨rfl, rfl⟩)
    have hiw : ∀ wx : World, Calls Tryd.prog 8 #[.string ⟨wh.toArray⟩] wx fun e w' => e = .returned (.bool false) ∧ w' = wx := by
      intro wx; rw [← hwb]; exact unhide HIW wx
    have HIW2 := hide hiw
    clear hiw hwb
    go_enter Tryd.func4, Tryd.ntmps4
    go_wp2_with fail
    refine (unhide HCP _).mono ?_
    rintro e w1 ⟨rfl, rfl⟩
    go_wp2_with fail
    refine (unhide HCT _ (unhide HM0)).mono ?_
    rintro e w2 ⟨rfl, k2, rfl⟩
    go_wp2_with fail
    refine (unhide HIW2 _).mono ?_
    rintro e w3 ⟨rfl, rfl⟩
    go_wp2_with fail
    go_ret2
    rw [(unhide EV).1, (unhide EV).2]
    exact ⟨rfl, below_drewN (Below.refl _ _) _⟩
  · have hwd : wh.all isD = true := by
      unfold wholeB isDig at hwb
      simp only [Bool.and_eq_true] at hwb
      exact hwb.1.1
    have hiw : ∀ wx : World, Calls Tryd.prog 8 #[.string ⟨wh.toArray⟩] wx fun e w' => e = .returned (.bool true) ∧ w' = wx := by
      intro wx; rw [← hwb]; exact unhide HIW wx
    have HIW2 := hide hiw
    have HRW := hide (fun wx => readWhole_any wh (by omega) hwd wx)
    clear hiw hwd
    have tail : fr.all isD = true → formB l = true → Hid (∀ wx : World, Below w.heap.size w wx → Calls Tryd.prog 12 #[.string ⟨fr.toArray⟩, .bool ng] wx fun e w' => e = .returned (.int .u64 (fracV fr ng : Int)) ∧ Below w.heap.size w w') ∧
        Hid (readV l = (if bentZ (readM l) then 0 else clampZ (readM l)) ∧ readE l = (if bentZ (readM l) then 3 else 0)) ∧ fracV fr ng ≤ 4294967296 := by
      intro hfd hf
      refine ⟨?_, ?_, fracV_le fr ng hfd⟩
      · intro wx hb
        refine (readFraction_any fr ng hf1 hfd wx).mono ?_
        rintro e w' ⟨h1, h2⟩
        exact ⟨h1, hb.trans (h2.mono hb.size)⟩
      · show _ ∧ _
        rw [unhide E1, unhide E2, hf]
        exact ⟨rfl, rfl⟩
    cases pt
    · -- no point
      have hfr := unhide HPT rfl
      subst hfr
      obtain ⟨HRF, EV, hfle⟩ := tail rfl (by rw [unhide HFB, hwb]; rfl)
      clear tail hwb
      go_enter Tryd.func4, Tryd.ntmps4
      go_wp2_with fail
      refine (unhide HCP _).mono ?_
      rintro e w1 ⟨rfl, rfl⟩
      go_wp2_with fail
      refine (unhide HCT _ (unhide HM0)).mono ?_
      rintro e w2 ⟨rfl, k2, rfl⟩
      go_wp2_with fail
      refine (unhide HIW2 _).mono ?_
      rintro e w3 ⟨rfl, rfl⟩
      go_wp2_with fail
      refine (unhide HRW _).mono ?_
      rintro e w4 ⟨rfl, rfl⟩
      obtain ⟨V, eV⟩ : ∃ V, wholeV wh = V := ⟨_, rfl⟩
      have hV : V ≤ 2147483649 := by rw [← eV]; exact wholeV_le wh
      rw [eV] at HM ⊢
      clear eV
      go_wp2_with fail
      refine (unhide HRF _ (below_drewN (Below.refl _ _) k2)).mono ?_
      rintro e w5 ⟨rfl, k5⟩
      have K5 := hide k5
      obtain ⟨f, ef⟩ : ∃ f, fracV [] ng = f := ⟨_, rfl⟩
      rw [ef] at HM hfle ⊢
      have HM2 := hide (show readM l = sgnZ ng ((V : Int) * 4294967296 + (f : Int)) from by rw [unhide HM]; congr 1)
      clear ef k5
      go_wp2_with fail
      refine (stop_any ng ((V : Int) * 4294967296 + (f : Int)) (by omega) (by omega) _).mono ?_
      rintro e w6 ⟨rfl, rfl⟩
      rw [← unhide HM2]
      cases hb : bentZ (readM l)
      · have EV2 := hide (show readV l = clampZ (readM l) ∧ readE l = 0 from by have h := unhide EV; rw [hb] at h; exact h)
        clear hb
        obtain ⟨z, ez⟩ : ∃ z, clampZ (readM l) = z := ⟨_, rfl⟩
        rw [ez] at EV2 ⊢
        clear ez
        go_wp2_with fail
        go_ret2
        rw [(unhide EV2).1, (unhide EV2).2]
        exact ⟨rfl, unhide K5⟩
      · have EV2 := hide (show readV l = 0 ∧ readE l = 3 from by have h := unhide EV; rw [hb] at h; exact h)
        clear hb
        obtain ⟨z, ez⟩ : ∃ z, clampZ (readM l) = z := ⟨_, rfl⟩
        rw [ez]
        clear ez
        go_wp2_with fail
        go_ret2
        rw [(unhide EV2).1, (unhide EV2).2]
        exact ⟨rfl, unhide K5⟩
    · -- a point
      cases hfb : isDig fr
      · have EV := hide (show readV l = 0 ∧ readE l = 2 from by
          have hf : formB l = false := by rw [unhide HFB, hwb, hfb]; rfl
          rw [unhide E1, unhide E2, if_pos hf, if_pos hf]; exact ⟨rfl, rfl⟩)
        have hid : ∀ wx : World, Calls Tryd.prog 9 #[.string ⟨fr.toArray⟩] wx fun e w' => e = .returned (.bool false) ∧ w' = wx := by
          intro wx; rw [← hfb]; exact unhide HID wx
        have HID2 := hide hid
        clear hid hwb hfb tail
        go_enter Tryd.func4, Tryd.ntmps4
        go_wp2_with fail
        refine (unhide HCP _).mono ?_
        rintro e w1 ⟨rfl, rfl⟩
        go_wp2_with fail
        refine (unhide HCT _ (unhide HM0)).mono ?_
        rintro e w2 ⟨rfl, k2, rfl⟩
        go_wp2_with fail
        refine (unhide HIW2 _).mono ?_
        rintro e w3 ⟨rfl, rfl⟩
        go_wp2_with fail
        refine (unhide HID2 _).mono ?_
        rintro e w4 ⟨rfl, rfl⟩
        go_wp2_with fail
        go_ret2
        rw [(unhide EV).1, (unhide EV).2]
        exact ⟨rfl, below_drewN (Below.refl _ _) _⟩
      · have hid : ∀ wx : World, Calls Tryd.prog 9 #[.string ⟨fr.toArray⟩] wx fun e w' => e = .returned (.bool true) ∧ w' = wx := by
          intro wx; rw [← hfb]; exact unhide HID wx
        have HID2 := hide hid
        obtain ⟨HRF, EV, hfle⟩ := tail (by unfold isDig at hfb; simp only [Bool.and_eq_true] at hfb; exact hfb.1) (by rw [unhide HFB, hwb, hfb]; rfl)
        clear hid tail hwb hfb
        go_enter Tryd.func4, Tryd.ntmps4
        go_wp2_with fail
        refine (unhide HCP _).mono ?_
        rintro e w1 ⟨rfl, rfl⟩
        go_wp2_with fail
        refine (unhide HCT _ (unhide HM0)).mono ?_
        rintro e w2 ⟨rfl, k2, rfl⟩
        go_wp2_with fail
        refine (unhide HIW2 _).mono ?_
        rintro e w3 ⟨rfl, rfl⟩
        go_wp2_with fail
        refine (unhide HID2 _).mono ?_
        rintro e w3 ⟨rfl, rfl⟩
        go_wp2_with fail
        refine (unhide HRW _).mono ?_
        rintro e w4 ⟨rfl, rfl⟩
        obtain ⟨V, eV⟩ : ∃ V, wholeV wh = V := ⟨_, rfl⟩
        have hV : V ≤ 2147483649 := by rw [← eV]; exact wholeV_le wh
        rw [eV] at HM ⊢
        clear eV
        go_wp2_with fail
        refine (unhide HRF _ (below_drewN (Below.refl _ _) k2)).mono ?_
        rintro e w5 ⟨rfl, k5⟩
        have K5 := hide k5
        obtain ⟨f, ef⟩ : ∃ f, fracV fr ng = f := ⟨_, rfl⟩
        rw [ef] at HM hfle ⊢
        have HM2 := hide (show readM l = sgnZ ng ((V : Int) * 4294967296 + (f : Int)) from by rw [unhide HM]; congr 1)
        clear ef k5
        go_wp2_with fail
        refine (stop_any ng ((V : Int) * 4294967296 + (f : Int)) (by omega) (by omega) _).mono ?_
        rintro e w6 ⟨rfl, rfl⟩
        rw [← unhide HM2]
        cases hb : bentZ (readM l)
        · have EV2 := hide (show readV l = clampZ (readM l) ∧ readE l = 0 from by have h := unhide EV; rw [hb] at h; exact h)
          clear hb
          obtain ⟨z, ez⟩ : ∃ z, clampZ (readM l) = z := ⟨_, rfl⟩
          rw [ez] at EV2 ⊢
          clear ez
          go_wp2_with fail
          go_ret2
          rw [(unhide EV2).1, (unhide EV2).2]
          exact ⟨rfl, unhide K5⟩
        · have EV2 := hide (show readV l = 0 ∧ readE l = 3 from by have h := unhide EV; rw [hb] at h; exact h)
          clear hb
          obtain ⟨z, ez⟩ : ∃ z, clampZ (readM l) = z := ⟨_, rfl⟩
          rw [ez]
          clear ez
          go_wp2_with fail
          go_ret2
          rw [(unhide EV2).1, (unhide EV2).2]
          exact ⟨rfl, unhide K5⟩

theorem read_any (l : List UInt8) (mx : Int) (w : World) (hm : w.cell? ⟨0, 0, none⟩ = some (.int .i64 mx)) :
    Calls Tryd.prog 4 #[.string ⟨l.toArray⟩] w fun e w' => e = .returned (.tuple #[.int .i64 (readV l), .int .i64 (readE l)]) ∧ Below w.heap.size w w' := by
  rcases Nat.lt_or_ge 60 l.length with h | h
  · refine (read_long l w h).mono ?_
    rintro e w' ⟨rfl, rfl⟩
    unfold readV readE
    rw [if_pos h, if_pos h]
    exact ⟨rfl, Below.refl _ _⟩
  · exact read_short l mx w h hm

end Go.Proofs.YtbgljhjimcoiiabDoor
