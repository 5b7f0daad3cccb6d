/- Contract of the reference's Read: its way through a text, for every text. -/
import Derived.Test.YtbgljhjimcoiiabDoorStrSet
import Derived.Test.YtbgljhjimcoiiabDoorStrCut
import Derived.Test.YtbgljhjimcoiiabDoorBigExp
import Derived.Test.YtbgljhjimcoiiabDoorBigNeg
import Derived.Test.YtbgljhjimcoiiabDoorBigQuo
import Derived.Test.YtbgljhjimcoiiabDoorBigDiv
namespace Go.Proofs.YtbgljhjimcoiiabDoor
open Go.RowKit Go.Lib

theorem digit_any (c : Nat) (hc : c < 256) (w : World) :
    Calls Tryd.prog 13 #[.int .u8 (c : Int)] w fun e w' => e = .returned (.bool (decide (48 ≤ c) && decide (c ≤ 57))) ∧ w' = w := by
  by_cases h1 : 48 ≤ c
  · have b1 : decide (48 ≤ (c : Int)) = true := decide_eq_true (by omega)
    by_cases h2 : c ≤ 57
    · have b2 : decide ((c : Int) ≤ 57) = true := decide_eq_true (by omega)
      rw [decide_eq_true h1, decide_eq_true h2]
      go_enter Tryd.func13, Tryd.ntmps13
      go_wp2_with fail
      go_ret
      exact ⟨rfl, rfl⟩
    · have b2 : decide ((c : Int) ≤ 57) = false := decide_eq_false (by omega)
      rw [decide_eq_true h1, decide_eq_false h2]
      go_enter Tryd.func13, Tryd.ntmps13
      go_wp2_with fail
      go_ret
      exact ⟨rfl, rfl⟩
  · have b1 : decide (48 ≤ (c : Int)) = false := decide_eq_false (by omega)
    rw [decide_eq_false h1, Bool.false_and]
    go_enter Tryd.func13, Tryd.ntmps13
    go_wp2_with fail
    go_ret
    exact ⟨rfl, rfl⟩

/-- One byte of a string, as a string. -/
theorem run_one (l : List UInt8) (k : Nat) (hk : k < l.length) (w : World) : (Instr.slice 9 (.string ⟨l.toArray⟩) (some (.int .i64 (k : Int))) (some (.int .i64 ((k : Int) + 1))) none).run Tryd.prog w = .ok (.string ⟨[l[k]].toArray⟩) w := by
  rw [run_slice_string_if _ _ _ _ _ _ _ Tryd.underlying9, if_pos (by rw [size_mk]; omega)]
  have e : (⟨l.toArray⟩ : ByteArray).extract (k : Int).toNat ((k : Int) + 1).toNat = ⟨[l[k]].toArray⟩ := by
    apply ByteArray.ext
    rw [show ((k : Int) + 1).toNat = k + 1 by omega, Int.toNat_natCast, ByteArray.data_extract]
    apply Array.ext
    · simp; omega
    · intro i h1 h2
      have h3 : i = 0 := by simp at h2; exact h2
      subst h3
      simp
  rw [e, if_pos (by omega)]

/-- What has gone through so far is right. -/
def Good (t wh fr : List UInt8) (pt : Bool) (i : Nat) : Prop := ∀ j, j < i → ∀ h : j < t.length, isD (t[j]'h) = true ∨ (t[j]'h = 46 ∧ pt = true ∧ j = wh.length ∧ wh ≠ [] ∧ fr ≠ [])
def ptI (wh : List UInt8) (pt : Bool) (i : Nat) : Int := if pt = true ∧ wh.length < i then (wh.length : Int) else -1

end Go.Proofs.YtbgljhjimcoiiabDoor
