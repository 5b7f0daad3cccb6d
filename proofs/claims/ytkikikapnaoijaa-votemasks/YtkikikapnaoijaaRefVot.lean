/- Contracts of the reference: Vote. -/
import Derived.Test.YtkikikapnaoijaaVotOps
namespace Go.Proofs.Ytkikikapnaoijaa
open Go.RowKit

set_option maxHeartbeats 1000000 in
theorem voteCount_any (x : Int) (p q : Nat) (v : Nat → Int) (b : Nat → Bool) (w : World) (hb : B4 w p b) (hv : F4 w q v) :
    Calls Try.prog 13 #[.int .i64 x, .pointer (some ⟨p, 0, none⟩), .pointer (some ⟨q, 0, none⟩)] w fun e w' => e = .returned (.int .i64 (vk b v x 4 : Nat)) ∧ w' = w := by
  have HB := hide hb; have HV := hide hv
  clear hb hv
  go_enter Try.func13, Try.ntmps13
  go_wp2_with fail
  go_loopw [5, 6, 7] (fun ns _ is wr => ∃ k : Nat, k ≤ 4 ∧ ns = .int .i64 (vk b v x k : Nat) ∧ is = .int .i64 (k : Nat) ∧ wr = w)
    (fun _ _ is _ => 4 - (intOf is).toNat)
  case atStart => exact ⟨0, by omega, rfl, rfl, rfl⟩
  case round =>
    obtain ⟨k, hk, rfl, rfl, rfl⟩ := hrel
    by_cases hin : k < 4
    · have cb := (unhide HB).cell hin; have cv := (unhide HV).cell hin
      have hin' : (k : Int) < 4 := by omega
      have hn : vk b v x k ≤ 4 := Nat.le_trans (vk_le b v x k) (by omega)
      have E := hide (show vk b v x (k + 1) = vk b v x k + if b k = true ∧ v k = x then 1 else 0 from rfl)
      obtain ⟨y, ey⟩ : ∃ y, y = v k := ⟨_, rfl⟩
      obtain ⟨c, ec⟩ : ∃ c, c = b k := ⟨_, rfl⟩
      obtain ⟨n, en⟩ : ∃ n, n = vk b v x k := ⟨_, rfl⟩
      rw [← ec] at cb
      rw [← ey] at cv
      rw [← en] at hn ⊢
      rw [← ec, ← ey, ← en] at E
      clear ey ec en
      cases c
      · go_wp2_with fail
        go_roundw
        case rel => exact ⟨k + 1, by omega, by rw [unhide E, if_neg (fun h => by cases h.1), Nat.add_zero], by go_num, trivial⟩
        case measure => simp [intOf] <;> omega
      · by_cases hx : y = x
        · have t : (y == x) = true := by simp [hx]
          have E2 := hide (show vk b v x (k + 1) = n + 1 by rw [unhide E, if_pos ⟨rfl, hx⟩])
          clear E hx
          go_wp2_with fail
          go_roundw
          case rel => exact ⟨k + 1, by omega, by rw [unhide E2]; go_num, by go_num, trivial⟩
          case measure => simp [intOf] <;> omega
        · have t : (y == x) = false := by simp [hx]
          have E2 := hide (show vk b v x (k + 1) = n by rw [unhide E, if_neg (fun h => hx h.2), Nat.add_zero])
          clear E hx
          go_wp2_with fail
          go_roundw
          case rel => exact ⟨k + 1, by omega, by rw [unhide E2], by go_num, trivial⟩
          case measure => simp [intOf] <;> omega
    · have : k = 4 := by omega
      subst this
      go_wp2_with fail
      go_ret
      exact ⟨rfl, rfl⟩

end Go.Proofs.Ytkikikapnaoijaa
