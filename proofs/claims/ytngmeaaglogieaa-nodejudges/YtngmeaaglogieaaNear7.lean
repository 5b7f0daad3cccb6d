/- Joined: RefNod8, RefVot. -/
import Derived.Test.YtngmeaaglogieaaNear43
import Derived.Test.YtngmeaaglogieaaRefSum
import Derived.Test.YtngmeaaglogieaaVotOps
namespace Go.Proofs.Ytngmeaaglogieaa
open Go.RowKit

theorem enter_packed (x : Value) (w : World) : (callFunc 44 #[x]).run Try.prog w = .ok (.enter 44 #[x]) w := by go_simp
theorem ctN8_R (f : Nat → Int) (k : Nat) : R64 (ctN8 f k) := by
  cases k with
  | zero => exact (⟨by decide, by decide⟩ : R64 0)
  | succ k => exact wrap64_R _
/-- What a digest is reckoned of has 64 bits. -/
structure PkOK (ax : Nat → St) : Prop where
  ax : ∀ a, (ax a).Ok
theorem pck_R {ax : Nat → St} {r : Rl} (h : PkOK ax) (i : Nat) : R64 (gL (pck ax r) i) := by
  have z : ∀ x : Int, (x = 0 ∨ x = 1) → R64 x := fun x h => by rcases h with rfl | rfl <;> exact ⟨by decide, by decide⟩
  have hb : ∀ b : Bool, R64 (if b then 1 else 0) := fun b => by cases b <;> exact ⟨by decide, by decide⟩
  have hin : R64 (inN r.I) := by
    unfold inN
    cases r.I 0 <;> cases r.I 1 <;> cases r.I 2 <;> cases r.I 3 <;> exact ⟨by decide, by decide⟩
  rcases Nat.lt_or_ge i 24 with hi | hi
  · match i, hi with
    | 0, _ => exact (h.ax 0).X
    | 1, _ => exact (h.ax 0).V
    | 2, _ => exact (h.ax 0).P00
    | 3, _ => exact (h.ax 0).P01
    | 4, _ => exact (h.ax 0).P11
    | 5, _ => exact hb _
    | 6, _ => exact (h.ax 0).M
    | 7, _ => exact (h.ax 1).X
    | 8, _ => exact (h.ax 1).V
    | 9, _ => exact (h.ax 1).P00
    | 10, _ => exact (h.ax 1).P01
    | 11, _ => exact (h.ax 1).P11
    | 12, _ => exact hb _
    | 13, _ => exact (h.ax 1).M
    | 14, _ => exact (h.ax 2).X
    | 15, _ => exact (h.ax 2).V
    | 16, _ => exact (h.ax 2).P00
    | 17, _ => exact (h.ax 2).P01
    | 18, _ => exact (h.ax 2).P11
    | 19, _ => exact hb _
    | 20, _ => exact (h.ax 2).M
    | 21, _ => exact hin
    | 22, _ => exact ctN8_R _ _
    | 23, _ => exact ctN8_R _ _
    | k + 24, h => exact absurd h (by omega)
  · have : gL (pck ax r) i = 0 := by
      unfold gL
      rw [List.getD_eq_getElem?_getD, List.getElem?_eq_none (by rw [pck_len]; exact hi)]
      rfl
    rw [this]
    exact z 0 (Or.inl rfl)
theorem pckB_lt (ax : Nat → St) (r : Rl) : ∀ i, pckB ax r i < 256 := fun i => by unfold pckB bt; omega
theorem pckB_next {ax : Nat → St} {r : Rl} {x : Nat} : rowV (bF (pckB ax r)) (8 * x) ++ rowV (bF (bt (gL (pck ax r) x) 8)) 8 = rowV (bF (pckB ax r)) (8 * (x + 1)) := by
  rw [rowV_append]
  refine rowV_congr (fun j hj => ?_)
  by_cases c : j < 8 * x
  · rw [if_pos c]
  · rw [if_neg c]
    show bV (bt _ 8 (j - 8 * x)) = bV (bt ((pck ax r).getD (j / 8) 0) 8 (j % 8))
    rw [show j / 8 = x by omega, show j % 8 = j - 8 * x by omega]
    rfl
end Go.Proofs.Ytngmeaaglogieaa

namespace Go.Proofs.Ytngmeaaglogieaa
open Go.RowKit

set_option maxHeartbeats 1000000 in
theorem voteCount_any (x : Int) (p q : Nat) (v : Nat → Int) (b : Nat → Bool) (w : World) (hb : B4 w p b) (hv : F4 w q v) :
    Calls Try.prog 54 #[.int .i64 x, .pointer (some ⟨p, 0, none⟩), .pointer (some ⟨q, 0, none⟩)] w fun e w' => e = .returned (.int .i64 (vk b v x 4 : Nat)) ∧ w' = w := by
  have HB := hide hb; have HV := hide hv
  clear hb hv
  go_enter Try.func54, Try.ntmps54
  go_wp2_with fail
  go_loopw [5, 6, 7] (fun ns _ is wr => ∃ k : Nat, k ≤ 4 ∧ ns = .int .i64 (vk b v x k : Nat) ∧ is = .int .i64 (k : Nat) ∧ wr = w)
    (fun _ _ is _ => 4 - (intOf is).toNat)
  case atStart => exact ⟨0, by omega, rfl, rfl, rfl⟩
  case round =>
    obtain ⟨k, hk, rfl, rfl, rfl⟩ := hrel
    by_cases hin : k < 4
    · have cb := (unhide HB).cell hin; have cv := (unhide HV).cell hin
      have hin' : (k : Int) < 4 := by omega
      have hn : vk b v x k ≤ 4 := Nat.le_trans (vk_le b v x k) (by omega)
      have E := hide (show vk b v x (k + 1) = vk b v x k + if b k = true ∧ v k = x then 1 else 0 from rfl)
      obtain ⟨y, ey⟩ : ∃ y, y = v k := ⟨_, rfl⟩
      obtain ⟨c, ec⟩ : ∃ c, c = b k := ⟨_, rfl⟩
      obtain ⟨n, en⟩ : ∃ n, n = vk b v x k := ⟨_, rfl⟩
      rw [← ec] at cb
      rw [← ey] at cv
      rw [← en] at hn ⊢
      rw [← ec, ← ey, ← en] at E
      clear ey ec en
      cases c
      · go_wp2_with fail
        go_roundw
        case rel => exact ⟨k + 1, by omega, by rw [unhide E, if_neg (fun h => by cases h.1), Nat.add_zero], by go_num, trivial⟩
        case measure => simp [intOf] <;> omega
      · by_cases hx : y = x
        · have t : (y == x) = true := by simp [hx]
          have E2 := hide (show vk b v x (k + 1) = n + 1 by rw [unhide E, if_pos ⟨rfl, hx⟩])
          clear E hx
          go_wp2_with fail
          go_roundw
          case rel => exact ⟨k + 1, by omega, by rw [unhide E2]; go_num, by go_num, trivial⟩
          case measure => simp [intOf] <;> omega
        · have t : (y == x) = false := by simp [hx]
          have E2 := hide (show vk b v x (k + 1) = n by rw [unhide E, if_neg (fun h => hx h.2), Nat.add_zero])
          clear E hx
          go_wp2_with fail
          go_roundw
          case rel => exact ⟨k + 1, by omega, by rw [unhide E2], by go_num, trivial⟩
          case measure => simp [intOf] <;> omega
    · have : k = 4 := by omega
      subst this
      go_wp2_with fail
      go_ret
      exact ⟨rfl, rfl⟩

end Go.Proofs.Ytngmeaaglogieaa
