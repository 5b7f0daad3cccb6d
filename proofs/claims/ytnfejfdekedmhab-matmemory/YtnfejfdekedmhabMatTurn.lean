/- Contracts: turn of a matrix at work. -/
import Derived.Test.YtnfejfdekedmhabMatWork
namespace Go.Proofs.Ytnfejfdekedmhab
open Go.RowKit

/-- Rows and columns exchanged. -/
def Turned (n : Nat) (g f : Nat → Int) : Prop := ∀ a c, a < n → c < n → f (a * n + c) = g (c * n + a)
/-- Rows and columns exchanged as far as this. -/
def TurnTo (n i k : Nat) (g f : Nat → Int) : Prop := ∀ a c, a < n → c < n →
  f (a * n + c) = if (a < i ∧ c < i) ∨ (a = i ∧ c < k) ∨ (c = i ∧ a < k) then g (c * n + a) else g (a * n + c)
theorem turnTo_start (n : Nat) (g : Nat → Int) : TurnTo n 0 0 g g := by
  intro a c ha hc
  rw [if_neg (by omega)]
theorem turnTo_row {n i : Nat} {g f : Nat → Int} (h : TurnTo n i i g f) : TurnTo n (i + 1) 0 g f := by
  intro a c ha hc
  rw [h a c ha hc]
  by_cases e : a = i ∧ c = i
  · obtain ⟨rfl, rfl⟩ := e
    simp
  · by_cases e2 : (a < i ∧ c < i) ∨ (a = i ∧ c < i) ∨ (c = i ∧ a < i)
    · rw [if_pos e2, if_pos (by omega)]
    · rw [if_neg e2, if_neg (by omega)]
theorem turnTo_end {n : Nat} {g f : Nat → Int} (h : TurnTo n n 0 g f) : Turned n g f := by
  intro a c ha hc
  rw [h a c ha hc, if_pos (by omega)]
theorem turnTo_step {n i k : Nat} {g f : Nat → Int} (h : TurnTo n i k g f) (hi : i < n) (hk : k < i) :
    TurnTo n i (k + 1) g (stF (stF f (i * n + k) (f (k * n + i))) (k * n + i) (f (i * n + k))) := by
  intro a c ha hc
  have e1 := h i k hi (by omega)
  rw [if_neg (by omega)] at e1
  have e2 := h k i (by omega) hi
  rw [if_neg (by omega)] at e2
  by_cases h1 : a = k ∧ c = i
  · obtain ⟨rfl, rfl⟩ := h1
    rw [stF_same, if_pos (by omega), e1]
  · rw [stF_other _ _ (by intro q; exact h1 (idx_inj hi hc q))]
    by_cases h2 : a = i ∧ c = k
    · obtain ⟨rfl, rfl⟩ := h2
      rw [stF_same, if_pos (by omega), e2]
    · rw [stF_other _ _ (by intro q; exact h2 (idx_inj (by omega) hc q)), h a c ha hc]
      by_cases e : (a < i ∧ c < i) ∨ (a = i ∧ c < k) ∨ (c = i ∧ a < k)
      · rw [if_pos e, if_pos (by omega)]
      · rw [if_neg e, if_neg (by omega)]

set_option maxHeartbeats 1000000 in
theorem wkTurn_any (b n r cap : Nat) (g : Nat → Int) (x : Bool) (w : World) (h : MW w b n r cap g x) :
    Calls Try.prog 23 #[.pointer (some ⟨b, 0, none⟩)] w fun e w' =>
      ∃ f, e = .returned (.tuple #[]) ∧ MW w' b n r cap f x ∧ Turned n g f ∧ Kept r w w' := by
  have c0 := h.wk.cell0
  have hn6 := h.n6
  have H := hide h
  clear h
  go_enter Try.func23, Try.ntmps23
  go_wp2_with fail
  clear c0
  go_loopw [2, 3, 4, 5, 11, 15] (fun _ _ _ _ is _ wr => ∃ (i : Nat) (f : Nat → Int), is = .int .i64 i ∧ i ≤ n ∧ MW wr b n r cap f x ∧ TurnTo n i 0 g f ∧ Kept r w wr)
    (fun _ _ _ _ is _ _ => n - (intOf is).toNat)
  case atStart => exact ⟨0, g, rfl, Nat.zero_le _, unhide H, turnTo_start n g, kept_refl _ _⟩
  case round =>
    obtain ⟨i, f, rfl, hi, hM, hT, hK⟩ := hrel
    have HM := hide hM; have HT := hide hT; have HK := hide hK
    clear hM hT hK
    by_cases hin : i < n
    · go_wp2_with fail
      go_loopw [3, 4, 5, 15] (fun _ _ _ ks wr => ∃ (k : Nat) (f : Nat → Int), ks = .int .i64 k ∧ k ≤ i ∧ MW wr b n r cap f x ∧ TurnTo n i k g f ∧ Kept r w wr)
        (fun _ _ _ ks _ => i - (intOf ks).toNat)
      case atStart => exact ⟨0, f, rfl, Nat.zero_le _, unhide HM, unhide HT, unhide HK⟩
      case round =>
        obtain ⟨k, f2, rfl, hk, hM, hT, hK⟩ := hrel
        have HM2 := hide hM; have HT2 := hide hT; have HK2 := hide hK
        clear hM hT hK
        by_cases hki : k < i
        · go_wp2_with fail
          refine (wkAt_any b n r cap i k f2 x _ (by omega) (by omega) (unhide HM2)).mono ?_
          rintro e w1 ⟨rfl, rfl⟩
          go_wp2_with fail
          refine (wkAt_any b n r cap k i f2 x _ (by omega) (by omega) (mw_drew (unhide HM2))).mono ?_
          rintro e w1 ⟨rfl, rfl⟩
          go_wp2_with fail
          refine (wkPut_any b n r cap i k f2 x _ _ (by omega) (by omega) ((unhide HM2).rng _) (mw_drew (mw_drew (unhide HM2)))).mono ?_
          rintro e w1 ⟨rfl, h1, k1⟩
          have H1 := hide h1; have K1 := hide k1
          clear h1 k1
          go_wp2_with fail
          refine (wkPut_any b n r cap k i _ x _ _ (by omega) (by omega) ((unhide HM2).rng _) (unhide H1)).mono ?_
          rintro e w2 ⟨rfl, h1, k1⟩
          have H2 := hide h1; have K2 := hide k1
          clear h1 k1
          go_wp2_with fail
          go_roundw
          case rel => exact ⟨k + 1, _, by go_num, by omega, unhide H2, turnTo_step (unhide HT2) hin hki, ((((unhide HK2).trans (kept_drew _) (Or.inl rfl)).trans (kept_drew _) (Or.inl rfl)).trans (unhide K1) (Or.inl rfl)).trans (unhide K2) (Or.inl rfl)⟩
          case measure => simp [intOf]; omega
        · have hki2 : k = i := by omega
          subst hki2
          go_wp2_with fail
          go_roundw
          case rel => exact ⟨k + 1, f2, by go_num, by omega, unhide HM2, turnTo_row (unhide HT2), unhide HK2⟩
          case measure => simp [intOf]; omega
    · have hin2 : i = n := by omega
      subst hin2
      go_wp2_with fail
      go_end0
      exact ⟨f, rfl, unhide HM, turnTo_end (unhide HT), unhide HK⟩

end Go.Proofs.Ytnfejfdekedmhab
