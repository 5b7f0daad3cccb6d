/- Contracts of the reference: Majority. -/
import Derived.Test.YtomlpcbccfmejaaAgrOK
namespace Go.Proofs.Ytomlpcbccfmejaa
open Go.RowKit

theorem ce_next (f : Nat → Int) (n : Nat) (v : Int) : ce f (n + 1) v = ce f n v + if f n = v then 1 else 0 := by
  show cn _ n + (if decide (f n = v) = true then 1 else 0) = _
  by_cases h : f n = v
  · rw [if_pos (decide_eq_true h), if_pos h]; rfl
  · rw [if_neg (by rw [decide_eq_false h]; decide), if_neg h]; rfl
theorem maj_none {f : Nat → Int} {n : Nat} (h : ∀ j, j < n → ¬ n < 2 * ce f n (f j)) (other : Int) : IsMaj f n other other := by
  refine Or.inr ⟨fun v hv => ?_, rfl⟩
  obtain ⟨i, hi, hp⟩ := cn_pos (p := fun i => decide (f i = v)) (n := n) (by show 0 < ce f n v; omega)
  have e := of_decide_eq_true hp
  have := h i hi
  rw [e] at this
  exact this hv

set_option maxHeartbeats 2000000 in
theorem refMajority_rd (ao : Option Addr) (n cap : Nat) (f : Nat → Int) (other : Int) (w : World) (hl : n ≤ 17592186043904) (hr : Rd w ao n (iF f)) :
    Calls Try.prog 10 #[.slice ao n cap, .int .i64 other] w fun e w' => ∃ m, IsMaj f n other m ∧ e = .returned (.int .i64 m) ∧ w' = w := by
  have HR := hide hr
  clear hr
  go_enter Try.func10, Try.ntmps10
  go_wp2_with fail
  go_loopw [6, 7, 9, 12] (fun _ _ _ is wr => w = wr ∧ ∃ i : Nat, is = .int .i64 i ∧ i ≤ n ∧ ∀ j, j < i → ¬ n < 2 * ce f n (f j)) (fun _ _ _ is _ => n - (intOf is).toNat)
  case atStart => exact ⟨rfl, 0, rfl, Nat.zero_le _, fun j hj => absurd hj (by omega)⟩
  case round =>
    obtain ⟨rfl, i, rfl, hi, hno⟩ := hrel
    have NO := hide hno
    clear hno
    by_cases hin : i < n
    · obtain ⟨b, o, rfl, hc⟩ := unhide HR (by omega)
      have HC := hide hc
      have ci : w.cell? ⟨b, o + i, none⟩ = some (.int .i64 (f i)) := hc i hin
      obtain ⟨v, ev⟩ : ∃ v, f i = v := ⟨_, rfl⟩
      rw [ev] at ci
      have EV := hide ev
      clear ev hc
      go_wp2_with fail
      clear ci
      go_loopw [7, 9, 18] (fun ns _ js wr => w = wr ∧ ∃ j : Nat, js = .int .i64 j ∧ j ≤ n ∧ ns = .int .i64 (ce f j v : Nat)) (fun _ _ js _ => n - (intOf js).toNat)
      case atStart => exact ⟨rfl, 0, rfl, Nat.zero_le _, rfl⟩
      case round =>
        obtain ⟨rfl, j, rfl, hj, rfl⟩ := hrel
        have b2 : ce f j v ≤ j := cn_le _ _
        by_cases hjn : j < n
        · have cj : w.cell? ⟨b, o + j, none⟩ = some (.int .i64 (f j)) := unhide HC j hjn
          have S2 := hide (ce_next f j v)
          obtain ⟨q, eq⟩ : ∃ q, ce f j v = q := ⟨_, rfl⟩
          obtain ⟨u, eu⟩ : ∃ u, f j = u := ⟨_, rfl⟩
          rw [eq] at b2 S2 ⊢
          rw [eu] at cj S2
          clear eq eu
          by_cases he : u = v
          · subst he
            have t1 : (u == u) = true := by simp
            have T2 := hide (show ce f (j + 1) u = q + 1 by rw [unhide S2, if_pos rfl])
            go_wp2_with fail
            go_roundw
            case rel => exact ⟨trivial, j + 1, by go_num, by omega, by rw [unhide T2]; go_num⟩
            case measure => simp [intOf] <;> omega
          · have t1 : (v == u) = false := by simp; omega
            have T2 := hide (show ce f (j + 1) v = q by rw [unhide S2, if_neg he]; rfl)
            go_wp2_with fail
            go_roundw
            case rel => exact ⟨trivial, j + 1, by go_num, by omega, by rw [unhide T2]⟩
            case measure => simp [intOf] <;> omega
        · have e9 : j = n := by omega
          subst e9
          have C := hide (show ce f j v = ce f j (f i) by rw [unhide EV])
          obtain ⟨q, eq⟩ : ∃ q, ce f j v = q := ⟨_, rfl⟩
          have EQ := hide eq
          rw [eq] at b2 ⊢
          clear eq
          by_cases h2 : j < 2 * q
          · have h2' : (j : Int) < 2 * (q : Int) := by omega
            go_wp2_with fail
            go_ret
            exact ⟨v, Or.inl (by rw [unhide EQ]; exact h2), rfl, rfl⟩
          · have h2' : ¬ (j : Int) < 2 * (q : Int) := by omega
            go_wp2_with fail
            go_roundw
            case rel => exact ⟨trivial, i + 1, by go_num, by omega, fun t ht => by
              by_cases e : t = i
              · subst e; rw [unhide EV, unhide EQ]; exact h2
              · exact unhide NO t (by omega)⟩
            case measure => simp [intOf] <;> omega
    · have e9 : i = n := by omega
      subst e9
      go_wp2_with fail
      go_ret
      exact ⟨other, maj_none (unhide NO) other, rfl, rfl⟩

theorem refMajority_ok : MjOK 10 := by
  intro ao n cap f other w _ _ hl _ hs
  refine (refMajority_rd ao n cap f other w (by omega) hs.rd).mono ?_
  rintro e w' ⟨m, hm, rfl, rfl⟩
  exact ⟨m, hm, rfl, Below.refl _ _⟩

end Go.Proofs.Ytomlpcbccfmejaa
