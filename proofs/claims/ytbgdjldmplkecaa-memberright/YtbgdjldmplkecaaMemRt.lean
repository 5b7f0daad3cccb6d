/- One step from a good roll on: plain facts. -/
import Derived.Test.YtbgdjldmplkecaaMemGo
namespace Go.Proofs.Ytbgdjldmplkecaa

theorem right_step {r : Rl} (A : Nat → Bool) (sb : Bool) (hg : gdA r = true) (h2 : 2 ≤ cn r.I 4) : ∃ R L, stR r sb 4 A = (R, L, 0) ∧ gdA R = true ∧ 2 ≤ cn R.I 4 ∧ ((cn R.I 4 : Nat) : Int) = ((cn r.I 4 : Nat) : Int) + smL L ∧
    (∀ c ∈ L, c.2 < 4 ∧ ((c.1 = 2 ∧ R.I c.2 = true ∧ r.I c.2 = false) ∨ (c.1 = 1 ∧ R.I c.2 = false ∧ r.I c.2 = true))) ∧ L.length ≤ 4 ∧ (sb = false → R = r ∧ L = []) := by
  cases sb with
  | true =>
    obtain ⟨a, b, c⟩ := rn_right (A := A) h2 4 (Nat.le_refl _)
    refine ⟨_, _, stR_strong hg, rn_good hg 4, a, b, fun x hx => ?_, rn_len A r 4, fun h => by cases h⟩
    obtain ⟨p, q, s, t⟩ := c x hx
    refine ⟨p, ?_⟩
    rcases t with t | t
    · right
      have e : (rnN A r 4).1.I x.2 = false := by
        cases e : (rnN A r 4).1.I x.2 with
        | false => rfl
        | true => have := s.1 e; omega
      refine ⟨t, e, ?_⟩
      rw [e] at q
      cases e2 : r.I x.2 with
      | true => rfl
      | false => exact absurd e2.symm q
    · left
      have e := s.2 t
      refine ⟨t, e, ?_⟩
      rw [e] at q
      cases e2 : r.I x.2 with
      | false => rfl
      | true => exact absurd e2.symm q
  | false => exact ⟨_, _, stR_weak hg, hg, h2, (by show _ = _ + (0 : Int); omega), (fun c hc => by cases hc), Nat.zero_le _, fun _ => ⟨rfl, rfl⟩⟩
theorem smL_abs (l : List (Int × Nat)) : -(l.length : Int) ≤ smL l ∧ smL l ≤ (l.length : Int) := by
  induction l with
  | nil => exact ⟨by decide, by decide⟩
  | cons c l ih =>
    show -((l.length + 1 : Nat) : Int) ≤ (if c.1 = 2 then 1 else -1) + smL l ∧ (if c.1 = 2 then 1 else -1) + smL l ≤ ((l.length + 1 : Nat) : Int)
    split <;> omega
theorem smL_take {l : List (Int × Nat)} {t : Nat} (h : t < l.length) : smL (l.take (t + 1)) = smL (l.take t) + (if l[t].1 = 2 then 1 else -1) := by
  rw [List.take_succ_eq_append_getElem h, smL_append]
  show _ + ((if l[t].1 = 2 then 1 else -1) + 0) = _
  omega

end Go.Proofs.Ytbgdjldmplkecaa
