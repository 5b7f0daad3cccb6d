/- Plain: products with noughts and ones. -/
import Derived.Test.YtnfejfdekedmhabMatFacS
namespace Go.Proofs.Ytnfejfdekedmhab

theorem mulQ_one (x : Int) : mulQ x 4294967296 = x := by unfold mulQ; omega
theorem mulQ_one' (x : Int) : mulQ 4294967296 x = x := by unfold mulQ; omega
theorem mulQ_nil (x : Int) : mulQ x 0 = 0 := by unfold mulQ; simp
theorem mulQ_nil' (x : Int) : mulQ 0 x = 0 := by unfold mulQ; simp
/-- Where only one product is not nought, the chain is that product. -/
theorem chV_one {a b : Nat → Int} {c : Nat} {z : Int} (hz : R64 z) (hc : mulQ (a c) (b c) = z) : ∀ {k : Nat}, (∀ t, t < k → t ≠ c → mulQ (a t) (b t) = 0) → chV a b k = (if c < k then z else 0) ∧ chB a b k = false
  | 0, _ => ⟨by rw [if_neg (by omega)]; rfl, rfl⟩
  | k + 1, h => by
    obtain ⟨h1, h2⟩ := chV_one hz hc (k := k) (fun t ht => h t (by omega))
    show clampZ (chV a b k + clampZ (mulQ (a k) (b k))) = _ ∧ (chB a b k || bentZ (mulQ (a k) (b k)) || bentZ (chV a b k + clampZ (mulQ (a k) (b k)))) = false
    rw [h1, h2]
    by_cases e : k = c
    · subst e
      rw [hc, if_neg (by omega), if_pos (by omega), clampZ_in hz, Int.zero_add, clampZ_in hz, bentZ_in hz]
      exact ⟨rfl, rfl⟩
    · rw [h k (by omega) e, clampZ_in R64_nought, bentZ_in R64_nought, Int.add_zero]
      by_cases e2 : c < k
      · rw [if_pos e2, if_pos (by omega), clampZ_in hz, bentZ_in hz]; exact ⟨rfl, rfl⟩
      · rw [if_neg e2, if_neg (by omega), clampZ_in R64_nought, bentZ_in R64_nought]; exact ⟨rfl, rfl⟩
/-- Ones on the diagonal. -/
def IsUnit (n : Nat) (u : Nat → Int) : Prop := ∀ a c, a < n → c < n → u (a * n + c) = if a = c then 4294967296 else 0
theorem unit_right {n a c : Nat} {f u : Nat → Int} (hu : IsUnit n u) (hf : ∀ i, R64 (f i)) (hc : c < n) : chV (rowF n f a) (fun t => u (t * n + c)) n = f (a * n + c) ∧ chB (rowF n f a) (fun t => u (t * n + c)) n = false := by
  have h := chV_one (a := rowF n f a) (b := fun t => u (t * n + c)) (c := c) (hf (a * n + c)) (by
    show mulQ (f (a * n + c)) (u (c * n + c)) = _
    rw [hu c c hc hc, if_pos rfl, mulQ_one]) (k := n) (fun t ht hne => by
      show mulQ _ (u (t * n + c)) = _
      rw [hu t c ht hc, if_neg hne, mulQ_nil])
  rw [if_pos hc] at h
  exact h
theorem unit_left {n a c : Nat} {f u : Nat → Int} (hu : IsUnit n u) (hf : ∀ i, R64 (f i)) (ha : a < n) : chV (rowF n u a) (fun t => f (t * n + c)) n = f (a * n + c) ∧ chB (rowF n u a) (fun t => f (t * n + c)) n = false := by
  have h := chV_one (a := rowF n u a) (b := fun t => f (t * n + c)) (c := a) (hf (a * n + c)) (by
    show mulQ (u (a * n + a)) (f (a * n + c)) = _
    rw [hu a a ha ha, if_pos rfl, mulQ_one']) (k := n) (fun t ht hne => by
      show mulQ (u (a * n + t)) _ = _
      rw [hu a t ha ht, if_neg (fun e => hne e.symm), mulQ_nil'])
  rw [if_pos ha] at h
  exact h
theorem anyB_false {f : Nat → Bool} {n : Nat} (h : ∀ k, k < n → f k = false) : anyB f n = false := by
  cases e : anyB f n
  · rfl
  · obtain ⟨k, hk, hf⟩ := anyB_iff.1 e
    rw [h k hk] at hf; cases hf

end Go.Proofs.Ytnfejfdekedmhab
