/- How many lies were told, and what was passed on: plain facts. -/
import Derived.Test.YtomlpcbccfmejaaVecOps2
import Derived.Test.YtomlpcbccfmejaaJoinV
import Derived.Test.YtomlpcbccfmejaaRefAgr1
namespace Go.Proofs.Ytomlpcbccfmejaa

/-- Lies told from the start of what s says until all have heard it. -/
def cB (bad : Int) (s : Nat) : Nat := bsN bad s + (if (s : Int) = bad then 3 else 0)
/-- Lies told among what is passed on, ahead of r to q. -/
def ctN (bad : Int) (s r q : Nat) : Nat := if (s : Int) ≠ bad ∧ 0 ≤ bad ∧ bad < 4 then (if (r : Int) < bad then 0 else if (r : Int) = bad then q - (if s < q then 1 else 0) - (if r < q then 1 else 0) else 2) else 0
theorem ct_zero (bad : Int) (s : Nat) : ctN bad s 0 0 = 0 := by
  unfold ctN
  split
  · split
    · rfl
    · split <;> first | (simp; done) | omega
  · rfl
theorem ct_le (bad : Int) (s r : Nat) {q : Nat} (hq : q ≤ 4) : ctN bad s r q ≤ 4 := by
  unfold ctN
  split
  · split
    · omega
    · split <;> omega
  · omega
theorem ct_skip {bad : Int} {s r q : Nat} (h : r = s ∨ q = s ∨ q = r ∨ (r : Int) ≠ bad) : ctN bad s r (q + 1) = ctN bad s r q := by
  unfold ctN
  split
  · split
    · rfl
    · split
      · split <;> split <;> split <;> split <;> omega
      · rfl
  · rfl
theorem ct_bad {bad : Int} {s r : Nat} (q : Nat) (hr : r < 4) (h1 : r ≠ s) (h4 : (r : Int) = bad) : ctN bad s r q = q - (if s < q then 1 else 0) - (if r < q then 1 else 0) := by
  have c : (s : Int) ≠ bad ∧ 0 ≤ bad ∧ bad < 4 := by omega
  have d : ¬ (r : Int) < bad := by omega
  unfold ctN
  rw [if_pos c, if_neg d, if_pos h4]
theorem ct_out {bad : Int} {s : Nat} (r q : Nat) (h : ¬ ((s : Int) ≠ bad ∧ 0 ≤ bad ∧ bad < 4)) : ctN bad s r q = 0 := by unfold ctN; rw [if_neg h]
theorem ct_lo {bad : Int} {s r : Nat} (q : Nat) (h : (r : Int) < bad) : ctN bad s r q = 0 := by unfold ctN; rw [if_pos h]; split <;> rfl
theorem ct_hi {bad : Int} {s r : Nat} (q : Nat) (c : (s : Int) ≠ bad ∧ 0 ≤ bad ∧ bad < 4) (h : bad < (r : Int)) : ctN bad s r q = 2 := by
  have d : ¬ (r : Int) < bad := by omega
  have e : ¬ (r : Int) = bad := by omega
  unfold ctN; rw [if_pos c, if_neg d, if_neg e]
theorem ct_told {bad : Int} {s r q : Nat} (hr : r < 4) (h1 : r ≠ s) (h2 : q ≠ s) (h3 : q ≠ r) (h4 : (r : Int) = bad) : ctN bad s r (q + 1) = ctN bad s r q + 1 := by
  rw [ct_bad _ hr h1 h4, ct_bad _ hr h1 h4]
  split <;> split <;> split <;> split <;> omega
theorem ct_row {bad : Int} {s r : Nat} (hs : s < 4) (hr : r < 4) : ctN bad s r 4 = ctN bad s (r + 1) 0 := by
  by_cases c : (s : Int) ≠ bad ∧ 0 ≤ bad ∧ bad < 4
  · by_cases h : (r : Int) < bad
    · rw [ct_lo _ h]
      by_cases h' : ((r + 1 : Nat) : Int) < bad
      · rw [ct_lo _ h']
      · rw [ct_bad _ (by omega) (by omega) (by omega), if_neg (by omega), if_neg (by omega)]
    · rw [ct_hi (r := r + 1) _ c (by omega)]
      by_cases h' : (r : Int) = bad
      · rw [ct_bad _ hr (by omega) h', if_pos hs, if_pos hr]
      · rw [ct_hi _ c (by omega)]
  · rw [ct_out _ _ c, ct_out _ _ c]
theorem ct_end {bad : Int} {s : Nat} (hs : s < 4) : cB bad s + ctN bad s 4 0 = bsN bad (s + 1) := by
  by_cases h : 0 ≤ bad ∧ bad < 4
  · by_cases e : (s : Int) = bad
    · have d1 : (s : Int) ≤ bad := by omega
      have d2 : ¬ ((s + 1 : Nat) : Int) ≤ bad := by omega
      rw [ct_out _ _ (fun x => x.1 e)]
      unfold cB bsN
      rw [if_pos h, if_pos h, if_pos e, if_pos d1, if_neg d2]; omega
    · rw [ct_hi _ ⟨e, h⟩ (by omega)]
      unfold cB bsN
      rw [if_pos h, if_pos h, if_neg e]
      split <;> split <;> omega
  · have e : ¬ (s : Int) = bad := by omega
    rw [ct_out _ _ (fun x => h x.2)]
    unfold cB bsN
    rw [if_neg h, if_neg h, if_neg e]
theorem ct_at {bad : Int} {s r q : Nat} (hr : r < 4) (h1 : r ≠ s) (h4 : (r : Int) = bad) : cB bad s + ctN bad s r q = bsN bad s + (q - (if s < q then 1 else 0) - (if r < q then 1 else 0)) := by
  have e : ¬ (s : Int) = bad := by omega
  rw [ct_bad _ hr h1 h4]
  unfold cB
  rw [if_neg e]; rfl
/-- What was passed on ahead of r to q. -/
def PsK (v : Nat → Int) (bad : Int) (L : Nat → Int) (s : Nat) (P : Nat → Nat → Int) (r q : Nat) : Prop := ∀ i j, i < 4 → j < 4 → i ≠ s → j ≠ s → j ≠ i → (i < r ∨ (i = r ∧ j < q)) → P i j = psF v bad L s i j
section
variable {v : Nat → Int} {bad : Int} {L : Nat → Int} {s : Nat} {P : Nat → Nat → Int} {r q : Nat}
theorem psk_zero : PsK v bad L s P 0 0 := fun i j _ _ _ _ _ h => absurd h (by omega)
theorem psk_skip (e : r = s ∨ q = s ∨ q = r) (h : PsK v bad L s P r q) : PsK v bad L s P r (q + 1) := fun i j hi hj h1 h2 h3 h4 => h i j hi hj h1 h2 h3 (by omega)
theorem psk_keep (x : Int) (h : PsK v bad L s P r q) : PsK v bad L s (upG P r q x) r q := fun i j hi hj h1 h2 h3 h4 => by
  unfold upG
  rw [if_neg (by omega)]
  exact h i j hi hj h1 h2 h3 h4
theorem psk_put {x : Int} (e : psF v bad L s r q = x) (h : PsK v bad L s P r q) : PsK v bad L s (upG P r q x) r (q + 1) := fun i j hi hj h1 h2 h3 h4 => by
  unfold upG
  by_cases c : i = r ∧ j = q
  · rw [if_pos c, c.1, c.2, e]
  · rw [if_neg c]
    exact h i j hi hj h1 h2 h3 (by omega)
theorem psk_row (h : PsK v bad L s P r 4) : PsK v bad L s P (r + 1) 0 := fun i j hi hj h1 h2 h3 h4 => h i j hi hj h1 h2 h3 (by omega)
end
theorem oth_lt {q s : Nat} (hq : q < 4) (hs : s < 4) (h : q ≠ s) : o1 q s < o2 q s := by
  have : q = 0 ∨ q = 1 ∨ q = 2 ∨ q = 3 := by omega
  have : s = 0 ∨ s = 1 ∨ s = 2 ∨ s = 3 := by omega
  rcases ‹q = 0 ∨ _› with rfl | rfl | rfl | rfl <;> rcases ‹s = 0 ∨ _› with rfl | rfl | rfl | rfl <;> first | (exact absurd rfl h) | decide
theorem oth_is {q s r : Nat} (hq : q < 4) (hs : s < 4) (h : q ≠ s) (hr : r < 4) (h1 : r ≠ s) (h2 : r ≠ q) : r = o1 q s ∨ r = o2 q s := by
  obtain ⟨a, b, c, d, e, f, g⟩ := oth hq hs h
  have := oth_lt hq hs h
  omega
/-- How long the list is ahead of r. -/
def nO (q s r : Nat) : Nat := 1 + (if o1 q s < r then 1 else 0) + (if o2 q s < r then 1 else 0)
/-- What the list holds ahead of r. -/
def FK (q s : Nat) (H : Nat → Int) (P : Nat → Nat → Int) (F : Nat → Int) (r : Nat) : Prop := F 0 = H q ∧ (o1 q s < r → F 1 = P (o1 q s) q) ∧ (o2 q s < r → F 2 = P (o2 q s) q)
section
variable {q s r : Nat} {H : Nat → Int} {P : Nat → Nat → Int} {F : Nat → Int}
theorem nO_zero : nO q s 0 = 1 := by unfold nO; rw [if_neg (by omega), if_neg (by omega)]
theorem nO_le : nO q s r ≤ 3 := by unfold nO; split <;> split <;> omega
theorem fk_zero : FK q s H P (fun _ => H q) 0 := ⟨rfl, fun h => absurd h (by omega), fun h => absurd h (by omega)⟩
theorem nO_skip (h1 : r ≠ o1 q s) (h2 : r ≠ o2 q s) : nO q s r = nO q s (r + 1) := by unfold nO; split <;> split <;> split <;> split <;> omega
theorem fk_skip (h1 : r ≠ o1 q s) (h2 : r ≠ o2 q s) (h : FK q s H P F r) : FK q s H P F (r + 1) := ⟨h.1, fun e => h.2.1 (by omega), fun e => h.2.2 (by omega)⟩
theorem nO_add (hl : o1 q s < o2 q s) (e : r = o1 q s ∨ r = o2 q s) : nO q s r + 1 = nO q s (r + 1) := by unfold nO; split <;> split <;> split <;> split <;> omega
theorem fk_add (hl : o1 q s < o2 q s) (e : r = o1 q s ∨ r = o2 q s) (h : FK q s H P F r) : FK q s H P (fun j => if j = nO q s r then P r q else F j) (r + 1) := by
  have n1 : r = o1 q s → nO q s r = 1 := fun e => by unfold nO; rw [if_neg (by omega), if_neg (by omega)]
  have n2 : r = o2 q s → nO q s r = 2 := fun e => by unfold nO; rw [if_pos (by omega), if_neg (by omega)]
  have n0 : nO q s r ≠ 0 := by unfold nO; omega
  refine ⟨?_, fun _ => ?_, fun h' => ?_⟩ <;> dsimp only
  · rw [if_neg (by omega)]; exact h.1
  · rcases e with e | e
    · rw [if_pos (n1 e).symm, e]
    · rw [if_neg (by have := n2 e; omega)]; exact h.2.1 (by omega)
  · rcases e with e | e
    · omega
    · rw [if_pos (n2 e).symm, e]
theorem nO_end (hq : q < 4) (hs : s < 4) (h : q ≠ s) : nO q s 4 = 3 := by
  obtain ⟨_, _, _, _, _, f, g⟩ := oth hq hs h
  unfold nO; rw [if_pos f, if_pos g]
theorem fk_end {v : Nat → Int} {bad : Int} {L : Nat → Int} {m : Int} (hq : q < 4) (hs : s < 4) (h : q ≠ s) (hH : ∀ j, j < 4 → H j = hdF v bad L s j) (hP : PsK v bad L s P 4 0) (hF : FK q s H P F 4) (hm : IsMaj F 3 0 m) : vcF v bad L q s = m := by
  obtain ⟨a, b, c, d, e, f, g⟩ := oth hq hs h
  have h0 : F 0 = hdF v bad L s q := by rw [hF.1, hH q hq]
  have h1 : F 1 = psF v bad L s (o1 q s) q := by rw [hF.2.1 f, hP _ _ f hq b h (fun e => d e.symm) (Or.inl f)]
  have h2 : F 2 = psF v bad L s (o2 q s) q := by rw [hF.2.2 g, hP _ _ g hq c h (fun x => e x.symm) (Or.inl g)]
  unfold vcF
  rw [if_neg h, ← h0, ← h1, ← h2]
  exact maj_one (dc3_maj F) hm
end
/-- What stands in the answer ahead of q of s. -/
def OnK (v : Nat → Int) (bad : Int) (L : Nat → Int) (s : Nat) (O : Nat → Nat → Int) (q : Nat) : Prop := ∀ i t, i < 4 → (t < s ∨ (t = s ∧ i < q)) → O i t = vcF v bad L i t
section
variable {v : Nat → Int} {bad : Int} {L : Nat → Int} {s : Nat} {O : Nat → Nat → Int} {q : Nat}
theorem onk_put {x : Int} (e : vcF v bad L q s = x) (h : OnK v bad L s O q) : OnK v bad L s (upG O q s x) (q + 1) := fun i t hi ht => by
  unfold upG
  by_cases c : i = q ∧ t = s
  · rw [if_pos c, c.1, c.2, e]
  · rw [if_neg c]
    exact h i t hi (by omega)
end

end Go.Proofs.Ytomlpcbccfmejaa
