/- What the four hear from the two others: how long the rows are, and how they grow. -/
import Derived.Test.YtomlpcbccfmejaaAgrOps
namespace Go.Proofs.Ytomlpcbccfmejaa
open Go.RowKit

/-- How many of the other two come ahead of r. -/
def n2 (q s r : Nat) : Nat := (if o1 q s < r then 1 else 0) + (if o2 q s < r then 1 else 0)
/-- How long the row of j is ahead of r to q. -/
def nn (s r q j : Nat) : Nat := if j = s then 0 else n2 j s (if j < q then r + 1 else r)
/-- What stands in the row of j. -/
def gO (v : Nat → Int) (bad : Int) (L : Nat → Int) (s j i : Nat) : Int := if i = 0 then psF v bad L s (o1 j s) j else psF v bad L s (o2 j s) j
theorem nn_s (s r q : Nat) : nn s r q s = 0 := if_pos rfl
theorem nn_lt {s r q j : Nat} (h : j ≠ s) (hj : j < q) : nn s r q j = n2 j s (r + 1) := by unfold nn; rw [if_neg h, if_pos hj]
theorem nn_ge {s r q j : Nat} (h : j ≠ s) (hj : ¬ j < q) : nn s r q j = n2 j s r := by unfold nn; rw [if_neg h, if_neg hj]
theorem n2_le (q s r : Nat) : n2 q s r ≤ 2 := by unfold n2; split <;> split <;> omega
theorem nn_zero (s j : Nat) : nn s 0 0 j = 0 := by
  by_cases h : j = s
  · subst h; exact nn_s _ _ _
  · rw [nn_ge h (by omega)]; unfold n2; rw [if_neg (by omega), if_neg (by omega)]
theorem nn_le (s r q j : Nat) : nn s r q j ≤ 2 := by
  by_cases h : j = s
  · subst h; rw [nn_s]; omega
  · by_cases c : j < q
    · rw [nn_lt h c]; exact n2_le _ _ _
    · rw [nn_ge h c]; exact n2_le _ _ _
theorem n2_skip {q s r : Nat} (h1 : r ≠ o1 q s) (h2 : r ≠ o2 q s) : n2 q s (r + 1) = n2 q s r := by unfold n2; split <;> split <;> split <;> split <;> omega
theorem nn_other {s r q j : Nat} (h : j ≠ q) : nn s r (q + 1) j = nn s r q j := by
  by_cases e : j = s
  · subst e; rw [nn_s, nn_s]
  · by_cases c : j < q
    · rw [nn_lt e c, nn_lt e (by omega)]
    · rw [nn_ge e c, nn_ge e (by omega)]
theorem nn_skip {s r q : Nat} (hs : s < 4) (hq : q < 4) (e : r = s ∨ q = s ∨ q = r) (j : Nat) : nn s r (q + 1) j = nn s r q j := by
  by_cases h : j = q
  · subst h
    by_cases c : j = s
    · subst c; rw [nn_s, nn_s]
    · rw [nn_lt c (by omega), nn_ge c (by omega)]
      obtain ⟨a, b, c', d, e', f, g⟩ := oth hq hs c
      exact n2_skip (by omega) (by omega)
  · exact nn_other h
theorem nn_put {s r q : Nat} (hs : s < 4) (hq : q < 4) (hr : r < 4) (h1 : q ≠ s) (h2 : r ≠ s) (h3 : q ≠ r) : nn s r (q + 1) q = nn s r q q + 1 := by
  have hl := oth_lt hq hs h1
  have e := oth_is hq hs h1 hr h2 (fun e => h3 e.symm)
  rw [nn_lt h1 (by omega), nn_ge h1 (by omega)]
  unfold n2
  split <;> split <;> split <;> split <;> omega
theorem gO_put {v : Nat → Int} {bad : Int} {L : Nat → Int} {s r q : Nat} (hs : s < 4) (hq : q < 4) (hr : r < 4) (h1 : q ≠ s) (h2 : r ≠ s) (h3 : q ≠ r) : gO v bad L s q (nn s r q q) = psF v bad L s r q := by
  have hl := oth_lt hq hs h1
  rw [nn_ge h1 (by omega)]
  rcases oth_is hq hs h1 hr h2 (fun e => h3 e.symm) with e | e
  · have e2 : n2 q s r = 0 := by unfold n2; rw [if_neg (by omega), if_neg (by omega)]
    rw [e2]; unfold gO; rw [if_pos rfl, e]
  · have e2 : n2 q s r = 1 := by unfold n2; rw [if_pos (by omega), if_neg (by omega)]
    rw [e2]; unfold gO; rw [if_neg (by omega), e]
theorem nn_row (s r : Nat) {j : Nat} (hj : j < 4) : nn s r 4 j = nn s (r + 1) 0 j := by
  by_cases h : j = s
  · subst h; rw [nn_s, nn_s]
  · rw [nn_lt h hj, nn_ge h (by omega)]
theorem nn_end {s j : Nat} (hs : s < 4) (hj : j < 4) (h : j ≠ s) : nn s 4 0 j = 2 := by
  obtain ⟨_, _, _, _, _, f, g⟩ := oth hj hs h
  rw [nn_ge h (by omega)]
  unfold n2
  rw [if_pos f, if_pos g]
theorem vc_end {v : Nat → Int} {bad : Int} {L : Nat → Int} {s q : Nat} (h : q ≠ s) {x : Int} (hx : x = hdF v bad L s q) : vcF v bad L q s = dc3 x (gO v bad L s q 0) (gO v bad L s q 1) := by
  unfold vcF gO
  rw [if_neg h, if_pos rfl, if_neg (by omega), hx]

/-- What is kept while all is told on. -/
structure OA (w0 w : World) (g : Nat → Int) (ln : Nat) (bad : Int) (b : Nat) (H : Nat → Int) (G : Nat → Nat → Int) (N : Nat → Nat) (c : Nat) (A : Nat → Option Addr) (C : Nat → Nat) (wx : World) : Prop where
  h : F4 wx w.heap.size H
  z : R4 wx (w.heap.size + 1) (fun _ => .slice none 0 0)
  s : R4 wx (w.heap.size + 1 + 1) (slF A N C)
  o : ∀ j, j < 4 → wx.ownsRow (w.heap.size + 1 + 1 + 1) 3 1 (slF A N C j) (N j) (rowV (iF (G j)) (N j))
  p : ∀ i j, i < 4 → j < 4 → i ≠ j → Apart (slF A N C i) (slF A N C j)
  t : TJ w0 g ln bad b c wx
  k : Kept b w wx
  n : w.heap.size + 1 + 1 + 1 ≤ wx.heap.size
section
variable {w0 w wx w' : World} {g : Nat → Int} {ln : Nat} {bad : Int} {b : Nat} {H : Nat → Int} {G : Nat → Nat → Int} {N : Nat → Nat} {c : Nat} {A : Nat → Option Addr} {C : Nat → Nat}
theorem OA.below (h : OA w0 w g ln bad b H G N c A C wx) (k : Below wx.heap.size wx w') : OA w0 w g ln bad b H G N c A C w' :=
  ⟨h.h.below k, h.z.below k, h.s.below k, fun j hj => own_kept (h.o j hj) k, h.p, h.t.below k, h.k.trans (Kept.of_below k) (Or.inl rfl), Nat.le_trans h.n k.size⟩
theorem OA.told (h : OA w0 w g ln bad b H G N c A C wx) (hb : b < w.heap.size) (k : Kept b wx w') {c' : Nat} (t : TJ w0 g ln bad b c' w') : OA w0 w g ln bad b H G N c' A C w' :=
  ⟨h.h.kept k (by omega), h.z.kept k (by omega), h.s.kept k (by omega), fun j hj => own_keptz (h.o j hj) k (by omega), h.p, t, h.k.trans k (Or.inl rfl), Nat.le_trans h.n k.size⟩
theorem OA.congr (h : OA w0 w g ln bad b H G N c A C wx) {M : Nat → Nat} (e : ∀ j, j < 4 → N j = M j) : OA w0 w g ln bad b H G M c A C wx := by
  have es : ∀ j, j < 4 → slF A N C j = slF A M C j := fun j hj => by unfold slF; rw [e j hj]
  refine ⟨h.h, h.z, h.s.congr es, fun j hj => ?_, fun i j hi hj hn => ?_, h.t, h.k, h.n⟩
  · rw [← es j hj, ← e j hj]; exact h.o j hj
  · rw [← es i hi, ← es j hj]; exact h.p i j hi hj hn
/-- A value in place of one. -/
def upN {α : Type} (f : Nat → α) (q : Nat) (x : α) (j : Nat) : α := if j = q then x else f j
theorem upN_same {α : Type} (f : Nat → α) (q : Nat) (x : α) : upN f q x q = x := if_pos rfl
theorem upN_other {α : Type} (f : Nat → α) {q j : Nat} (x : α) (h : j ≠ q) : upN f q x j = f j := if_neg h
theorem OA.join (h : OA w0 w g ln bad b H G N c A C wx) (hb : b < w.heap.size) {q : Nat} (hq : q < 4) {ao : Option Addr} {cp : Nat} {u : Nat → Value}
    (ho : w'.ownsRow (w.heap.size + 1 + 1 + 1) 3 1 (.slice ao (N q + 1) cp) (N q + 1) (rowV (iF (G q)) (N q) ++ rowV u 1)) (hg : wx.grownBy w' (Value.ownBlock (slF A N C q)))
    (hf : ∀ k, Value.ownBlock (.slice ao (N q + 1) cp) = some k → Value.ownBlock (slF A N C q) = some k ∨ wx.heap.size ≤ k) (hl : Below (w.heap.size + 1 + 1 + 1) wx w') (e : iF (G q) (N q) = u 0) :
    OA w0 w g ln bad b H G (upN N q (N q + 1)) c (upN A q ao) (upN C q cp) (w'.setCell ⟨w.heap.size + 1 + 1, q, none⟩ (.slice ao (N q + 1) cp)) := by
  have kk := kept_set w' (w.heap.size + 1 + 1) q (.slice ao (N q + 1) cp)
  have eq : slF (upN A q ao) (upN N q (N q + 1)) (upN C q cp) q = .slice ao (N q + 1) cp := by unfold slF; rw [upN_same, upN_same, upN_same]
  have en : ∀ j, j ≠ q → slF (upN A q ao) (upN N q (N q + 1)) (upN C q cp) j = slF A N C j := fun j hj => by unfold slF; rw [upN_other _ _ hj, upN_other _ _ hj, upN_other _ _ hj]
  have hs : R4 w' (w.heap.size + 1 + 1) (slF A N C) := h.s.same (hl.block _ (by omega))
  have new : ∀ j, j < 4 → j ≠ q → Apart (.slice ao (N q + 1) cp) (slF A N C j) := fun j hj hn k h1 h2 => by
    rcases hf k h1 with h3 | h3
    · exact h.p q j hq hj (fun e => hn e.symm) k h3 h2
    · have := ((h.o j hj).lt k h2).2; omega
  refine ⟨(h.h.under hl (by omega)).kept kk (by omega), (h.z.same (hl.block _ (by omega))).kept kk (by omega), ?_, fun j hj => ?_, fun i j hi hj hn => ?_, (h.t.same (hl.block _ (by omega))).kept kk (by omega), ?_, Nat.le_trans h.n (Nat.le_trans hl.size kk.size)⟩
  · refine Vh.congr (Vh.set hs q (.slice ao (N q + 1) cp)) (fun j _ => ?_)
    by_cases e : j = q
    · subst e; rw [stW_same, eq]
    · rw [stW_other _ _ e, en j e]
  · by_cases e' : j = q
    · subst e'
      rw [eq, upN_same, ← rowV_snoc e]
      exact own_keptz ho kk (by omega)
    · rw [en j e', upN_other _ _ e']
      refine own_keptz (own_grown (h.o j hj) hg (fun k hk e2 => ?_)) kk (by omega)
      exact h.p q j hq hj (fun e => e' e.symm) k e2 hk
  · by_cases e1 : i = q
    · subst e1
      rw [eq, en j (fun e => hn e.symm)]
      exact new j hj (fun e => hn e.symm)
    · by_cases e2 : j = q
      · subst e2
        rw [eq, en i e1]
        exact fun k h1 h2 => new i hi e1 k h2 h1
      · rw [en i e1, en j e2]; exact h.p i j hi hj hn
  · have k1 : Kept b w w' := ⟨hl.os.trans h.k.os, hl.tape.trans h.k.tape, hl.output.trans h.k.output, Nat.le_trans h.k.size hl.size, fun i hi hn => (hl.block i (by omega)).trans (h.k.block i hi hn)⟩
    exact k1.trans kk (Or.inr (by omega))
end

end Go.Proofs.Ytomlpcbccfmejaa
