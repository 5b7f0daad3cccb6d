import Derived.Test.YtdhblehhgpdpdaaGreatNear35
import Derived.Test.YtdhblehhgpdpdaaGreatNear123
import Derived.Test.YtdhblehhgpdpdaaGreatNear125
import Derived.Test.YtdhblehhgpdpdaaGreatRefNod8
import Derived.Test.YtdhblehhgpdpdaaGreatNear132
import Derived.Test.YtdhblehhgpdpdaaGreatNear74
import Derived.Test.YtdhblehhgpdpdaaGreatNear54
namespace Go.Proofs.YtdhblehhgpdpdaaGreat
open Go.RowKit
theorem judX_R {n : Nd} {L : List Lm} (hok : NdOK n) (hRL : ∀ m, m ∈ L → ∀ i, R64 (gL m.m.L i)) : R64 (judX n (L.map Lm.m)) := by
 have h : ∀ s, R64 (judV n (L.map Lm.m) s) := fun s => tkn_R hRL (hok.he s)
 unfold judX
 have : ∀ k, R64 (vtX (judV n (L.map Lm.m)) n.rl.I k) := by
  intro k
  induction k with
  | zero => exact R64_zero
  | succ k ih =>
   show R64 (if _ then _ else _)
   split
   ·exact h k
   ·exact ih
 exact this 4
theorem jd_sr {w : World} {B : Nat} {vo : Option Addr} {vc : Nat} {A : Nat → Bool} (h : w.ownsRow B 4 1 (.slice vo 4 vc) 4 (rowV (tF A) 4)) : Sr w vo 4 vc (tF A) := by
 obtain ⟨ao, cap, e, hs, _⟩ := owns_sr h
 cases e
 exact hs
theorem jd_own {w : World} {B : Nat} {vo : Option Addr} {vc : Nat} {A : Nat → Bool} {N : Nd} (h : w.ownsRow B 4 1 (.slice vo 4 vc) 4 (rowV (tF A) 4)) (e : N.vA = (List.range 4).map A := by rfl) : AgNew B w N vo vc := by
 unfold AgNew
 have e2 : rowV (tF (bA N)) 4 = rowV (tF A) 4 := rowV_congr (fun i hi => by
  unfold tF bA
  rw [e, List.getD_eq_getElem?_getD, List.getElem?_map, List.getElem?_range hi]
  rfl)
 have e3 : N.vA.length = 4 := by rw [e]; simp
 rw [e3, e2]
 exact h
end Go.Proofs.YtdhblehhgpdpdaaGreat
namespace Go.Proofs.YtdhblehhgpdpdaaGreat
open Go.RowKit
end Go.Proofs.YtdhblehhgpdpdaaGreat
namespace Go.Proofs.YtdhblehhgpdpdaaGreat
open Go.RowKit
theorem vt_two (w : World) (v : Nat → Int) (b : Nat → Bool) : ∃ w1, w1 = ((w.alloc (.cells #[.int .i64 (v 0), .int .i64 (v 1), .int .i64 (v 2), .int .i64 (v 3)] 28)).alloc (.cells #[.bool (b 0), .bool (b 1), .bool (b 2), .bool (b 3)] 27)) ∧
  F4 w1 w.heap.size v ∧ B4 w1 (w.heap.size + 1) b ∧ Below w.heap.size w w1 ∧ w1.heap.size = w.heap.size + 1 + 1 := by
 obtain ⟨u, eu, mu, ku, su⟩ := f4_alloc w v
 obtain ⟨x, ex, mx, kx, sx⟩ := b4_alloc u b
 subst eu
 rw [su] at mx
 exact ⟨x, ex, mu.below kx, mx, ku.trans (kx.mono (by omega)), by omega⟩
end Go.Proofs.YtdhblehhgpdpdaaGreat
