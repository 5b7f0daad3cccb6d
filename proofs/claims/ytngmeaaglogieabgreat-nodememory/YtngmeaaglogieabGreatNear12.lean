/- Joined: RefNod10, VotSame, LawsO1. -/
import Derived.Test.YtngmeaaglogieabGreatNear49
import Derived.Test.YtngmeaaglogieabGreatNodTkn
import Derived.Test.YtngmeaaglogieabGreatNear57
import Derived.Test.YtngmeaaglogieabGreatRefNod8
import Derived.Test.YtngmeaaglogieabGreatNear32
import Derived.Test.YtngmeaaglogieabGreatNear17
import Derived.Test.YtngmeaaglogieabGreatNear51
namespace Go.Proofs.YtngmeaaglogieabGreat
open Go.RowKit

/-- The votes of the first x nodes. -/
def jdF (n : Nd) (l : List Ms) (x j : Nat) : Value := iV (if j < x then judV n l j else 0)
theorem jd_zero (n : Nd) (l : List Ms) : ∀ j, j < 4 → iV 0 = jdF n l 0 j := fun j _ => by unfold jdF; rw [if_neg (by omega)]
theorem jd_next (n : Nd) (l : List Ms) (x : Nat) : ∀ j, j < 4 → stW (jdF n l x) (0 + x * 1) (.int .i64 (tkn n l x (n.he x) x 4)) j = jdF n l (x + 1) j := by
  intro j _
  unfold stW
  rw [show 0 + x * 1 = x by omega]
  by_cases e : j = x
  · subst e
    rw [if_pos rfl]
    unfold jdF
    rw [if_pos (by omega)]
    rfl
  · rw [if_neg e]
    unfold jdF
    by_cases c : j < x
    · rw [if_pos c, if_pos (by omega)]
    · rw [if_neg c, if_neg (by omega)]
theorem jd_four (n : Nd) (l : List Ms) : ∀ j, j < 4 → jdF n l 4 (0 + j) = (fun j => iV (judV n l j)) j := by
  intro j hj
  unfold jdF
  rw [Nat.zero_add, if_pos hj]
theorem judX_R {n : Nd} {L : List Lm} (hok : NdOK n) (hRL : ∀ m, m ∈ L → ∀ i, R64 (gL m.m.L i)) : R64 (judX n (L.map Lm.m)) := by
  have h : ∀ s, R64 (judV n (L.map Lm.m) s) := fun s => tkn_R hRL (hok.he s)
  unfold judX
  have : ∀ k, R64 (vtX (judV n (L.map Lm.m)) n.rl.I k) := by
    intro k
    induction k with
    | zero => exact R64_zero
    | succ k ih =>
      show R64 (if _ then _ else _)
      split
      · exact h k
      · exact ih
  exact this 4
theorem jd_sr {w : World} {B : Nat} {vo : Option Addr} {vc : Nat} {A : Nat → Bool} (h : w.ownsRow B 4 1 (.slice vo 4 vc) 4 (rowV (tF A) 4)) : Sr w vo 4 vc (tF A) := by
  obtain ⟨ao, cap, e, hs, _⟩ := owns_sr h
  cases e
  exact hs
theorem jd_own {w : World} {B : Nat} {vo : Option Addr} {vc : Nat} {A : Nat → Bool} {N : Nd} (h : w.ownsRow B 4 1 (.slice vo 4 vc) 4 (rowV (tF A) 4)) (e : N.vA = (List.range 4).map A := by rfl) : AgNew B w N vo vc := by
  unfold AgNew
  have e2 : rowV (tF (bA N)) 4 = rowV (tF A) 4 := rowV_congr (fun i hi => by
    unfold tF bA
    rw [e, List.getD_eq_getElem?_getD, List.getElem?_map, List.getElem?_range hi]
    rfl)
  have e3 : N.vA.length = 4 := by rw [e]; simp
  rw [e3, e2]
  exact h
end Go.Proofs.YtngmeaaglogieabGreat

namespace Go.Proofs.YtngmeaaglogieabGreat
open Go.RowKit

/-- Two verdicts' variables. -/
theorem vd_pair (w : World) (X : Int) (S : Bool) (u v : Value) : ∃ w1, w1 = (w.alloc (.cells #[.int .i64 X, .bool S, u] 35)).alloc (.cells #[.int .i64 X, .bool S, v] 35) ∧
    VdAt w1 w.heap.size X S u ∧ VdAt w1 (w.heap.size + 1) X S v ∧ Below w.heap.size w w1 ∧ w1.heap.size = w.heap.size + 1 + 1 := by
  refine ⟨_, rfl, (VdAt.new w X S u).below (al_below _ _), ?_, ?_, ?_⟩
  · have h := VdAt.new (w.alloc (.cells #[.int .i64 X, .bool S, u] 35)) X S v
    rw [al_size] at h
    exact h
  · exact ((Below.refl _ _).alloc (Nat.le_refl _) _).alloc (by rw [al_size]; omega) _
  · rw [al_size, al_size]

end Go.Proofs.YtngmeaaglogieabGreat

namespace Go.Proofs.YtngmeaaglogieabGreat
open Go.RowKit

theorem enter_vote (u p : Value) (w : World) : (callFunc 23 #[u, p]).run Tryz.prog w = .ok (.enter 23 #[u, p]) w := by go_simp
/-- All say five, all are in. -/
theorem all_five {X : Int} (h : IsV (fun _ => 5) (fun _ => true) 4 X) : X = 5 ∧ vtS (fun _ => 5) (fun _ => true) X = true := by
  rcases h with ⟨h, _⟩ | ⟨m, _, _, h, _⟩
  · exact absurd h (by decide)
  · subst h; exact ⟨rfl, show vtS (fun _ => 5) (fun _ => true) 5 = true by decide⟩
/-- Two boxes. -/
theorem vt_two (w : World) (v : Nat → Int) (b : Nat → Bool) : ∃ w1, w1 = ((w.alloc (.cells #[.int .i64 (v 0), .int .i64 (v 1), .int .i64 (v 2), .int .i64 (v 3)] 28)).alloc (.cells #[.bool (b 0), .bool (b 1), .bool (b 2), .bool (b 3)] 27)) ∧
    F4 w1 w.heap.size v ∧ B4 w1 (w.heap.size + 1) b ∧ Below w.heap.size w w1 ∧ w1.heap.size = w.heap.size + 1 + 1 := by
  obtain ⟨u, eu, mu, ku, su⟩ := f4_alloc w v
  obtain ⟨x, ex, mx, kx, sx⟩ := b4_alloc u b
  subst eu
  rw [su] at mx
  exact ⟨x, ex, mu.below kx, mx, ku.trans (kx.mono (by omega)), by omega⟩

/-- What the last statement reads. -/
def vtR (v : Nat → Int) (b : Nat → Bool) (p q : Nat) (W : World) : Prop := F4 W p v ∧ B4 W (p + 1) b ∧ W.cell? ⟨q, 1, none⟩ = some (.bool true)
theorem below3 {v : Nat → Int} {b : Nat → Bool} {p q : Nat} {W W' : World} (h : vtR v b p q W) (k : Below W.heap.size W W') : vtR v b p q W' := ⟨h.1.below k, h.2.1.below k, at_below h.2.2 k⟩

end Go.Proofs.YtngmeaaglogieabGreat
