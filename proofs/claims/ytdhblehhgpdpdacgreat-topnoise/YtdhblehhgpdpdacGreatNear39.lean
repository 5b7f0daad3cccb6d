import Derived.Test.YtdhblehhgpdpdacGreatNear71
import Derived.Test.YtdhblehhgpdpdacGreatSumOpen
import Derived.Test.YtdhblehhgpdpdacGreatNear131
namespace Go.Proofs.YtdhblehhgpdpdacGreat
open Go.RowKit
end Go.Proofs.YtdhblehhgpdpdacGreat
namespace Go.Proofs.YtdhblehhgpdpdacGreat
open Go.RowKit
structure Ly where
 ph : Int
 wo : Int
 n : Nat
 g : Nat → Nat
structure Ip where
 rd : Nat → Nat → Int
 bad : Int
 ly : List Ly
structure Cl where
 fr : Int
 nd : Nat → Nd
instance (g : Nat → Nat) (n : Nat) : Decidable (opG g n) := by unfold opG; infer_instance
def dcB (g : Nat → Nat) (n : Nat) : Bool := decide (12 ≤ n) && decide (n ≤ 220) && decide (g 0 = 87) && decide (opG g n) && decide (g 7 ≤ 24) && decide (n = 12 + 8 * g 7) && decide (wrongM (g 1 : Nat) (g 2 : Nat) (dR g : Nat) (g 7) = 0)
def dcM (n : Nat) (g : Nat → Nat) : List Ms := if dcB g n = true then [⟨(g 1 : Nat), (g 2 : Nat), (dR g : Nat), (List.range (g 7)).map (dV g)⟩] else []
def liM (bad wo ph : Int) (l : List Ly) : List Ms := l.flatMap fun y => if y.ph = ph ∧ y.wo = wo then (dcM y.n y.g).filter fun m => decide (m.F = bad) else []
def wrM (m : Ms) : List Ms := if wrongM m.K m.F m.R m.L.length = 0 then [m] else []
def bxM (x : Ip) (told : Nat → Ms) (wo ph : Nat) : Nat → List Ms
 | 0 => []
 | k + 1 => bxM x told wo ph k ++ (if k = wo then [] else if (k : Int) = x.bad then liM x.bad wo ph x.ly else wrM (told k))
def phN (k : Nat) (n : Nd) (fr : Int) (rd : Nat → Int) (l : List Ms) : Nd := if k = 0 then senN n fr rd else if k = 1 then relN n l else if k = 2 then decN n l else if k = 3 then pasN n l else judN n l
def phM (k : Nat) (n : Nd) (fr : Int) (rd : Nat → Int) (l : List Ms) : Ms := if k = 0 then senM n fr rd else if k = 1 then relM n l else if k = 2 then decM n l else if k = 3 then pasM n l else judM n l
structure Wk where
 nd : Nat → Nd
 bx : Nat → List Ms
def wkN (x : Ip) (fr : Int) (s : Wk) (k i : Nat) : Nd := if (i : Int) = x.bad then s.nd i else phN k (s.nd i) fr (x.rd i) (s.bx i)
def wkM (x : Ip) (fr : Int) (s : Wk) (k i : Nat) : Ms := if (i : Int) = x.bad then zeroM else phM k (s.nd i) fr (x.rd i) (s.bx i)
def wkS (x : Ip) (fr : Int) (s : Wk) (k : Nat) : Wk := ⟨wkN x fr s k, fun i => bxM x (wkM x fr s k) i k 4⟩
def wkK (x : Ip) (c : Cl) : Nat → Wk
 | 0 => ⟨c.nd, fun _ => []⟩
 | k + 1 => wkS x c.fr (wkK x c k) k
def frE (x : Ip) (c : Cl) : Int := if x.bad < -1 ∨ 4 ≤ x.bad ∨ c.fr < 0 ∨ 1073741823 < c.fr then 3 else if 400 < x.ly.length then 6 else if (c.nd 0).id = 0 ∧ (c.nd 1).id = 1 ∧ (c.nd 2).id = 2 ∧ (c.nd 3).id = 3 then 0 else 7
structure Rn where
 c : Cl
 r : List Nd
 e : Int
theorem frE_ok {x : Ip} {c : Cl} (h : frE x c = 0) : (-1 ≤ x.bad ∧ x.bad < 4) ∧ (0 ≤ c.fr ∧ c.fr ≤ 1073741823) ∧ x.ly.length ≤ 400 ∧ ∀ i, i < 4 → (c.nd i).id = (i : Nat) := by
 unfold frE at h
 split at h
 ·omega
 ·split at h
  ·omega
  ·split at h
   ·rename_i h1 h2 h3
    refine ⟨by omega, by omega, by omega, fun i hi => ?_⟩
    have : i = 0 ∨ i = 1 ∨ i = 2 ∨ i = 3 := by omega
    rcases this with rfl | rfl | rfl | rfl
    ·exact h3.1
    ·exact h3.2.1
    ·exact h3.2.2.1
    ·exact h3.2.2.2
   ·omega
theorem noN_at {i : Nat} (hi : i < 4) : noN (i : Nat) = false := by
 unfold noN
 rw [decide_eq_false (by omega), decide_eq_false (by omega)]
 rfl
end Go.Proofs.YtdhblehhgpdpdacGreat
