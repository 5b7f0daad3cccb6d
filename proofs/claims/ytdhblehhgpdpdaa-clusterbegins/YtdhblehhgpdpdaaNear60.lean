import Derived.Test.YtdhblehhgpdpdaaNear65
import Derived.Test.YtdhblehhgpdpdaaFixPlain
namespace Go.Proofs.Ytdhblehhgpdpdaa
structure Rl where
 I : Nat → Bool
 M : Nat → Int
 J : Nat → Int
def upM {α : Type} (f : Nat → α) (q : Nat) (x : α) (j : Nat) : α := if j = q then x else f j
theorem upM_same {α : Type} (f : Nat → α) (q : Nat) (x : α) : upM f q x q = x := if_pos rfl
theorem upM_other {α : Type} (f : Nat → α) {q j : Nat} (x : α) (h : j ≠ q) : upM f q x j = f j := if_neg h
def zeroR : Rl := ⟨fun _ => false, fun _ => 0, fun _ => 0⟩
def beginR : Rl := ⟨fun _ => true, fun _ => 0, fun _ => 0⟩
def gd (r : Rl) (j : Nat) : Bool := if r.I j then decide (0 ≤ r.M j) && decide (r.M j ≤ 2) && decide (r.J j = 0) else decide (r.M j = 0) && decide (0 ≤ r.J j) && decide (r.J j ≤ 2)
def gdA (r : Rl) : Bool := gd r 0 && gd r 1 && gd r 2 && gd r 3
def stN (A : Nat → Bool) (i : Nat) (r : Rl) : Rl :=
 if r.I i = true then (if A i = true then ⟨r.I, upM r.M i 0, r.J⟩ else if 2 ≤ r.M i + 1 ∧ 2 < cn r.I 4 then ⟨upM r.I i false, upM r.M i 0, r.J⟩ else ⟨r.I, upM r.M i (min (r.M i + 1) 2), r.J⟩)
 else if A i = true then (if 3 ≤ r.J i + 1 then ⟨upM r.I i true, r.M, upM r.J i 0⟩ else ⟨r.I, r.M, upM r.J i (r.J i + 1)⟩) else ⟨r.I, r.M, upM r.J i 0⟩
def chN (A : Nat → Bool) (i : Nat) (r : Rl) : List (Int × Nat) :=
 if r.I i = true then (if A i = true then [] else if 2 ≤ r.M i + 1 ∧ 2 < cn r.I 4 then [(1, i)] else []) else if A i = true then (if 3 ≤ r.J i + 1 then [(2, i)] else []) else []
section
variable {A : Nat → Bool} {i : Nat} {r : Rl}
end
def rnN (A : Nat → Bool) (r : Rl) : Nat → Rl × List (Int × Nat)
 | 0 => (r, [])
 | i + 1 => (stN A i (rnN A r i).1, (rnN A r i).2 ++ chN A i (rnN A r i).1)
section
variable {A : Nat → Bool} {r : Rl}
end
def stR (r : Rl) (st : Bool) (n : Nat) (A : Nat → Bool) : Rl × List (Int × Nat) × Int :=
 if n ≠ 4 then (zeroR, [], 8) else if gdA r = false then (zeroR, [], 3) else if st = true then ((rnN A r 4).1, (rnN A r 4).2, 0) else (r, [], 0)
section
variable {A : Nat → Bool} {r : Rl}
end
end Go.Proofs.Ytdhblehhgpdpdaa
namespace Go.Proofs.Ytdhblehhgpdpdaa
def vk (b : Nat → Bool) (v : Nat → Int) (x : Int) : Nat → Nat
 | 0 => 0
 | k + 1 => vk b v x k + if b k = true ∧ v k = x then 1 else 0
def ti (b : Nat → Bool) : Nat → Nat
 | 0 => 0
 | k + 1 => ti b k + if b k = true then 1 else 0
def vtS (v : Nat → Int) (b : Nat → Bool) (X : Int) : Bool := decide (0 < ti b 4 ∧ ti b 4 < 2 * vk b v X 4)
def vtA (v : Nat → Int) (b : Nat → Bool) (X : Int) (i : Nat) : Bool := decide (0 < ti b 4 ∧ v i = X)
end Go.Proofs.Ytdhblehhgpdpdaa
namespace Go.Proofs.Ytdhblehhgpdpdaa
def dc3 (a b c : Int) : Int := if a = b then a else if a = c then a else if b = c then b else 0
def o1 (q s : Nat) : Nat := if 0 ≠ q ∧ 0 ≠ s then 0 else if 1 ≠ q ∧ 1 ≠ s then 1 else 2
def o2 (q s : Nat) : Nat := if 3 ≠ q ∧ 3 ≠ s then 3 else if 2 ≠ q ∧ 2 ≠ s then 2 else 1
end Go.Proofs.Ytdhblehhgpdpdaa
