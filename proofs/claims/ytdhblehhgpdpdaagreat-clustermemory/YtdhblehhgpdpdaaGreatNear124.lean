import Derived.Test.YtdhblehhgpdpdaaGreatRows
import Derived.Test.YtdhblehhgpdpdaaGreatRowPlain
import Derived.Lib.SmallJoins
import Derived.OpenShut
import Derived.SizedLaws
import Derived.ChangeSlices
import Derived.Test.YtdhblehhgpdpdaaGreatNear37
import Derived.Test.YtdhblehhgpdpdaaGreatFixPlain
namespace Go.Proofs.YtdhblehhgpdpdaaGreat
open Go.ChangeShapes Go.WideShapes Go.ChangeAt Go.RowKit Go.Joins
def ArgS (w : World) (ao : Option Addr) (len cap : Nat) (f : Nat → Int) : Prop :=
 ((ao = none ∧ len = 0 ∧ cap = 0) ∨ ∃ x, ao = some x ∧ ∀ i, i < len → w.cell? (x.add i) = some (.int .i64 (f i))) ∧ len * 8 ≤ 140737488351232 ∧ ∀ i, R64 (f i)
theorem ArgS.below {w w' : World} {ao : Option Addr} {len cap : Nat} {f : Nat → Int} (h : ArgS w ao len cap f) (k : Below w.heap.size w w') : ArgS w' ao len cap f := by
 refine ⟨?_, h.2⟩
 rcases h.1 with h | ⟨x, rfl, hc⟩
 ·exact Or.inl h
 ·exact Or.inr ⟨x, rfl, fun i hi => at_below (hc i hi) k⟩
section
variable {H : Type} {enc : TypeId × Value → H} {w : World} {base : Nat} {held : Bool}
end
end Go.Proofs.YtdhblehhgpdpdaaGreat
namespace Go.Proofs.YtdhblehhgpdpdaaGreat
open Go.RowKit
structure St where
 X : Int
 V : Int
 P00 : Int
 P01 : Int
 P11 : Int
 B : Bool
 M : Int
structure St.Ok (s : St) : Prop where
 X : R64 s.X
 V : R64 s.V
 P00 : R64 s.P00
 P01 : R64 s.P01
 P11 : R64 s.P11
 M : R64 s.M
def adV (a b : Int) : Int := clampZ (a + b)
def sbC (a b : Int) : Int := clampZ (a - b)
def muV (a b : Int) : Int := clampZ (mulQ a b)
def adB (a b : Int) : Bool := bentZ (a + b)
def sbE (a b : Int) : Bool := bentZ (a - b)
def muB (a b : Int) : Bool := bentZ (mulQ a b)
theorem adV_R (a b : Int) : R64 (adV a b) := clampZ_R _
theorem sbC_R (a b : Int) : R64 (sbC a b) := clampZ_R _
theorem muV_R (a b : Int) : R64 (muV a b) := clampZ_R _
def predS (s : St) (dt q : Int) : St where
 X := adV s.X (muV s.V dt)
 V := s.V
 P00 := adV (adV (adV s.P00 (muV s.P01 dt)) (muV s.P01 dt)) (muV (muV s.P11 dt) dt)
 P01 := adV s.P01 (muV s.P11 dt)
 P11 := adV s.P11 q
 B := s.B || muB s.P01 dt || muB s.P11 dt || muB s.V dt || adB s.X (muV s.V dt) || adB s.P00 (muV s.P01 dt) || adB (adV s.P00 (muV s.P01 dt)) (muV s.P01 dt) || muB (muV s.P11 dt) dt ||
  adB (adV (adV s.P00 (muV s.P01 dt)) (muV s.P01 dt)) (muV (muV s.P11 dt) dt) || adB s.P01 (muV s.P11 dt) || adB s.P11 q
 M := s.M
theorem predS_ok {s : St} (h : s.Ok) (dt q : Int) : (predS s dt q).Ok := ⟨adV_R _ _, h.V, adV_R _ _, adV_R _ _, adV_R _ _, h.M⟩
def moreM (m : Int) : Int := wrap64 (m + 1)
def offY (s : St) (z : Int) : Int := sbC z s.X
def offW (s : St) (r : Int) : Int := adV s.P00 r
def overB (s : St) (z r gate : Int) : Bool := decide (offW s r ≤ 0) || decide (muV gate (offW s r) < muV (offY s z) (offY s z))
def takeS (s : St) (y w : Int) : St where
 X := adV s.X (muV (divV s.P00 w) y)
 V := adV s.V (muV (divV s.P01 w) y)
 P00 := sbC s.P00 (muV (divV s.P00 w) s.P00)
 P01 := sbC s.P01 (muV (divV s.P00 w) s.P01)
 P11 := sbC s.P11 (muV (divV s.P01 w) s.P01)
 B := s.B || divB s.P00 w || divB s.P01 w || muB (divV s.P00 w) y || adB s.X (muV (divV s.P00 w) y) || muB (divV s.P01 w) y || adB s.V (muV (divV s.P01 w) y) ||
  muB (divV s.P00 w) s.P00 || sbE s.P00 (muV (divV s.P00 w) s.P00) || muB (divV s.P00 w) s.P01 || sbE s.P01 (muV (divV s.P00 w) s.P01) || muB (divV s.P01 w) s.P01 || sbE s.P11 (muV (divV s.P01 w) s.P01)
 M := 0
def bentU (s : St) (z r gate : Int) : Bool := s.B || sbE z s.X || adB s.P00 r || muB (offY s z) (offY s z) || muB gate (offW s r)
def updS (s : St) (z r gate : Int) : St := if overB s z r gate then { s with M := moreM s.M } else takeS { s with B := bentU s z r gate } (offY s z) (offW s r)
def updT (s : St) (z r gate : Int) : Bool := !overB s z r gate
theorem moreM_R (m : Int) : R64 (moreM m) := by unfold moreM R64; unfold wrap64; omega
theorem updS_ok {s : St} (h : s.Ok) (z r gate : Int) : (updS s z r gate).Ok := by
 unfold updS; split
 ·exact ⟨h.X, h.V, h.P00, h.P01, h.P11, moreM_R _⟩
 ·exact ⟨adV_R _ _, adV_R _ _, sbC_R _ _, sbC_R _ _, sbC_R _ _, R64_nought⟩
structure Tn where
 Dt : Int
 Q : Int
 R : Int
 G : Int
structure Tn.Ok (t : Tn) : Prop where
 Dt : R64 t.Dt
 Q : R64 t.Q
 R : R64 t.R
 G : R64 t.G
def stepS (s : St) (t : Tn) (z : Int) : St := updS (predS s t.Dt t.Q) z t.R t.G
def stepT (s : St) (t : Tn) (z : Int) : Bool := updT (predS s t.Dt t.Q) z t.R t.G
theorem stepS_ok {s : St} (h : s.Ok) (t : Tn) (z : Int) : (stepS s t z).Ok := updS_ok (predS_ok h _ _) _ _ _
end Go.Proofs.YtdhblehhgpdpdaaGreat
namespace Go.Proofs.YtdhblehhgpdpdaaGreat
def cn (p : Nat → Bool) : Nat → Nat
 | 0 => 0
 | n + 1 => cn p n + if p n then 1 else 0
theorem cn_le (p : Nat → Bool) (n : Nat) : cn p n ≤ n := by
 induction n with
 | zero => exact Nat.le_refl _
 | succ n ih => show cn p n + (if p n then 1 else 0) ≤ n + 1; split <;> omega
theorem cn_mono {p q : Nat → Bool} {n : Nat} (h : ∀ i, i < n → p i = true → q i = true) : cn p n ≤ cn q n := by
 induction n with
 | zero => exact Nat.le_refl _
 | succ n ih =>
  show cn p n + (if p n then 1 else 0) ≤ cn q n + (if q n then 1 else 0)
  have := ih (fun i hi => h i (by omega))
  by_cases c : p n = true
  ·rw [if_pos c, if_pos (h n (by omega) c)]; omega
  ·rw [if_neg c]; omega
theorem cn_add {p q r : Nat → Bool} {n : Nat} (h : ∀ i, i < n → ((p i = true ∧ q i = false ∧ r i = true) ∨ (p i = false ∧ q i = true ∧ r i = true) ∨ (p i = false ∧ q i = false ∧ r i = false))) : cn p n + cn q n = cn r n := by
 induction n with
 | zero => rfl
 | succ n ih =>
  show (cn p n + if p n then 1 else 0) + (cn q n + if q n then 1 else 0) = cn r n + if r n then 1 else 0
  have e := ih (fun i hi => h i (by omega))
  rcases h n (by omega) with ⟨h1, h2, h3⟩ | ⟨h1, h2, h3⟩ | ⟨h1, h2, h3⟩ <;> rw [h1, h2, h3] <;> simp <;> omega
def cl (f : Nat → Int) (n : Nat) (v : Int) : Nat := cn (fun i => decide (f i < v)) n
def ce (f : Nat → Int) (n : Nat) (v : Int) : Nat := cn (fun i => decide (f i = v)) n
def IsRk (f : Nat → Int) (n k : Nat) (v : Int) : Prop := cl f n v ≤ k ∧ k < cl f n v + ce f n v
theorem cl_le (f : Nat → Int) (n : Nat) (v : Int) : cl f n v + ce f n v = cn (fun i => decide (f i ≤ v)) n := by
 refine cn_add (fun i _ => ?_)
 by_cases h1 : f i < v
 ·exact Or.inl ⟨decide_eq_true h1, decide_eq_false (by omega), decide_eq_true (by omega)⟩
 ·by_cases h2 : f i = v
  ·exact Or.inr (Or.inl ⟨decide_eq_false h1, decide_eq_true h2, decide_eq_true (by omega)⟩)
  ·exact Or.inr (Or.inr ⟨decide_eq_false h1, decide_eq_false h2, decide_eq_false (by omega)⟩)
theorem cl_step {f : Nat → Int} {n : Nat} {v u : Int} (h : v < u) : cl f n v + ce f n v ≤ cl f n u := by
 rw [cl_le]
 exact cn_mono (fun i _ hp => decide_eq_true (by have := of_decide_eq_true hp; omega))
theorem rk_mono {f : Nat → Int} {n k j : Nat} {v u : Int} (h : IsRk f n k v) (h' : IsRk f n j u) (hk : k ≤ j) : v ≤ u := by
 rcases Int.lt_or_le u v with c | c
 ·have := cl_step (f := f) (n := n) c
  have h1 := h.1; have h2 := h'.2
  omega
 ·exact c
theorem rk_one {f : Nat → Int} {n k : Nat} {v u : Int} (h : IsRk f n k v) (h' : IsRk f n k u) : v = u := by
 have := rk_mono h h' (Nat.le_refl _); have := rk_mono h' h (Nat.le_refl _); omega
def IsMid (f : Nat → Int) (n : Nat) (m : Int) : Prop := ∃ a b, IsRk f n ((n - 1) / 3) a ∧ IsRk f n (n - 1 - (n - 1) / 3) b ∧ m = (a + b) / 2
theorem mid_one {f : Nat → Int} {n : Nat} {m m' : Int} (h : IsMid f n m) (h' : IsMid f n m') : m = m' := by
 obtain ⟨a, b, ha, hb, rfl⟩ := h
 obtain ⟨a', b', ha', hb', rfl⟩ := h'
 rw [rk_one ha ha', rk_one hb hb']
def ind (p : Prop) [Decidable p] : Nat := if p then 1 else 0
theorem ind_le (p : Prop) [Decidable p] : ind p ≤ 1 := by unfold ind; split <;> omega
theorem ind_yes {p : Prop} [Decidable p] (h : p) : ind p = 1 := if_pos h
theorem ind_no {p : Prop} [Decidable p] (h : ¬ p) : ind p = 0 := if_neg h
end Go.Proofs.YtdhblehhgpdpdaaGreat
namespace Go.Proofs.YtdhblehhgpdpdaaGreat
structure Rl where
 I : Nat → Bool
 M : Nat → Int
 J : Nat → Int
def upM {α : Type} (f : Nat → α) (q : Nat) (x : α) (j : Nat) : α := if j = q then x else f j
theorem upM_same {α : Type} (f : Nat → α) (q : Nat) (x : α) : upM f q x q = x := if_pos rfl
theorem upM_other {α : Type} (f : Nat → α) {q j : Nat} (x : α) (h : j ≠ q) : upM f q x j = f j := if_neg h
def zeroR : Rl := ⟨fun _ => false, fun _ => 0, fun _ => 0⟩
def beginR : Rl := ⟨fun _ => true, fun _ => 0, fun _ => 0⟩
def gd (r : Rl) (j : Nat) : Bool := if r.I j then decide (0 ≤ r.M j) && decide (r.M j ≤ 2) && decide (r.J j = 0) else decide (r.M j = 0) && decide (0 ≤ r.J j) && decide (r.J j ≤ 2)
def gdA (r : Rl) : Bool := gd r 0 && gd r 1 && gd r 2 && gd r 3
theorem gd_in {r : Rl} {j : Nat} (h : r.I j = true) : gd r j = true ↔ 0 ≤ r.M j ∧ r.M j ≤ 2 ∧ r.J j = 0 := by unfold gd; rw [if_pos h]; simp [and_assoc]
theorem gd_out {r : Rl} {j : Nat} (h : r.I j = false) : gd r j = true ↔ r.M j = 0 ∧ 0 ≤ r.J j ∧ r.J j ≤ 2 := by unfold gd; rw [if_neg (by rw [h]; decide)]; simp [and_assoc]
theorem gdA_iff {r : Rl} : gdA r = true ↔ ∀ j, j < 4 → gd r j = true := by
 unfold gdA
 simp only [Bool.and_eq_true]
 constructor
 ·rintro ⟨⟨⟨h0, h1⟩, h2⟩, h3⟩ j hj
  have : j = 0 ∨ j = 1 ∨ j = 2 ∨ j = 3 := by omega
  rcases this with rfl | rfl | rfl | rfl <;> assumption
 ·intro h
  exact ⟨⟨⟨h 0 (by omega), h 1 (by omega)⟩, h 2 (by omega)⟩, h 3 (by omega)⟩
theorem gdA_no {r : Rl} {j : Nat} (hj : j < 4) (h : gd r j = false) : gdA r = false := by
 cases e : gdA r with
 | false => rfl
 | true => rw [gdA_iff.1 e j hj] at h; cases h
def stN (A : Nat → Bool) (i : Nat) (r : Rl) : Rl :=
 if r.I i = true then (if A i = true then ⟨r.I, upM r.M i 0, r.J⟩ else if 2 ≤ r.M i + 1 ∧ 2 < cn r.I 4 then ⟨upM r.I i false, upM r.M i 0, r.J⟩ else ⟨r.I, upM r.M i (min (r.M i + 1) 2), r.J⟩)
 else if A i = true then (if 3 ≤ r.J i + 1 then ⟨upM r.I i true, r.M, upM r.J i 0⟩ else ⟨r.I, r.M, upM r.J i (r.J i + 1)⟩) else ⟨r.I, r.M, upM r.J i 0⟩
def chN (A : Nat → Bool) (i : Nat) (r : Rl) : List (Int × Nat) :=
 if r.I i = true then (if A i = true then [] else if 2 ≤ r.M i + 1 ∧ 2 < cn r.I 4 then [(1, i)] else []) else if A i = true then (if 3 ≤ r.J i + 1 then [(2, i)] else []) else []
section
variable {A : Nat → Bool} {i : Nat} {r : Rl}
theorem st_agree (h : r.I i = true) (a : A i = true) : stN A i r = ⟨r.I, upM r.M i 0, r.J⟩ ∧ chN A i r = [] := by unfold stN chN; rw [if_pos h, if_pos a, if_pos h, if_pos a]; exact ⟨rfl, rfl⟩
theorem st_out (h : r.I i = true) (a : A i = false) (c : 2 ≤ r.M i + 1 ∧ 2 < cn r.I 4) : stN A i r = ⟨upM r.I i false, upM r.M i 0, r.J⟩ ∧ chN A i r = [(1, i)] := by
 have a' : ¬ A i = true := by rw [a]; decide
 unfold stN chN; rw [if_pos h, if_neg a', if_pos c, if_pos h, if_neg a', if_pos c]; exact ⟨rfl, rfl⟩
theorem st_miss (h : r.I i = true) (a : A i = false) (c : ¬ (2 ≤ r.M i + 1 ∧ 2 < cn r.I 4)) : stN A i r = ⟨r.I, upM r.M i (min (r.M i + 1) 2), r.J⟩ ∧ chN A i r = [] := by
 have a' : ¬ A i = true := by rw [a]; decide
 unfold stN chN; rw [if_pos h, if_neg a', if_neg c, if_pos h, if_neg a', if_neg c]; exact ⟨rfl, rfl⟩
theorem st_in (h : r.I i = false) (a : A i = true) (c : 3 ≤ r.J i + 1) : stN A i r = ⟨upM r.I i true, r.M, upM r.J i 0⟩ ∧ chN A i r = [(2, i)] := by
 have h' : ¬ r.I i = true := by rw [h]; decide
 unfold stN chN; rw [if_neg h', if_pos a, if_pos c, if_neg h', if_pos a, if_pos c]; exact ⟨rfl, rfl⟩
theorem st_join (h : r.I i = false) (a : A i = true) (c : ¬ 3 ≤ r.J i + 1) : stN A i r = ⟨r.I, r.M, upM r.J i (r.J i + 1)⟩ ∧ chN A i r = [] := by
 have h' : ¬ r.I i = true := by rw [h]; decide
 unfold stN chN; rw [if_neg h', if_pos a, if_neg c, if_neg h', if_pos a, if_neg c]; exact ⟨rfl, rfl⟩
theorem st_off (h : r.I i = false) (a : A i = false) : stN A i r = ⟨r.I, r.M, upM r.J i 0⟩ ∧ chN A i r = [] := by
 have h' : ¬ r.I i = true := by rw [h]; decide
 have a' : ¬ A i = true := by rw [a]; decide
 unfold stN chN; rw [if_neg h', if_neg a', if_neg h', if_neg a']; exact ⟨rfl, rfl⟩
theorem st_cases (A : Nat → Bool) (i : Nat) (r : Rl) :
  (r.I i = true ∧ A i = true ∧ stN A i r = ⟨r.I, upM r.M i 0, r.J⟩ ∧ chN A i r = []) ∨
  (r.I i = true ∧ A i = false ∧ (2 ≤ r.M i + 1 ∧ 2 < cn r.I 4) ∧ stN A i r = ⟨upM r.I i false, upM r.M i 0, r.J⟩ ∧ chN A i r = [(1, i)]) ∨
  (r.I i = true ∧ A i = false ∧ ¬ (2 ≤ r.M i + 1 ∧ 2 < cn r.I 4) ∧ stN A i r = ⟨r.I, upM r.M i (min (r.M i + 1) 2), r.J⟩ ∧ chN A i r = []) ∨
  (r.I i = false ∧ A i = true ∧ 3 ≤ r.J i + 1 ∧ stN A i r = ⟨upM r.I i true, r.M, upM r.J i 0⟩ ∧ chN A i r = [(2, i)]) ∨
  (r.I i = false ∧ A i = true ∧ ¬ 3 ≤ r.J i + 1 ∧ stN A i r = ⟨r.I, r.M, upM r.J i (r.J i + 1)⟩ ∧ chN A i r = []) ∨
  (r.I i = false ∧ A i = false ∧ stN A i r = ⟨r.I, r.M, upM r.J i 0⟩ ∧ chN A i r = []) := by
 cases h : r.I i with
 | true =>
  cases a : A i with
  | true => exact Or.inl ⟨rfl, rfl, st_agree h a⟩
  | false =>
   by_cases c : 2 ≤ r.M i + 1 ∧ 2 < cn r.I 4
   ·exact Or.inr (Or.inl ⟨rfl, rfl, c, st_out h a c⟩)
   ·exact Or.inr (Or.inr (Or.inl ⟨rfl, rfl, c, st_miss h a c⟩))
 | false =>
  cases a : A i with
  | true =>
   by_cases c : 3 ≤ r.J i + 1
   ·exact Or.inr (Or.inr (Or.inr (Or.inl ⟨rfl, rfl, c, st_in h a c⟩)))
   ·exact Or.inr (Or.inr (Or.inr (Or.inr (Or.inl ⟨rfl, rfl, c, st_join h a c⟩))))
  | false => exact Or.inr (Or.inr (Or.inr (Or.inr (Or.inr ⟨rfl, rfl, st_off h a⟩))))
theorem st_other {j : Nat} (hj : j ≠ i) : (stN A i r).I j = r.I j ∧ (stN A i r).M j = r.M j ∧ (stN A i r).J j = r.J j := by
 rcases st_cases A i r with ⟨_, _, e, _⟩ | ⟨_, _, _, e, _⟩ | ⟨_, _, _, e, _⟩ | ⟨_, _, _, e, _⟩ | ⟨_, _, _, e, _⟩ | ⟨_, _, e, _⟩ <;> rw [e] <;> simp [upM_other _ _ hj]
theorem gd_congr {s : Rl} {j : Nat} (h1 : s.I j = r.I j) (h2 : s.M j = r.M j) (h3 : s.J j = r.J j) : gd s j = gd r j := by unfold gd; rw [h1, h2, h3]
theorem gd_step (h : gd r i = true) : gd (stN A i r) i = true := by
 rcases st_cases A i r with ⟨a, _, e, _⟩ | ⟨a, _, _, e, _⟩ | ⟨a, _, _, e, _⟩ | ⟨a, _, _, e, _⟩ | ⟨a, _, c, e, _⟩ | ⟨a, _, e, _⟩ <;> rw [e]
 ·have := (gd_in a).1 h
  refine (gd_in (r := ⟨r.I, upM r.M i 0, r.J⟩) a).2 ?_
  show 0 ≤ upM r.M i 0 i ∧ upM r.M i 0 i ≤ 2 ∧ r.J i = 0
  rw [upM_same]; omega
 ·have := (gd_in a).1 h
  refine (gd_out (upM_same _ _ _)).2 ?_
  show upM r.M i 0 i = 0 ∧ 0 ≤ r.J i ∧ r.J i ≤ 2
  rw [upM_same]; omega
 ·have := (gd_in a).1 h
  refine (gd_in (r := ⟨r.I, upM r.M i (min (r.M i + 1) 2), r.J⟩) a).2 ?_
  show 0 ≤ upM r.M i (min (r.M i + 1) 2) i ∧ upM r.M i (min (r.M i + 1) 2) i ≤ 2 ∧ r.J i = 0
  rw [upM_same]; omega
 ·have := (gd_out a).1 h
  refine (gd_in (upM_same _ _ _)).2 ?_
  show 0 ≤ r.M i ∧ r.M i ≤ 2 ∧ upM r.J i 0 i = 0
  rw [upM_same]; omega
 ·have := (gd_out a).1 h
  refine (gd_out (r := ⟨r.I, r.M, upM r.J i (r.J i + 1)⟩) a).2 ?_
  show r.M i = 0 ∧ 0 ≤ upM r.J i (r.J i + 1) i ∧ upM r.J i (r.J i + 1) i ≤ 2
  rw [upM_same]; omega
 ·have := (gd_out a).1 h
  refine (gd_out (r := ⟨r.I, r.M, upM r.J i 0⟩) a).2 ?_
  show r.M i = 0 ∧ 0 ≤ upM r.J i 0 i ∧ upM r.J i 0 i ≤ 2
  rw [upM_same]; omega
theorem gdA_step (h : gdA r = true) : gdA (stN A i r) = true := by
 rw [gdA_iff] at h ⊢
 intro j hj
 by_cases e : j = i
 ·subst e; exact gd_step (h j hj)
 ·obtain ⟨h1, h2, h3⟩ := st_other (A := A) (r := r) e
  rw [gd_congr h1 h2 h3]; exact h j hj
end
def rnN (A : Nat → Bool) (r : Rl) : Nat → Rl × List (Int × Nat)
 | 0 => (r, [])
 | i + 1 => (stN A i (rnN A r i).1, (rnN A r i).2 ++ chN A i (rnN A r i).1)
section
variable {A : Nat → Bool} {r : Rl}
theorem rn_good (h : gdA r = true) : ∀ i, gdA (rnN A r i).1 = true
 | 0 => h
 | i + 1 => gdA_step (rn_good h i)
theorem rn_rest : ∀ i {j}, i ≤ j → (rnN A r i).1.I j = r.I j ∧ (rnN A r i).1.M j = r.M j ∧ (rnN A r i).1.J j = r.J j
 | 0, _, _ => ⟨rfl, rfl, rfl⟩
 | i + 1, j, h => by
  obtain ⟨a, b, c⟩ := rn_rest i (j := j) (by omega)
  obtain ⟨d, e, f⟩ := st_other (A := A) (r := (rnN A r i).1) (i := i) (j := j) (by omega)
  exact ⟨d.trans a, e.trans b, f.trans c⟩
theorem ch_len (A : Nat → Bool) (i : Nat) (r : Rl) : (chN A i r).length ≤ 1 := by
 rcases st_cases A i r with ⟨_, _, _, e⟩ | ⟨_, _, _, _, e⟩ | ⟨_, _, _, _, e⟩ | ⟨_, _, _, _, e⟩ | ⟨_, _, _, _, e⟩ | ⟨_, _, _, e⟩ <;> rw [e] <;> simp
theorem rn_len (A : Nat → Bool) (r : Rl) : ∀ i, (rnN A r i).2.length ≤ i
 | 0 => Nat.le_refl _
 | i + 1 => by
  have := rn_len A r i
  have := ch_len A i (rnN A r i).1
  show ((rnN A r i).2 ++ chN A i (rnN A r i).1).length ≤ i + 1
  rw [List.length_append]; omega
end
def stR (r : Rl) (st : Bool) (n : Nat) (A : Nat → Bool) : Rl × List (Int × Nat) × Int :=
 if n ≠ 4 then (zeroR, [], 8) else if gdA r = false then (zeroR, [], 3) else if st = true then ((rnN A r 4).1, (rnN A r 4).2, 0) else (r, [], 0)
section
variable {A : Nat → Bool} {r : Rl}
theorem stR_strong (h : gdA r = true) : stR r true 4 A = ((rnN A r 4).1, (rnN A r 4).2, 0) := by
 unfold stR; rw [if_neg (by omega), if_neg (by rw [h]; decide), if_pos rfl]
theorem stR_weak (h : gdA r = true) : stR r false 4 A = (r, [], 0) := by
 unfold stR; rw [if_neg (by omega), if_neg (by rw [h]; decide), if_neg (by decide)]
end
end Go.Proofs.YtdhblehhgpdpdaaGreat
namespace Go.Proofs.YtdhblehhgpdpdaaGreat
def vk (b : Nat → Bool) (v : Nat → Int) (x : Int) : Nat → Nat
 | 0 => 0
 | k + 1 => vk b v x k + if b k = true ∧ v k = x then 1 else 0
def ti (b : Nat → Bool) : Nat → Nat
 | 0 => 0
 | k + 1 => ti b k + if b k = true then 1 else 0
theorem vk_le_tt (b : Nat → Bool) (v : Nat → Int) (x : Int) (k : Nat) : vk b v x k ≤ ti b k := by
 induction k with
 | zero => exact Nat.le_refl _
 | succ k ih =>
  show vk b v x k + _ ≤ ti b k + _
  by_cases h : b k = true
  ·by_cases h2 : v k = x
   ·rw [if_pos ⟨h, h2⟩, if_pos h]; omega
   ·rw [if_neg (fun h3 => h2 h3.2), if_pos h]; omega
  ·rw [if_neg (fun h3 => h h3.1), if_neg h]; omega
theorem ti_le (b : Nat → Bool) (k : Nat) : ti b k ≤ k := by
 induction k with
 | zero => exact Nat.le_refl _
 | succ k ih => show ti b k + _ ≤ k + 1; split <;> omega
theorem vk_le (b : Nat → Bool) (v : Nat → Int) (x : Int) (k : Nat) : vk b v x k ≤ k := Nat.le_trans (vk_le_tt b v x k) (ti_le b k)
theorem ti_zero {b : Nat → Bool} {k : Nat} (h : ti b k = 0) : ∀ i, i < k → b i = false := by
 induction k with
 | zero => intro i hi; omega
 | succ k ih =>
  have h2 : ti b k + (if b k = true then 1 else 0) = 0 := h
  intro i hi
  by_cases hb : b k = true
  ·rw [if_pos hb] at h2; omega
  ·rw [if_neg hb] at h2
   by_cases e : i = k
   ·subst e; simpa using hb
   ·exact ih (by omega) i (by omega)
theorem ti_pos {b : Nat → Bool} {k i : Nat} (hi : i < k) (h : b i = true) : 0 < ti b k := by
 rcases Nat.eq_zero_or_pos (ti b k) with e | e
 ·have := ti_zero e i hi; rw [h] at this; cases this
 ·exact e
theorem vk_pos {b : Nat → Bool} {v : Nat → Int} {k i : Nat} (hi : i < k) (h : b i = true) : 0 < vk b v (v i) k := by
 induction k with
 | zero => omega
 | succ k ih =>
  show 0 < vk b v (v i) k + _
  by_cases e : i = k
  ·subst e; rw [if_pos ⟨h, rfl⟩]; omega
  ·have := ih (by omega); omega
def IsV (v : Nat → Int) (b : Nat → Bool) (k : Nat) (X : Int) : Prop :=
 (ti b k = 0 ∧ X = 0) ∨ ∃ m, m < k ∧ b m = true ∧ X = v m ∧ (∀ i, i < k → b i = true → vk b v (v i) 4 ≤ vk b v X 4) ∧ ∀ i, i < m → b i = true → vk b v (v i) 4 < vk b v X 4
theorem isV_start (v : Nat → Int) (b : Nat → Bool) : IsV v b 0 0 := Or.inl ⟨rfl, rfl⟩
theorem isV_out {v : Nat → Int} {b : Nat → Bool} {k : Nat} {X : Int} (h : IsV v b k X) (hb : b k = false) : IsV v b (k + 1) X := by
 rcases h with ⟨h1, h2⟩ | ⟨m, h1, h2, h3, h4, h5⟩
 ·refine Or.inl ⟨?_, h2⟩
  show ti b k + _ = 0
  rw [if_neg (by rw [hb]; decide)]; omega
 ·refine Or.inr ⟨m, by omega, h2, h3, fun i hi hbi => ?_, h5⟩
  by_cases e : i = k
  ·subst e; rw [hb] at hbi; cases hbi
  ·exact h4 i (by omega) hbi
theorem isV_take {v : Nat → Int} {b : Nat → Bool} {k : Nat} {X : Int} (h : IsV v b k X) (hb : b k = true) (hc : vk b v X 4 < vk b v (v k) 4 ∨ ti b k = 0) : IsV v b (k + 1) (v k) := by
 refine Or.inr ⟨k, by omega, hb, rfl, ?_⟩
 rcases h with ⟨h1, h2⟩ | ⟨m, h1, h2, h3, h4, h5⟩
 ·refine ⟨fun i hi hbi => ?_, fun i hi hbi => ?_⟩
  ·by_cases e : i = k
   ·subst e; exact Nat.le_refl _
   ·have := ti_zero h1 i (by omega); rw [this] at hbi; cases hbi
  ·have := ti_zero h1 i hi; rw [this] at hbi; cases hbi
 ·have hp : vk b v X 4 < vk b v (v k) 4 := by
   rcases hc with h | h
   ·exact h
   ·have := ti_zero h m h1; rw [this] at h2; cases h2
  refine ⟨fun i hi hbi => ?_, fun i hi hbi => ?_⟩
  ·by_cases e : i = k
   ·subst e; exact Nat.le_refl _
   ·have := h4 i (by omega) hbi; omega
  ·have := h4 i hi hbi; omega
theorem isV_leave {v : Nat → Int} {b : Nat → Bool} {k : Nat} {X : Int} (h : IsV v b k X) (hc : ¬ (vk b v X 4 < vk b v (v k) 4)) (ht : ti b k ≠ 0) : IsV v b (k + 1) X := by
 rcases h with ⟨h1, h2⟩ | ⟨m, h1, h2, h3, h4, h5⟩
 ·omega
 ·refine Or.inr ⟨m, by omega, h2, h3, fun i hi hbi => ?_, h5⟩
  by_cases e : i = k
  ·subst e; omega
  ·exact h4 i (by omega) hbi
theorem isV_one {v : Nat → Int} {b : Nat → Bool} {k : Nat} {X Y : Int} (h : IsV v b k X) (h' : IsV v b k Y) : X = Y := by
 rcases h with ⟨h1, h2⟩ | ⟨m, h1, h2, h3, h4, h5⟩ <;> rcases h' with ⟨g1, g2⟩ | ⟨m', g1, g2, g3, g4, g5⟩
 ·rw [h2, g2]
 ·have := ti_zero h1 m' g1; rw [this] at g2; cases g2
 ·have := ti_zero g1 m h1; rw [this] at h2; cases h2
 ·have e1 := h4 m' g1 g2; have e2 := g4 m h1 h2
  rw [← g3] at e1; rw [← h3] at e2
  rcases Nat.lt_trichotomy m m' with h | h | h
  ·have := g5 m h h2; rw [← h3] at this; omega
  ·rw [h3, g3, h]
  ·have := h5 m' h g2; rw [← g3] at this; omega
def vtS (v : Nat → Int) (b : Nat → Bool) (X : Int) : Bool := decide (0 < ti b 4 ∧ ti b 4 < 2 * vk b v X 4)
def vtA (v : Nat → Int) (b : Nat → Bool) (X : Int) (i : Nat) : Bool := decide (0 < ti b 4 ∧ v i = X)
end Go.Proofs.YtdhblehhgpdpdaaGreat
namespace Go.Proofs.YtdhblehhgpdpdaaGreat
def IsMaj (f : Nat → Int) (n : Nat) (other m : Int) : Prop := (n < 2 * ce f n m) ∨ ((∀ v, ¬ n < 2 * ce f n v) ∧ m = other)
theorem ce_two {f : Nat → Int} {n : Nat} {u v : Int} (h : u ≠ v) : ce f n u + ce f n v ≤ n := by
 induction n with
 | zero => exact Nat.le_refl _
 | succ n ih =>
  show (cn _ n + if decide (f n = u) = true then 1 else 0) + (cn _ n + if decide (f n = v) = true then 1 else 0) ≤ n + 1
  have ih' : cn (fun i => decide (f i = u)) n + cn (fun i => decide (f i = v)) n ≤ n := ih
  by_cases h1 : f n = u
  ·rw [if_pos (decide_eq_true h1), if_neg (by rw [decide_eq_false (by omega)]; decide)]; omega
  ·rw [if_neg (by rw [decide_eq_false h1]; decide)]
   split <;> omega
theorem maj_one {f : Nat → Int} {n : Nat} {other m m' : Int} (h : IsMaj f n other m) (h' : IsMaj f n other m') : m = m' := by
 rcases h with h | ⟨h, e⟩ <;> rcases h' with h' | ⟨h', e'⟩
 ·by_cases c : m = m'
  ·exact c
  ·have := ce_two (f := f) (n := n) c; omega
 ·exact absurd h (h' m)
 ·exact absurd h' (h m')
 ·rw [e, e']
def dc3 (a b c : Int) : Int := if a = b then a else if a = c then a else if b = c then b else 0
theorem ce3 (f : Nat → Int) (v : Int) : ce f 3 v = ind (f 0 = v) + ind (f 1 = v) + ind (f 2 = v) := by
 have e : ∀ i, (if decide (f i = v) = true then 1 else 0) = ind (f i = v) := fun i => by unfold ind; by_cases h : f i = v <;> simp [h]
 show ((0 + (if decide (f 0 = v) = true then 1 else 0)) + (if decide (f 1 = v) = true then 1 else 0)) + (if decide (f 2 = v) = true then 1 else 0) = _
 rw [e, e, e]; omega
theorem dc3_maj (f : Nat → Int) : IsMaj f 3 0 (dc3 (f 0) (f 1) (f 2)) := by
 unfold dc3
 split
 ·rename_i h
  refine Or.inl ?_
  rw [ce3, ind_yes (p := f 0 = f 0) rfl, ind_yes (p := f 1 = f 0) h.symm]; omega
 ·split
  ·rename_i h
   refine Or.inl ?_
   rw [ce3, ind_yes (p := f 0 = f 0) rfl, ind_yes (p := f 2 = f 0) h.symm]; omega
  ·split
   ·rename_i h
    refine Or.inl ?_
    rw [ce3, ind_yes (p := f 1 = f 1) rfl, ind_yes (p := f 2 = f 1) h.symm]; omega
   ·rename_i h1 h2 h3
    refine Or.inr ⟨fun v => ?_, rfl⟩
    rw [ce3]
    by_cases a : f 0 = v
    ·rw [ind_yes a, ind_no (p := f 1 = v) (by omega), ind_no (p := f 2 = v) (by omega)]; omega
    ·rw [ind_no a]
     by_cases b : f 1 = v
     ·rw [ind_yes b, ind_no (p := f 2 = v) (by omega)]; omega
     ·rw [ind_no b]; have := ind_le (f 2 = v); omega
def o1 (q s : Nat) : Nat := if 0 ≠ q ∧ 0 ≠ s then 0 else if 1 ≠ q ∧ 1 ≠ s then 1 else 2
def o2 (q s : Nat) : Nat := if 3 ≠ q ∧ 3 ≠ s then 3 else if 2 ≠ q ∧ 2 ≠ s then 2 else 1
end Go.Proofs.YtdhblehhgpdpdaaGreat
namespace Go.Proofs.YtdhblehhgpdpdaaGreat
def lsN (f : Nat → Int) (n : Nat) : List Int := (List.range n).map f
theorem lsN_len (f : Nat → Int) (n : Nat) : (lsN f n).length = n := by simp [lsN]
theorem lsN_succ (f : Nat → Int) (n : Nat) : lsN f (n + 1) = lsN f n ++ [f n] := by simp [lsN, List.range_succ]
theorem cn_countP (f : Nat → Int) (p : Int → Bool) (n : Nat) : cn (fun i => p (f i)) n = (lsN f n).countP p := by
 induction n with
 | zero => rfl
 | succ n ih =>
  rw [lsN_succ, List.countP_append, ← ih]
  show cn _ n + (if p (f n) then 1 else 0) = _
  by_cases h : p (f n) = true <;> simp [h]
def srt (l : List Int) : List Int := l.mergeSort (fun x y => decide (x ≤ y))
theorem srt_len (l : List Int) : (srt l).length = l.length := by unfold srt; exact List.length_mergeSort _
theorem srt_perm (l : List Int) : (srt l).Perm l := by unfold srt; exact List.mergeSort_perm _ _
theorem srt_le (l : List Int) : (srt l).Pairwise (fun x y => x ≤ y) := by
 have h : (srt l).Pairwise (fun x y => decide (x ≤ y) = true) := by
  unfold srt
  exact List.pairwise_mergeSort (fun a b c h1 h2 => by have := of_decide_eq_true h1; have := of_decide_eq_true h2; exact decide_eq_true (by omega)) (fun a b => by
   rcases Int.le_total a b with h | h
   ·rw [decide_eq_true h]; rfl
   ·rw [decide_eq_true h, Bool.or_true]) l
 exact h.imp (fun h => of_decide_eq_true h)
theorem srt_at {l : List Int} {i j : Nat} {x y : Int} (hi : (srt l)[i]? = some x) (hj : (srt l)[j]? = some y) (h : i ≤ j) : x ≤ y := by
 rcases Nat.lt_or_ge i j with c | c
 ·have hx := List.getElem?_eq_some_iff.1 hi; have hy := List.getElem?_eq_some_iff.1 hj
  obtain ⟨a, rfl⟩ := hx; obtain ⟨b, rfl⟩ := hy
  exact List.pairwise_iff_getElem.1 (srt_le l) i j a b c
 ·have : i = j := by omega
  subst this
  rw [hi] at hj; cases hj; exact Int.le_refl _
theorem srt_less {l : List Int} {k : Nat} {v : Int} (h : (srt l)[k]? = some v) : (srt l).countP (fun x => decide (x < v)) ≤ k := by
 have e := List.take_append_drop k (srt l)
 rw [← e, List.countP_append]
 have h1 : ((srt l).take k).countP (fun x => decide (x < v)) ≤ k := Nat.le_trans List.countP_le_length (by simp; omega)
 have h2 : ((srt l).drop k).countP (fun x => decide (x < v)) = 0 := by
  rw [List.countP_eq_zero]
  intro a ha
  obtain ⟨j, hj⟩ := List.mem_iff_getElem?.1 ha
  rw [List.getElem?_drop] at hj
  have := srt_at h hj (by omega)
  simp; omega
 omega
theorem srt_upto {l : List Int} {k : Nat} {v : Int} (h : (srt l)[k]? = some v) : k < (srt l).countP (fun x => decide (x ≤ v)) := by
 have hk : k < (srt l).length := (List.getElem?_eq_some_iff.1 h).1
 have e := List.take_append_drop (k + 1) (srt l)
 rw [← e, List.countP_append]
 have h1 : ((srt l).take (k + 1)).countP (fun x => decide (x ≤ v)) = k + 1 := by
  have h2 : ((srt l).take (k + 1)).countP (fun x => decide (x ≤ v)) = ((srt l).take (k + 1)).length := by
   rw [List.countP_eq_length]
   intro a ha
   obtain ⟨j, hj⟩ := List.mem_iff_getElem?.1 ha
   have hj' : j < k + 1 := by
    have := (List.getElem?_eq_some_iff.1 hj).1
    simp at this; omega
   rw [List.getElem?_take_of_lt hj'] at hj
   exact decide_eq_true (srt_at hj h (by omega))
  rw [h2, List.length_take]; omega
 omega
theorem rk_srt {f : Nat → Int} {n k : Nat} {v : Int} (h : (srt (lsN f n))[k]? = some v) : IsRk f n k v := by
 have e1 : cl f n v = (srt (lsN f n)).countP (fun x => decide (x < v)) := by
  rw [(srt_perm _).countP_eq]; exact cn_countP f (fun x => decide (x < v)) n
 have e2 : cl f n v + ce f n v = (srt (lsN f n)).countP (fun x => decide (x ≤ v)) := by
  rw [(srt_perm _).countP_eq, cl_le]; exact cn_countP f (fun x => decide (x ≤ v)) n
 exact ⟨by rw [e1]; exact srt_less h, by rw [e2]; exact srt_upto h⟩
theorem mid_srt {f : Nat → Int} {n : Nat} {a b : Int} (h1 : (srt (lsN f n))[(n - 1) / 3]? = some a) (h2 : (srt (lsN f n))[n - 1 - (n - 1) / 3]? = some b) : IsMid f n ((a + b) / 2) := ⟨a, b, rk_srt h1, rk_srt h2, rfl⟩
theorem and_xor (x y : Nat) : x + y = 2 * (x &&& y) + (x ^^^ y) := by
 induction x using Nat.strongRecOn generalizing y with
 | _ x ih =>
  rcases Nat.eq_zero_or_pos x with h | h
  ·subst h; simp
  ·have e := ih (x / 2) (by omega) (y / 2)
   have a1 : (x &&& y) / 2 = x / 2 &&& y / 2 := Nat.and_div_two
   have a2 : (x ^^^ y) / 2 = x / 2 ^^^ y / 2 := Nat.xor_div_two
   have b1 : (x &&& y) % 2 = x % 2 &&& y % 2 := Nat.and_mod_two_pow (n := 1)
   have b2 : (x ^^^ y) % 2 = x % 2 ^^^ y % 2 := Nat.xor_mod_two_pow (n := 1)
   rw [← a1, ← a2] at e
   clear a1 a2 ih
   generalize x &&& y = p at *
   generalize x ^^^ y = q at *
   have hx : x % 2 = 0 ∨ x % 2 = 1 := by omega
   have hy : y % 2 = 0 ∨ y % 2 = 1 := by omega
   rcases hx with hx | hx <;> rcases hy with hy | hy <;> rw [hx, hy] at b1 b2
   ·have b1 : p % 2 = 0 := b1; have b2 : q % 2 = 0 := b2; omega
   ·have b1 : p % 2 = 0 := b1; have b2 : q % 2 = 1 := b2; omega
   ·have b1 : p % 2 = 0 := b1; have b2 : q % 2 = 1 := b2; omega
   ·have b1 : p % 2 = 1 := b1; have b2 : q % 2 = 0 := b2; omega
theorem half_pat (A B : BitVec 64) : A.toInt + B.toInt = 2 * (A &&& B).toInt + (A ^^^ B).toInt := by
 have h := and_xor A.toNat B.toNat
 rw [← BitVec.toNat_and, ← BitVec.toNat_xor] at h
 rw [BitVec.toInt_eq_msb_cond, BitVec.toInt_eq_msb_cond, BitVec.toInt_eq_msb_cond, BitVec.toInt_eq_msb_cond, BitVec.msb_and, BitVec.msb_xor]
 generalize (A &&& B).toNat = p at *
 generalize (A ^^^ B).toNat = q at *
 cases A.msb <;> cases B.msb <;> simp <;> omega
theorem wrap_pat (A : BitVec 64) : IntKind.i64.wrap (A.toNat : Int) = A.toInt := by
 rw [IntKind.wrap_i64, BitVec.toInt_eq_toNat_cond]
 have := A.isLt
 split <;> omega
theorem pat_of {a : Int} (h : R64 a) : (BitVec.ofInt 64 a).toInt = a := by
 obtain ⟨h1, h2⟩ := h
 rw [BitVec.toInt_ofInt, Int.bmod_def]
 have e : ((2 ^ 64 : Nat) : Int) = 18446744073709551616 := rfl
 rw [e]
 split <;> omega
theorem half_bits {a b : Int} (ha : R64 a) (hb : R64 b) : ∃ p q, bits .and .i64 a b = p ∧ bits .xor .i64 a b = q ∧ R64 p ∧ R64 q ∧ p + q / 2 = (a + b) / 2 := by
 refine ⟨(BitVec.ofInt 64 a &&& BitVec.ofInt 64 b).toInt, (BitVec.ofInt 64 a ^^^ BitVec.ofInt 64 b).toInt, ?_, ?_, ?_, ?_, ?_⟩
 ·exact wrap_pat _
 ·exact wrap_pat _
 ·have h1 := BitVec.le_toInt (BitVec.ofInt 64 a &&& BitVec.ofInt 64 b); have h2 := BitVec.toInt_lt (x := BitVec.ofInt 64 a &&& BitVec.ofInt 64 b)
  exact ⟨by omega, by omega⟩
 ·have h1 := BitVec.le_toInt (BitVec.ofInt 64 a ^^^ BitVec.ofInt 64 b); have h2 := BitVec.toInt_lt (x := BitVec.ofInt 64 a ^^^ BitVec.ofInt 64 b)
  exact ⟨by omega, by omega⟩
 ·have h := half_pat (BitVec.ofInt 64 a) (BitVec.ofInt 64 b)
  rw [pat_of ha, pat_of hb] at h
  omega
end Go.Proofs.YtdhblehhgpdpdaaGreat
namespace Go.Proofs.YtdhblehhgpdpdaaGreat
def cS (x : Nat) : Nat := if x % 2 = 0 then x / 2 else x / 2 ^^^ 3988292384
def cN : Nat → Nat → Nat
 | 0, x => x
 | n + 1, x => cN n (cS x)
def cF (r : Nat) (g : Nat → Nat) : Nat → Nat
 | 0 => r
 | n + 1 => cN 8 (cF r g n ^^^ g n)
theorem x_div2 (x y : Nat) : (x ^^^ y) / 2 = (x / 2) ^^^ (y / 2) := by
 apply Nat.eq_of_testBit_eq
 intro i
 simp only [Nat.testBit_xor, ← Nat.testBit_succ]
theorem x_mod2 (x y : Nat) : (x ^^^ y) % 2 = (x % 2 + y % 2) % 2 := by
 have h := Nat.testBit_xor (x := x) (y := y) (i := 0)
 simp only [Nat.testBit_zero] at h
 rcases Nat.mod_two_eq_zero_or_one x with hx | hx <;> rcases Nat.mod_two_eq_zero_or_one y with hy | hy <;> rcases Nat.mod_two_eq_zero_or_one (x ^^^ y) with hz | hz <;> simp [hx, hy, hz] at h ⊢
theorem cS_x (x y : Nat) : cS (x ^^^ y) = cS x ^^^ cS y := by
 unfold cS
 rw [x_div2, x_mod2]
 rcases Nat.mod_two_eq_zero_or_one x with hx | hx <;> rcases Nat.mod_two_eq_zero_or_one y with hy | hy <;> simp [hx, hy, Nat.xor_assoc]
 ·rw [Nat.xor_comm 3988292384 (y / 2)]
 ·rw [← Nat.xor_assoc 3988292384 (y / 2), Nat.xor_comm 3988292384 (y / 2), Nat.xor_assoc (y / 2), Nat.xor_self, Nat.xor_zero]
theorem cN_x (n : Nat) : ∀ (x y : Nat), cN n (x ^^^ y) = cN n x ^^^ cN n y := by
 induction n with
 | zero => intro x y; rfl
 | succ n ih => intro x y; show cN n (cS (x ^^^ y)) = _; rw [cS_x, ih]; rfl
theorem cN_add (n : Nat) : ∀ (m x : Nat), cN (n + m) x = cN m (cN n x) := by
 induction n with
 | zero => intro m x; rw [Nat.zero_add]; rfl
 | succ n ih => intro m x; rw [Nat.add_right_comm]; show cN (n + m) (cS x) = _; rw [ih]; rfl
theorem cN_up (n : Nat) : ∀ x, cN n (x * 2 ^ n) = x := by
 induction n with
 | zero => intro x; show x * 1 = x; omega
 | succ n ih =>
  intro x
  show cN n (cS (x * 2 ^ (n + 1))) = x
  have h : cS (x * 2 ^ (n + 1)) = x * 2 ^ n := by
   have e : x * 2 ^ (n + 1) = (x * 2 ^ n) * 2 := by rw [Nat.pow_succ, Nat.mul_assoc]
   unfold cS
   rw [e, if_pos (by omega)]; omega
  rw [h, ih]
theorem cS_lt {x : Nat} (h : x < 4294967296) : cS x < 4294967296 := by
 unfold cS
 split
 ·omega
 ·exact Nat.xor_lt_two_pow (n := 32) (by omega) (by decide)
theorem cN_lt {n : Nat} : ∀ {x : Nat}, x < 4294967296 → cN n x < 4294967296 := by
 induction n with
 | zero => intro x h; exact h
 | succ n ih => intro x h; exact ih (cS_lt h)
theorem low_x {x : Nat} (n : Nat) (h : x < 2 ^ n) (y : Nat) : x + y * 2 ^ n = x ^^^ (y * 2 ^ n) := by
 apply Nat.eq_of_testBit_eq
 intro i
 rw [Nat.testBit_xor, Nat.add_comm, Nat.mul_comm, Nat.testBit_two_pow_mul_add _ h, Nat.testBit_two_pow_mul]
 by_cases hi : i < n
 ·simp [hi, Nat.not_le.2 hi]
 ·have : x.testBit i = false := Nat.testBit_lt_two_pow (Nat.lt_of_lt_of_le h (Nat.pow_le_pow_right (by omega) (by omega)))
  simp [hi, this, Nat.le_of_not_lt hi]
theorem c8_split (r c : Nat) : cN 8 (r ^^^ c) = cN 8 (r % 256 ^^^ c) ^^^ (r / 256) := by
 have e : r ^^^ c = (r % 256 ^^^ c) ^^^ ((r / 256) * 2 ^ 8) := by
  have h := low_x (x := r % 256) 8 (by omega) (r / 256)
  have h2 : r = r % 256 ^^^ (r / 256) * 2 ^ 8 := by rw [← h]; omega
  conv => lhs; rw [h2]
  rw [Nat.xor_assoc, Nat.xor_comm _ c, ← Nat.xor_assoc]
 rw [e, cN_x, cN_up]
theorem cF_lt {r : Nat} {g : Nat → Nat} (hr : r < 4294967296) (hg : ∀ i, g i < 256) (n : Nat) : cF r g n < 4294967296 := by
 induction n with
 | zero => exact hr
 | succ n ih => exact cN_lt (Nat.xor_lt_two_pow (n := 32) ih (by have := hg n; omega))
theorem cF_congr (r : Nat) {g h : Nat → Nat} (n : Nat) (e : ∀ i, i < n → g i = h i) : cF r g n = cF r h n := by
 induction n with
 | zero => rfl
 | succ n ih => show cN 8 (cF r g n ^^^ g n) = cN 8 (cF r h n ^^^ h n); rw [ih (fun i hi => e i (by omega)), e n (by omega)]
end Go.Proofs.YtdhblehhgpdpdaaGreat
namespace Go.Proofs.YtdhblehhgpdpdaaGreat
def bt (v : Int) (n i : Nat) : Nat := (v / 256 ^ (n - 1 - i) % 256).toNat
theorem bt_int (v : Int) (n i : Nat) : (bt v n i : Int) = v / 256 ^ (n - 1 - i) % 256 := by unfold bt; omega
theorem bt_lt (v : Int) (n i : Nat) : bt v n i < 256 := by unfold bt; omega
theorem pow256_pos (k : Nat) : (0 : Int) < 256 ^ k := Int.pow_pos (by decide)
theorem div_next (v : Int) (k : Nat) : v / 256 ^ k / 256 = v / 256 ^ (k + 1) := by
 rw [Int.ediv_ediv_of_nonneg (Int.le_of_lt (pow256_pos k)), Int.pow_succ]
def vn (g : Nat → Nat) : Nat → Nat
 | 0 => 0
 | k + 1 => vn g k * 256 + g k
theorem vn_lt {g : Nat → Nat} (hg : ∀ i, g i < 256) (k : Nat) : vn g k < 256 ^ k := by
 induction k with
 | zero => show 0 < 1; omega
 | succ k ih => have := hg k; show vn g k * 256 + g k < 256 ^ (k + 1); rw [Nat.pow_succ]; omega
theorem vn_congr {g f : Nat → Nat} {k : Nat} (h : ∀ i, i < k → g i = f i) : vn g k = vn f k := by
 induction k with
 | zero => rfl
 | succ k ih => show vn g k * 256 + g k = vn f k * 256 + f k; rw [ih (fun i hi => h i (by omega)), h k (by omega)]
theorem emod_split (u m : Int) (hm : 0 < m) : u % (m * 256) = u / 256 % m * 256 + u % 256 := by
 have h1 : u = 256 * (u / 256) + u % 256 := (Int.mul_ediv_add_emod u 256).symm
 have h2 := Int.mul_ediv_add_emod (u / 256) m
 have h3 := Int.emod_nonneg (u / 256) (Int.ne_of_gt hm)
 have h4 := Int.emod_lt_of_pos (u / 256) hm
 obtain ⟨q, hq⟩ : ∃ q, q = u / 256 / m := ⟨_, rfl⟩
 obtain ⟨r, hr⟩ : ∃ r, r = u / 256 % m := ⟨_, rfl⟩
 obtain ⟨s, hs⟩ : ∃ s, s = u % 256 := ⟨_, rfl⟩
 rw [← hq, ← hr] at h2
 rw [← hr] at h3 h4 ⊢
 rw [← hs] at h1 ⊢
 have e : u = (r * 256 + s) + m * 256 * q := by
  rw [h1, ← h2, Int.mul_add, Int.mul_comm m 256, Int.mul_assoc]; omega
 rw [e, Int.add_mul_emod_self_left]
 apply Int.emod_eq_of_lt
 ·omega
 ·omega
theorem vn_bt (v : Int) (n k : Nat) (hk : k ≤ n) : (vn (bt v n) k : Int) = v / 256 ^ (n - k) % 256 ^ k := by
 induction k with
 | zero => simp [vn, Int.emod_one]
 | succ k ih =>
  have h := ih (by omega)
  show ((vn (bt v n) k * 256 + bt v n k : Nat) : Int) = _
  rw [Int.natCast_add, Int.natCast_mul, h, bt_int, show n - 1 - k = n - (k + 1) by omega, Int.pow_succ, emod_split _ _ (pow256_pos k), div_next, show n - (k + 1) + 1 = n - k by omega]
  rfl
theorem vn_bt_all (v : Int) (n : Nat) : (vn (bt v n) n : Int) = v % 256 ^ n := by
 rw [vn_bt v n n (Nat.le_refl _), Nat.sub_self, Int.pow_zero, Int.ediv_one]
def sg (v : Nat) : Int := if v < 9223372036854775808 then (v : Int) else (v : Int) - 18446744073709551616
theorem sg_R64 {v : Nat} (h : v < 18446744073709551616) : R64 (sg v) := by unfold sg R64; split <;> omega
theorem sg_bt {v : Int} (h : R64 v) : sg (vn (bt v 8) 8) = v := by
 have e := vn_bt_all v 8
 have e8 : (256 : Int) ^ 8 = 18446744073709551616 := by decide
 rw [e8] at e
 unfold R64 at h
 unfold sg
 split <;> omega
def wrongM (K F R : Int) (n : Nat) : Int :=
 if K < 1 ∨ 5 < K then 4 else if F < 0 ∨ 3 < F ∨ R < 0 ∨ 2147483647 < R then 3 else if 24 < n then 6 else 0
theorem wrongM_right {K F R : Int} {n : Nat} (h : wrongM K F R n = 0) : 1 ≤ K ∧ K ≤ 5 ∧ 0 ≤ F ∧ F ≤ 3 ∧ 0 ≤ R ∧ R ≤ 2147483647 ∧ n ≤ 24 := by
 unfold wrongM at h
 split at h
 ·omega
 ·split at h
  ·omega
  ·split at h
   ·omega
   ·omega
def enF (K F R : Int) (n : Nat) (f : Nat → Int) (i : Nat) : Nat :=
 if i = 0 then 87 else if i = 1 then (K % 256).toNat else if i = 2 then (F % 256).toNat else if i < 7 then bt R 4 (i - 3) else if i = 7 then n % 256 else bt (f ((i - 8) / 8)) 8 ((i - 8) % 8)
theorem enF_lt (K F R : Int) (n : Nat) (f : Nat → Int) (i : Nat) : enF K F R n f i < 256 := by
 unfold enF
 split
 ·omega
 ·split
  ·omega
  ·split
   ·omega
   ·split
    ·exact bt_lt _ _ _
    ·split
     ·omega
     ·exact bt_lt _ _ _
theorem enF_val (K F R : Int) (n : Nat) (f : Nat → Int) (j k : Nat) (hk : k < 8) : enF K F R n f (8 + 8 * j + k) = bt (f j) 8 k := by
 unfold enF
 rw [if_neg (by omega), if_neg (by omega), if_neg (by omega), if_neg (by omega), if_neg (by omega), show (8 + 8 * j + k - 8) / 8 = j by omega, show (8 + 8 * j + k - 8) % 8 = k by omega]
def dR (g : Nat → Nat) : Nat := vn (fun i => g (3 + i)) 4
def dV (g : Nat → Nat) (i : Nat) : Int := sg (vn (fun k => g (8 + 8 * i + k)) 8)
theorem dV_R64 {g : Nat → Nat} (hg : ∀ i, g i < 256) (i : Nat) : R64 (dV g i) := sg_R64 (Nat.lt_of_lt_of_eq (vn_lt (fun k => hg _) 8) (by decide))
theorem dR_lt {g : Nat → Nat} (hg : ∀ i, g i < 256) : dR g < 4294967296 := Nat.lt_of_lt_of_eq (vn_lt (fun k => hg _) 4) (by decide)
theorem back_R {g : Nat → Nat} {K F R : Int} {n : Nat} {f : Nat → Int} (h0 : 0 ≤ R) (h1 : R ≤ 2147483647) (h : ∀ i, i < 8 + 8 * n → g i = enF K F R n f i) : (dR g : Int) = R := by
 have e : dR g = vn (bt R 4) 4 := vn_congr (fun i hi => by
  show g (3 + i) = _
  rw [h (3 + i) (by omega)]
  unfold enF
  rw [if_neg (by omega), if_neg (by omega), if_neg (by omega), if_pos (by omega), show 3 + i - 3 = i by omega])
 rw [e, vn_bt_all R 4, show (256 : Int) ^ 4 = 4294967296 by decide]
 omega
theorem back_V {g : Nat → Nat} {K F R : Int} {n : Nat} {f : Nat → Int} (hf : ∀ i, R64 (f i)) (h : ∀ i, i < 8 + 8 * n → g i = enF K F R n f i) {j : Nat} (hj : j < n) : dV g j = f j := by
 have e : vn (fun k => g (8 + 8 * j + k)) 8 = vn (bt (f j) 8) 8 := vn_congr (fun k hk => by
  show g (8 + 8 * j + k) = _
  rw [h (8 + 8 * j + k) (by omega), enF_val K F R n f j k hk])
 unfold dV
 rw [e, sg_bt (hf j)]
end Go.Proofs.YtdhblehhgpdpdaaGreat
namespace Go.Proofs.YtdhblehhgpdpdaaGreat
open Go.RowKit
structure Ms where
 K : Int
 F : Int
 R : Int
 L : List Int
structure Nd where
 id : Int
 fr : Int
 tn : Tn
 ax : Nat → St
 rl : Rl
 di : Nat → Nat → Int
 he : Nat → Int
 ag : Nat → Nat → Int
 us : Nat → Int
 dg : Int
 vX : Int
 vS : Bool
 vA : List Bool
def St.nil' : St := ⟨0, 0, 0, 0, 0, false, 0⟩
def St.beg0 : St := ⟨0, 0, 4294967296, 0, 4294967296, false, 0⟩
def zeroN : Nd := ⟨0, 0, ⟨0, 0, 0, 0⟩, fun _ => St.nil', zeroR, fun _ _ => 0, fun _ => 0, fun _ _ => 0, fun _ => 0, 0, 0, false, []⟩
def zeroM : Ms := ⟨0, 0, 0, []⟩
def noN (id : Int) : Bool := decide (id < 0) || decide (3 < id)
def begN (id : Int) (t : Tn) : Nd := if noN id then zeroN else { zeroN with id := id, tn := t, ax := fun _ => St.beg0, rl := beginR }
def begE (id : Int) : Int := if noN id then 3 else 0
def frst (n : Nd) (l : List Ms) (s : Nat) (kind : Int) (many : Nat) : Option (List Int) :=
 (l.find? fun m : Ms => decide (m.F = (s : Int)) && decide (m.F ≠ n.id) && decide (m.K = kind) && decide (m.R = n.fr) && decide (m.L.length = many)).map (·.L)
def senN (n : Nd) (frame : Int) (rd : Nat → Int) : Nd := if noN n.id then n else { n with fr := frame, di := fun s a => if (s : Int) = n.id then rd a else 0, he := fun _ => 0 }
def senM (n : Nd) (frame : Int) (rd : Nat → Int) : Ms := if noN n.id then zeroM else ⟨1, n.id, frame, [rd 0, rd 1, rd 2]⟩
def relD (n : Nd) (l : List Ms) (s a : Nat) : Int := match frst n l s 1 3 with | some v => v.getD a 0 | none => n.di s a
def relN (n : Nd) (l : List Ms) : Nd := if noN n.id then n else { n with di := relD n l }
def relM (n : Nd) (l : List Ms) : Ms := if noN n.id then zeroM else ⟨2, n.id, n.fr, (List.range 12).map fun i => relD n l (i / 3) (i % 3)⟩
def tldN (n : Nd) (l : List Ms) (i k many : Nat) : Int := match frst n l i 2 many with | some v => v.getD k 0 | none => 0
def tkn (n : Nd) (l : List Ms) (s : Nat) (h : Int) (k many : Nat) : Int :=
 if (s : Int) = n.id then h else dc3 h (tldN n l (o1 n.id.toNat s) k many) (tldN n l (o2 n.id.toNat s) k many)
def midL (l : List Int) : Int := if 1 ≤ l.length ∧ l.length ≤ 64 then ((srt l).getD ((l.length - 1) / 3) 0 + (srt l).getD (l.length - 1 - (l.length - 1) / 3) 0) / 2 else 0
theorem midL_at {f : Nat → Int} {n : Nat} {m : Int} (h1 : 1 ≤ n) (h2 : n ≤ 64) (h : IsMid f n m) : m = midL (lsN f n) := by
 have el : (lsN f n).length = n := by unfold lsN; simp
 have es : (srt (lsN f n)).length = n := by unfold srt; rw [List.length_mergeSort, el]
 unfold midL
 rw [el, if_pos ⟨h1, h2⟩]
 have g : ∀ k, k < n → (srt (lsN f n))[k]? = some ((srt (lsN f n)).getD k 0) := fun k hk => by
  rw [List.getD_eq_getElem?_getD, List.getElem?_eq_getElem (by omega)]; rfl
 exact mid_one h (mid_srt (g _ (by omega)) (g _ (by omega)))
def insL (b : Nat → Bool) (f : Nat → Int) : Nat → List Int
 | 0 => []
 | k + 1 => insL b f k ++ (if b k then [f k] else [])
theorem insL_len (b : Nat → Bool) (f : Nat → Int) (k : Nat) : (insL b f k).length ≤ k := by
 induction k with
 | zero => exact Nat.le_refl 0
 | succ k ih =>
  show (insL b f k ++ _).length ≤ _
  rw [List.length_append]
  split
  ·show _ + 1 ≤ _; omega
  ·show _ + 0 ≤ _; omega
def vtX (v : Nat → Int) (b : Nat → Bool) : Nat → Int
 | 0 => 0
 | k + 1 => if b k = true ∧ (vk b v (vtX v b k) 4 < vk b v (v k) 4 ∨ ti b k = 0) then v k else vtX v b k
theorem isV_vtX (v : Nat → Int) (b : Nat → Bool) : ∀ k, IsV v b k (vtX v b k)
 | 0 => isV_start v b
 | k + 1 => by
  have ih := isV_vtX v b k
  show IsV v b (k + 1) (if _ then v k else vtX v b k)
  cases hb : b k with
  | false => rw [if_neg (by rintro ⟨c, _⟩; exact absurd c (by decide))]; exact isV_out ih hb
  | true =>
   by_cases c : vk b v (vtX v b k) 4 < vk b v (v k) 4 ∨ ti b k = 0
   ·rw [if_pos ⟨rfl, c⟩]; exact isV_take ih hb c
   ·rw [if_neg (fun h => c h.2)]; exact isV_leave ih (fun h => c (Or.inl h)) (fun h => c (Or.inr h))
theorem vtX_at {v : Nat → Int} {b : Nat → Bool} {X : Int} (h : IsV v b 4 X) : X = vtX v b 4 := isV_one h (isV_vtX v b 4)
def inN (b : Nat → Bool) : Int := (if b 0 then 1 else 0) + (if b 1 then 2 else 0) + (if b 2 then 4 else 0) + (if b 3 then 8 else 0)
def ctN8 (f : Nat → Int) : Nat → Int
 | 0 => 0
 | k + 1 => wrap64 (wrap64 (8 * ctN8 f k) + f k)
def axL (s : St) : List Int := [s.X, s.V, s.P00, s.P01, s.P11, if s.B then 1 else 0, s.M]
def pck (ax : Nat → St) (r : Rl) : List Int := axL (ax 0) ++ axL (ax 1) ++ axL (ax 2) ++ [inN r.I, ctN8 r.M 4, ctN8 r.J 4]
theorem pck_len (ax : Nat → St) (r : Rl) : (pck ax r).length = 24 := rfl
def pckB (ax : Nat → St) (r : Rl) (i : Nat) : Nat := bt ((pck ax r).getD (i / 8) 0) 8 (i % 8)
def dgN (ax : Nat → St) (r : Rl) : Int := ((4294967295 - cF 4294967295 (pckB ax r) 192 : Nat) : Int)
def decG (n : Nd) (l : List Ms) (s a : Nat) : Int := tkn n l s (n.di s a) (3 * s + a) 12
def decU (n : Nd) (l : List Ms) (a : Nat) : Int := midL (insL n.rl.I (fun s => decG n l s a) 4)
def decA (n : Nd) (l : List Ms) (a : Nat) : St := stepS (n.ax a) n.tn (decU n l a)
def decD (n : Nd) (l : List Ms) : Int := dgN (decA n l) n.rl
def decN (n : Nd) (l : List Ms) : Nd := if noN n.id then n else { n with ag := decG n l, us := decU n l, ax := decA n l, dg := decD n l, he := fun s => if (s : Int) = n.id then decD n l else n.he s }
def decM (n : Nd) (l : List Ms) : Ms := if noN n.id then zeroM else ⟨3, n.id, n.fr, [decD n l]⟩
def pasH (n : Nd) (l : List Ms) (s : Nat) : Int := match frst n l s 3 1 with | some v => v.getD 0 0 | none => n.he s
def pasN (n : Nd) (l : List Ms) : Nd := if noN n.id then n else { n with he := pasH n l }
def pasM (n : Nd) (l : List Ms) : Ms := if noN n.id then zeroM else ⟨2, n.id, n.fr, (List.range 4).map (pasH n l)⟩
def judV (n : Nd) (l : List Ms) (s : Nat) : Int := tkn n l s (n.he s) s 4
def judX (n : Nd) (l : List Ms) : Int := vtX (judV n l) n.rl.I 4
def judA (n : Nd) (l : List Ms) (i : Nat) : Bool := vtA (judV n l) n.rl.I (judX n l) i
def judS (n : Nd) (l : List Ms) : Bool := vtS (judV n l) n.rl.I (judX n l)
def judR (n : Nd) (l : List Ms) : Rl := if (stR n.rl (judS n l) 4 (judA n l)).2.2 = 0 then (stR n.rl (judS n l) 4 (judA n l)).1 else n.rl
def judN (n : Nd) (l : List Ms) : Nd := if noN n.id then n else { n with vX := judX n l, vS := judS n l, vA := (List.range 4).map (judA n l), rl := judR n l }
def judM (n : Nd) (l : List Ms) : Ms := if noN n.id then zeroM else ⟨5, n.id, n.fr, pck n.ax (judR n l)⟩
def unA (v : List Int) (a : Nat) : St := ⟨v.getD (7 * a) 0, v.getD (7 * a + 1) 0, v.getD (7 * a + 2) 0, v.getD (7 * a + 3) 0, v.getD (7 * a + 4) 0, decide (0 < v.getD (7 * a + 5) 0), v.getD (7 * a + 6) 0⟩
def unR (v : List Int) : Rl := ⟨fun i => decide (v.getD 21 0 / 2 ^ i % 2 = 1), fun i => v.getD 22 0 / 8 ^ (3 - i) % 8, fun i => v.getD 23 0 / 8 ^ (3 - i) % 8⟩
def unOK (v : List Int) : Bool :=
 (List.range 3).all (fun a => decide (0 ≤ v.getD (7 * a + 5) 0) && decide (v.getD (7 * a + 5) 0 ≤ 1)) && decide (0 ≤ v.getD 21 0) && decide (v.getD 21 0 ≤ 15) && decide (0 ≤ v.getD 22 0) && decide (v.getD 22 0 ≤ 4095) &&
  decide (0 ≤ v.getD 23 0) && decide (v.getD 23 0 ≤ 4095) && gdA (unR v)
def prs : List (Nat × Nat) := [(0, 1), (0, 2), (0, 3), (1, 2), (1, 3), (2, 3)]
def pairN (n : Nd) (l : List Ms) (p : Nat × Nat) : Option (List Int) := match frst n l p.1 5 24, frst n l p.2 5 24 with | some a, some b => if a = b then some a else none | _, _ => none
def cloV (n : Nd) (l : List Ms) : Option (List Int) := if n.vS = true ∧ n.vX ≠ n.dg then prs.findSome? (pairN n l) else none
def cloN (n : Nd) (l : List Ms) : Nd := if noN n.id then n else match cloV n l with | some v => if unOK v then { n with ax := unA v, rl := unR v } else n | none => n
end Go.Proofs.YtdhblehhgpdpdaaGreat
