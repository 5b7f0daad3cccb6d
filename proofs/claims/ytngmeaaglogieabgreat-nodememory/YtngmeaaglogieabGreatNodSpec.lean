/- One computer, phase by phase: plain (ahead of stage 12). -/
import Derived.Test.YtngmeaaglogieabGreatNear67
import Derived.Test.YtngmeaaglogieabGreatNear78
namespace Go.Proofs.YtngmeaaglogieabGreat
open Go.RowKit

/-- A message. -/
structure Ms where
  K : Int
  F : Int
  R : Int
  L : List Int
/-- A computer. -/
structure Nd where
  id : Int
  fr : Int
  tn : Tn
  ax : Nat → St
  rl : Rl
  di : Nat → Nat → Int
  he : Nat → Int
  ag : Nat → Nat → Int
  us : Nat → Int
  dg : Int
  vX : Int
  vS : Bool
  vA : List Bool
def St.nil' : St := ⟨0, 0, 0, 0, 0, false, 0⟩
def St.beg0 : St := ⟨0, 0, 4294967296, 0, 4294967296, false, 0⟩
def zeroN : Nd := ⟨0, 0, ⟨0, 0, 0, 0⟩, fun _ => St.nil', zeroR, fun _ _ => 0, fun _ => 0, fun _ _ => 0, fun _ => 0, 0, 0, false, []⟩
def zeroM : Ms := ⟨0, 0, 0, []⟩
/-- Is it no node? -/
def noN (id : Int) : Bool := decide (id < 0) || decide (3 < id)
/-- Begin. -/
def begN (id : Int) (t : Tn) : Nd := if noN id then zeroN else { zeroN with id := id, tn := t, ax := fun _ => St.beg0, rl := beginR }
def begE (id : Int) : Int := if noN id then 3 else 0

/-- What is heard of a node. -/
def frst (n : Nd) (l : List Ms) (s : Nat) (kind : Int) (many : Nat) : Option (List Int) :=
  (l.find? fun m : Ms => decide (m.F = (s : Int)) && decide (m.F ≠ n.id) && decide (m.K = kind) && decide (m.R = n.fr) && decide (m.L.length = many)).map (·.L)
theorem frst_len {n : Nd} {l : List Ms} {s : Nat} {kind : Int} {many : Nat} {v : List Int} (h : frst n l s kind many = some v) : v.length = many := by
  unfold frst at h
  rw [Option.map_eq_some_iff] at h
  obtain ⟨m, h1, rfl⟩ := h
  have := List.find?_some h1
  simp only [Bool.and_eq_true, decide_eq_true_eq] at this
  exact this.2
theorem frst_own {n : Nd} {l : List Ms} {s : Nat} {kind : Int} {many : Nat} (h : (s : Int) = n.id) : frst n l s kind many = none := by
  unfold frst
  rw [Option.map_eq_none_iff, List.find?_eq_none]
  intro m _ c
  simp only [Bool.and_eq_true, decide_eq_true_eq] at c
  exact c.1.1.1.2 (by rw [c.1.1.1.1, h])
/-- It speaks only of who hears, and of the frame. -/
theorem frst_same {n n' : Nd} (h1 : n'.id = n.id) (h2 : n'.fr = n.fr) (l : List Ms) (s : Nat) (kind : Int) (many : Nat) : frst n' l s kind many = frst n l s kind many := by
  unfold frst; rw [h1, h2]

/-- Sense. -/
def senN (n : Nd) (frame : Int) (rd : Nat → Int) : Nd := if noN n.id then n else { n with fr := frame, di := fun s a => if (s : Int) = n.id then rd a else 0, he := fun _ => 0 }
def senM (n : Nd) (frame : Int) (rd : Nat → Int) : Ms := if noN n.id then zeroM else ⟨1, n.id, frame, [rd 0, rd 1, rd 2]⟩
/-- Relay. -/
def relD (n : Nd) (l : List Ms) (s a : Nat) : Int := match frst n l s 1 3 with | some v => v.getD a 0 | none => n.di s a
def relN (n : Nd) (l : List Ms) : Nd := if noN n.id then n else { n with di := relD n l }
def relM (n : Nd) (l : List Ms) : Ms := if noN n.id then zeroM else ⟨2, n.id, n.fr, (List.range 12).map fun i => relD n l (i / 3) (i % 3)⟩
/-- What a node tells of another; what is taken for said. -/
def tldN (n : Nd) (l : List Ms) (i k many : Nat) : Int := match frst n l i 2 many with | some v => v.getD k 0 | none => 0
def tkn (n : Nd) (l : List Ms) (s : Nat) (h : Int) (k many : Nat) : Int :=
  if (s : Int) = n.id then h else dc3 h (tldN n l (o1 n.id.toNat s) k many) (tldN n l (o2 n.id.toNat s) k many)

/-- The middle of a list of at most 64; 0 of none. -/
def midL (l : List Int) : Int := if 1 ≤ l.length ∧ l.length ≤ 64 then ((srt l).getD ((l.length - 1) / 3) 0 + (srt l).getD (l.length - 1 - (l.length - 1) / 3) 0) / 2 else 0
theorem midL_at {f : Nat → Int} {n : Nat} {m : Int} (h1 : 1 ≤ n) (h2 : n ≤ 64) (h : IsMid f n m) : m = midL (lsN f n) := by
  have el : (lsN f n).length = n := by unfold lsN; simp
  have es : (srt (lsN f n)).length = n := by unfold srt; rw [List.length_mergeSort, el]
  unfold midL
  rw [el, if_pos ⟨h1, h2⟩]
  have g : ∀ k, k < n → (srt (lsN f n))[k]? = some ((srt (lsN f n)).getD k 0) := fun k hk => by
    rw [List.getD_eq_getElem?_getD, List.getElem?_eq_getElem (by omega)]; rfl
  exact mid_one h (mid_srt (g _ (by omega)) (g _ (by omega)))
theorem midL_nil : midL [] = 0 := by decide
/-- What those say that are in. -/
def insL (b : Nat → Bool) (f : Nat → Int) : Nat → List Int
  | 0 => []
  | k + 1 => insL b f k ++ (if b k then [f k] else [])
theorem insL_len (b : Nat → Bool) (f : Nat → Int) (k : Nat) : (insL b f k).length ≤ k := by
  induction k with
  | zero => exact Nat.le_refl 0
  | succ k ih =>
    show (insL b f k ++ _).length ≤ _
    rw [List.length_append]
    split
    · show _ + 1 ≤ _; omega
    · show _ + 0 ≤ _; omega

/-- The vote's value. -/
def vtX (v : Nat → Int) (b : Nat → Bool) : Nat → Int
  | 0 => 0
  | k + 1 => if b k = true ∧ (vk b v (vtX v b k) 4 < vk b v (v k) 4 ∨ ti b k = 0) then v k else vtX v b k
theorem isV_vtX (v : Nat → Int) (b : Nat → Bool) : ∀ k, IsV v b k (vtX v b k)
  | 0 => isV_start v b
  | k + 1 => by
    have ih := isV_vtX v b k
    show IsV v b (k + 1) (if _ then v k else vtX v b k)
    cases hb : b k with
    | false => rw [if_neg (by rintro ⟨c, _⟩; exact absurd c (by decide))]; exact isV_out ih hb
    | true =>
      by_cases c : vk b v (vtX v b k) 4 < vk b v (v k) 4 ∨ ti b k = 0
      · rw [if_pos ⟨rfl, c⟩]; exact isV_take ih hb c
      · rw [if_neg (fun h => c h.2)]; exact isV_leave ih (fun h => c (Or.inl h)) (fun h => c (Or.inr h))
theorem vtX_at {v : Nat → Int} {b : Nat → Bool} {X : Int} (h : IsV v b 4 X) : X = vtX v b 4 := isV_one h (isV_vtX v b 4)

/-- The state in numbers. -/
def inN (b : Nat → Bool) : Int := (if b 0 then 1 else 0) + (if b 1 then 2 else 0) + (if b 2 then 4 else 0) + (if b 3 then 8 else 0)
def ctN8 (f : Nat → Int) : Nat → Int
  | 0 => 0
  | k + 1 => wrap64 (wrap64 (8 * ctN8 f k) + f k)
def axL (s : St) : List Int := [s.X, s.V, s.P00, s.P01, s.P11, if s.B then 1 else 0, s.M]
def pck (ax : Nat → St) (r : Rl) : List Int := axL (ax 0) ++ axL (ax 1) ++ axL (ax 2) ++ [inN r.I, ctN8 r.M 4, ctN8 r.J 4]
theorem pck_len (ax : Nat → St) (r : Rl) : (pck ax r).length = 24 := rfl
def pckB (ax : Nat → St) (r : Rl) (i : Nat) : Nat := bt ((pck ax r).getD (i / 8) 0) 8 (i % 8)

/-- The digest; Decide. -/
def dgN (ax : Nat → St) (r : Rl) : Int := ((4294967295 - cF 4294967295 (pckB ax r) 192 : Nat) : Int)
def decG (n : Nd) (l : List Ms) (s a : Nat) : Int := tkn n l s (n.di s a) (3 * s + a) 12
def decU (n : Nd) (l : List Ms) (a : Nat) : Int := midL (insL n.rl.I (fun s => decG n l s a) 4)
def decA (n : Nd) (l : List Ms) (a : Nat) : St := stepS (n.ax a) n.tn (decU n l a)
def decD (n : Nd) (l : List Ms) : Int := dgN (decA n l) n.rl
def decN (n : Nd) (l : List Ms) : Nd := if noN n.id then n else { n with ag := decG n l, us := decU n l, ax := decA n l, dg := decD n l, he := fun s => if (s : Int) = n.id then decD n l else n.he s }
def decM (n : Nd) (l : List Ms) : Ms := if noN n.id then zeroM else ⟨3, n.id, n.fr, [decD n l]⟩

/-- Pass. -/
def pasH (n : Nd) (l : List Ms) (s : Nat) : Int := match frst n l s 3 1 with | some v => v.getD 0 0 | none => n.he s
def pasN (n : Nd) (l : List Ms) : Nd := if noN n.id then n else { n with he := pasH n l }
def pasM (n : Nd) (l : List Ms) : Ms := if noN n.id then zeroM else ⟨2, n.id, n.fr, (List.range 4).map (pasH n l)⟩

/-- Judge. -/
def judV (n : Nd) (l : List Ms) (s : Nat) : Int := tkn n l s (n.he s) s 4
def judX (n : Nd) (l : List Ms) : Int := vtX (judV n l) n.rl.I 4
def judA (n : Nd) (l : List Ms) (i : Nat) : Bool := vtA (judV n l) n.rl.I (judX n l) i
def judS (n : Nd) (l : List Ms) : Bool := vtS (judV n l) n.rl.I (judX n l)
def judR (n : Nd) (l : List Ms) : Rl := if (stR n.rl (judS n l) 4 (judA n l)).2.2 = 0 then (stR n.rl (judS n l) 4 (judA n l)).1 else n.rl
def judN (n : Nd) (l : List Ms) : Nd := if noN n.id then n else { n with vX := judX n l, vS := judS n l, vA := (List.range 4).map (judA n l), rl := judR n l }
def judM (n : Nd) (l : List Ms) : Ms := if noN n.id then zeroM else ⟨5, n.id, n.fr, pck n.ax (judR n l)⟩

/-- Numbers as a state; do they tell one? -/
def unA (v : List Int) (a : Nat) : St := ⟨v.getD (7 * a) 0, v.getD (7 * a + 1) 0, v.getD (7 * a + 2) 0, v.getD (7 * a + 3) 0, v.getD (7 * a + 4) 0, decide (0 < v.getD (7 * a + 5) 0), v.getD (7 * a + 6) 0⟩
def unR (v : List Int) : Rl := ⟨fun i => decide (v.getD 21 0 / 2 ^ i % 2 = 1), fun i => v.getD 22 0 / 8 ^ (3 - i) % 8, fun i => v.getD 23 0 / 8 ^ (3 - i) % 8⟩
def unOK (v : List Int) : Bool :=
  (List.range 3).all (fun a => decide (0 ≤ v.getD (7 * a + 5) 0) && decide (v.getD (7 * a + 5) 0 ≤ 1)) && decide (0 ≤ v.getD 21 0) && decide (v.getD 21 0 ≤ 15) && decide (0 ≤ v.getD 22 0) && decide (v.getD 22 0 ≤ 4095) &&
    decide (0 ≤ v.getD 23 0) && decide (v.getD 23 0 ≤ 4095) && gdA (unR v)
/-- The pairs in their order; what the first pair that is heard and alike tells. -/
def prs : List (Nat × Nat) := [(0, 1), (0, 2), (0, 3), (1, 2), (1, 3), (2, 3)]
def pairN (n : Nd) (l : List Ms) (p : Nat × Nat) : Option (List Int) := match frst n l p.1 5 24, frst n l p.2 5 24 with | some a, some b => if a = b then some a else none | _, _ => none
def cloV (n : Nd) (l : List Ms) : Option (List Int) := if n.vS = true ∧ n.vX ≠ n.dg then prs.findSome? (pairN n l) else none
def cloN (n : Nd) (l : List Ms) : Nd := if noN n.id then n else match cloV n l with | some v => if unOK v then { n with ax := unA v, rl := unR v } else n | none => n

end Go.Proofs.YtngmeaaglogieabGreat
