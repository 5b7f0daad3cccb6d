import Derived.Test.YtdhblehhgpdpdaaNear65
import Derived.Test.YtdhblehhgpdpdaaNear60
import Derived.Test.YtdhblehhgpdpdaaNear59
namespace Go.Proofs.Ytdhblehhgpdpdaa
open Go.RowKit
structure Ms where
 K : Int
 F : Int
 R : Int
 L : List Int
structure Nd where
 id : Int
 fr : Int
 tn : Tn
 ax : Nat → St
 rl : Rl
 di : Nat → Nat → Int
 he : Nat → Int
 ag : Nat → Nat → Int
 us : Nat → Int
 dg : Int
 vX : Int
 vS : Bool
 vA : List Bool
def St.nil' : St := ⟨0, 0, 0, 0, 0, false, 0⟩
def St.beg0 : St := ⟨0, 0, 4294967296, 0, 4294967296, false, 0⟩
def zeroN : Nd := ⟨0, 0, ⟨0, 0, 0, 0⟩, fun _ => St.nil', zeroR, fun _ _ => 0, fun _ => 0, fun _ _ => 0, fun _ => 0, 0, 0, false, []⟩
def zeroM : Ms := ⟨0, 0, 0, []⟩
def noN (id : Int) : Bool := decide (id < 0) || decide (3 < id)
def begN (id : Int) (t : Tn) : Nd := if noN id then zeroN else { zeroN with id := id, tn := t, ax := fun _ => St.beg0, rl := beginR }
def begE (id : Int) : Int := if noN id then 3 else 0
def frst (n : Nd) (l : List Ms) (s : Nat) (kind : Int) (many : Nat) : Option (List Int) :=
 (l.find? fun m : Ms => decide (m.F = (s : Int)) && decide (m.F ≠ n.id) && decide (m.K = kind) && decide (m.R = n.fr) && decide (m.L.length = many)).map (·.L)
def senN (n : Nd) (frame : Int) (rd : Nat → Int) : Nd := if noN n.id then n else { n with fr := frame, di := fun s a => if (s : Int) = n.id then rd a else 0, he := fun _ => 0 }
def senM (n : Nd) (frame : Int) (rd : Nat → Int) : Ms := if noN n.id then zeroM else ⟨1, n.id, frame, [rd 0, rd 1, rd 2]⟩
def relD (n : Nd) (l : List Ms) (s a : Nat) : Int := match frst n l s 1 3 with | some v => v.getD a 0 | none => n.di s a
def relN (n : Nd) (l : List Ms) : Nd := if noN n.id then n else { n with di := relD n l }
def relM (n : Nd) (l : List Ms) : Ms := if noN n.id then zeroM else ⟨2, n.id, n.fr, (List.range 12).map fun i => relD n l (i / 3) (i % 3)⟩
def tldN (n : Nd) (l : List Ms) (i k many : Nat) : Int := match frst n l i 2 many with | some v => v.getD k 0 | none => 0
def tkn (n : Nd) (l : List Ms) (s : Nat) (h : Int) (k many : Nat) : Int :=
 if (s : Int) = n.id then h else dc3 h (tldN n l (o1 n.id.toNat s) k many) (tldN n l (o2 n.id.toNat s) k many)
def midL (l : List Int) : Int := if 1 ≤ l.length ∧ l.length ≤ 64 then ((srt l).getD ((l.length - 1) / 3) 0 + (srt l).getD (l.length - 1 - (l.length - 1) / 3) 0) / 2 else 0
def insL (b : Nat → Bool) (f : Nat → Int) : Nat → List Int
 | 0 => []
 | k + 1 => insL b f k ++ (if b k then [f k] else [])
def vtX (v : Nat → Int) (b : Nat → Bool) : Nat → Int
 | 0 => 0
 | k + 1 => if b k = true ∧ (vk b v (vtX v b k) 4 < vk b v (v k) 4 ∨ ti b k = 0) then v k else vtX v b k
def inN (b : Nat → Bool) : Int := (if b 0 then 1 else 0) + (if b 1 then 2 else 0) + (if b 2 then 4 else 0) + (if b 3 then 8 else 0)
def ctN8 (f : Nat → Int) : Nat → Int
 | 0 => 0
 | k + 1 => wrap64 (wrap64 (8 * ctN8 f k) + f k)
def axL (s : St) : List Int := [s.X, s.V, s.P00, s.P01, s.P11, if s.B then 1 else 0, s.M]
def pck (ax : Nat → St) (r : Rl) : List Int := axL (ax 0) ++ axL (ax 1) ++ axL (ax 2) ++ [inN r.I, ctN8 r.M 4, ctN8 r.J 4]
def pckB (ax : Nat → St) (r : Rl) (i : Nat) : Nat := bt ((pck ax r).getD (i / 8) 0) 8 (i % 8)
def dgN (ax : Nat → St) (r : Rl) : Int := ((4294967295 - cF 4294967295 (pckB ax r) 192 : Nat) : Int)
def decG (n : Nd) (l : List Ms) (s a : Nat) : Int := tkn n l s (n.di s a) (3 * s + a) 12
def decU (n : Nd) (l : List Ms) (a : Nat) : Int := midL (insL n.rl.I (fun s => decG n l s a) 4)
def decA (n : Nd) (l : List Ms) (a : Nat) : St := stepS (n.ax a) n.tn (decU n l a)
def decD (n : Nd) (l : List Ms) : Int := dgN (decA n l) n.rl
def decN (n : Nd) (l : List Ms) : Nd := if noN n.id then n else { n with ag := decG n l, us := decU n l, ax := decA n l, dg := decD n l, he := fun s => if (s : Int) = n.id then decD n l else n.he s }
def decM (n : Nd) (l : List Ms) : Ms := if noN n.id then zeroM else ⟨3, n.id, n.fr, [decD n l]⟩
def pasH (n : Nd) (l : List Ms) (s : Nat) : Int := match frst n l s 3 1 with | some v => v.getD 0 0 | none => n.he s
def pasN (n : Nd) (l : List Ms) : Nd := if noN n.id then n else { n with he := pasH n l }
def pasM (n : Nd) (l : List Ms) : Ms := if noN n.id then zeroM else ⟨2, n.id, n.fr, (List.range 4).map (pasH n l)⟩
def judV (n : Nd) (l : List Ms) (s : Nat) : Int := tkn n l s (n.he s) s 4
def judX (n : Nd) (l : List Ms) : Int := vtX (judV n l) n.rl.I 4
def judA (n : Nd) (l : List Ms) (i : Nat) : Bool := vtA (judV n l) n.rl.I (judX n l) i
def judS (n : Nd) (l : List Ms) : Bool := vtS (judV n l) n.rl.I (judX n l)
def judR (n : Nd) (l : List Ms) : Rl := if (stR n.rl (judS n l) 4 (judA n l)).2.2 = 0 then (stR n.rl (judS n l) 4 (judA n l)).1 else n.rl
def judN (n : Nd) (l : List Ms) : Nd := if noN n.id then n else { n with vX := judX n l, vS := judS n l, vA := (List.range 4).map (judA n l), rl := judR n l }
def judM (n : Nd) (l : List Ms) : Ms := if noN n.id then zeroM else ⟨5, n.id, n.fr, pck n.ax (judR n l)⟩
end Go.Proofs.Ytdhblehhgpdpdaa
