import Derived.Test.YtdhblehhgpdpdacGreatRows
import Derived.Test.YtdhblehhgpdpdacGreatRowPlain
import Derived.Lib.SmallJoins
import Derived.OpenShut
import Derived.SizedLaws
import Derived.ChangeSlices
import Derived.Test.YtdhblehhgpdpdacGreatNear51
import Derived.Test.YtdhblehhgpdpdacGreatFixPlain
namespace Go.Proofs.YtdhblehhgpdpdacGreat
open Go.ChangeShapes Go.WideShapes Go.ChangeAt Go.RowKit Go.Joins
section
variable {H : Type} {enc : TypeId × Value → H} {w : World} {base : Nat} {held : Bool}
end
end Go.Proofs.YtdhblehhgpdpdacGreat
namespace Go.Proofs.YtdhblehhgpdpdacGreat
open Go.RowKit
structure St where
 X : Int
 V : Int
 P00 : Int
 P01 : Int
 P11 : Int
 B : Bool
 M : Int
structure St.Ok (s : St) : Prop where
 X : R64 s.X
 V : R64 s.V
 P00 : R64 s.P00
 P01 : R64 s.P01
 P11 : R64 s.P11
 M : R64 s.M
def adV (a b : Int) : Int := clampZ (a + b)
def sbC (a b : Int) : Int := clampZ (a - b)
def muV (a b : Int) : Int := clampZ (mulQ a b)
def adB (a b : Int) : Bool := bentZ (a + b)
def sbE (a b : Int) : Bool := bentZ (a - b)
def muB (a b : Int) : Bool := bentZ (mulQ a b)
def predS (s : St) (dt q : Int) : St where
 X := adV s.X (muV s.V dt)
 V := s.V
 P00 := adV (adV (adV s.P00 (muV s.P01 dt)) (muV s.P01 dt)) (muV (muV s.P11 dt) dt)
 P01 := adV s.P01 (muV s.P11 dt)
 P11 := adV s.P11 q
 B := s.B || muB s.P01 dt || muB s.P11 dt || muB s.V dt || adB s.X (muV s.V dt) || adB s.P00 (muV s.P01 dt) || adB (adV s.P00 (muV s.P01 dt)) (muV s.P01 dt) || muB (muV s.P11 dt) dt ||
  adB (adV (adV s.P00 (muV s.P01 dt)) (muV s.P01 dt)) (muV (muV s.P11 dt) dt) || adB s.P01 (muV s.P11 dt) || adB s.P11 q
 M := s.M
def moreM (m : Int) : Int := wrap64 (m + 1)
def offY (s : St) (z : Int) : Int := sbC z s.X
def offW (s : St) (r : Int) : Int := adV s.P00 r
def overB (s : St) (z r gate : Int) : Bool := decide (offW s r ≤ 0) || decide (muV gate (offW s r) < muV (offY s z) (offY s z))
def takeS (s : St) (y w : Int) : St where
 X := adV s.X (muV (divV s.P00 w) y)
 V := adV s.V (muV (divV s.P01 w) y)
 P00 := sbC s.P00 (muV (divV s.P00 w) s.P00)
 P01 := sbC s.P01 (muV (divV s.P00 w) s.P01)
 P11 := sbC s.P11 (muV (divV s.P01 w) s.P01)
 B := s.B || divB s.P00 w || divB s.P01 w || muB (divV s.P00 w) y || adB s.X (muV (divV s.P00 w) y) || muB (divV s.P01 w) y || adB s.V (muV (divV s.P01 w) y) ||
  muB (divV s.P00 w) s.P00 || sbE s.P00 (muV (divV s.P00 w) s.P00) || muB (divV s.P00 w) s.P01 || sbE s.P01 (muV (divV s.P00 w) s.P01) || muB (divV s.P01 w) s.P01 || sbE s.P11 (muV (divV s.P01 w) s.P01)
 M := 0
def bentU (s : St) (z r gate : Int) : Bool := s.B || sbE z s.X || adB s.P00 r || muB (offY s z) (offY s z) || muB gate (offW s r)
def updS (s : St) (z r gate : Int) : St := if overB s z r gate then { s with M := moreM s.M } else takeS { s with B := bentU s z r gate } (offY s z) (offW s r)
structure Tn where
 Dt : Int
 Q : Int
 R : Int
 G : Int
structure Tn.Ok (t : Tn) : Prop where
 Dt : R64 t.Dt
 Q : R64 t.Q
 R : R64 t.R
 G : R64 t.G
def stepS (s : St) (t : Tn) (z : Int) : St := updS (predS s t.Dt t.Q) z t.R t.G
end Go.Proofs.YtdhblehhgpdpdacGreat
namespace Go.Proofs.YtdhblehhgpdpdacGreat
def cn (p : Nat → Bool) : Nat → Nat
 | 0 => 0
 | n + 1 => cn p n + if p n then 1 else 0
end Go.Proofs.YtdhblehhgpdpdacGreat
namespace Go.Proofs.YtdhblehhgpdpdacGreat
structure Rl where
 I : Nat → Bool
 M : Nat → Int
 J : Nat → Int
def upM {α : Type} (f : Nat → α) (q : Nat) (x : α) (j : Nat) : α := if j = q then x else f j
theorem upM_same {α : Type} (f : Nat → α) (q : Nat) (x : α) : upM f q x q = x := if_pos rfl
theorem upM_other {α : Type} (f : Nat → α) {q j : Nat} (x : α) (h : j ≠ q) : upM f q x j = f j := if_neg h
def zeroR : Rl := ⟨fun _ => false, fun _ => 0, fun _ => 0⟩
def gd (r : Rl) (j : Nat) : Bool := if r.I j then decide (0 ≤ r.M j) && decide (r.M j ≤ 2) && decide (r.J j = 0) else decide (r.M j = 0) && decide (0 ≤ r.J j) && decide (r.J j ≤ 2)
def gdA (r : Rl) : Bool := gd r 0 && gd r 1 && gd r 2 && gd r 3
def stN (A : Nat → Bool) (i : Nat) (r : Rl) : Rl :=
 if r.I i = true then (if A i = true then ⟨r.I, upM r.M i 0, r.J⟩ else if 2 ≤ r.M i + 1 ∧ 2 < cn r.I 4 then ⟨upM r.I i false, upM r.M i 0, r.J⟩ else ⟨r.I, upM r.M i (min (r.M i + 1) 2), r.J⟩)
 else if A i = true then (if 3 ≤ r.J i + 1 then ⟨upM r.I i true, r.M, upM r.J i 0⟩ else ⟨r.I, r.M, upM r.J i (r.J i + 1)⟩) else ⟨r.I, r.M, upM r.J i 0⟩
def chN (A : Nat → Bool) (i : Nat) (r : Rl) : List (Int × Nat) :=
 if r.I i = true then (if A i = true then [] else if 2 ≤ r.M i + 1 ∧ 2 < cn r.I 4 then [(1, i)] else []) else if A i = true then (if 3 ≤ r.J i + 1 then [(2, i)] else []) else []
section
variable {A : Nat → Bool} {i : Nat} {r : Rl}
end
def rnN (A : Nat → Bool) (r : Rl) : Nat → Rl × List (Int × Nat)
 | 0 => (r, [])
 | i + 1 => (stN A i (rnN A r i).1, (rnN A r i).2 ++ chN A i (rnN A r i).1)
section
variable {A : Nat → Bool} {r : Rl}
end
def stR (r : Rl) (st : Bool) (n : Nat) (A : Nat → Bool) : Rl × List (Int × Nat) × Int :=
 if n ≠ 4 then (zeroR, [], 8) else if gdA r = false then (zeroR, [], 3) else if st = true then ((rnN A r 4).1, (rnN A r 4).2, 0) else (r, [], 0)
section
variable {A : Nat → Bool} {r : Rl}
end
end Go.Proofs.YtdhblehhgpdpdacGreat
namespace Go.Proofs.YtdhblehhgpdpdacGreat
def vk (b : Nat → Bool) (v : Nat → Int) (x : Int) : Nat → Nat
 | 0 => 0
 | k + 1 => vk b v x k + if b k = true ∧ v k = x then 1 else 0
def ti (b : Nat → Bool) : Nat → Nat
 | 0 => 0
 | k + 1 => ti b k + if b k = true then 1 else 0
def vtS (v : Nat → Int) (b : Nat → Bool) (X : Int) : Bool := decide (0 < ti b 4 ∧ ti b 4 < 2 * vk b v X 4)
def vtA (v : Nat → Int) (b : Nat → Bool) (X : Int) (i : Nat) : Bool := decide (0 < ti b 4 ∧ v i = X)
end Go.Proofs.YtdhblehhgpdpdacGreat
namespace Go.Proofs.YtdhblehhgpdpdacGreat
def dc3 (a b c : Int) : Int := if a = b then a else if a = c then a else if b = c then b else 0
def o1 (q s : Nat) : Nat := if 0 ≠ q ∧ 0 ≠ s then 0 else if 1 ≠ q ∧ 1 ≠ s then 1 else 2
def o2 (q s : Nat) : Nat := if 3 ≠ q ∧ 3 ≠ s then 3 else if 2 ≠ q ∧ 2 ≠ s then 2 else 1
end Go.Proofs.YtdhblehhgpdpdacGreat
namespace Go.Proofs.YtdhblehhgpdpdacGreat
def srt (l : List Int) : List Int := l.mergeSort (fun x y => decide (x ≤ y))
end Go.Proofs.YtdhblehhgpdpdacGreat
namespace Go.Proofs.YtdhblehhgpdpdacGreat
def cS (x : Nat) : Nat := if x % 2 = 0 then x / 2 else x / 2 ^^^ 3988292384
def cN : Nat → Nat → Nat
 | 0, x => x
 | n + 1, x => cN n (cS x)
def cF (r : Nat) (g : Nat → Nat) : Nat → Nat
 | 0 => r
 | n + 1 => cN 8 (cF r g n ^^^ g n)
end Go.Proofs.YtdhblehhgpdpdacGreat
namespace Go.Proofs.YtdhblehhgpdpdacGreat
def bt (v : Int) (n i : Nat) : Nat := (v / 256 ^ (n - 1 - i) % 256).toNat
def vn (g : Nat → Nat) : Nat → Nat
 | 0 => 0
 | k + 1 => vn g k * 256 + g k
def sg (v : Nat) : Int := if v < 9223372036854775808 then (v : Int) else (v : Int) - 18446744073709551616
def wrongM (K F R : Int) (n : Nat) : Int :=
 if K < 1 ∨ 5 < K then 4 else if F < 0 ∨ 3 < F ∨ R < 0 ∨ 2147483647 < R then 3 else if 24 < n then 6 else 0
def dR (g : Nat → Nat) : Nat := vn (fun i => g (3 + i)) 4
def dV (g : Nat → Nat) (i : Nat) : Int := sg (vn (fun k => g (8 + 8 * i + k)) 8)
end Go.Proofs.YtdhblehhgpdpdacGreat
namespace Go.Proofs.YtdhblehhgpdpdacGreat
open Go.RowKit
structure Ms where
 K : Int
 F : Int
 R : Int
 L : List Int
structure Nd where
 id : Int
 fr : Int
 tn : Tn
 ax : Nat → St
 rl : Rl
 di : Nat → Nat → Int
 he : Nat → Int
 ag : Nat → Nat → Int
 us : Nat → Int
 dg : Int
 vX : Int
 vS : Bool
 vA : List Bool
def St.nil' : St := ⟨0, 0, 0, 0, 0, false, 0⟩
def zeroN : Nd := ⟨0, 0, ⟨0, 0, 0, 0⟩, fun _ => St.nil', zeroR, fun _ _ => 0, fun _ => 0, fun _ _ => 0, fun _ => 0, 0, 0, false, []⟩
def zeroM : Ms := ⟨0, 0, 0, []⟩
def noN (id : Int) : Bool := decide (id < 0) || decide (3 < id)
def frst (n : Nd) (l : List Ms) (s : Nat) (kind : Int) (many : Nat) : Option (List Int) :=
 (l.find? fun m : Ms => decide (m.F = (s : Int)) && decide (m.F ≠ n.id) && decide (m.K = kind) && decide (m.R = n.fr) && decide (m.L.length = many)).map (·.L)
def senN (n : Nd) (frame : Int) (rd : Nat → Int) : Nd := if noN n.id then n else { n with fr := frame, di := fun s a => if (s : Int) = n.id then rd a else 0, he := fun _ => 0 }
def senM (n : Nd) (frame : Int) (rd : Nat → Int) : Ms := if noN n.id then zeroM else ⟨1, n.id, frame, [rd 0, rd 1, rd 2]⟩
def relD (n : Nd) (l : List Ms) (s a : Nat) : Int := match frst n l s 1 3 with | some v => v.getD a 0 | none => n.di s a
def relN (n : Nd) (l : List Ms) : Nd := if noN n.id then n else { n with di := relD n l }
def relM (n : Nd) (l : List Ms) : Ms := if noN n.id then zeroM else ⟨2, n.id, n.fr, (List.range 12).map fun i => relD n l (i / 3) (i % 3)⟩
def tldN (n : Nd) (l : List Ms) (i k many : Nat) : Int := match frst n l i 2 many with | some v => v.getD k 0 | none => 0
def tkn (n : Nd) (l : List Ms) (s : Nat) (h : Int) (k many : Nat) : Int :=
 if (s : Int) = n.id then h else dc3 h (tldN n l (o1 n.id.toNat s) k many) (tldN n l (o2 n.id.toNat s) k many)
def midL (l : List Int) : Int := if 1 ≤ l.length ∧ l.length ≤ 64 then ((srt l).getD ((l.length - 1) / 3) 0 + (srt l).getD (l.length - 1 - (l.length - 1) / 3) 0) / 2 else 0
def insL (b : Nat → Bool) (f : Nat → Int) : Nat → List Int
 | 0 => []
 | k + 1 => insL b f k ++ (if b k then [f k] else [])
def vtX (v : Nat → Int) (b : Nat → Bool) : Nat → Int
 | 0 => 0
 | k + 1 => if b k = true ∧ (vk b v (vtX v b k) 4 < vk b v (v k) 4 ∨ ti b k = 0) then v k else vtX v b k
def inN (b : Nat → Bool) : Int := (if b 0 then 1 else 0) + (if b 1 then 2 else 0) + (if b 2 then 4 else 0) + (if b 3 then 8 else 0)
def ctN8 (f : Nat → Int) : Nat → Int
 | 0 => 0
 | k + 1 => wrap64 (wrap64 (8 * ctN8 f k) + f k)
def axL (s : St) : List Int := [s.X, s.V, s.P00, s.P01, s.P11, if s.B then 1 else 0, s.M]
def pck (ax : Nat → St) (r : Rl) : List Int := axL (ax 0) ++ axL (ax 1) ++ axL (ax 2) ++ [inN r.I, ctN8 r.M 4, ctN8 r.J 4]
def pckB (ax : Nat → St) (r : Rl) (i : Nat) : Nat := bt ((pck ax r).getD (i / 8) 0) 8 (i % 8)
def dgN (ax : Nat → St) (r : Rl) : Int := ((4294967295 - cF 4294967295 (pckB ax r) 192 : Nat) : Int)
def decG (n : Nd) (l : List Ms) (s a : Nat) : Int := tkn n l s (n.di s a) (3 * s + a) 12
def decU (n : Nd) (l : List Ms) (a : Nat) : Int := midL (insL n.rl.I (fun s => decG n l s a) 4)
def decA (n : Nd) (l : List Ms) (a : Nat) : St := stepS (n.ax a) n.tn (decU n l a)
def decD (n : Nd) (l : List Ms) : Int := dgN (decA n l) n.rl
def decN (n : Nd) (l : List Ms) : Nd := if noN n.id then n else { n with ag := decG n l, us := decU n l, ax := decA n l, dg := decD n l, he := fun s => if (s : Int) = n.id then decD n l else n.he s }
def decM (n : Nd) (l : List Ms) : Ms := if noN n.id then zeroM else ⟨3, n.id, n.fr, [decD n l]⟩
def pasH (n : Nd) (l : List Ms) (s : Nat) : Int := match frst n l s 3 1 with | some v => v.getD 0 0 | none => n.he s
def pasN (n : Nd) (l : List Ms) : Nd := if noN n.id then n else { n with he := pasH n l }
def pasM (n : Nd) (l : List Ms) : Ms := if noN n.id then zeroM else ⟨2, n.id, n.fr, (List.range 4).map (pasH n l)⟩
def judV (n : Nd) (l : List Ms) (s : Nat) : Int := tkn n l s (n.he s) s 4
def judX (n : Nd) (l : List Ms) : Int := vtX (judV n l) n.rl.I 4
def judA (n : Nd) (l : List Ms) (i : Nat) : Bool := vtA (judV n l) n.rl.I (judX n l) i
def judS (n : Nd) (l : List Ms) : Bool := vtS (judV n l) n.rl.I (judX n l)
def judR (n : Nd) (l : List Ms) : Rl := if (stR n.rl (judS n l) 4 (judA n l)).2.2 = 0 then (stR n.rl (judS n l) 4 (judA n l)).1 else n.rl
def judN (n : Nd) (l : List Ms) : Nd := if noN n.id then n else { n with vX := judX n l, vS := judS n l, vA := (List.range 4).map (judA n l), rl := judR n l }
def judM (n : Nd) (l : List Ms) : Ms := if noN n.id then zeroM else ⟨5, n.id, n.fr, pck n.ax (judR n l)⟩
end Go.Proofs.YtdhblehhgpdpdacGreat
