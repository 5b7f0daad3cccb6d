import Derived.Test.YtdhblehhgpdpdaaRows
import Derived.Test.YtdhblehhgpdpdaaRowPlain
import Derived.Lib.SmallJoins
import Derived.OpenShut
import Derived.SizedLaws
import Derived.ChangeSlices
import Derived.Test.YtdhblehhgpdpdaaNear29
import Derived.Test.YtdhblehhgpdpdaaFixPlain
namespace Go.Proofs.Ytdhblehhgpdpdaa
open Go.ChangeShapes Go.WideShapes Go.ChangeAt Go.RowKit Go.Joins
def ArgS (w : World) (ao : Option Addr) (len cap : Nat) (f : Nat → Int) : Prop :=
 ((ao = none ∧ len = 0 ∧ cap = 0) ∨ ∃ x, ao = some x ∧ ∀ i, i < len → w.cell? (x.add i) = some (.int .i64 (f i))) ∧ len * 8 ≤ 140737488351232 ∧ ∀ i, R64 (f i)
theorem ArgS.below {w w' : World} {ao : Option Addr} {len cap : Nat} {f : Nat → Int} (h : ArgS w ao len cap f) (k : Below w.heap.size w w') : ArgS w' ao len cap f := by
 refine ⟨?_, h.2⟩
 rcases h.1 with h | ⟨x, rfl, hc⟩
 ·exact Or.inl h
 ·exact Or.inr ⟨x, rfl, fun i hi => at_below (hc i hi) k⟩
section
variable {H : Type} {enc : TypeId × Value → H} {w : World} {base : Nat} {held : Bool}
end
end Go.Proofs.Ytdhblehhgpdpdaa
namespace Go.Proofs.Ytdhblehhgpdpdaa
open Go.RowKit
structure St where
 X : Int
 V : Int
 P00 : Int
 P01 : Int
 P11 : Int
 B : Bool
 M : Int
structure St.Ok (s : St) : Prop where
 X : R64 s.X
 V : R64 s.V
 P00 : R64 s.P00
 P01 : R64 s.P01
 P11 : R64 s.P11
 M : R64 s.M
def adV (a b : Int) : Int := clampZ (a + b)
def sbC (a b : Int) : Int := clampZ (a - b)
def muV (a b : Int) : Int := clampZ (mulQ a b)
def adB (a b : Int) : Bool := bentZ (a + b)
def sbE (a b : Int) : Bool := bentZ (a - b)
def muB (a b : Int) : Bool := bentZ (mulQ a b)
def predS (s : St) (dt q : Int) : St where
 X := adV s.X (muV s.V dt)
 V := s.V
 P00 := adV (adV (adV s.P00 (muV s.P01 dt)) (muV s.P01 dt)) (muV (muV s.P11 dt) dt)
 P01 := adV s.P01 (muV s.P11 dt)
 P11 := adV s.P11 q
 B := s.B || muB s.P01 dt || muB s.P11 dt || muB s.V dt || adB s.X (muV s.V dt) || adB s.P00 (muV s.P01 dt) || adB (adV s.P00 (muV s.P01 dt)) (muV s.P01 dt) || muB (muV s.P11 dt) dt ||
  adB (adV (adV s.P00 (muV s.P01 dt)) (muV s.P01 dt)) (muV (muV s.P11 dt) dt) || adB s.P01 (muV s.P11 dt) || adB s.P11 q
 M := s.M
def moreM (m : Int) : Int := wrap64 (m + 1)
def offY (s : St) (z : Int) : Int := sbC z s.X
def offW (s : St) (r : Int) : Int := adV s.P00 r
def overB (s : St) (z r gate : Int) : Bool := decide (offW s r ≤ 0) || decide (muV gate (offW s r) < muV (offY s z) (offY s z))
def takeS (s : St) (y w : Int) : St where
 X := adV s.X (muV (divV s.P00 w) y)
 V := adV s.V (muV (divV s.P01 w) y)
 P00 := sbC s.P00 (muV (divV s.P00 w) s.P00)
 P01 := sbC s.P01 (muV (divV s.P00 w) s.P01)
 P11 := sbC s.P11 (muV (divV s.P01 w) s.P01)
 B := s.B || divB s.P00 w || divB s.P01 w || muB (divV s.P00 w) y || adB s.X (muV (divV s.P00 w) y) || muB (divV s.P01 w) y || adB s.V (muV (divV s.P01 w) y) ||
  muB (divV s.P00 w) s.P00 || sbE s.P00 (muV (divV s.P00 w) s.P00) || muB (divV s.P00 w) s.P01 || sbE s.P01 (muV (divV s.P00 w) s.P01) || muB (divV s.P01 w) s.P01 || sbE s.P11 (muV (divV s.P01 w) s.P01)
 M := 0
def bentU (s : St) (z r gate : Int) : Bool := s.B || sbE z s.X || adB s.P00 r || muB (offY s z) (offY s z) || muB gate (offW s r)
def updS (s : St) (z r gate : Int) : St := if overB s z r gate then { s with M := moreM s.M } else takeS { s with B := bentU s z r gate } (offY s z) (offW s r)
structure Tn where
 Dt : Int
 Q : Int
 R : Int
 G : Int
structure Tn.Ok (t : Tn) : Prop where
 Dt : R64 t.Dt
 Q : R64 t.Q
 R : R64 t.R
 G : R64 t.G
def stepS (s : St) (t : Tn) (z : Int) : St := updS (predS s t.Dt t.Q) z t.R t.G
end Go.Proofs.Ytdhblehhgpdpdaa
namespace Go.Proofs.Ytdhblehhgpdpdaa
def cn (p : Nat → Bool) : Nat → Nat
 | 0 => 0
 | n + 1 => cn p n + if p n then 1 else 0
end Go.Proofs.Ytdhblehhgpdpdaa
