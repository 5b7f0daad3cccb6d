import Derived.Test.YtdhblehhgpdpdacGreatNodMem
import Derived.Test.YtdhblehhgpdpdacGreatVotOps
import Derived.Test.YtdhblehhgpdpdacGreatRowBase
namespace Go.Proofs.YtdhblehhgpdpdacGreat
open Go.RowKit
section
variable {f : Operand → Value} {o : Oper} {x : Operand} {b off : Nat}
end
end Go.Proofs.YtdhblehhgpdpdacGreat
namespace Go.Proofs.YtdhblehhgpdpdacGreat
open Go.RowKit
section
variable {t : TypeId} {B s n z : Nat} {w w' : World} {v : Value} {xs : List Value} {r : Option Nat}
theorem rw_base {C : Nat} (h : w.ownsRow B t s v n xs) (e : C ≤ B) : w.ownsRow C t s v n xs := by
 refine ⟨h.1, ?_⟩
 rcases h.2 with hn | ⟨g, cap, cur, rfl, hb, rest⟩
 ·exact .inl hn
 ·exact .inr ⟨g, cap, cur, rfl, Nat.le_trans e hb, rest⟩
end
end Go.Proofs.YtdhblehhgpdpdacGreat
namespace Go.Proofs.YtdhblehhgpdpdacGreat
open Go.RowKit
structure Lm where
 m : Ms
 ao : Option Addr
 cap : Nat
def lmV (c : Lm) : Value := .slice c.ao c.m.L.length c.cap
def msF (K F R : Int) (v : Value) (j : Nat) : Value := if j = 0 then iV K else if j = 1 then iV F else if j = 2 then iV R else v
def lmF (c : Lm) : Nat → Value := msF c.m.K c.m.F c.m.R (lmV c)
def LmRd (w : World) (ao : Option Addr) (L : List Lm) : Prop := 0 < L.length → ∃ b o, ao = some ⟨b, o, none⟩ ∧ ∀ i c, L[i]? = some c → ∀ k, k < 4 → w.cell? ⟨b, o + i * 4 + k, none⟩ = some (lmF c k)
def gL (l : List Int) (i : Nat) : Int := l.getD i 0
def LvRd (w : World) (c : Lm) : Prop := Sr w c.ao c.m.L.length c.cap (iF (gL c.m.L)) ∧ c.m.L.length ≤ c.cap ∧ c.m.L.length ≤ 17592186044404
def MRd (w : World) (ao : Option Addr) (L : List Lm) : Prop := LmRd w ao L ∧ ∀ c, c ∈ L → LvRd w c
end Go.Proofs.YtdhblehhgpdpdacGreat
namespace Go.Proofs.YtdhblehhgpdpdacGreat
open Go.RowKit
end Go.Proofs.YtdhblehhgpdpdacGreat
namespace Go.Proofs.YtdhblehhgpdpdacGreat
open Go.RowKit
end Go.Proofs.YtdhblehhgpdpdacGreat
namespace Go.Proofs.YtdhblehhgpdpdacGreat
end Go.Proofs.YtdhblehhgpdpdacGreat
namespace Go.Proofs.YtdhblehhgpdpdacGreat
open Go.RowKit
structure NdOK (n : Nd) : Prop where
 id : R64 n.id
 fr : R64 n.fr
 tn : n.tn.Ok
 ax : ∀ a, (n.ax a).Ok
 rM : ∀ i, R64 (n.rl.M i)
 rJ : ∀ i, R64 (n.rl.J i)
 di : ∀ s a, R64 (n.di s a)
 he : ∀ s, R64 (n.he s)
 ag : ∀ s a, R64 (n.ag s a)
 us : ∀ a, R64 (n.us a)
 dg : R64 n.dg
 vX : R64 n.vX
 vA : n.vA.length ≤ 140737488351232
section
variable {f : Operand → Value} {o : Oper}
end
end Go.Proofs.YtdhblehhgpdpdacGreat
