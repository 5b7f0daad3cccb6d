import Derived.Test.YtdhblehhgpdpdaaNear51
import Derived.Test.YtdhblehhgpdpdaaNodUpd
namespace Go.Proofs.Ytdhblehhgpdpdaa
open Go.RowKit
structure NdOK (n : Nd) : Prop where
 id : R64 n.id
 fr : R64 n.fr
 tn : n.tn.Ok
 ax : ∀ a, (n.ax a).Ok
 rM : ∀ i, R64 (n.rl.M i)
 rJ : ∀ i, R64 (n.rl.J i)
 di : ∀ s a, R64 (n.di s a)
 he : ∀ s, R64 (n.he s)
 ag : ∀ s a, R64 (n.ag s a)
 us : ∀ a, R64 (n.us a)
 dg : R64 n.dg
 vX : R64 n.vX
 vA : n.vA.length ≤ 140737488351232
def AgRd (w : World) (n : Nd) (ao : Option Addr) (c : Nat) : Prop := Sr w ao n.vA.length c (tF (bA n))
def AgNew (B : Nat) (w : World) (n : Nd) (ao : Option Addr) (c : Nat) : Prop := w.ownsRow B 4 1 (.slice ao n.vA.length c) n.vA.length (rowV (tF (bA n)) n.vA.length)
section
variable {f : Operand → Value} {o : Oper}
end
end Go.Proofs.Ytdhblehhgpdpdaa
