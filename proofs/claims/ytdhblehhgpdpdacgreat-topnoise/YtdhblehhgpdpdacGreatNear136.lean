import Derived.Test.YtdhblehhgpdpdacGreatNear134
import Derived.Test.YtdhblehhgpdpdacGreatNear113
import Derived.Test.YtdhblehhgpdpdacGreatNear125
import Derived.Test.YtdhblehhgpdpdacGreatMemOK
import Derived.Test.YtdhblehhgpdpdacGreatNear50
namespace Go.Proofs.YtdhblehhgpdpdacGreat
open Go.ChangeShapes Go.WideShapes Go.ChangeAt Go.RowKit Go.Joins
set_option maxRecDepth 100000
instance : Inhabited Lj := ⟨⟨⟨0, 0, 0, fun _ => 0⟩, none, 0⟩⟩
instance : Inhabited Li := ⟨⟨fun _ _ => 0, 0, [], none, 0⟩⟩
section
variable {H : Type} {enc : TypeId × Value → H} {w : World} {base : Nat} {held : Bool}
end
end Go.Proofs.YtdhblehhgpdpdacGreat
namespace Go.Proofs.YtdhblehhgpdpdacGreat
open Go.RowKit
def RlE (r s : Rl) : Prop := ∀ j, j < 4 → r.I j = s.I j ∧ r.M j = s.M j ∧ r.J j = s.J j
theorem RlE.symm {r s : Rl} (h : RlE r s) : RlE s r := fun j hj => ⟨(h j hj).1.symm, (h j hj).2.1.symm, (h j hj).2.2.symm⟩
theorem RlE.trans {r s t : Rl} (h : RlE r s) (h' : RlE s t) : RlE r t := fun j hj => ⟨(h j hj).1.trans (h' j hj).1, (h j hj).2.1.trans (h' j hj).2.1, (h j hj).2.2.trans (h' j hj).2.2⟩
section
variable {x : Ip} {c : Cl}
end
structure Inv (t : Tn) (bad : Int) (c : Cl) : Prop where
 id : ∀ i, i < 4 → (c.nd i).id = (i : Nat)
 tn : ∀ i, i < 4 → (c.nd i).tn = t
 ax : ∀ i k : Nat, i < 4 → k < 4 → (i : Int) ≠ bad → (k : Int) ≠ bad → ∀ a, a < 3 → (c.nd i).ax a = (c.nd k).ax a
 rl : ∀ i k : Nat, i < 4 → k < 4 → (i : Int) ≠ bad → (k : Int) ≠ bad → RlE (c.nd i).rl (c.nd k).rl
 gd : ∀ i : Nat, i < 4 → (i : Int) ≠ bad → gdA (c.nd i).rl = true
 on : ∀ i s : Nat, i < 4 → s < 4 → (i : Int) ≠ bad → (s : Int) ≠ bad → (c.nd i).rl.I s = true ∧ (c.nd i).rl.M s = 0
section
variable {t : Tn} {bad : Int} {x : Ip} {c : Cl}
end
end Go.Proofs.YtdhblehhgpdpdacGreat
namespace Go.Proofs.YtdhblehhgpdpdacGreat
open Go.RowKit
section
variable {t : Tn} {bad : Int} {x : Ip} {c : Cl}
end
section
variable {x : Ip} {c : Cl}
end
section
variable {n : Nd} {l m : List Ms}
end
end Go.Proofs.YtdhblehhgpdpdacGreat
namespace Go.Proofs.YtdhblehhgpdpdacGreat
open Go.RowKit
structure Al (t : Tn) (b : Nat) (q : Nat) (c : Cl) : Prop where
 id : ∀ i, i < 4 → (c.nd i).id = (i : Nat)
 tn : ∀ i, i < 4 → (c.nd i).tn = t
 ax : ∀ i k : Nat, i < 4 → k < 4 → ∀ a, a < 3 → (c.nd i).ax a = (c.nd k).ax a
 rl : ∀ i k : Nat, i < 4 → k < 4 → RlE (c.nd i).rl (c.nd k).rl
 gd : ∀ i : Nat, i < 4 → gdA (c.nd i).rl = true
 on : ∀ i s : Nat, i < 4 → s < 4 → s ≠ b → (c.nd i).rl.I s = true ∧ (c.nd i).rl.M s = 0
 jn : ∀ i, i < 4 → ((c.nd i).rl.I b = true) ∨ (q : Int) ≤ (c.nd i).rl.J b
section
variable {t : Tn} {b : Nat} {x : Ip} {c : Cl}
end
end Go.Proofs.YtdhblehhgpdpdacGreat
namespace Go.Proofs.YtdhblehhgpdpdacGreat
open Go.RowKit
end Go.Proofs.YtdhblehhgpdpdacGreat
namespace Go.Proofs.YtdhblehhgpdpdacGreat
open Go.RowKit
end Go.Proofs.YtdhblehhgpdpdacGreat
namespace Go.Proofs.YtdhblehhgpdpdacGreat
open Go.RowKit
end Go.Proofs.YtdhblehhgpdpdacGreat
namespace Go.Proofs.YtdhblehhgpdpdacGreat
open Go.RowKit
end Go.Proofs.YtdhblehhgpdpdacGreat
namespace Go.Proofs.YtdhblehhgpdpdacGreat
open Go.RowKit
def rdA1 (_ a : Nat) : Int := if a = 0 then 4294967296 else 0
def x1 : Ip := ⟨rdA1, -1, []⟩
section
variable {f : Operand → Value} {o : Oper}
end
end Go.Proofs.YtdhblehhgpdpdacGreat
namespace Go.Proofs.YtdhblehhgpdpdacGreat
open Go.RowKit
end Go.Proofs.YtdhblehhgpdpdacGreat
namespace Go.Proofs.YtdhblehhgpdpdacGreat
open Go.RowKit
end Go.Proofs.YtdhblehhgpdpdacGreat
namespace Go.Proofs.YtdhblehhgpdpdacGreat
open Go.RowKit
end Go.Proofs.YtdhblehhgpdpdacGreat
namespace Go.Proofs.YtdhblehhgpdpdacGreat
open Go.RowKit
structure Twn (n m : Nd) : Prop where
 ax : ∀ a, a < 3 → n.ax a = m.ax a
 rl : RlE n.rl m.rl
 ag : ∀ s a, s < 4 → a < 3 → n.ag s a = m.ag s a
 us : ∀ a, a < 3 → n.us a = m.us a
 dg : n.dg = m.dg
 fr : n.fr = m.fr
 vX : n.vX = m.vX
 vS : n.vS = m.vS
 vA : n.vA = m.vA
section
variable {n m : Nd} {v u : Value}
end
end Go.Proofs.YtdhblehhgpdpdacGreat
namespace Go.Proofs.YtdhblehhgpdpdacGreat
open Go.RowKit
end Go.Proofs.YtdhblehhgpdpdacGreat
namespace Go.Proofs.YtdhblehhgpdpdacGreat
open Go.RowKit
section
variable {t : Tn} {bad : Int} {L : List Li} {k : Nat} {c : Li}
end
end Go.Proofs.YtdhblehhgpdpdacGreat
namespace Go.Proofs.YtdhblehhgpdpdacGreat
open Go.RowKit
section
variable {bad : Int} {n : Nd} {i k s : Nat}
end
end Go.Proofs.YtdhblehhgpdpdacGreat
namespace Go.Proofs.YtdhblehhgpdpdacGreat
open Go.RowKit
instance : ZerK Tryz.prog 53 3 (nvdF 0 false (.slice none 0 0)) := ⟨fun w => by kernel_rfl⟩
end Go.Proofs.YtdhblehhgpdpdacGreat
namespace Go.Proofs.YtdhblehhgpdpdacGreat
open Go.RowKit
end Go.Proofs.YtdhblehhgpdpdacGreat
namespace Go.Proofs.YtdhblehhgpdpdacGreat
open Go.RowKit
end Go.Proofs.YtdhblehhgpdpdacGreat
