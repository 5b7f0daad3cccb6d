import Derived.Test.YtdhblehhgpdpdaaAut
import Derived.ArgAppend
import Derived.OwnWalk
import Derived.Laws.AppendOwnNone
namespace Go.Proofs.Ytdhblehhgpdpdaa
open Go.RowKit
class InfK (P : Program) (t : TypeId) (e : outParam TypeId) (size bytes : outParam Nat) : Prop where
 sl : P.underlying t = some (.slice e)
 inf : ∃ i z, P.info? e = some i ∧ i.zero = some z ∧ i.size = size ∧ i.bytes = bytes ∧ z.cells.size = size
 pos : 0 < size
section
variable {P : Program} {t e : TypeId} {size bytes : Nat} {w : World}
variable {o : Oper} {a : Act} {K : Act → World → Prop} {Q : Exit → Act → World → Prop}
end
def It.and (x y : It) : It := ⟨fun w => x.p w ∧ y.p w, fun k => x.foot k ∨ y.foot k, fun h e => ⟨x.ok h.1 (fun k h1 h2 => e k h1 (Or.inl h2)), y.ok h.2 (fun k h1 h2 => e k h1 (Or.inr h2))⟩, fun h e => by
 rcases e with e | e
 ·exact x.lt h.1 e
 ·exact y.lt h.2 e⟩
theorem Cx.merge {w0 w : World} {x y : It} {l : List It} (H : Cx w0 w (x :: y :: l)) : Cx w0 w (x.and y :: l) := by
 obtain ⟨d1, d2⟩ := List.pairwise_cons.1 H.dis
 obtain ⟨d3, d4⟩ := List.pairwise_cons.1 d2
 refine ⟨H.bel, fun z hz => ?_, fun z hz j hj => ?_, List.pairwise_cons.2 ⟨fun z hz j h1 h2 => ?_, d4⟩⟩
 ·rcases List.mem_cons.1 hz with rfl | hz
  ·exact ⟨H.o0, H.o1⟩
  ·exact H.it z (List.mem_cons_of_mem _ (List.mem_cons_of_mem _ hz))
 ·rcases List.mem_cons.1 hz with rfl | hz
  ·rcases hj with hj | hj
   ·exact H.up x List.mem_cons_self j hj
   ·exact H.up y (List.mem_cons_of_mem _ List.mem_cons_self) j hj
  ·exact H.up z (List.mem_cons_of_mem _ (List.mem_cons_of_mem _ hz)) j hj
 ·rcases h1 with h1 | h1
  ·exact d1 z (List.mem_cons_of_mem _ hz) j h1 h2
  ·exact d3 z hz j h1 h2
section
variable {P : Program} {ops : Array Oper} {Q : Exit → Act → World → Prop} {A : Act} {L : List (Nat × Value)} {w0 w : World} {rest : List Oper} {o : Oper} {d : Nat} {l : List It} {x0 x1 x2 x3 x4 x5 : It} {t e : TypeId} {size bytes n m : Nat} {v u : Value} {xs news : List Value} {s x : Operand}
end
end Go.Proofs.Ytdhblehhgpdpdaa
