import Derived.Test.YtdhblehhgpdpdacGreatNear131
import Derived.Test.YtdhblehhgpdpdacGreatNear127
import Derived.Deep.Slices
import Derived.Deep.Strs
import Derived.Deep.Grids
import Derived.Test.YtdhblehhgpdpdacGreatRows
import Derived.Test.YtdhblehhgpdpdacGreatByteMem
import Derived.Lib.SmallJoins
import Derived.OpenShut
import Derived.SizedLaws
import Derived.ChangeSlices
import Derived.Test.YtdhblehhgpdpdacGreatNear94
import Derived.Test.YtdhblehhgpdpdacGreatCod
namespace Go.Proofs.YtdhblehhgpdpdacGreat
open Go.ChangeShapes Go.WideShapes Go.ChangeAt Go.RowKit Go.Joins
set_option maxRecDepth 100000
instance : Inhabited Lm := ⟨⟨⟨0, 0, 0, []⟩, none, 0⟩⟩
def CellK (b : Bool) (v : Value) : Prop := (b = true ∧ ∃ x, v = .bool x) ∨ (b = false ∧ ∃ x, v = .int .i64 x ∧ R64 x)
section
variable {H : Type} {enc : TypeId × Value → H} {w : World} {base : Nat} {held : Bool}
end
def vI : Value → Int
 | .int _ x => x
 | _ => 0
def vB : Value → Bool
 | .bool b => b
 | _ => false
theorem CellK.i {v : Value} (h : CellK false v) : iV (vI v) = v := by
 rcases h with ⟨h, _⟩ | ⟨_, x, rfl, _⟩
 ·cases h
 ·rfl
theorem CellK.b {v : Value} (h : CellK true v) : .bool (vB v) = v := by
 rcases h with ⟨_, x, rfl⟩ | ⟨h, _⟩
 ·rfl
 ·cases h
theorem CellK.R {b : Bool} {v : Value} (h : CellK b v) : R64 (vI v) := by
 rcases h with ⟨_, x, rfl⟩ | ⟨_, x, rfl, hx⟩
 ·exact R64_nought
 ·exact hx
section
variable {H : Type} {enc : TypeId × Value → H} {w : World} {base : Nat} {held : Bool}
end
end Go.Proofs.YtdhblehhgpdpdacGreat
namespace Go.Proofs.YtdhblehhgpdpdacGreat
open Go.ChangeShapes Go.WideShapes Go.ChangeAt Go.RowKit Go.Joins
set_option maxRecDepth 100000
section
variable {H : Type} {enc : TypeId × Value → H} {w : World} {base : Nat} {held : Bool}
end
end Go.Proofs.YtdhblehhgpdpdacGreat
namespace Go.Proofs.YtdhblehhgpdpdacGreat
open Go
end Go.Proofs.YtdhblehhgpdpdacGreat
namespace Go.Proofs.YtdhblehhgpdpdacGreat
open Go
end Go.Proofs.YtdhblehhgpdpdacGreat
namespace Go.Proofs.YtdhblehhgpdpdacGreat
open Go.RowKit
structure It where
 p : World → Prop
 foot : Nat → Prop
 ok : ∀ {w w' : World}, p w → (∀ k, k < w.heap.size → foot k → w'.heap[k]? = w.heap[k]?) → p w'
 lt : ∀ {w : World} {k : Nat}, p w → foot k → k < w.heap.size
def vhI (t : TypeId) (b N cap : Nat) (g : Nat → Value) : It := ⟨fun w => Vh t w b N cap g, fun k => k = b, fun h e => Vh.same h (e _ h.lt rfl), fun h e => e ▸ h.lt⟩
structure Cx (w0 w : World) (l : List It) : Prop where
 bel : Below w0.heap.size w0 w
 it : ∀ x, x ∈ l → x.p w
 up : ∀ x, x ∈ l → ∀ k, x.foot k → w0.heap.size ≤ k
 dis : l.Pairwise fun x y => ∀ k, x.foot k → ¬ y.foot k
section
variable {w0 w w' : World} {l a b : List It} {x y : It}
theorem Cx.size (H : Cx w0 w l) : w0.heap.size ≤ w.heap.size := H.bel.size
theorem Cx.call (H : Cx w0 w l) (k : Below w.heap.size w w') : Cx w0 w' l := ⟨H.bel.trans (k.mono H.size), fun x hx => x.ok (H.it x hx) (fun j hj _ => k.block j hj), H.up, H.dis⟩
theorem Cx.add (H : Cx w0 w l) (k : Below w.heap.size w w') (x : It) (hx : x.p w') (hf : ∀ j, x.foot j → w.heap.size ≤ j) : Cx w0 w' (x :: l) := by
 have H' := H.call k
 have hs := H.size
 refine ⟨H'.bel, fun y hy => ?_, fun y hy j hj => ?_, List.Pairwise.cons (fun y hy j h1 h2 => ?_) H.dis⟩
 ·rcases List.mem_cons.1 hy with rfl | hy
  ·exact hx
  ·exact H'.it y hy
 ·rcases List.mem_cons.1 hy with rfl | hy
  ·have := hf j hj; omega
  ·exact H.up y hy j hj
 ·have h3 := hf j h1
  have h4 := y.lt (H.it y hy) h2
  omega
theorem Cx.put (H : Cx w0 w (a ++ x :: b)) (os : w'.os = w.os) (tape : w'.tape = w.tape) (output : w'.output = w.output) (size : w.heap.size ≤ w'.heap.size) (hk : ∀ k, k < w.heap.size → ¬ x.foot k → w'.heap[k]? = w.heap[k]?) (y : It) (hy : y.p w') (hf : ∀ j, y.foot j → x.foot j ∨ w.heap.size ≤ j) : Cx w0 w' (a ++ y :: b) := by
 have hs := H.size
 obtain ⟨d1, d2, d3⟩ := List.pairwise_append.1 H.dis
 obtain ⟨d4, d5⟩ := List.pairwise_cons.1 d2
 have hx : x ∈ a ++ x :: b := by simp
 have inA : ∀ z, z ∈ a → z ∈ a ++ x :: b := fun z hz => List.mem_append_left _ hz
 have inB : ∀ z, z ∈ b → z ∈ a ++ x :: b := fun z hz => List.mem_append_right _ (List.mem_cons_of_mem _ hz)
 have far : ∀ z, z ∈ a ++ x :: b → ∀ j, z.foot j → ¬ w.heap.size ≤ j := fun z hz j h1 h2 => by have := z.lt (H.it z hz) h1; omega
 refine ⟨⟨os.trans H.bel.os, tape.trans H.bel.tape, output.trans H.bel.output, Nat.le_trans H.bel.size size, fun k hkk => (hk k (by omega) (fun e => by have := H.up x hx k e; omega)).trans (H.bel.block k hkk)⟩, fun z hz => ?_, fun z hz j hj => ?_, List.pairwise_append.2 ⟨d1, List.pairwise_cons.2 ⟨fun z hz j h1 h2 => ?_, d5⟩, fun z hz u hu j h1 h2 => ?_⟩⟩
 ·rcases List.mem_append.1 hz with hz | hz
  ·exact z.ok (H.it z (inA z hz)) (fun k h1 h2 => hk k h1 (fun h3 => d3 z hz x (List.mem_cons_self) k h2 h3))
  ·rcases List.mem_cons.1 hz with rfl | hz
   ·exact hy
   ·exact z.ok (H.it z (inB z hz)) (fun k h1 h2 => hk k h1 (fun h3 => d4 z hz k h3 h2))
 ·rcases List.mem_append.1 hz with hz | hz
  ·exact H.up z (inA z hz) j hj
  ·rcases List.mem_cons.1 hz with rfl | hz
   ·rcases hf j hj with h | h
    ·exact H.up x hx j h
    ·omega
   ·exact H.up z (inB z hz) j hj
 ·rcases hf j h1 with h | h
  ·exact d4 z hz j h h2
  ·exact far z (inB z hz) j h2 h
 ·rcases List.mem_cons.1 hu with rfl | hu
  ·rcases hf j h2 with h | h
   ·exact d3 z hz x (List.mem_cons_self) j h1 h
   ·exact far z (inA z hz) j h1 h
  ·exact d3 z hz u (List.mem_cons_of_mem _ hu) j h1 h2
theorem Cx.base {v0 : World} (H : Cx w0 w l) (k : Below v0.heap.size v0 w0) (hs : v0.heap.size ≤ w0.heap.size) : Cx v0 w l := ⟨k.trans (H.bel.mono hs), H.it, fun x hx j hj => Nat.le_trans hs (H.up x hx j hj), H.dis⟩
end
structure Its (l : List It) (w : World) : Prop where
 it : ∀ x, x ∈ l → x.p w
theorem Its.nil (w : World) : Its [] w := ⟨fun _ h => (by cases h)⟩
theorem Its.cons {w : World} {x : It} {l : List It} (h : x.p w) (t : Its l w) : Its (x :: l) w := ⟨fun y hy => by
 rcases List.mem_cons.1 hy with rfl | hy
 ·exact h
 ·exact t.it y hy⟩
theorem Cx.v0 {w0 w : World} {l : List It} {t : TypeId} {b N cap : Nat} {g : Nat → Value} (H : Cx w0 w (vhI t b N cap g :: l)) : Vh t w b N cap g := H.it _ (List.mem_cons_self)
theorem Its.v0 {w : World} {l : List It} {t : TypeId} {b N cap : Nat} {g : Nat → Value} (H : Its (vhI t b N cap g :: l) w) : Vh t w b N cap g := H.it _ (List.mem_cons_self)
theorem Cx.p0 {w0 w w' : World} {l : List It} {x : It} (H : Cx w0 w (x :: l)) (os : w'.os = w.os) (tape : w'.tape = w.tape) (output : w'.output = w.output) (size : w.heap.size ≤ w'.heap.size) (hk : ∀ k, k < w.heap.size → ¬ x.foot k → w'.heap[k]? = w.heap[k]?) (y : It) (hy : y.p w') (hf : ∀ j, y.foot j → x.foot j ∨ w.heap.size ≤ j) : Cx w0 w' (y :: l) := Cx.put (a := []) H os tape output size hk y hy hf
theorem Cx.s0 {w0 w w' : World} {l : List It} {t : TypeId} {b N cap : Nat} {g g' : Nat → Value} (H : Cx w0 w (vhI t b N cap g :: l)) (k : Kept b w w') (m : Vh t w' b N cap g') : Cx w0 w' (vhI t b N cap g' :: l) := Cx.p0 H k.os k.tape k.output k.size (fun j h1 h2 => k.block j h1 h2) (vhI t b N cap g') m (fun _ h => Or.inl h)
theorem Cx.o1 {w0 w : World} {x0 : It} {l : List It} {x : It} (H : Cx w0 w (x0 :: x :: l)) : x.p w := H.it _ (List.mem_cons_of_mem _ (List.mem_cons_self))
theorem Cx.p1 {w0 w w' : World} {x0 : It} {l : List It} {x : It} (H : Cx w0 w (x0 :: x :: l)) (os : w'.os = w.os) (tape : w'.tape = w.tape) (output : w'.output = w.output) (size : w.heap.size ≤ w'.heap.size) (hk : ∀ k, k < w.heap.size → ¬ x.foot k → w'.heap[k]? = w.heap[k]?) (y : It) (hy : y.p w') (hf : ∀ j, y.foot j → x.foot j ∨ w.heap.size ≤ j) : Cx w0 w' (x0 :: y :: l) := Cx.put (a := [x0]) H os tape output size hk y hy hf
theorem Cx.s1 {w0 w w' : World} {x0 : It} {l : List It} {t : TypeId} {b N cap : Nat} {g g' : Nat → Value} (H : Cx w0 w (x0 :: vhI t b N cap g :: l)) (k : Kept b w w') (m : Vh t w' b N cap g') : Cx w0 w' (x0 :: vhI t b N cap g' :: l) := Cx.p1 H k.os k.tape k.output k.size (fun j h1 h2 => k.block j h1 h2) (vhI t b N cap g') m (fun _ h => Or.inl h)
theorem Cx.o2 {w0 w : World} {x0 x1 : It} {l : List It} {x : It} (H : Cx w0 w (x0 :: x1 :: x :: l)) : x.p w := H.it _ (List.mem_cons_of_mem _ (List.mem_cons_of_mem _ (List.mem_cons_self)))
theorem Cx.p2 {w0 w w' : World} {x0 x1 : It} {l : List It} {x : It} (H : Cx w0 w (x0 :: x1 :: x :: l)) (os : w'.os = w.os) (tape : w'.tape = w.tape) (output : w'.output = w.output) (size : w.heap.size ≤ w'.heap.size) (hk : ∀ k, k < w.heap.size → ¬ x.foot k → w'.heap[k]? = w.heap[k]?) (y : It) (hy : y.p w') (hf : ∀ j, y.foot j → x.foot j ∨ w.heap.size ≤ j) : Cx w0 w' (x0 :: x1 :: y :: l) := Cx.put (a := [x0, x1]) H os tape output size hk y hy hf
theorem Cx.s2 {w0 w w' : World} {x0 x1 : It} {l : List It} {t : TypeId} {b N cap : Nat} {g g' : Nat → Value} (H : Cx w0 w (x0 :: x1 :: vhI t b N cap g :: l)) (k : Kept b w w') (m : Vh t w' b N cap g') : Cx w0 w' (x0 :: x1 :: vhI t b N cap g' :: l) := Cx.p2 H k.os k.tape k.output k.size (fun j h1 h2 => k.block j h1 h2) (vhI t b N cap g') m (fun _ h => Or.inl h)
theorem Cx.p3 {w0 w w' : World} {x0 x1 x2 : It} {l : List It} {x : It} (H : Cx w0 w (x0 :: x1 :: x2 :: x :: l)) (os : w'.os = w.os) (tape : w'.tape = w.tape) (output : w'.output = w.output) (size : w.heap.size ≤ w'.heap.size) (hk : ∀ k, k < w.heap.size → ¬ x.foot k → w'.heap[k]? = w.heap[k]?) (y : It) (hy : y.p w') (hf : ∀ j, y.foot j → x.foot j ∨ w.heap.size ≤ j) : Cx w0 w' (x0 :: x1 :: x2 :: y :: l) := Cx.put (a := [x0, x1, x2]) H os tape output size hk y hy hf
theorem Cx.s3 {w0 w w' : World} {x0 x1 x2 : It} {l : List It} {t : TypeId} {b N cap : Nat} {g g' : Nat → Value} (H : Cx w0 w (x0 :: x1 :: x2 :: vhI t b N cap g :: l)) (k : Kept b w w') (m : Vh t w' b N cap g') : Cx w0 w' (x0 :: x1 :: x2 :: vhI t b N cap g' :: l) := Cx.p3 H k.os k.tape k.output k.size (fun j h1 h2 => k.block j h1 h2) (vhI t b N cap g') m (fun _ h => Or.inl h)
theorem Cx.p4 {w0 w w' : World} {x0 x1 x2 x3 : It} {l : List It} {x : It} (H : Cx w0 w (x0 :: x1 :: x2 :: x3 :: x :: l)) (os : w'.os = w.os) (tape : w'.tape = w.tape) (output : w'.output = w.output) (size : w.heap.size ≤ w'.heap.size) (hk : ∀ k, k < w.heap.size → ¬ x.foot k → w'.heap[k]? = w.heap[k]?) (y : It) (hy : y.p w') (hf : ∀ j, y.foot j → x.foot j ∨ w.heap.size ≤ j) : Cx w0 w' (x0 :: x1 :: x2 :: x3 :: y :: l) := Cx.put (a := [x0, x1, x2, x3]) H os tape output size hk y hy hf
theorem Cx.s4 {w0 w w' : World} {x0 x1 x2 x3 : It} {l : List It} {t : TypeId} {b N cap : Nat} {g g' : Nat → Value} (H : Cx w0 w (x0 :: x1 :: x2 :: x3 :: vhI t b N cap g :: l)) (k : Kept b w w') (m : Vh t w' b N cap g') : Cx w0 w' (x0 :: x1 :: x2 :: x3 :: vhI t b N cap g' :: l) := Cx.p4 H k.os k.tape k.output k.size (fun j h1 h2 => k.block j h1 h2) (vhI t b N cap g') m (fun _ h => Or.inl h)
theorem Cx.p5 {w0 w w' : World} {x0 x1 x2 x3 x4 : It} {l : List It} {x : It} (H : Cx w0 w (x0 :: x1 :: x2 :: x3 :: x4 :: x :: l)) (os : w'.os = w.os) (tape : w'.tape = w.tape) (output : w'.output = w.output) (size : w.heap.size ≤ w'.heap.size) (hk : ∀ k, k < w.heap.size → ¬ x.foot k → w'.heap[k]? = w.heap[k]?) (y : It) (hy : y.p w') (hf : ∀ j, y.foot j → x.foot j ∨ w.heap.size ≤ j) : Cx w0 w' (x0 :: x1 :: x2 :: x3 :: x4 :: y :: l) := Cx.put (a := [x0, x1, x2, x3, x4]) H os tape output size hk y hy hf
theorem Cx.s5 {w0 w w' : World} {x0 x1 x2 x3 x4 : It} {l : List It} {t : TypeId} {b N cap : Nat} {g g' : Nat → Value} (H : Cx w0 w (x0 :: x1 :: x2 :: x3 :: x4 :: vhI t b N cap g :: l)) (k : Kept b w w') (m : Vh t w' b N cap g') : Cx w0 w' (x0 :: x1 :: x2 :: x3 :: x4 :: vhI t b N cap g' :: l) := Cx.p5 H k.os k.tape k.output k.size (fun j h1 h2 => k.block j h1 h2) (vhI t b N cap g') m (fun _ h => Or.inl h)
theorem Cx.p6 {w0 w w' : World} {x0 x1 x2 x3 x4 x5 : It} {l : List It} {x : It} (H : Cx w0 w (x0 :: x1 :: x2 :: x3 :: x4 :: x5 :: x :: l)) (os : w'.os = w.os) (tape : w'.tape = w.tape) (output : w'.output = w.output) (size : w.heap.size ≤ w'.heap.size) (hk : ∀ k, k < w.heap.size → ¬ x.foot k → w'.heap[k]? = w.heap[k]?) (y : It) (hy : y.p w') (hf : ∀ j, y.foot j → x.foot j ∨ w.heap.size ≤ j) : Cx w0 w' (x0 :: x1 :: x2 :: x3 :: x4 :: x5 :: y :: l) := Cx.put (a := [x0, x1, x2, x3, x4, x5]) H os tape output size hk y hy hf
theorem Cx.s6 {w0 w w' : World} {x0 x1 x2 x3 x4 x5 : It} {l : List It} {t : TypeId} {b N cap : Nat} {g g' : Nat → Value} (H : Cx w0 w (x0 :: x1 :: x2 :: x3 :: x4 :: x5 :: vhI t b N cap g :: l)) (k : Kept b w w') (m : Vh t w' b N cap g') : Cx w0 w' (x0 :: x1 :: x2 :: x3 :: x4 :: x5 :: vhI t b N cap g' :: l) := Cx.p6 H k.os k.tape k.output k.size (fun j h1 h2 => k.block j h1 h2) (vhI t b N cap g') m (fun _ h => Or.inl h)
class FldK (P : Program) (s : TypeId) (k : Nat) (d : outParam Nat) : Prop where
 run : ∀ {f : Operand → Value} {o : Oper} {x : Operand} {b off : Nat}, o.op = .fieldAddr s x k → f x = .pointer (some ⟨b, off, none⟩) → ∀ w, (execOp f o).run P w = .ok (.value (.pointer (some ⟨b, off + d, none⟩))) w
class ManyK (P : Program) (t : TypeId) (n : outParam Nat) : Prop where
 out : Many P t n
class OneK (P : Program) (t : TypeId) : Prop where
 out : OneC P t
class SizK (P : Program) (t : TypeId) (n : outParam Nat) : Prop where
 out : ∀ w, (sizeOf t).run P w = .ok n w
class ArrK (P : Program) (s : TypeId) (len : outParam Nat) (e : outParam TypeId) : Prop where
 out : P.underlying s = some (.array len e)
class SlcK (P : Program) (s : TypeId) (e : outParam TypeId) : Prop where
 out : P.underlying s = some (.slice e)
class ZerK (P : Program) (t : TypeId) (n : outParam Nat) (f : outParam (Nat → Value)) : Prop where
 out : ∀ w, (zeroValue t).run P w = .ok (agV f 0 n) w
class Zer1 (P : Program) (t : TypeId) (v : outParam Value) : Prop where
 out : ∀ w, (zeroValue t).run P w = .ok v w
 one : v.cells = #[v]
class EntK (P : Program) (n : Nat) : Prop where
 out : ∀ args w, (callFunc n args).run P w = .ok (.enter n args) w
class LenK (P : Program) (t : TypeId) : Prop where
 run : ∀ {f : Operand → Value} {o : Oper} {x : Operand} {ao : Option Addr} {n c : Nat}, o.op = .call { callee := .builtin .len, args := #[x], argTypes := #[t] } → f x = .slice ao n c → ∀ w, (execOp f o).run P w = .ok (.value (.int .i64 ((n : Nat) : Int))) w
instance {P : Program} {t : TypeId} {n : Nat} [h : ManyK P t n] : SizK P t n := ⟨h.out.size⟩
instance {P : Program} {t : TypeId} [h : OneK P t] : SizK P t 1 := ⟨h.out.size⟩
section
variable {P : Program} {f : Operand → Value} {o : Oper}
end
section
variable {P : Program} {ops : Array Oper} {Q : Exit → Act → World → Prop} {A : Act} {L : List (Nat × Value)} {w0 w : World} {rest : List Oper} {o : Oper} {d : Nat} {v : Value} {l : List It}
variable {S : World → Prop} {late : Nat → Bool} {i : Nat} {r : PlanJ}
end
section
variable {P : Program} {Q : Exit → Act → World → Prop} {a : Act} {w : World} {y : Code} {J : Act → World → Prop} {id : Nat}
end
end Go.Proofs.YtdhblehhgpdpdacGreat
