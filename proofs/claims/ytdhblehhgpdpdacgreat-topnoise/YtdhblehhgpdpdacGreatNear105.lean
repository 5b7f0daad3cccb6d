import Derived.Test.YtdhblehhgpdpdacGreatNear94
import Derived.Test.YtdhblehhgpdpdacGreatRowBase
namespace Go.Proofs.YtdhblehhgpdpdacGreat
open Go.RowKit
def agV (g : Nat → Value) (o n : Nat) : Value := .agg ((List.range n).map fun j => g (o + j)).toArray
section
variable {P : Program}
structure Many (P : Program) (ty : TypeId) (n : Nat) : Prop where
 agg : ∀ w, (isAgg ty).run P w = .ok true w
 size : ∀ w, (sizeOf ty).run P w = .ok n w
theorem Many.of {ty : TypeId} {n : Nat} (d : TypeDesc) (hu : P.underlying ty = some d) (hd : (match d with | .struct _ | .array _ _ => true | _ => false) = true) (hi : (P.info? ty).map (·.size) = some n) : Many P ty n := by
 cases hq : P.info? ty with
 | none => simp [hq] at hi
 | some i =>
  have hs : i.size = n := by simpa [hq] using hi
  refine ⟨fun w => ?_, fun w => by simp [sizeOf, typeInfo, hq, hs]⟩
  unfold isAgg
  rw [Sem.run_bind, run_underlying hu w]
  cases d <;> simp_all
end
end Go.Proofs.YtdhblehhgpdpdacGreat
namespace Go.Proofs.YtdhblehhgpdpdacGreat
open Go
section
variable {P : Program} {ops : Array Oper} {Q : Exit → Act → World → Prop} {a : Act} {w : World} {rest : List Oper} {o : Oper}
structure LstI (P : Program) (ops : Array Oper) (Q : Exit → Act → World → Prop) (l : List Oper) (a : Act) (w : World) : Prop where
 out : wpList P ops Q l a w
structure CodI (P : Program) (c : Code) (Q : Exit → Act → World → Prop) (a : Act) (w : World) : Prop where
 out : c.wp P Q a w
end
structure Stay (ks : List Nat) (a b : Act) : Prop where
 ev : ∀ k, k ∈ ks → b.eval (.tmp k) = a.eval (.tmp k)
 size : b.tmps.size = a.tmps.size
 defers : b.defers = a.defers
theorem Stay.trans {ks : List Nat} {a b c : Act} (h : Stay ks a b) (k : Stay ks b c) : Stay ks a c := ⟨fun i hi => (k.ev i hi).trans (h.ev i hi), k.size.trans h.size, k.defers.trans h.defers⟩
theorem Stay.put {ks : List Nat} {a b : Act} (h : Stay ks a b) (d : Nat) (v : Value) (hd : ks.contains d = false) : Stay ks a (b.put (some d) v) :=
 ⟨fun i hi => (ev_other _ _ (fun e => by subst e; rw [List.contains_eq_mem, decide_eq_false_iff_not] at hd; exact hd hi)).trans (h.ev i hi), (sz_put ..).trans h.size, h.defers⟩
end Go.Proofs.YtdhblehhgpdpdacGreat
namespace Go.Proofs.YtdhblehhgpdpdacGreat
open Go
inductive PlanJ where
 | fin
 | rd (i : Nat) (r : PlanJ)
 | mv (i : Nat) (r : PlanJ)
 | go (i : Nat) (r : PlanJ)
 | two (i j : Nat) (ri rj : PlanJ)
 | three (i j k : Nat) (ri rj rk : PlanJ)
def PlanJ.len : PlanJ → Nat
 | .fin => 0
 | .rd _ r => r.len + 1
 | .mv _ r => r.len + 1
 | .go _ r => r.len + 1
 | .two _ _ r _ => r.len + 1
 | .three _ _ _ r _ _ => r.len + 1
section
variable {P : Program} {ops : Array Oper} {Q : Exit → Act → World → Prop} {md : Region.Mode} {S : World → Prop} {late : Nat → Bool}
def SeqQ (P : Program) (ops : Array Oper) (Q : Exit → Act → World → Prop) (S : World → Prop) (late : Nat → Bool) : PlanJ → Act → World → Prop
 | .fin, a, w => Q .normal a w
 | .rd i r, a, w => ∃ o v, ops[i]? = some o ∧ YieldsIf P ops S o v a ∧ S w ∧ (∀ c a w, Q (.panic c) (a.put o.dst v) w → Q (.panic c) a w) ∧ SeqQ P ops Q S late r (a.put o.dst v) w
 | .mv i r, a, w => ∃ o v, ops[i]? = some o ∧ YieldsIf P ops (fun _ => True) o v a ∧ (∀ c a w, Q (.panic c) (a.put o.dst v) w → Q (.panic c) a w) ∧ SeqQ P ops Q S late r (a.put o.dst v) w
 | .go i r, a, w => wpOp P ops Q i (fun a' w' => (late i = false → S w → S w') ∧ SeqQ P ops Q S late r a' w') a w
 | .two i j ri rj, a, w => wpOp P ops Q i (fun a' w' => (late i = false → S w → S w') ∧ SeqQ P ops Q S late ri a' w') a w ∧
   wpOp P ops Q j (fun a' w' => (late j = false → S w → S w') ∧ SeqQ P ops Q S late rj a' w') a w
 | .three i j k ri rj rk, a, w => wpOp P ops Q i (fun a' w' => (late i = false → S w → S w') ∧ SeqQ P ops Q S late ri a' w') a w ∧
   wpOp P ops Q j (fun a' w' => (late j = false → S w → S w') ∧ SeqQ P ops Q S late rj a' w') a w ∧
   wpOp P ops Q k (fun a' w' => (late k = false → S w → S w') ∧ SeqQ P ops Q S late rk a' w') a w
structure SeqJ (P : Program) (ops : Array Oper) (Q : Exit → Act → World → Prop) (S : World → Prop) (late : Nat → Bool) (l : PlanJ) (a : Act) (w : World) : Prop where
 out : SeqQ P ops Q S late l a w
end
end Go.Proofs.YtdhblehhgpdpdacGreat
namespace Go.Proofs.YtdhblehhgpdpdacGreat
open Go.RowKit
section
variable {P : Program}
structure OneC (P : Program) (ty : TypeId) : Prop where
 agg : ∀ w, (isAgg ty).run P w = .ok false w
 size : ∀ w, (sizeOf ty).run P w = .ok 1 w
end
end Go.Proofs.YtdhblehhgpdpdacGreat
namespace Go.Proofs.YtdhblehhgpdpdacGreat
open Go
section
variable {P : Program} {ops : Array Oper} {Q : Exit → Act → World → Prop} {A : Act} {l : List (Nat × Value)} {w : World} {rest : List Oper} {o : Oper} {d : Nat} {v : Value}
variable {S : World → Prop} {late : Nat → Bool} {i : Nat} {r : PlanJ}
end
end Go.Proofs.YtdhblehhgpdpdacGreat
