import Derived.OrdersHeld
import Derived.RegionTactic
import Derived.WalkKit
import Derived.KernelRfl
namespace Go.Proofs.YtdhblehhgpdpdacGreat
open Go
section
variable {P : Program} {ops : Array Oper} {Q : Exit → Act → World → Prop} {md : Region.Mode} {S : World → Prop} {late : Nat → Bool}
def ShutDown (md : Region.Mode) (ops : Array Oper) (listed : Array Bool) : Prop :=
 ∀ j oj, ops[j]? = some oj → listed.getD j false = true → ∀ e ∈ oj.after, Region.binds md e = true → listed.getD e.on false = true
theorem ShutDown.set {i : Nat} {listed : Array Bool} (h : ShutDown md ops listed) (hi : i ∈ Region.ready md ops listed) : ShutDown md ops (listed.setIfInBounds i true) := by
 obtain ⟨_, oi, hoi, hall⟩ := mem_ready.1 hi
 intro j oj hj hl e he hb
 by_cases hij : i = j
 ·subst hij
  obtain rfl : oj = oi := Option.some.inj (hj.symm.trans hoi)
  exact getD_set_true (hall e he hb)
 ·rw [getD_set_ne false hij] at hl
  exact getD_set_true (h j oj hj hl e he hb)
end
end Go.Proofs.YtdhblehhgpdpdacGreat
namespace Go.Proofs.YtdhblehhgpdpdacGreat
open Go
inductive Plan where
 | fin
 | rd (i : Nat) (r : Plan)
 | go (i : Nat) (r : Plan)
 | two (i j : Nat) (ri rj : Plan)
 | three (i j k : Nat) (ri rj rk : Plan)
def Plan.len : Plan → Nat
 | .fin => 0
 | .rd _ r => r.len + 1
 | .go _ r => r.len + 1
 | .two _ _ r _ => r.len + 1
 | .three _ _ _ r _ _ => r.len + 1
section
variable {P : Program} {ops : Array Oper} {Q : Exit → Act → World → Prop} {md : Region.Mode} {S : World → Prop} {late : Nat → Bool}
def SeqP (P : Program) (ops : Array Oper) (Q : Exit → Act → World → Prop) (S : World → Prop) (late : Nat → Bool) : Plan → Act → World → Prop
 | .fin, a, w => Q .normal a w
 | .rd i r, a, w => ∃ o v, ops[i]? = some o ∧ YieldsIf P ops S o v a ∧ S w ∧ (∀ c a w, Q (.panic c) (a.put o.dst v) w → Q (.panic c) a w) ∧ SeqP P ops Q S late r (a.put o.dst v) w
 | .go i r, a, w => wpOp P ops Q i (fun a' w' => (late i = false → S w') ∧ SeqP P ops Q S late r a' w') a w
 | .two i j ri rj, a, w => wpOp P ops Q i (fun a' w' => (late i = false → S w') ∧ SeqP P ops Q S late ri a' w') a w ∧
   wpOp P ops Q j (fun a' w' => (late j = false → S w') ∧ SeqP P ops Q S late rj a' w') a w
 | .three i j k ri rj rk, a, w => wpOp P ops Q i (fun a' w' => (late i = false → S w') ∧ SeqP P ops Q S late ri a' w') a w ∧
   wpOp P ops Q j (fun a' w' => (late j = false → S w') ∧ SeqP P ops Q S late rj a' w') a w ∧
   wpOp P ops Q k (fun a' w' => (late k = false → S w') ∧ SeqP P ops Q S late rk a' w') a w
end
end Go.Proofs.YtdhblehhgpdpdacGreat
namespace Go.Proofs.YtdhblehhgpdpdacGreat
open Go
theorem sz_put (a : Act) (d : Nat) (v : Value) : (a.put (some d) v).tmps.size = a.tmps.size := by
 show (a.tmps.setIfInBounds d v).size = _
 simp
theorem ev_other (a : Act) {d e : Nat} (v : Value) (h : d ≠ e) : (a.put (some d) v).eval (.tmp e) = a.eval (.tmp e) := by
 show (a.tmps.setIfInBounds d v).getD e undef = a.tmps.getD e undef
 simp [h]
structure WpI (P : Program) (o : Oper) (a : Act) (w : World) (K : Act → World → Prop) (Q : Exit → Act → World → Prop) : Prop where
 out : Oper.wp P o a w K Q
section
variable {P : Program} {ops : Array Oper} {Q : Exit → Act → World → Prop} {S : World → Prop} {late : Nat → Bool}
structure SeqI (P : Program) (ops : Array Oper) (Q : Exit → Act → World → Prop) (S : World → Prop) (late : Nat → Bool) (l : Plan) (a : Act) (w : World) : Prop where
 out : SeqP P ops Q S late l a w
end
end Go.Proofs.YtdhblehhgpdpdacGreat
