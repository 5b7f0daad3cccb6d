import Derived.OrdersHeld
import Derived.RegionTactic
import Derived.WalkKit
import Derived.KernelRfl
namespace Go.Proofs.Ytdhblehhgpdpdaa
open Go
section
variable {P : Program} {ops : Array Oper} {Q : Exit → Act → World → Prop} {md : Region.Mode} {S : World → Prop} {late : Nat → Bool}
def ShutDown (md : Region.Mode) (ops : Array Oper) (listed : Array Bool) : Prop :=
 ∀ j oj, ops[j]? = some oj → listed.getD j false = true → ∀ e ∈ oj.after, Region.binds md e = true → listed.getD e.on false = true
theorem ShutDown.set {i : Nat} {listed : Array Bool} (h : ShutDown md ops listed) (hi : i ∈ Region.ready md ops listed) : ShutDown md ops (listed.setIfInBounds i true) := by
 obtain ⟨_, oi, hoi, hall⟩ := mem_ready.1 hi
 intro j oj hj hl e he hb
 by_cases hij : i = j
 ·subst hij
  obtain rfl : oj = oi := Option.some.inj (hj.symm.trans hoi)
  exact getD_set_true (hall e he hb)
 ·rw [getD_set_ne false hij] at hl
  exact getD_set_true (h j oj hj hl e he hb)
theorem shutDown_start (n : Nat) : ShutDown md ops (Array.replicate n false) := by
 intro j oj _ hl
 rcases Nat.lt_or_ge j n with h | h
 ·simp [h] at hl
 ·simp [h] at hl
def reachB (md : Region.Mode) (ops : Array Oper) : Nat → Nat → Nat → Bool
 | 0, _, _ => false
 | f + 1, j, i => match ops[j]? with
  | some oj => oj.after.any fun e => Region.binds md e && (e.on == i || reachB md ops f e.on i)
  | none => false
theorem reach_listed {listed : Array Bool} (h : ShutDown md ops listed) : ∀ (f j i : Nat), reachB md ops f j i = true →
  (∀ oj, ops[j]? = some oj → ∀ e ∈ oj.after, Region.binds md e = true → listed.getD e.on false = true) → listed.getD i false = true
 | 0, _, _, hr, _ => by cases hr
 | f + 1, j, i, hr, hp => by
  unfold reachB at hr
  split at hr
  ·rename_i oj hj
   obtain ⟨e, he, hb⟩ := Array.any_eq_true'.1 hr
   simp only [Bool.and_eq_true, Bool.or_eq_true, beq_iff_eq] at hb
   have hl := hp oj hj e he hb.1
   rcases hb.2 with h1 | h1
   ·rw [h1] at hl; exact hl
   ·exact reach_listed h f e.on i h1 (fun oe hoe e' he' hb' => h e.on oe hoe hl e' he' hb')
  ·cases hr
theorem unlisted {listed : Array Bool} {i : Nat} (h : listed.getD i true = false) : listed.getD i false = false := by
 rcases Nat.lt_or_ge i listed.size with h' | h'
 ·simp [h'] at h ⊢; exact h
 ·simp [Array.getElem?_eq_none h'] at h
def lateOf (l : List Nat) : Nat → Bool := fun j => l.contains j
end
end Go.Proofs.Ytdhblehhgpdpdaa
namespace Go.Proofs.Ytdhblehhgpdpdaa
open Go
inductive Plan where
 | fin
 | rd (i : Nat) (r : Plan)
 | go (i : Nat) (r : Plan)
 | two (i j : Nat) (ri rj : Plan)
 | three (i j k : Nat) (ri rj rk : Plan)
def Plan.len : Plan → Nat
 | .fin => 0
 | .rd _ r => r.len + 1
 | .go _ r => r.len + 1
 | .two _ _ r _ => r.len + 1
 | .three _ _ _ r _ _ => r.len + 1
section
variable {P : Program} {ops : Array Oper} {Q : Exit → Act → World → Prop} {md : Region.Mode} {S : World → Prop} {late : Nat → Bool}
def SeqP (P : Program) (ops : Array Oper) (Q : Exit → Act → World → Prop) (S : World → Prop) (late : Nat → Bool) : Plan → Act → World → Prop
 | .fin, a, w => Q .normal a w
 | .rd i r, a, w => ∃ o v, ops[i]? = some o ∧ YieldsIf P ops S o v a ∧ S w ∧ (∀ c a w, Q (.panic c) (a.put o.dst v) w → Q (.panic c) a w) ∧ SeqP P ops Q S late r (a.put o.dst v) w
 | .go i r, a, w => wpOp P ops Q i (fun a' w' => (late i = false → S w') ∧ SeqP P ops Q S late r a' w') a w
 | .two i j ri rj, a, w => wpOp P ops Q i (fun a' w' => (late i = false → S w') ∧ SeqP P ops Q S late ri a' w') a w ∧
   wpOp P ops Q j (fun a' w' => (late j = false → S w') ∧ SeqP P ops Q S late rj a' w') a w
 | .three i j k ri rj rk, a, w => wpOp P ops Q i (fun a' w' => (late i = false → S w') ∧ SeqP P ops Q S late ri a' w') a w ∧
   wpOp P ops Q j (fun a' w' => (late j = false → S w') ∧ SeqP P ops Q S late rj a' w') a w ∧
   wpOp P ops Q k (fun a' w' => (late k = false → S w') ∧ SeqP P ops Q S late rk a' w') a w
end
end Go.Proofs.Ytdhblehhgpdpdaa
