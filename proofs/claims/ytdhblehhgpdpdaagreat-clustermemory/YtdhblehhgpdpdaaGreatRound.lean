import Derived.Test.YtdhblehhgpdpdaaGreatNear80
import Derived.RangeFuncNested
import Derived.RangeFuncBound
import Derived.RangeFuncCalls
import Derived.RangeFuncLeaves
import Derived.OwnWalkIn
namespace Go.Proofs.YtdhblehhgpdpdaaGreat
open Go Go.RowKit
section
variable {P : Program} {ops : Array Oper} {Q : Exit → Act → World → Prop} {n l : Nat}
theorem oper_round {o : Oper} {a : Act} {w : World} {K : Act → World → Prop} (hd : ∀ c, o.op ≠ .defer c) (h : Oper.wp P o a w K Q) : o.wpIn (Fence.wide.inRound l) n P a w K Q := by
 refine ⟨fun _ _ => trivial, ?_⟩
 rw [Oper.semAt_plain (Fence.wide.inRound l) a.eval o hd]
 unfold Oper.wp at h
 generalize (execOp a.eval o).run P w = r at h ⊢
 cases r with
 | ok x w' =>
  cases x with
  | value v => exact h
  | skip => exact h
  | defer d => exact h
  | enter f args => exact ⟨fun e => by (cases e), CallsIn.inRound l (callsIn_wide.2 h)⟩
  | row row args => exact ⟨fun e => by (cases e), fun c cs _ => let ⟨v, w', r, s⟩ := h c cs; ⟨v, w', r, stepsIn_wide.2 s⟩⟩
  | _ => exact h.elim
 | halt x w' => cases x <;> exact h
def noDefer (ops : Array Oper) : Bool := ops.toList.all fun o => match o.op with | .defer _ => false | _ => true
theorem noDefer_spec (h : noDefer ops = true) {i : Nat} {o : Oper} (ho : ops[i]? = some o) : ∀ c, o.op ≠ .defer c := by
 intro c e
 have hm : o ∈ ops.toList := by
  rw [Array.mem_toList_iff]
  exact Array.mem_of_getElem? ho
 have := List.all_eq_true.1 h o hm
 rw [e] at this
 cases this
theorem op_round (hd : noDefer ops = true) (hQ : ¬ LetsOut Q) {i : Nat} {a : Act} {w : World} {K : Act → World → Prop} (h : wpOp P ops Q i K a w) : wpOpIn (Fence.wide.inRound l) n P ops Q i K a w := by
 unfold wpOp at h
 unfold wpOpIn
 cases ho : ops[i]? with
 | none => rw [ho] at h; exact h
 | some o =>
  rw [ho] at h
  simp only at h ⊢
  split
  ·rename_i hw
   rw [if_pos hw] at h
   rcases h with h | ⟨_, h⟩
   ·exact oper_round (noDefer_spec hd ho) h
   ·exact absurd h hQ
  ·rename_i hw
   rw [if_neg hw] at h
   exact ⟨fun _ _ => trivial, h⟩
theorem any_round (hd : noDefer ops = true) (hQ : ¬ LetsOut Q) {md : Region.Mode} : ∀ (fuel : Nat) (listed : Array Bool) (a : Act) (w : World), wpAny P md ops Q fuel listed a w → wpAnyIn (Fence.wide.inRound l) n P md ops Q fuel listed a w
 | 0, _, _, _, h => h
 | fuel + 1, _, _, _, h => ⟨h.1, fun i hi => op_round hd hQ (wpOp_mono (fun a' w' k => any_round hd hQ fuel _ a' w' k) (h.2 i hi))⟩
theorem region_R {S : World → Prop} {id : Nat} {a : Act} {w : World} (p : Plan) (lt : List Nat) (hm : P.follows .mixedOrders = true) (hd : noDefer ops = true) (hQ : ¬ LetsOut Q)
  (hb : (Region.noSelect ops && lt.all (fun j => decide (j < ops.size)) && decide (p.len = ops.size) && planB .any ops (lateOf lt) p (Array.replicate ops.size false)) = true)
  (h : SeqI P ops Q S (lateOf lt) p a w.drew) : (Code.region id ops true).wpIn (Fence.wide.inRound l) n P Q a w := by
 simp only [Bool.and_eq_true, decide_eq_true_eq] at hb
 obtain ⟨⟨⟨h1, h2⟩, h3⟩, h4⟩ := hb
 have h5 := anyL_of_plan (P := P) (Q := Q) (S := S) h1 (fun j hj => by
  have := List.all_eq_true.1 h2 j (by simpa [lateOf] using hj)
  simpa using this) p _ a w.drew h4 (shutDown_start ops.size) h.out
 rw [h3] at h5
 exact wpIn_region_any hm (any_round hd hQ _ _ _ _ (any_of_anyL _ _ _ _ h5))
theorem wpIn_leaves {F : Fence} {c : Code} {a : Act} {w : World} (R : Act → Act → World → Prop) (h : ∀ a0, a0 = a → c.wpIn F n P (fun e a' w' => e = .normal ∧ R a0 a' w') a0 w) (k : ∀ a' w', R a a' w' → Q .normal a' w') : c.wpIn F n P Q a w :=
 wpIn_mono (h a rfl) (fun e a' w' ⟨he, hr⟩ => by rw [he]; exact k a' w' hr)
theorem not_lets {R : Act → World → Prop} : ¬ LetsOut (fun e a' w' => e = Exit.normal ∧ R a' w') := fun ⟨_, _, h, _⟩ => nomatch h
end
end Go.Proofs.YtdhblehhgpdpdaaGreat
