/- A function walked statement by statement over a frame that is a variable. No program in sight. -/
import Derived.Test.YthjeedlhlkggkabFrames
namespace Go.Proofs.Ythjeedlhlkggkab
open Go

section
variable {P : Program} {ops : Array Oper} {Q : Exit → Act → World → Prop} {a : Act} {w : World} {rest : List Oper} {o : Oper}
/-- What is left of a statement whose order is fixed, not to be opened. -/
structure LstI (P : Program) (ops : Array Oper) (Q : Exit → Act → World → Prop) (l : List Oper) (a : Act) (w : World) : Prop where
  out : wpList P ops Q l a w
theorem region_L {id : Nat} {l : List Oper} (h : LstI P l.toArray Q l a w) : (Code.region id l.toArray false).wp P Q a w := wp_region_lit h.out
theorem l_end (h : Q .normal a w) : LstI P ops Q [] a w := ⟨wpList_nil h⟩
theorem l_mv {v : Value} (hw : Region.wanted o (yielded ops a.tmps) = true) (hy : (execOp a.eval o).run P w = .ok (.value v) w) (h : LstI P ops Q rest (a.put o.dst v) w) : LstI P ops Q (o :: rest) a w :=
  ⟨wpList_step fun K hK => by
    rw [if_pos hw]
    unfold Oper.wp
    rw [hy]
    exact hK _ _ h.out⟩
theorem l_skip (hw : Region.wanted o (yielded ops a.tmps) = false) (h : LstI P ops Q rest (a.put o.dst undef) w) : LstI P ops Q (o :: rest) a w := ⟨wpList_skip hw h.out⟩
theorem l_do (hw : Region.wanted o (yielded ops a.tmps) = true) (h : ∀ K : Act → World → Prop, (∀ a' w', LstI P ops Q rest a' w' → K a' w') → WpI P o a w K Q) : LstI P ops Q (o :: rest) a w :=
  ⟨wpList_step fun K hK => by
    rw [if_pos hw]
    exact (h K (fun a' w' h1 => hK a' w' h1.out)).out⟩
/-- Code, not to be opened. -/
structure CodI (P : Program) (c : Code) (Q : Exit → Act → World → Prop) (a : Act) (w : World) : Prop where
  out : c.wp P Q a w
theorem c_seq {x y : Code} (R : Act → World → Prop) (h : CodI P x (fun e a' w' => e = .normal ∧ R a' w') a w) (k : ∀ a' w', R a' w' → CodI P y Q a' w') : CodI P (.seq x y) Q a w :=
  ⟨wp_seq (Code.wp_mono (fun e a' w' ⟨he, hr⟩ => by rw [he]; exact (k a' w' hr).out) h.out)⟩
theorem c_region {id : Nat} {l : List Oper} (h : LstI P l.toArray Q l a w) : CodI P (.region id l.toArray false) Q a w := ⟨region_L h⟩
theorem c_true {c : Operand} {x y : Code} (hc : a.eval c = .bool true) (h : CodI P x Q a w) : CodI P (.cond c x y) Q a w := ⟨wp_cond_true hc h.out⟩
theorem c_false {c : Operand} {x y : Code} (hc : a.eval c = .bool false) (h : CodI P y Q a w) : CodI P (.cond c x y) Q a w := ⟨wp_cond_false hc h.out⟩
theorem c_skip (h : Q .normal a w) : CodI P .skip Q a w := ⟨wp_skip h⟩
end
/-- These slots stay. -/
structure Stay (ks : List Nat) (a b : Act) : Prop where
  ev : ∀ k, k ∈ ks → b.eval (.tmp k) = a.eval (.tmp k)
  size : b.tmps.size = a.tmps.size
  defers : b.defers = a.defers
theorem Stay.refl (ks : List Nat) (a : Act) : Stay ks a a := ⟨fun _ _ => rfl, rfl, rfl⟩
theorem Stay.trans {ks : List Nat} {a b c : Act} (h : Stay ks a b) (k : Stay ks b c) : Stay ks a c := ⟨fun i hi => (k.ev i hi).trans (h.ev i hi), k.size.trans h.size, k.defers.trans h.defers⟩
theorem Stay.put {ks : List Nat} {a b : Act} (h : Stay ks a b) (d : Nat) (v : Value) (hd : ks.contains d = false) : Stay ks a (b.put (some d) v) :=
  ⟨fun i hi => (ev_other _ _ (fun e => by subst e; rw [List.contains_eq_mem, decide_eq_false_iff_not] at hd; exact hd hi)).trans (h.ev i hi), (sz_put ..).trans h.size, h.defers⟩
/-- A part of a function's code: the first statement that opens with region n, and all behind it. -/
def findSeq (n : Nat) : Code → Option Code
  | .seq x y => match x with
    | .region k _ _ => if k = n then some (.seq x y) else findSeq n y
    | _ => match findSeq n x with
      | some c => some c
      | none => findSeq n y
  | .block _ c => findSeq n c
  | .loop c => findSeq n c
  | .cond _ x y => match findSeq n x with
    | some c => some c
    | none => findSeq n y
  | _ => none
def second : Code → Code
  | .seq _ y => y
  | c => c

end Go.Proofs.Ythjeedlhlkggkab
