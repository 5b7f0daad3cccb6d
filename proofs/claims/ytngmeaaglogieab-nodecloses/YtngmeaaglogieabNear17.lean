/- Joined: Parts, Lst. -/
import Derived.Test.YtngmeaaglogieabFrames
import Derived.Test.YtngmeaaglogieabRowBase
namespace Go.Proofs.Ytngmeaaglogieab
open Go.RowKit

/-- The n cells from o on, as one value. -/
def agV (g : Nat → Value) (o n : Nat) : Value := .agg ((List.range n).map fun j => g (o + j)).toArray
/-- The n cells from o on written over. -/
def stP (g : Nat → Value) (o n : Nat) (f : Nat → Value) : Nat → Value := fun j => if o ≤ j ∧ j < o + n then f (j - o) else g j
theorem stP_in (g : Nat → Value) {o n j : Nat} (f : Nat → Value) (h : j < n) : stP g o n f (o + j) = f j := by
  unfold stP
  rw [if_pos (by omega), Nat.add_sub_cancel_left]
theorem stP_out (g : Nat → Value) {o n j : Nat} (f : Nat → Value) (h : j < o ∨ o + n ≤ j) : stP g o n f j = g j := by
  unfold stP
  rw [if_neg (by omega)]

theorem add_at (b o i : Nat) : (⟨b, o, none⟩ : Addr).add i = ⟨b, o + i, none⟩ := by unfold Addr.add; split <;> simp_all

section
variable {P : Program}
theorem run_storeCellsP (b o : Nat) (t : TypeId) (N cap : Nat) (f : Nat → Value) : ∀ (n i : Nat) (g : Nat → Value) (w : World), Vh t w b N cap g → o + i + n ≤ N → (∀ j, j < n → (f (i + j)).oneCell' = true) →
    ∃ w', (storeCells ⟨b, o, none⟩ ((List.range n).map fun j => f (i + j)) i).run P w = .ok () w' ∧ Vh t w' b N cap (stP g (o + i) n (fun j => f (i + j))) ∧ Kept b w w' ∧ w'.heap.size = w.heap.size
  | 0, i, g, w, h, _, _ => ⟨w, rfl, h.congr fun j _ => (stP_out _ _ (by omega)).symm, ⟨rfl, rfl, rfl, Nat.le_refl _, fun _ _ _ => rfl⟩, rfl⟩
  | n + 1, i, g, w, h, hN, h1 => by
    have hst : (store ((⟨b, o, none⟩ : Addr).add i) (f i)).run P w = .ok () (w.setCell ⟨b, o + i, none⟩ (f i)) := by
      rw [add_at, run_store P w _ _ _ (by simpa using h1 0 (by omega)), h.cell (show o + i < N by omega)]
      simp [h.free]
    have hs := h.set (o + i) (f i)
    obtain ⟨w', e, hv, k, z⟩ := run_storeCellsP b o t N cap f n (i + 1) _ _ hs (by omega) (fun j hj => by have := h1 (j + 1) (by omega); rwa [show i + (j + 1) = i + 1 + j by omega] at this)
    have el : ((List.range (n + 1)).map fun j => f (i + j)) = f i :: (List.range n).map fun j => f (i + 1 + j) := by
      rw [List.range_succ_eq_map, List.map_cons, List.map_map]
      congr 1
      apply List.map_congr_left
      intro j _
      show f (i + (j + 1)) = _
      rw [show i + (j + 1) = i + 1 + j by omega]
    refine ⟨w', ?_, hv.congr fun j hj => ?_, ⟨k.os, k.tape, k.output, ?_, fun m hm hb => ?_⟩, ?_⟩
    · rw [el]
      simp only [storeCells, Sem.run_bind, hst, Result.andThen_ok, e]
    · by_cases c : o + i ≤ j ∧ j < o + i + (n + 1)
      · by_cases d : j = o + i
        · subst d
          rw [stP_out _ _ (by omega), stW_same]
          have := stP_in g (o := o + i) (n := n + 1) (j := 0) (fun j => f (i + j)) (by omega)
          simpa using this.symm
        · obtain ⟨m, rfl⟩ : ∃ m, j = o + (i + 1) + m := ⟨j - (o + (i + 1)), by omega⟩
          rw [stP_in _ _ (by omega)]
          have := stP_in g (o := o + i) (n := n + 1) (j := m + 1) (fun j => f (i + j)) (by omega)
          rw [show o + (i + 1) + m = o + i + (m + 1) by omega, this, show i + (m + 1) = i + 1 + m by omega]
      · rw [stP_out _ _ (by omega), stP_out _ _ (by omega), stW_other _ _ (by omega)]
    · have : (w.setCell ⟨b, o + i, none⟩ (f i)).heap.size = w.heap.size := by simp [World.setCell]
      omega
    · rw [k.block m (by simpa [World.setCell] using hm) hb]
      simp [World.setCell, Array.getElem?_modify, Ne.symm hb]
    · rw [z]; simp [World.setCell]

/-- Is a type of many cells, n of them. -/
structure Many (P : Program) (ty : TypeId) (n : Nat) : Prop where
  agg : ∀ w, (isAgg ty).run P w = .ok true w
  size : ∀ w, (sizeOf ty).run P w = .ok n w
theorem Many.of {ty : TypeId} {n : Nat} (d : TypeDesc) (hu : P.underlying ty = some d) (hd : (match d with | .struct _ | .array _ _ => true | _ => false) = true) (hi : (P.info? ty).map (·.size) = some n) : Many P ty n := by
  cases hq : P.info? ty with
  | none => simp [hq] at hi
  | some i =>
    have hs : i.size = n := by simpa [hq] using hi
    refine ⟨fun w => ?_, fun w => by simp [sizeOf, typeInfo, hq, hs]⟩
    unfold isAgg
    rw [Sem.run_bind, run_underlying hu w]
    cases d <;> simp_all

theorem run_loadP {f : Operand → Value} {o : Oper} (ty : TypeId) (x : Operand) (ho : o.op = .load ty x) {b k n N cap : Nat} {t : TypeId} {g : Nat → Value} (T : Many P ty n) (hx : f x = .pointer (some ⟨b, k, none⟩)) {w : World} (hm : Vh t w b N cap g) (hn : k + n ≤ N) :
    (execOp f o).run P w = .ok (.value (agV g k n)) w := by
  have hl : (loadCells ⟨b, k, none⟩ n).run P w = .ok ((List.range n).map fun j => g (k + j)).toArray w :=
    run_loadCells w ⟨b, k, none⟩ n (fun j => g (k + j)) (fun j hj => by rw [add_at]; exact hm.cell (by omega))
  unfold execOp
  simp only [ho, hx, Instr.loadAt, Instr.sureAddr, loadVar, Sem.run_bind, Sem.run_pure, Result.andThen_ok, T.agg, T.size, hl, if_true]
  rfl
theorem wp_loadP {o : Oper} {a : Act} {K : Act → World → Prop} {Q : Exit → Act → World → Prop} (w : World) (ty : TypeId) (x : Operand) (ho : o.op = .load ty x) {b k n N cap : Nat} {t : TypeId} {g : Nat → Value} (T : Many P ty n) (hx : a.eval x = .pointer (some ⟨b, k, none⟩)) (hm : Vh t w b N cap g) (hn : k + n ≤ N)
    (h : K (a.put o.dst (agV g k n)) w) : WpI P o a w K Q := by
  refine ⟨?_⟩
  unfold Oper.wp
  rw [run_loadP ty x ho T hx hm hn]
  exact h
theorem wpList_loadP (w : World) {ops : Array Oper} {rest : List Oper} {o : Oper} {a : Act} {Q : Exit → Act → World → Prop} (hgd : o.guard = none) (ty : TypeId) (x : Operand) (ho : o.op = .load ty x) {b k n N cap : Nat} {t : TypeId} {g : Nat → Value} (T : Many P ty n) (hx : a.eval x = .pointer (some ⟨b, k, none⟩)) (hm : Vh t w b N cap g) (hn : k + n ≤ N)
    (h : wpList P ops Q rest (a.put o.dst (agV g k n)) w) : wpList P ops Q (o :: rest) a w :=
  wpList_plain hgd fun _ hK => (wp_loadP w ty x ho T hx hm hn (hK _ _ h)).out

theorem wp_storeP {o : Oper} {a : Act} {K : Act → World → Prop} {Q : Exit → Act → World → Prop} (w : World) (ty : TypeId) (x y : Operand) (ho : o.op = .store ty x y) {b k n N cap : Nat} {t : TypeId} {g f : Nat → Value} (T : Many P ty n) (hx : a.eval x = .pointer (some ⟨b, k, none⟩)) (hy : a.eval y = agV f 0 n) (hm : Vh t w b N cap g) (hn : k + n ≤ N)
    (h1 : ∀ j, j < n → (f j).oneCell' = true) (hd : o.dst = none)
    (h : ∀ w', Vh t w' b N cap (stP g k n f) → Kept b w w' → w'.heap.size = w.heap.size → K a w') : WpI P o a w K Q := by
  refine ⟨?_⟩
  obtain ⟨w', e, hv, kk, z⟩ := run_storeCellsP (P := P) b k t N cap f n 0 g w hm hn (fun j hj => by simpa using h1 j hj)
  have hh := h w' (by simpa using hv) kk z
  have st : (storeVar ty ⟨b, k, none⟩ (agV f 0 n)).run P w = .ok () w' := by
    unfold storeVar agV
    simp only [Value.cells, Sem.run_bind, T.size, Result.andThen_ok]
    simp only [List.size_toArray, List.length_map, List.length_range, ne_eq, not_true_eq_false, if_false]
    simpa using e
  unfold Oper.wp execOp
  simp only [ho, hx, hy, Instr.storeAt, Instr.sureAddr, Sem.run_bind, Sem.run_pure, Result.andThen_ok, st]
  show K (a.put o.dst undef) w'
  rw [hd]
  exact hh
theorem wpList_storeP (w : World) {ops : Array Oper} {rest : List Oper} {o : Oper} {a : Act} {Q : Exit → Act → World → Prop} (hgd : o.guard = none) (ty : TypeId) (x y : Operand) (ho : o.op = .store ty x y) {b k n N cap : Nat} {t : TypeId} {g f : Nat → Value} (T : Many P ty n) (hx : a.eval x = .pointer (some ⟨b, k, none⟩)) (hy : a.eval y = agV f 0 n) (hm : Vh t w b N cap g) (hn : k + n ≤ N)
    (h1 : ∀ j, j < n → (f j).oneCell' = true) (hd : o.dst = none)
    (h : ∀ w', Vh t w' b N cap (stP g k n f) → Kept b w w' → w'.heap.size = w.heap.size → wpList P ops Q rest a w') : wpList P ops Q (o :: rest) a w :=
  wpList_plain hgd fun _ hK => (wp_storeP w ty x y ho T hx hy hm hn h1 hd (fun w' m k z => hK _ _ (h w' m k z))).out
end

end Go.Proofs.Ytngmeaaglogieab

namespace Go.Proofs.Ytngmeaaglogieab
open Go

section
variable {P : Program} {ops : Array Oper} {Q : Exit → Act → World → Prop} {a : Act} {w : World} {rest : List Oper} {o : Oper}
/-- What is left of a statement whose order is fixed, not to be opened. -/
structure LstI (P : Program) (ops : Array Oper) (Q : Exit → Act → World → Prop) (l : List Oper) (a : Act) (w : World) : Prop where
  out : wpList P ops Q l a w
theorem region_L {id : Nat} {l : List Oper} (h : LstI P l.toArray Q l a w) : (Code.region id l.toArray false).wp P Q a w := wp_region_lit h.out
theorem l_end (h : Q .normal a w) : LstI P ops Q [] a w := ⟨wpList_nil h⟩
theorem l_mv {v : Value} (hw : Region.wanted o (yielded ops a.tmps) = true) (hy : (execOp a.eval o).run P w = .ok (.value v) w) (h : LstI P ops Q rest (a.put o.dst v) w) : LstI P ops Q (o :: rest) a w :=
  ⟨wpList_step fun K hK => by
    rw [if_pos hw]
    unfold Oper.wp
    rw [hy]
    exact hK _ _ h.out⟩
theorem l_skip (hw : Region.wanted o (yielded ops a.tmps) = false) (h : LstI P ops Q rest (a.put o.dst undef) w) : LstI P ops Q (o :: rest) a w := ⟨wpList_skip hw h.out⟩
theorem l_do (hw : Region.wanted o (yielded ops a.tmps) = true) (h : ∀ K : Act → World → Prop, (∀ a' w', LstI P ops Q rest a' w' → K a' w') → WpI P o a w K Q) : LstI P ops Q (o :: rest) a w :=
  ⟨wpList_step fun K hK => by
    rw [if_pos hw]
    exact (h K (fun a' w' h1 => hK a' w' h1.out)).out⟩
/-- Code, not to be opened. -/
structure CodI (P : Program) (c : Code) (Q : Exit → Act → World → Prop) (a : Act) (w : World) : Prop where
  out : c.wp P Q a w
theorem c_seq {x y : Code} (R : Act → World → Prop) (h : CodI P x (fun e a' w' => e = .normal ∧ R a' w') a w) (k : ∀ a' w', R a' w' → CodI P y Q a' w') : CodI P (.seq x y) Q a w :=
  ⟨wp_seq (Code.wp_mono (fun e a' w' ⟨he, hr⟩ => by rw [he]; exact (k a' w' hr).out) h.out)⟩
theorem c_region {id : Nat} {l : List Oper} (h : LstI P l.toArray Q l a w) : CodI P (.region id l.toArray false) Q a w := ⟨region_L h⟩
theorem c_true {c : Operand} {x y : Code} (hc : a.eval c = .bool true) (h : CodI P x Q a w) : CodI P (.cond c x y) Q a w := ⟨wp_cond_true hc h.out⟩
theorem c_false {c : Operand} {x y : Code} (hc : a.eval c = .bool false) (h : CodI P y Q a w) : CodI P (.cond c x y) Q a w := ⟨wp_cond_false hc h.out⟩
theorem c_skip (h : Q .normal a w) : CodI P .skip Q a w := ⟨wp_skip h⟩
end
/-- These slots stay. -/
structure Stay (ks : List Nat) (a b : Act) : Prop where
  ev : ∀ k, k ∈ ks → b.eval (.tmp k) = a.eval (.tmp k)
  size : b.tmps.size = a.tmps.size
  defers : b.defers = a.defers
theorem Stay.refl (ks : List Nat) (a : Act) : Stay ks a a := ⟨fun _ _ => rfl, rfl, rfl⟩
theorem Stay.trans {ks : List Nat} {a b c : Act} (h : Stay ks a b) (k : Stay ks b c) : Stay ks a c := ⟨fun i hi => (k.ev i hi).trans (h.ev i hi), k.size.trans h.size, k.defers.trans h.defers⟩
theorem Stay.put {ks : List Nat} {a b : Act} (h : Stay ks a b) (d : Nat) (v : Value) (hd : ks.contains d = false) : Stay ks a (b.put (some d) v) :=
  ⟨fun i hi => (ev_other _ _ (fun e => by subst e; rw [List.contains_eq_mem, decide_eq_false_iff_not] at hd; exact hd hi)).trans (h.ev i hi), (sz_put ..).trans h.size, h.defers⟩
/-- A part of a function's code: the first statement that opens with region n, and all behind it. -/
def findSeq (n : Nat) : Code → Option Code
  | .seq x y => match x with
    | .region k _ _ => if k = n then some (.seq x y) else findSeq n y
    | _ => match findSeq n x with
      | some c => some c
      | none => findSeq n y
  | .block _ c => findSeq n c
  | .loop c => findSeq n c
  | .cond _ x y => match findSeq n x with
    | some c => some c
    | none => findSeq n y
  | _ => none
def second : Code → Code
  | .seq _ y => y
  | c => c

end Go.Proofs.Ytngmeaaglogieab
