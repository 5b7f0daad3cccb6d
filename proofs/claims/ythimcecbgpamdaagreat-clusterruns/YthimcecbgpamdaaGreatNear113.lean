/- Joined: Parts, Lst, Mix, Blk, Frl. -/
import Derived.Test.YthimcecbgpamdaaGreatNear95
import Derived.Test.YthimcecbgpamdaaGreatNear168
namespace Go.Proofs.YthimcecbgpamdaaGreat
open Go.RowKit

/-- The n cells from o on, as one value. -/
def agV (g : Nat → Value) (o n : Nat) : Value := .agg ((List.range n).map fun j => g (o + j)).toArray
/-- The n cells from o on written over. -/
def stP (g : Nat → Value) (o n : Nat) (f : Nat → Value) : Nat → Value := fun j => if o ≤ j ∧ j < o + n then f (j - o) else g j
theorem stP_in (g : Nat → Value) {o n j : Nat} (f : Nat → Value) (h : j < n) : stP g o n f (o + j) = f j := by
  unfold stP
  rw [if_pos (by omega), Nat.add_sub_cancel_left]
theorem stP_out (g : Nat → Value) {o n j : Nat} (f : Nat → Value) (h : j < o ∨ o + n ≤ j) : stP g o n f j = g j := by
  unfold stP
  rw [if_neg (by omega)]

theorem add_at (b o i : Nat) : (⟨b, o, none⟩ : Addr).add i = ⟨b, o + i, none⟩ := by unfold Addr.add; split <;> simp_all

section
variable {P : Program}
theorem run_storeCellsP (b o : Nat) (t : TypeId) (N cap : Nat) (f : Nat → Value) : ∀ (n i : Nat) (g : Nat → Value) (w : World), Vh t w b N cap g → o + i + n ≤ N → (∀ j, j < n → (f (i + j)).oneCell' = true) →
    ∃ w', (storeCells ⟨b, o, none⟩ ((List.range n).map fun j => f (i + j)) i).run P w = .ok () w' ∧ Vh t w' b N cap (stP g (o + i) n (fun j => f (i + j))) ∧ Kept b w w' ∧ w'.heap.size = w.heap.size
  | 0, i, g, w, h, _, _ => ⟨w, rfl, h.congr fun j _ => (stP_out _ _ (by omega)).symm, ⟨rfl, rfl, rfl, Nat.le_refl _, fun _ _ _ => rfl⟩, rfl⟩
  | n + 1, i, g, w, h, hN, h1 => by
    have hst : (store ((⟨b, o, none⟩ : Addr).add i) (f i)).run P w = .ok () (w.setCell ⟨b, o + i, none⟩ (f i)) := by
      rw [add_at, run_store P w _ _ _ (by simpa using h1 0 (by omega)), h.cell (show o + i < N by omega)]
      simp [h.free]
    have hs := h.set (o + i) (f i)
    obtain ⟨w', e, hv, k, z⟩ := run_storeCellsP b o t N cap f n (i + 1) _ _ hs (by omega) (fun j hj => by have := h1 (j + 1) (by omega); rwa [show i + (j + 1) = i + 1 + j by omega] at this)
    have el : ((List.range (n + 1)).map fun j => f (i + j)) = f i :: (List.range n).map fun j => f (i + 1 + j) := by
      rw [List.range_succ_eq_map, List.map_cons, List.map_map]
      congr 1
      apply List.map_congr_left
      intro j _
      show f (i + (j + 1)) = _
      rw [show i + (j + 1) = i + 1 + j by omega]
    refine ⟨w', ?_, hv.congr fun j hj => ?_, ⟨k.os, k.tape, k.output, ?_, fun m hm hb => ?_⟩, ?_⟩
    · rw [el]
      simp only [storeCells, Sem.run_bind, hst, Result.andThen_ok, e]
    · by_cases c : o + i ≤ j ∧ j < o + i + (n + 1)
      · by_cases d : j = o + i
        · subst d
          rw [stP_out _ _ (by omega), stW_same]
          have := stP_in g (o := o + i) (n := n + 1) (j := 0) (fun j => f (i + j)) (by omega)
          simpa using this.symm
        · obtain ⟨m, rfl⟩ : ∃ m, j = o + (i + 1) + m := ⟨j - (o + (i + 1)), by omega⟩
          rw [stP_in _ _ (by omega)]
          have := stP_in g (o := o + i) (n := n + 1) (j := m + 1) (fun j => f (i + j)) (by omega)
          rw [show o + (i + 1) + m = o + i + (m + 1) by omega, this, show i + (m + 1) = i + 1 + m by omega]
      · rw [stP_out _ _ (by omega), stP_out _ _ (by omega), stW_other _ _ (by omega)]
    · have : (w.setCell ⟨b, o + i, none⟩ (f i)).heap.size = w.heap.size := by simp [World.setCell]
      omega
    · rw [k.block m (by simpa [World.setCell] using hm) hb]
      simp [World.setCell, Array.getElem?_modify, Ne.symm hb]
    · rw [z]; simp [World.setCell]

/-- Is a type of many cells, n of them. -/
structure Many (P : Program) (ty : TypeId) (n : Nat) : Prop where
  agg : ∀ w, (isAgg ty).run P w = .ok true w
  size : ∀ w, (sizeOf ty).run P w = .ok n w
theorem Many.of {ty : TypeId} {n : Nat} (d : TypeDesc) (hu : P.underlying ty = some d) (hd : (match d with | .struct _ | .array _ _ => true | _ => false) = true) (hi : (P.info? ty).map (·.size) = some n) : Many P ty n := by
  cases hq : P.info? ty with
  | none => simp [hq] at hi
  | some i =>
    have hs : i.size = n := by simpa [hq] using hi
    refine ⟨fun w => ?_, fun w => by simp [sizeOf, typeInfo, hq, hs]⟩
    unfold isAgg
    rw [Sem.run_bind, run_underlying hu w]
    cases d <;> simp_all

theorem run_loadP {f : Operand → Value} {o : Oper} (ty : TypeId) (x : Operand) (ho : o.op = .load ty x) {b k n N cap : Nat} {t : TypeId} {g : Nat → Value} (T : Many P ty n) (hx : f x = .pointer (some ⟨b, k, none⟩)) {w : World} (hm : Vh t w b N cap g) (hn : k + n ≤ N) :
    (execOp f o).run P w = .ok (.value (agV g k n)) w := by
  have hl : (loadCells ⟨b, k, none⟩ n).run P w = .ok ((List.range n).map fun j => g (k + j)).toArray w :=
    run_loadCells w ⟨b, k, none⟩ n (fun j => g (k + j)) (fun j hj => by rw [add_at]; exact hm.cell (by omega))
  unfold execOp
  simp only [ho, hx, Instr.loadAt, Instr.sureAddr, loadVar, Sem.run_bind, Sem.run_pure, Result.andThen_ok, T.agg, T.size, hl, if_true]
  rfl
theorem wp_loadP {o : Oper} {a : Act} {K : Act → World → Prop} {Q : Exit → Act → World → Prop} (w : World) (ty : TypeId) (x : Operand) (ho : o.op = .load ty x) {b k n N cap : Nat} {t : TypeId} {g : Nat → Value} (T : Many P ty n) (hx : a.eval x = .pointer (some ⟨b, k, none⟩)) (hm : Vh t w b N cap g) (hn : k + n ≤ N)
    (h : K (a.put o.dst (agV g k n)) w) : WpI P o a w K Q := by
  refine ⟨?_⟩
  unfold Oper.wp
  rw [run_loadP ty x ho T hx hm hn]
  exact h
theorem wpList_loadP (w : World) {ops : Array Oper} {rest : List Oper} {o : Oper} {a : Act} {Q : Exit → Act → World → Prop} (hgd : o.guard = none) (ty : TypeId) (x : Operand) (ho : o.op = .load ty x) {b k n N cap : Nat} {t : TypeId} {g : Nat → Value} (T : Many P ty n) (hx : a.eval x = .pointer (some ⟨b, k, none⟩)) (hm : Vh t w b N cap g) (hn : k + n ≤ N)
    (h : wpList P ops Q rest (a.put o.dst (agV g k n)) w) : wpList P ops Q (o :: rest) a w :=
  wpList_plain hgd fun _ hK => (wp_loadP w ty x ho T hx hm hn (hK _ _ h)).out

theorem wp_storeP {o : Oper} {a : Act} {K : Act → World → Prop} {Q : Exit → Act → World → Prop} (w : World) (ty : TypeId) (x y : Operand) (ho : o.op = .store ty x y) {b k n N cap : Nat} {t : TypeId} {g f : Nat → Value} (T : Many P ty n) (hx : a.eval x = .pointer (some ⟨b, k, none⟩)) (hy : a.eval y = agV f 0 n) (hm : Vh t w b N cap g) (hn : k + n ≤ N)
    (h1 : ∀ j, j < n → (f j).oneCell' = true) (hd : o.dst = none)
    (h : ∀ w', Vh t w' b N cap (stP g k n f) → Kept b w w' → w'.heap.size = w.heap.size → K a w') : WpI P o a w K Q := by
  refine ⟨?_⟩
  obtain ⟨w', e, hv, kk, z⟩ := run_storeCellsP (P := P) b k t N cap f n 0 g w hm hn (fun j hj => by simpa using h1 j hj)
  have hh := h w' (by simpa using hv) kk z
  have st : (storeVar ty ⟨b, k, none⟩ (agV f 0 n)).run P w = .ok () w' := by
    unfold storeVar agV
    simp only [Value.cells, Sem.run_bind, T.size, Result.andThen_ok]
    simp only [List.size_toArray, List.length_map, List.length_range, ne_eq, not_true_eq_false, if_false]
    simpa using e
  unfold Oper.wp execOp
  simp only [ho, hx, hy, Instr.storeAt, Instr.sureAddr, Sem.run_bind, Sem.run_pure, Result.andThen_ok, st]
  show K (a.put o.dst undef) w'
  rw [hd]
  exact hh
theorem wpList_storeP (w : World) {ops : Array Oper} {rest : List Oper} {o : Oper} {a : Act} {Q : Exit → Act → World → Prop} (hgd : o.guard = none) (ty : TypeId) (x y : Operand) (ho : o.op = .store ty x y) {b k n N cap : Nat} {t : TypeId} {g f : Nat → Value} (T : Many P ty n) (hx : a.eval x = .pointer (some ⟨b, k, none⟩)) (hy : a.eval y = agV f 0 n) (hm : Vh t w b N cap g) (hn : k + n ≤ N)
    (h1 : ∀ j, j < n → (f j).oneCell' = true) (hd : o.dst = none)
    (h : ∀ w', Vh t w' b N cap (stP g k n f) → Kept b w w' → w'.heap.size = w.heap.size → wpList P ops Q rest a w') : wpList P ops Q (o :: rest) a w :=
  wpList_plain hgd fun _ hK => (wp_storeP w ty x y ho T hx hy hm hn h1 hd (fun w' m k z => hK _ _ (h w' m k z))).out
end

end Go.Proofs.YthimcecbgpamdaaGreat

namespace Go.Proofs.YthimcecbgpamdaaGreat
open Go

section
variable {P : Program} {ops : Array Oper} {Q : Exit → Act → World → Prop} {a : Act} {w : World} {rest : List Oper} {o : Oper}
/-- What is left of a statement whose order is fixed, not to be opened. -/
structure LstI (P : Program) (ops : Array Oper) (Q : Exit → Act → World → Prop) (l : List Oper) (a : Act) (w : World) : Prop where
  out : wpList P ops Q l a w
theorem region_L {id : Nat} {l : List Oper} (h : LstI P l.toArray Q l a w) : (Code.region id l.toArray false).wp P Q a w := wp_region_lit h.out
theorem l_end (h : Q .normal a w) : LstI P ops Q [] a w := ⟨wpList_nil h⟩
theorem l_mv {v : Value} (hw : Region.wanted o (yielded ops a.tmps) = true) (hy : (execOp a.eval o).run P w = .ok (.value v) w) (h : LstI P ops Q rest (a.put o.dst v) w) : LstI P ops Q (o :: rest) a w :=
  ⟨wpList_step fun K hK => by
    rw [if_pos hw]
    unfold Oper.wp
    rw [hy]
    exact hK _ _ h.out⟩
theorem l_skip (hw : Region.wanted o (yielded ops a.tmps) = false) (h : LstI P ops Q rest (a.put o.dst undef) w) : LstI P ops Q (o :: rest) a w := ⟨wpList_skip hw h.out⟩
theorem l_do (hw : Region.wanted o (yielded ops a.tmps) = true) (h : ∀ K : Act → World → Prop, (∀ a' w', LstI P ops Q rest a' w' → K a' w') → WpI P o a w K Q) : LstI P ops Q (o :: rest) a w :=
  ⟨wpList_step fun K hK => by
    rw [if_pos hw]
    exact (h K (fun a' w' h1 => hK a' w' h1.out)).out⟩
/-- Code, not to be opened. -/
structure CodI (P : Program) (c : Code) (Q : Exit → Act → World → Prop) (a : Act) (w : World) : Prop where
  out : c.wp P Q a w
theorem c_seq {x y : Code} (R : Act → World → Prop) (h : CodI P x (fun e a' w' => e = .normal ∧ R a' w') a w) (k : ∀ a' w', R a' w' → CodI P y Q a' w') : CodI P (.seq x y) Q a w :=
  ⟨wp_seq (Code.wp_mono (fun e a' w' ⟨he, hr⟩ => by rw [he]; exact (k a' w' hr).out) h.out)⟩
theorem c_region {id : Nat} {l : List Oper} (h : LstI P l.toArray Q l a w) : CodI P (.region id l.toArray false) Q a w := ⟨region_L h⟩
theorem c_true {c : Operand} {x y : Code} (hc : a.eval c = .bool true) (h : CodI P x Q a w) : CodI P (.cond c x y) Q a w := ⟨wp_cond_true hc h.out⟩
theorem c_false {c : Operand} {x y : Code} (hc : a.eval c = .bool false) (h : CodI P y Q a w) : CodI P (.cond c x y) Q a w := ⟨wp_cond_false hc h.out⟩
theorem c_skip (h : Q .normal a w) : CodI P .skip Q a w := ⟨wp_skip h⟩
end
/-- These slots stay. -/
structure Stay (ks : List Nat) (a b : Act) : Prop where
  ev : ∀ k, k ∈ ks → b.eval (.tmp k) = a.eval (.tmp k)
  size : b.tmps.size = a.tmps.size
  defers : b.defers = a.defers
theorem Stay.refl (ks : List Nat) (a : Act) : Stay ks a a := ⟨fun _ _ => rfl, rfl, rfl⟩
theorem Stay.trans {ks : List Nat} {a b c : Act} (h : Stay ks a b) (k : Stay ks b c) : Stay ks a c := ⟨fun i hi => (k.ev i hi).trans (h.ev i hi), k.size.trans h.size, k.defers.trans h.defers⟩
theorem Stay.put {ks : List Nat} {a b : Act} (h : Stay ks a b) (d : Nat) (v : Value) (hd : ks.contains d = false) : Stay ks a (b.put (some d) v) :=
  ⟨fun i hi => (ev_other _ _ (fun e => by subst e; rw [List.contains_eq_mem, decide_eq_false_iff_not] at hd; exact hd hi)).trans (h.ev i hi), (sz_put ..).trans h.size, h.defers⟩
/-- A part of a function's code: the first statement that opens with region n, and all behind it. -/
def findSeq (n : Nat) : Code → Option Code
  | .seq x y => match x with
    | .region k _ _ => if k = n then some (.seq x y) else findSeq n y
    | _ => match findSeq n x with
      | some c => some c
      | none => findSeq n y
  | .block _ c => findSeq n c
  | .loop c => findSeq n c
  | .cond _ x y => match findSeq n x with
    | some c => some c
    | none => findSeq n y
  | _ => none
def second : Code → Code
  | .seq _ y => y
  | c => c

end Go.Proofs.YthimcecbgpamdaaGreat

namespace Go.Proofs.YthimcecbgpamdaaGreat
open Go

/-- A plan: one that reads cells; one that reads none; one that is carried out where it stands. -/
inductive PlanJ where
  | fin
  | rd (i : Nat) (r : PlanJ)
  | mv (i : Nat) (r : PlanJ)
  | go (i : Nat) (r : PlanJ)
  | two (i j : Nat) (ri rj : PlanJ)
  | three (i j k : Nat) (ri rj rk : PlanJ)
def PlanJ.len : PlanJ → Nat
  | .fin => 0
  | .rd _ r => r.len + 1
  | .mv _ r => r.len + 1
  | .go _ r => r.len + 1
  | .two _ _ r _ => r.len + 1
  | .three _ _ _ r _ _ => r.len + 1
section
variable {P : Program} {ops : Array Oper} {Q : Exit → Act → World → Prop} {md : Region.Mode} {S : World → Prop} {late : Nat → Bool}

/-- Whatever order is picked from here on; S is kept by each operation but the late ones. -/
def AnyR (P : Program) (md : Region.Mode) (ops : Array Oper) (Q : Exit → Act → World → Prop) (S : World → Prop) (late : Nat → Bool) : Nat → Array Bool → Act → World → Prop
  | 0, listed, a, w => Region.ready md ops listed = [] ∧ Q .normal a w
  | fuel + 1, listed, a, w =>
    (Region.ready md ops listed = [] → Q .normal a w) ∧
    ∀ i ∈ Region.ready md ops listed, wpOp P ops Q i (fun a' w' => (late i = false → S w → S w') ∧ AnyR P md ops Q S late fuel (listed.setIfInBounds i true) a' w') a w
theorem any_of_anyR : ∀ (fuel : Nat) (listed : Array Bool) (a : Act) (w : World), AnyR P md ops Q S late fuel listed a w → wpAny P md ops Q fuel listed a w
  | 0, _, _, _, h => h
  | fuel + 1, _, _, _, h => ⟨h.1, fun i hi => wpOp_mono (fun a' w' k => any_of_anyR fuel _ a' w' k.2) (h.2 i hi)⟩
theorem anyR_first {i N : Nat} {oi : Oper} {v : Value} (hi : ops[i]? = some oi) (hsel : ∀ (j : Nat) (o : Oper) cs b, ops[j]? = some o → o.op ≠ .select cs b)
    (hQ : ∀ c a w, Q (.panic c) (a.put oi.dst v) w → Q (.panic c) a w) (hlate : ∀ j, late j = true → reachB md ops N j i = true) :
    ∀ (fuel : Nat) (listed : Array Bool) (a : Act) (w : World), ShutDown md ops listed →
      (∀ j oj, ops[j]? = some oj → j ≠ i → listed.getD j true = false → (∀ e ∈ oj.after, Region.binds md e = true → e.on ≠ i) → oi.apart ops oj = true) →
      i ∈ Region.ready md ops listed → YieldsIf P ops S oi v a → S w →
      AnyR P md ops Q S late fuel (listed.setIfInBounds i true) (a.put oi.dst v) w → AnyR P md ops Q S late (fuel + 1) listed a w := by
  intro fuel
  induction fuel with
  | zero =>
    intro listed a w _ _ hr hy hS H
    refine ⟨fun h => (by rw [h] at hr; cases hr), fun j hj => ?_⟩
    by_cases hji : j = i
    · subst hji; exact hy.wpOp hi hS ⟨fun _ h => h, H⟩
    · have := ready_mono hj hji
      rw [H.1] at this
      cases this
  | succ fuel ih =>
    intro listed a w hsd hfree hr hy hS H
    refine ⟨fun h => (by rw [h] at hr; cases hr), fun j hj => ?_⟩
    have hun := (mem_ready.1 hr).1
    by_cases hji : j = i
    · subst hji; exact hy.wpOp hi hS ⟨fun _ h => h, H⟩
    · have h1 := H.2 j (ready_mono hj hji)
      obtain ⟨hjun, oj, hoj, hall⟩ := mem_ready.1 hj
      have hlj : late j = false := by
        cases h : late j
        · rfl
        · have := reach_listed hsd N j i (hlate j h) (fun o ho e he hb => by
            obtain rfl : o = oj := Option.some.inj (ho.symm.trans hoj)
            exact hall e he hb)
          rw [unlisted hun] at this
          cases this
      have hnot : ∀ e ∈ oj.after, Region.binds md e = true → e.on ≠ i := fun e he hb heq => by
        have h2 := hall e he hb
        rw [heq, unlisted hun] at h2
        cases h2
      have h2 := wpOp_putIf hoj (hfree j oj hoj hji hjun hnot) (fun cs b => hsel i oi cs b hi) (fun cs b => hsel j oj cs b hoj) hQ hy h1
      have hfree' : ∀ k ok, ops[k]? = some ok → k ≠ i → (listed.setIfInBounds j true).getD k true = false →
          (∀ e ∈ ok.after, Region.binds md e = true → e.on ≠ i) → oi.apart ops ok = true := fun k ok hk hki hun hno => by
        refine hfree k ok hk hki ?_ hno
        by_cases hjk : j = k
        · subst hjk; exact hjun
        · rw [getD_set_ne true hjk] at hun; exact hun
      refine wpOp_mono (fun a' w' h3 => ⟨h3.2.1, ih (listed.setIfInBounds j true) a' w' (hsd.set hj) hfree' (ready_mono hr (Ne.symm hji)) h3.1 (h3.2.1 hlj hS) ?_⟩) h2
      rw [Array.setIfInBounds_comm _ _ hji]
      exact h3.2.2
/-- One that reads no cell. -/
theorem anyR_pure {i : Nat} {oi : Oper} {v : Value} (hi : ops[i]? = some oi) (hsel : ∀ (j : Nat) (o : Oper) cs b, ops[j]? = some o → o.op ≠ .select cs b)
    (hQ : ∀ c a w, Q (.panic c) (a.put oi.dst v) w → Q (.panic c) a w) :
    ∀ (fuel : Nat) (listed : Array Bool) (a : Act) (w : World),
      (∀ j oj, ops[j]? = some oj → j ≠ i → listed.getD j true = false → (∀ e ∈ oj.after, Region.binds md e = true → e.on ≠ i) → oi.apart ops oj = true) →
      i ∈ Region.ready md ops listed → YieldsIf P ops (fun _ => True) oi v a →
      AnyR P md ops Q S late fuel (listed.setIfInBounds i true) (a.put oi.dst v) w → AnyR P md ops Q S late (fuel + 1) listed a w := by
  intro fuel
  induction fuel with
  | zero =>
    intro listed a w _ hr hy H
    refine ⟨fun h => (by rw [h] at hr; cases hr), fun j hj => ?_⟩
    by_cases hji : j = i
    · subst hji; exact hy.wpOp hi trivial ⟨fun _ h => h, H⟩
    · have := ready_mono hj hji
      rw [H.1] at this
      cases this
  | succ fuel ih =>
    intro listed a w hfree hr hy H
    refine ⟨fun h => (by rw [h] at hr; cases hr), fun j hj => ?_⟩
    have hun := (mem_ready.1 hr).1
    by_cases hji : j = i
    · subst hji; exact hy.wpOp hi trivial ⟨fun _ h => h, H⟩
    · have h1 := H.2 j (ready_mono hj hji)
      obtain ⟨hjun, oj, hoj, hall⟩ := mem_ready.1 hj
      have hnot : ∀ e ∈ oj.after, Region.binds md e = true → e.on ≠ i := fun e he hb heq => by
        have h2 := hall e he hb
        rw [heq, unlisted hun] at h2
        cases h2
      have h2 := wpOp_putIf hoj (hfree j oj hoj hji hjun hnot) (fun cs b => hsel i oi cs b hi) (fun cs b => hsel j oj cs b hoj) hQ hy h1
      have hfree' : ∀ k ok, ops[k]? = some ok → k ≠ i → (listed.setIfInBounds j true).getD k true = false →
          (∀ e ∈ ok.after, Region.binds md e = true → e.on ≠ i) → oi.apart ops ok = true := fun k ok hk hki hun hno => by
        refine hfree k ok hk hki ?_ hno
        by_cases hjk : j = k
        · subst hjk; exact hjun
        · rw [getD_set_ne true hjk] at hun; exact hun
      refine wpOp_mono (fun a' w' h3 => ⟨h3.2.1, ih (listed.setIfInBounds j true) a' w' hfree' (ready_mono hr (Ne.symm hji)) h3.1 ?_⟩) h2
      rw [Array.setIfInBounds_comm _ _ hji]
      exact h3.2.2

def SeqQ (P : Program) (ops : Array Oper) (Q : Exit → Act → World → Prop) (S : World → Prop) (late : Nat → Bool) : PlanJ → Act → World → Prop
  | .fin, a, w => Q .normal a w
  | .rd i r, a, w => ∃ o v, ops[i]? = some o ∧ YieldsIf P ops S o v a ∧ S w ∧ (∀ c a w, Q (.panic c) (a.put o.dst v) w → Q (.panic c) a w) ∧ SeqQ P ops Q S late r (a.put o.dst v) w
  | .mv i r, a, w => ∃ o v, ops[i]? = some o ∧ YieldsIf P ops (fun _ => True) o v a ∧ (∀ c a w, Q (.panic c) (a.put o.dst v) w → Q (.panic c) a w) ∧ SeqQ P ops Q S late r (a.put o.dst v) w
  | .go i r, a, w => wpOp P ops Q i (fun a' w' => (late i = false → S w → S w') ∧ SeqQ P ops Q S late r a' w') a w
  | .two i j ri rj, a, w => wpOp P ops Q i (fun a' w' => (late i = false → S w → S w') ∧ SeqQ P ops Q S late ri a' w') a w ∧
      wpOp P ops Q j (fun a' w' => (late j = false → S w → S w') ∧ SeqQ P ops Q S late rj a' w') a w
  | .three i j k ri rj rk, a, w => wpOp P ops Q i (fun a' w' => (late i = false → S w → S w') ∧ SeqQ P ops Q S late ri a' w') a w ∧
      wpOp P ops Q j (fun a' w' => (late j = false → S w → S w') ∧ SeqQ P ops Q S late rj a' w') a w ∧
      wpOp P ops Q k (fun a' w' => (late k = false → S w → S w') ∧ SeqQ P ops Q S late rk a' w') a w
def planJ (md : Region.Mode) (ops : Array Oper) (late : Nat → Bool) : PlanJ → Array Bool → Bool
  | .fin, listed => (Region.ready md ops listed).isEmpty
  | .rd i r, listed => (Region.ready md ops listed).contains i && Region.free md ops listed i && (List.range ops.size).all (fun j => !late j || reachB md ops ops.size j i) && planJ md ops late r (listed.setIfInBounds i true)
  | .mv i r, listed => (Region.ready md ops listed).contains i && Region.free md ops listed i && planJ md ops late r (listed.setIfInBounds i true)
  | .go i r, listed => decide (Region.ready md ops listed = [i]) && planJ md ops late r (listed.setIfInBounds i true)
  | .two i j ri rj, listed => decide (Region.ready md ops listed = [i, j]) && decide (ri.len = rj.len) && planJ md ops late ri (listed.setIfInBounds i true) && planJ md ops late rj (listed.setIfInBounds j true)
  | .three i j k ri rj rk, listed => decide (Region.ready md ops listed = [i, j, k]) && decide (ri.len = rj.len) && decide (ri.len = rk.len) && planJ md ops late ri (listed.setIfInBounds i true) && planJ md ops late rj (listed.setIfInBounds j true) && planJ md ops late rk (listed.setIfInBounds k true)
theorem anyR_of_plan (hs : Region.noSelect ops = true) (hlt : ∀ j, late j = true → j < ops.size) : ∀ (l : PlanJ) (listed : Array Bool) (a : Act) (w : World),
    planJ md ops late l listed = true → ShutDown md ops listed → SeqQ P ops Q S late l a w → AnyR P md ops Q S late l.len listed a w
  | .fin, listed, a, w, hb, _, h => ⟨by simpa [planJ] using hb, h⟩
  | .rd i r, listed, a, w, hb, hd, h => by
    simp only [planJ, Bool.and_eq_true, Bool.not_eq_true', List.all_eq_true, List.mem_range, Bool.or_eq_true] at hb
    obtain ⟨⟨⟨h1, h2⟩, h4⟩, h5⟩ := hb
    obtain ⟨o, v, ho, hy, hS, hQ, hr⟩ := h
    have hri : i ∈ Region.ready md ops listed := by simpa using h1
    exact anyR_first ho (Region.noSelect_spec hs) hQ (N := ops.size) (fun j hj => by
      rcases h4 j (hlt j hj) with h | h
      · rw [hj] at h; cases h
      · exact h) r.len listed a w hd (Region.free_spec ho h2) hri hy hS (anyR_of_plan hs hlt r _ _ _ h5 (hd.set hri) hr)
  | .mv i r, listed, a, w, hb, hd, h => by
    simp only [planJ, Bool.and_eq_true] at hb
    obtain ⟨⟨h1, h2⟩, h5⟩ := hb
    obtain ⟨o, v, ho, hy, hQ, hr⟩ := h
    have hri : i ∈ Region.ready md ops listed := by simpa using h1
    exact anyR_pure ho (Region.noSelect_spec hs) hQ r.len listed a w (Region.free_spec ho h2) hri hy (anyR_of_plan hs hlt r _ _ _ h5 (hd.set hri) hr)
  | .go i r, listed, a, w, hb, hd, h => by
    simp only [planJ, Bool.and_eq_true, decide_eq_true_eq] at hb
    obtain ⟨h1, h2⟩ := hb
    have hri : i ∈ Region.ready md ops listed := by rw [h1]; simp
    refine ⟨fun h0 => (by rw [h1] at h0; cases h0), fun j hj => ?_⟩
    rw [h1] at hj
    obtain rfl : j = i := by simpa using hj
    exact wpOp_mono (fun a' w' k => ⟨k.1, anyR_of_plan hs hlt r _ _ _ h2 (hd.set hri) k.2⟩) h
  | .two i j ri rj, listed, a, w, hb, hd, h => by
    simp only [planJ, Bool.and_eq_true, decide_eq_true_eq] at hb
    obtain ⟨⟨⟨h1, h2⟩, h3⟩, h4⟩ := hb
    have hi : i ∈ Region.ready md ops listed := by rw [h1]; simp
    have hj : j ∈ Region.ready md ops listed := by rw [h1]; simp
    refine ⟨fun h0 => (by rw [h1] at h0; cases h0), fun k hk => ?_⟩
    rw [h1] at hk
    have hk2 : k = i ∨ k = j := by simpa using hk
    rcases hk2 with rfl | rfl
    · exact wpOp_mono (fun a' w' q => ⟨q.1, anyR_of_plan hs hlt ri _ _ _ h3 (hd.set hi) q.2⟩) h.1
    · refine wpOp_mono (fun a' w' q => ⟨q.1, ?_⟩) h.2
      have := anyR_of_plan hs hlt rj _ a' w' h4 (hd.set hj) q.2
      show AnyR P md ops Q S late ri.len _ a' w'
      rw [h2]
      exact this
  | .three i j k ri rj rk, listed, a, w, hb, hd, h => by
    simp only [planJ, Bool.and_eq_true, decide_eq_true_eq] at hb
    obtain ⟨⟨⟨⟨⟨h1, h2⟩, h2b⟩, h3⟩, h4⟩, h5⟩ := hb
    have hi : i ∈ Region.ready md ops listed := by rw [h1]; simp
    have hj : j ∈ Region.ready md ops listed := by rw [h1]; simp
    have hk0 : k ∈ Region.ready md ops listed := by rw [h1]; simp
    refine ⟨fun h0 => (by rw [h1] at h0; cases h0), fun q hq => ?_⟩
    rw [h1] at hq
    have hk2 : q = i ∨ q = j ∨ q = k := by simpa using hq
    rcases hk2 with rfl | rfl | rfl
    · exact wpOp_mono (fun a' w' q => ⟨q.1, anyR_of_plan hs hlt ri _ _ _ h3 (hd.set hi) q.2⟩) h.1
    · refine wpOp_mono (fun a' w' q => ⟨q.1, ?_⟩) h.2.1
      have := anyR_of_plan hs hlt rj _ a' w' h4 (hd.set hj) q.2
      show AnyR P md ops Q S late ri.len _ a' w'
      rw [h2]
      exact this
    · refine wpOp_mono (fun a' w' q => ⟨q.1, ?_⟩) h.2.2
      have := anyR_of_plan hs hlt rk _ a' w' h5 (hd.set hk0) q.2
      show AnyR P md ops Q S late ri.len _ a' w'
      rw [h2b]
      exact this
/-- What is left of a plan, not to be opened. -/
structure SeqJ (P : Program) (ops : Array Oper) (Q : Exit → Act → World → Prop) (S : World → Prop) (late : Nat → Bool) (l : PlanJ) (a : Act) (w : World) : Prop where
  out : SeqQ P ops Q S late l a w
theorem region_J {id : Nat} {a : Act} {w : World} (l : PlanJ) (lt : List Nat) (hm : P.follows .mixedOrders = true)
    (hb : (Region.noSelect ops && lt.all (fun j => decide (j < ops.size)) && decide (l.len = ops.size) && planJ .any ops (lateOf lt) l (Array.replicate ops.size false)) = true)
    (h : SeqJ P ops Q S (lateOf lt) l a w.drew) : (Code.region id ops true).wp P Q a w := by
  simp only [Bool.and_eq_true, decide_eq_true_eq] at hb
  obtain ⟨⟨⟨h1, h2⟩, h3⟩, h4⟩ := hb
  have h5 := anyR_of_plan (P := P) (Q := Q) (S := S) h1 (fun j hj => by
    have := List.all_eq_true.1 h2 j (by simpa [lateOf] using hj)
    simpa using this) l _ a w.drew h4 (shutDown_start ops.size) h.out
  rw [h3] at h5
  exact wp_region_any hm (any_of_anyR _ _ _ _ h5)
theorem sJ_end {a : Act} {w : World} (h : Q .normal a w) : SeqJ P ops Q S late .fin a w := ⟨h⟩
theorem sJ_read {i : Nat} {o : Oper} {v : Value} {r : PlanJ} {a : Act} {w : World} (ho : ops[i]? = some o) (hQ : ∀ c a w, Q (.panic c) (a.put o.dst v) w → Q (.panic c) a w) (hw : Region.wanted o (yielded ops a.tmps) = true) (hS : S w)
    (hy : ∀ w, S w → (execOp a.eval o).run P w = .ok (.value v) w) (h : SeqJ P ops Q S late r (a.put o.dst v) w) : SeqJ P ops Q S late (.rd i r) a w := ⟨⟨o, v, ho, Or.inl ⟨hw, hy⟩, hS, hQ, h.out⟩⟩
theorem sJ_mv {i : Nat} {o : Oper} {v : Value} {r : PlanJ} {a : Act} {w : World} (ho : ops[i]? = some o) (hQ : ∀ c a w, Q (.panic c) (a.put o.dst v) w → Q (.panic c) a w) (hw : Region.wanted o (yielded ops a.tmps) = true)
    (hy : ∀ w, (execOp a.eval o).run P w = .ok (.value v) w) (h : SeqJ P ops Q S late r (a.put o.dst v) w) : SeqJ P ops Q S late (.mv i r) a w := ⟨⟨o, v, ho, Or.inl ⟨hw, fun w _ => hy w⟩, hQ, h.out⟩⟩
/-- One that is not wanted. -/
theorem sJ_skip {i : Nat} {o : Oper} {r : PlanJ} {a : Act} {w : World} (ho : ops[i]? = some o) (hQ : ∀ c a w, Q (.panic c) (a.put o.dst undef) w → Q (.panic c) a w) (hw : Region.wanted o (yielded ops a.tmps) = false)
    (h : SeqJ P ops Q S late r (a.put o.dst undef) w) : SeqJ P ops Q S late (.mv i r) a w := ⟨⟨o, undef, ho, Or.inr ⟨hw, rfl⟩, hQ, h.out⟩⟩
theorem sJ_do {i : Nat} {o : Oper} {r : PlanJ} {a : Act} {w : World} (ho : ops[i]? = some o) (hw : Region.wanted o (yielded ops a.tmps) = true)
    (h : ∀ K : Act → World → Prop, (∀ a w', (late i = false → S w → S w') → SeqJ P ops Q S late r a w' → K a w') → WpI P o a w K Q) : SeqJ P ops Q S late (.go i r) a w :=
  ⟨wpOp_step ho (fun K' hK => by rw [if_pos hw]; exact (h K' (fun a w h1 h2 => hK a w ⟨h1, h2.out⟩)).out)⟩
theorem sJ_two {i j : Nat} {oi oj : Oper} {ri rj : PlanJ} {a : Act} {w : World} (hoi : ops[i]? = some oi) (hoj : ops[j]? = some oj) (hwi : Region.wanted oi (yielded ops a.tmps) = true) (hwj : Region.wanted oj (yielded ops a.tmps) = true)
    (h : ∀ K : Act → World → Prop, (∀ a w', (late i = false → S w → S w') → SeqJ P ops Q S late ri a w' → K a w') → WpI P oi a w K Q)
    (k : ∀ K : Act → World → Prop, (∀ a w', (late j = false → S w → S w') → SeqJ P ops Q S late rj a w' → K a w') → WpI P oj a w K Q) : SeqJ P ops Q S late (.two i j ri rj) a w :=
  ⟨⟨wpOp_step hoi (fun K' hK => by rw [if_pos hwi]; exact (h K' (fun a w h1 h2 => hK a w ⟨h1, h2.out⟩)).out), wpOp_step hoj (fun K' hK => by rw [if_pos hwj]; exact (k K' (fun a w h1 h2 => hK a w ⟨h1, h2.out⟩)).out)⟩⟩
/-- The rest of a plan, set aside. -/
theorem sJ_cut {l r : PlanJ} {a : Act} {w : World} (T : Act → World → Prop) (hr : ∀ A W, T A W → SeqJ P ops Q S late r A W) (hl : (∀ A W, T A W → SeqJ P ops Q S late r A W) → SeqJ P ops Q S late l a w) : SeqJ P ops Q S late l a w := hl hr
end

end Go.Proofs.YthimcecbgpamdaaGreat

namespace Go.Proofs.YthimcecbgpamdaaGreat
open Go.RowKit

section
variable {P : Program}
/-- Is a type of one cell. -/
structure OneC (P : Program) (ty : TypeId) : Prop where
  agg : ∀ w, (isAgg ty).run P w = .ok false w
  size : ∀ w, (sizeOf ty).run P w = .ok 1 w
theorem run_lod1 {f : Operand → Value} {o : Oper} (ty : TypeId) (x : Operand) (ho : o.op = .load ty x) {b k N cap : Nat} {t : TypeId} {g : Nat → Value} {v : Value} (T : OneC P ty) (hx : f x = .pointer (some ⟨b, k, none⟩)) {w : World} (hm : Vh t w b N cap g) (hn : k < N) (hv : g k = v) :
    (execOp f o).run P w = .ok (.value v) w := by
  have hc := hm.cell hn
  rw [hv] at hc
  unfold execOp
  simp only [ho, hx, Instr.loadAt, Instr.sureAddr, loadVar, Sem.run_bind, Sem.run_pure, Result.andThen_ok, T.agg]
  go_simp
theorem wp_sto1 {o : Oper} {a : Act} {K : Act → World → Prop} {Q : Exit → Act → World → Prop} (w : World) (ty : TypeId) (x y : Operand) (ho : o.op = .store ty x y) {b k N cap : Nat} {t : TypeId} {g : Nat → Value} {v : Value} (T : OneC P ty) (hx : a.eval x = .pointer (some ⟨b, k, none⟩)) (hy : a.eval y = v) (hm : Vh t w b N cap g) (hn : k < N)
    (h1 : v.oneCell' = true) (h2 : v.cells = #[v]) (hd : o.dst = none)
    (h : ∀ w', Vh t w' b N cap (stW g k v) → Kept b w w' → w'.heap.size = w.heap.size → K a w') : WpI P o a w K Q := by
  refine ⟨?_⟩
  have hh := h _ (hm.set k v) (kept_set w b k v) (by simp)
  have st : (storeVar ty ⟨b, k, none⟩ v).run P w = .ok () (w.setCell ⟨b, k, none⟩ v) := by
    have hst : (store ((⟨b, k, none⟩ : Addr).add 0) v).run P w = .ok () (w.setCell ⟨b, k, none⟩ v) := by
      rw [add_at, Nat.add_zero, run_store P w _ _ _ h1, hm.cell hn]
      simp [hm.free]
    unfold storeVar
    simp only [h2, Sem.run_bind, T.size, Result.andThen_ok]
    simp [storeCells, hst]
  unfold Oper.wp execOp
  simp only [ho, hx, hy, Instr.storeAt, Instr.sureAddr, Sem.run_bind, Sem.run_pure, Result.andThen_ok, st]
  show K (a.put o.dst undef) _
  rw [hd]
  exact hh
theorem run_fldG {f : Operand → Value} {o : Oper} (s : TypeId) (x : Operand) (k : Nat) (ho : o.op = .fieldAddr s x k) {fields : Array Field} {fd : Field} (hu : P.underlying s = some (.struct fields)) (hf : fields[k]? = some fd) {m : Nat} (hs : ∀ w, (sizeOf fd.type).run P w = .ok (m + 1) w) {b off d : Nat} (hd : fd.offset = d) (hx : f x = .pointer (some ⟨b, off, none⟩)) (w : World) :
    (execOp f o).run P w = .ok (.value (.pointer (some ⟨b, off + d, none⟩))) w := by
  subst hd
  unfold execOp
  simp only [ho, hx, Instr.fieldAt, Instr.sureAddr, Sem.run_bind, Sem.run_pure, Result.andThen_ok, run_underlying hu, hf, fieldPlace, hs, add_at]
  simp
theorem run_ixG {f : Operand → Value} {o : Oper} (s e : TypeId) (x y : Operand) (ho : o.op = .indexAddr s x y) {len n : Nat} (hu : P.underlying s = some (.array len e)) (hs : ∀ w, (sizeOf e).run P w = .ok n w) {b off i : Nat} {z : Int} (hx : f x = .pointer (some ⟨b, off, none⟩)) (hy : f y = .int .i64 z) (hz : z = (i : Int)) (hi : i < len) (w : World) :
    (execOp f o).run P w = .ok (.value (.pointer (some ⟨b, off + i * n, none⟩))) w := by
  subst hz
  have h2 : (i : Int) < (len : Int) := by omega
  unfold execOp
  simp only [ho, hx, hy, Instr.indexAt, asIntOf, Instr.sureAddr, Sem.run_bind, Sem.run_pure, Result.andThen_ok, run_underlying hu, add_at]
  simp [h2, hs]
/-- A parameter's variable made. -/
theorem wp_boxG {o : Oper} {a : Act} {K : Act → World → Prop} {Q : Exit → Act → World → Prop} (w : World) (ty : TypeId) (x : Operand) (ho : o.op = .box ty x) {n : Nat} {f : Nat → Value} (hx : a.eval x = agV f 0 n) (hn : n ≤ maxLen)
    (h : ∀ w', Vh ty w' w.heap.size n n f → Below w.heap.size w w' → w'.heap.size = w.heap.size + 1 → K (a.put o.dst (.pointer (some ⟨w.heap.size, 0, none⟩))) w') : WpI P o a w K Q := by
  refine ⟨?_⟩
  have hh := h (w.alloc (.cells ((List.range n).map f).toArray ty)) (Vh.of_row f n hn (by show (w.heap.push _)[w.heap.size]? = _; rw [Array.getElem?_push_size])) (al_below _ _) (al_size _ _)
  unfold Oper.wp execOp
  simp only [ho, hx, Instr.box, newVar, newRow, newObj, agV, Value.cells, Nat.zero_add]
  go_simp
  exact hh
/-- A variable made with its zero value. -/
theorem wp_allocG {o : Oper} {a : Act} {K : Act → World → Prop} {Q : Exit → Act → World → Prop} (w : World) (ty : TypeId) (ho : o.op = .alloc ty) {n : Nat} {f : Nat → Value} (hz : ∀ w, (zeroValue ty).run P w = .ok (agV f 0 n) w) (hn : n ≤ maxLen)
    (h : ∀ w', Vh ty w' w.heap.size n n f → Below w.heap.size w w' → w'.heap.size = w.heap.size + 1 → K (a.put o.dst (.pointer (some ⟨w.heap.size, 0, none⟩))) w') : WpI P o a w K Q := by
  refine ⟨?_⟩
  have hh := h (w.alloc (.cells ((List.range n).map f).toArray ty)) (Vh.of_row f n hn (by show (w.heap.push _)[w.heap.size]? = _; rw [Array.getElem?_push_size])) (al_below _ _) (al_size _ _)
  unfold Oper.wp execOp
  simp only [ho, Instr.alloc, newVar, newRow, newObj, Sem.run_bind, hz, Result.andThen_ok, agV, Value.cells, Nat.zero_add]
  go_simp
  exact hh
end

end Go.Proofs.YthimcecbgpamdaaGreat

namespace Go.Proofs.YthimcecbgpamdaaGreat
open Go

def putL (A : Act) : List (Nat × Value) → Act
  | [] => A
  | (k, v) :: l => (putL A l).put (some k) v
def lookL (k : Nat) : List (Nat × Value) → Option Value
  | [] => none
  | (j, v) :: l => cond (Nat.beq j k) (some v) (lookL k l)
theorem szL (A : Act) (l : List (Nat × Value)) : (putL A l).tmps.size = A.tmps.size := by
  induction l with
  | nil => rfl
  | cons p l ih => exact (sz_put _ _ _).trans ih
theorem defL (A : Act) (l : List (Nat × Value)) : (putL A l).defers = A.defers := by
  induction l with
  | nil => rfl
  | cons p l ih => exact ih
theorem ev_in {A : Act} {l : List (Nat × Value)} {k : Nat} {v : Value} (h : lookL k l = some v) (hk : k < A.tmps.size) : (putL A l).eval (.tmp k) = v := by
  induction l with
  | nil => cases h
  | cons p l ih =>
    obtain ⟨j, u⟩ := p
    show ((putL A l).put (some j) u).eval (.tmp k) = v
    unfold lookL at h
    cases e : Nat.beq j k with
    | true =>
      rw [e] at h
      obtain rfl : j = k := Nat.eq_of_beq_eq_true e
      rw [ev_same _ _ _ (by rw [szL]; exact hk)]
      exact Option.some.inj h
    | false =>
      rw [e] at h
      rw [ev_other _ _ (Nat.ne_of_beq_eq_false e)]
      exact ih h
theorem ev_out {A : Act} {l : List (Nat × Value)} {k : Nat} {v : Value} (h : lookL k l = none) (hb : A.eval (.tmp k) = v) : (putL A l).eval (.tmp k) = v := by
  induction l with
  | nil => exact hb
  | cons p l ih =>
    obtain ⟨j, u⟩ := p
    show ((putL A l).put (some j) u).eval (.tmp k) = v
    unfold lookL at h
    cases e : Nat.beq j k with
    | true => rw [e] at h; cases h
    | false =>
      rw [e] at h
      rw [ev_other _ _ (Nat.ne_of_beq_eq_false e)]
      exact ih h
theorem stayL {ks : List Nat} {A B : Act} (h : Stay ks A B) : ∀ (l : List (Nat × Value)), (l.all fun p => !ks.contains p.1) = true → Stay ks A (putL B l)
  | [], _ => h
  | (k, v) :: l, hl => by
    rw [List.all_cons, Bool.and_eq_true] at hl
    exact (stayL h l hl.2).put k v (by simpa using hl.1)
section
variable {P : Program} {ops : Array Oper} {Q : Exit → Act → World → Prop} {A : Act} {l : List (Nat × Value)} {w : World} {rest : List Oper} {o : Oper} {d : Nat} {v : Value}
theorem m_start {l' : List Oper} (h : LstI P ops Q l' (putL A []) w) : LstI P ops Q l' A w := h
theorem m_mv (hd : o.dst = some d) (hw : Region.wanted o (yielded ops (putL A l).tmps) = true) (hy : (execOp (putL A l).eval o).run P w = .ok (.value v) w) (h : LstI P ops Q rest (putL A ((d, v) :: l)) w) : LstI P ops Q (o :: rest) (putL A l) w :=
  l_mv hw hy (by rw [hd]; exact h)
theorem m_skip (hd : o.dst = some d) (hw : Region.wanted o (yielded ops (putL A l).tmps) = false) (h : LstI P ops Q rest (putL A ((d, undef) :: l)) w) : LstI P ops Q (o :: rest) (putL A l) w :=
  l_skip hw (by rw [hd]; exact h)
/-- One that is carried out and yields something. -/
theorem m_do (hd : o.dst = some d) (hw : Region.wanted o (yielded ops (putL A l).tmps) = true) (h : ∀ K : Act → World → Prop, (∀ v w', LstI P ops Q rest (putL A ((d, v) :: l)) w' → K ((putL A l).put o.dst v) w') → WpI P o (putL A l) w K Q) : LstI P ops Q (o :: rest) (putL A l) w :=
  l_do hw (fun K hK => h K (fun v _ h1 => by rw [hd]; exact hK _ _ h1))
/-- One that yields nothing. -/
theorem m_st (hw : Region.wanted o (yielded ops (putL A l).tmps) = true) (h : ∀ K : Act → World → Prop, (∀ w', LstI P ops Q rest (putL A l) w' → K (putL A l) w') → WpI P o (putL A l) w K Q) : LstI P ops Q (o :: rest) (putL A l) w :=
  l_do hw (fun K hK => h K (fun _ h1 => hK _ _ h1))
variable {S : World → Prop} {late : Nat → Bool} {i : Nat} {r : PlanJ}
theorem j_start {p : PlanJ} (h : SeqJ P ops Q S late p (putL A []) w) : SeqJ P ops Q S late p A w := h
theorem j_mv (ho : ops[i]? = some o) (hd : o.dst = some d) (hQ : ∀ c a w, Q (.panic c) (a.put (some d) v) w → Q (.panic c) a w) (hw : Region.wanted o (yielded ops (putL A l).tmps) = true)
    (hy : ∀ w, (execOp (putL A l).eval o).run P w = .ok (.value v) w) (h : SeqJ P ops Q S late r (putL A ((d, v) :: l)) w) : SeqJ P ops Q S late (.mv i r) (putL A l) w :=
  sJ_mv ho (by rw [hd]; exact hQ) hw hy (by rw [hd]; exact h)
theorem j_rd (ho : ops[i]? = some o) (hd : o.dst = some d) (hQ : ∀ c a w, Q (.panic c) (a.put (some d) v) w → Q (.panic c) a w) (hw : Region.wanted o (yielded ops (putL A l).tmps) = true) (hS : S w)
    (hy : ∀ w, S w → (execOp (putL A l).eval o).run P w = .ok (.value v) w) (h : SeqJ P ops Q S late r (putL A ((d, v) :: l)) w) : SeqJ P ops Q S late (.rd i r) (putL A l) w :=
  sJ_read ho (by rw [hd]; exact hQ) hw hS hy (by rw [hd]; exact h)
theorem j_skip (ho : ops[i]? = some o) (hd : o.dst = some d) (hQ : ∀ c a w, Q (.panic c) (a.put (some d) undef) w → Q (.panic c) a w) (hw : Region.wanted o (yielded ops (putL A l).tmps) = false)
    (h : SeqJ P ops Q S late r (putL A ((d, undef) :: l)) w) : SeqJ P ops Q S late (.mv i r) (putL A l) w :=
  sJ_skip ho (by rw [hd]; exact hQ) hw (by rw [hd]; exact h)
theorem j_do (ho : ops[i]? = some o) (hd : o.dst = some d) (hw : Region.wanted o (yielded ops (putL A l).tmps) = true)
    (h : ∀ K : Act → World → Prop, (∀ v w', (late i = false → S w → S w') → SeqJ P ops Q S late r (putL A ((d, v) :: l)) w' → K ((putL A l).put o.dst v) w') → WpI P o (putL A l) w K Q) : SeqJ P ops Q S late (.go i r) (putL A l) w :=
  sJ_do ho hw (fun K hK => h K (fun v _ h1 h2 => by rw [hd]; exact hK _ _ h1 h2))
theorem j_st (ho : ops[i]? = some o) (hw : Region.wanted o (yielded ops (putL A l).tmps) = true)
    (h : ∀ K : Act → World → Prop, (∀ w', (late i = false → S w → S w') → SeqJ P ops Q S late r (putL A l) w' → K (putL A l) w') → WpI P o (putL A l) w K Q) : SeqJ P ops Q S late (.go i r) (putL A l) w :=
  sJ_do ho hw (fun K hK => h K (fun _ h1 h2 => hK _ _ h1 h2))
/-- Either of two may come next: each by its own way. -/
theorem j_two {j : Nat} {r' : PlanJ} (h : SeqJ P ops Q S late (.go i r) (putL A l) w) (h' : SeqJ P ops Q S late (.go j r') (putL A l) w) : SeqJ P ops Q S late (.two i j r r') (putL A l) w := ⟨⟨h.out, h'.out⟩⟩
theorem j_three {j k : Nat} {r' r2 : PlanJ} (h : SeqJ P ops Q S late (.go i r) (putL A l) w) (h' : SeqJ P ops Q S late (.go j r') (putL A l) w) (h2 : SeqJ P ops Q S late (.go k r2) (putL A l) w) : SeqJ P ops Q S late (.three i j k r r' r2) (putL A l) w := ⟨⟨h.out, h'.out, h2.out⟩⟩
end

end Go.Proofs.YthimcecbgpamdaaGreat
