import Derived.Test.YtdhblehhgpdpdaaFrames
import Derived.Test.YtdhblehhgpdpdaaRowBase
namespace Go.Proofs.Ytdhblehhgpdpdaa
open Go.RowKit
def agV (g : Nat → Value) (o n : Nat) : Value := .agg ((List.range n).map fun j => g (o + j)).toArray
def stP (g : Nat → Value) (o n : Nat) (f : Nat → Value) : Nat → Value := fun j => if o ≤ j ∧ j < o + n then f (j - o) else g j
theorem stP_in (g : Nat → Value) {o n j : Nat} (f : Nat → Value) (h : j < n) : stP g o n f (o + j) = f j := by
 unfold stP
 rw [if_pos (by omega), Nat.add_sub_cancel_left]
theorem stP_out (g : Nat → Value) {o n j : Nat} (f : Nat → Value) (h : j < o ∨ o + n ≤ j) : stP g o n f j = g j := by
 unfold stP
 rw [if_neg (by omega)]
theorem add_at (b o i : Nat) : (⟨b, o, none⟩ : Addr).add i = ⟨b, o + i, none⟩ := by unfold Addr.add; split <;> simp_all
section
variable {P : Program}
theorem run_storeCellsP (b o : Nat) (t : TypeId) (N cap : Nat) (f : Nat → Value) : ∀ (n i : Nat) (g : Nat → Value) (w : World), Vh t w b N cap g → o + i + n ≤ N → (∀ j, j < n → (f (i + j)).oneCell' = true) →
  ∃ w', (storeCells ⟨b, o, none⟩ ((List.range n).map fun j => f (i + j)) i).run P w = .ok () w' ∧ Vh t w' b N cap (stP g (o + i) n (fun j => f (i + j))) ∧ Kept b w w' ∧ w'.heap.size = w.heap.size
 | 0, i, g, w, h, _, _ => ⟨w, rfl, h.congr fun j _ => (stP_out _ _ (by omega)).symm, ⟨rfl, rfl, rfl, Nat.le_refl _, fun _ _ _ => rfl⟩, rfl⟩
 | n + 1, i, g, w, h, hN, h1 => by
  have hst : (store ((⟨b, o, none⟩ : Addr).add i) (f i)).run P w = .ok () (w.setCell ⟨b, o + i, none⟩ (f i)) := by
   rw [add_at, run_store P w _ _ _ (by simpa using h1 0 (by omega)), h.cell (show o + i < N by omega)]
   simp [h.free]
  have hs := h.set (o + i) (f i)
  obtain ⟨w', e, hv, k, z⟩ := run_storeCellsP b o t N cap f n (i + 1) _ _ hs (by omega) (fun j hj => by have := h1 (j + 1) (by omega); rwa [show i + (j + 1) = i + 1 + j by omega] at this)
  have el : ((List.range (n + 1)).map fun j => f (i + j)) = f i :: (List.range n).map fun j => f (i + 1 + j) := by
   rw [List.range_succ_eq_map, List.map_cons, List.map_map]
   congr 1
   apply List.map_congr_left
   intro j _
   show f (i + (j + 1)) = _
   rw [show i + (j + 1) = i + 1 + j by omega]
  refine ⟨w', ?_, hv.congr fun j hj => ?_, ⟨k.os, k.tape, k.output, ?_, fun m hm hb => ?_⟩, ?_⟩
  ·rw [el]
   simp only [storeCells, Sem.run_bind, hst, Result.andThen_ok, e]
  ·by_cases c : o + i ≤ j ∧ j < o + i + (n + 1)
   ·by_cases d : j = o + i
    ·subst d
     rw [stP_out _ _ (by omega), stW_same]
     have := stP_in g (o := o + i) (n := n + 1) (j := 0) (fun j => f (i + j)) (by omega)
     simpa using this.symm
    ·obtain ⟨m, rfl⟩ : ∃ m, j = o + (i + 1) + m := ⟨j - (o + (i + 1)), by omega⟩
     rw [stP_in _ _ (by omega)]
     have := stP_in g (o := o + i) (n := n + 1) (j := m + 1) (fun j => f (i + j)) (by omega)
     rw [show o + (i + 1) + m = o + i + (m + 1) by omega, this, show i + (m + 1) = i + 1 + m by omega]
   ·rw [stP_out _ _ (by omega), stP_out _ _ (by omega), stW_other _ _ (by omega)]
  ·have : (w.setCell ⟨b, o + i, none⟩ (f i)).heap.size = w.heap.size := by simp [World.setCell]
   omega
  ·rw [k.block m (by simpa [World.setCell] using hm) hb]
   simp [World.setCell, Array.getElem?_modify, Ne.symm hb]
  ·rw [z]; simp [World.setCell]
structure Many (P : Program) (ty : TypeId) (n : Nat) : Prop where
 agg : ∀ w, (isAgg ty).run P w = .ok true w
 size : ∀ w, (sizeOf ty).run P w = .ok n w
theorem Many.of {ty : TypeId} {n : Nat} (d : TypeDesc) (hu : P.underlying ty = some d) (hd : (match d with | .struct _ | .array _ _ => true | _ => false) = true) (hi : (P.info? ty).map (·.size) = some n) : Many P ty n := by
 cases hq : P.info? ty with
 | none => simp [hq] at hi
 | some i =>
  have hs : i.size = n := by simpa [hq] using hi
  refine ⟨fun w => ?_, fun w => by simp [sizeOf, typeInfo, hq, hs]⟩
  unfold isAgg
  rw [Sem.run_bind, run_underlying hu w]
  cases d <;> simp_all
theorem run_loadP {f : Operand → Value} {o : Oper} (ty : TypeId) (x : Operand) (ho : o.op = .load ty x) {b k n N cap : Nat} {t : TypeId} {g : Nat → Value} (T : Many P ty n) (hx : f x = .pointer (some ⟨b, k, none⟩)) {w : World} (hm : Vh t w b N cap g) (hn : k + n ≤ N) :
  (execOp f o).run P w = .ok (.value (agV g k n)) w := by
 have hl : (loadCells ⟨b, k, none⟩ n).run P w = .ok ((List.range n).map fun j => g (k + j)).toArray w :=
  run_loadCells w ⟨b, k, none⟩ n (fun j => g (k + j)) (fun j hj => by rw [add_at]; exact hm.cell (by omega))
 unfold execOp
 simp only [ho, hx, Instr.loadAt, Instr.sureAddr, loadVar, Sem.run_bind, Sem.run_pure, Result.andThen_ok, T.agg, T.size, hl, if_true]
 rfl
theorem wp_storeP {o : Oper} {a : Act} {K : Act → World → Prop} {Q : Exit → Act → World → Prop} (w : World) (ty : TypeId) (x y : Operand) (ho : o.op = .store ty x y) {b k n N cap : Nat} {t : TypeId} {g f : Nat → Value} (T : Many P ty n) (hx : a.eval x = .pointer (some ⟨b, k, none⟩)) (hy : a.eval y = agV f 0 n) (hm : Vh t w b N cap g) (hn : k + n ≤ N)
  (h1 : ∀ j, j < n → (f j).oneCell' = true) (hd : o.dst = none)
  (h : ∀ w', Vh t w' b N cap (stP g k n f) → Kept b w w' → w'.heap.size = w.heap.size → K a w') : WpI P o a w K Q := by
 refine ⟨?_⟩
 obtain ⟨w', e, hv, kk, z⟩ := run_storeCellsP (P := P) b k t N cap f n 0 g w hm hn (fun j hj => by simpa using h1 j hj)
 have hh := h w' (by simpa using hv) kk z
 have st : (storeVar ty ⟨b, k, none⟩ (agV f 0 n)).run P w = .ok () w' := by
  unfold storeVar agV
  simp only [Value.cells, Sem.run_bind, T.size, Result.andThen_ok]
  simp only [List.size_toArray, List.length_map, List.length_range, ne_eq, not_true_eq_false, if_false]
  simpa using e
 unfold Oper.wp execOp
 simp only [ho, hx, hy, Instr.storeAt, Instr.sureAddr, Sem.run_bind, Sem.run_pure, Result.andThen_ok, st]
 show K (a.put o.dst undef) w'
 rw [hd]
 exact hh
end
end Go.Proofs.Ytdhblehhgpdpdaa
namespace Go.Proofs.Ytdhblehhgpdpdaa
open Go
section
variable {P : Program} {ops : Array Oper} {Q : Exit → Act → World → Prop} {a : Act} {w : World} {rest : List Oper} {o : Oper}
structure LstI (P : Program) (ops : Array Oper) (Q : Exit → Act → World → Prop) (l : List Oper) (a : Act) (w : World) : Prop where
 out : wpList P ops Q l a w
theorem region_L {id : Nat} {l : List Oper} (h : LstI P l.toArray Q l a w) : (Code.region id l.toArray false).wp P Q a w := wp_region_lit h.out
theorem l_mv {v : Value} (hw : Region.wanted o (yielded ops a.tmps) = true) (hy : (execOp a.eval o).run P w = .ok (.value v) w) (h : LstI P ops Q rest (a.put o.dst v) w) : LstI P ops Q (o :: rest) a w :=
 ⟨wpList_step fun K hK => by
  rw [if_pos hw]
  unfold Oper.wp
  rw [hy]
  exact hK _ _ h.out⟩
theorem l_skip (hw : Region.wanted o (yielded ops a.tmps) = false) (h : LstI P ops Q rest (a.put o.dst undef) w) : LstI P ops Q (o :: rest) a w := ⟨wpList_skip hw h.out⟩
theorem l_do (hw : Region.wanted o (yielded ops a.tmps) = true) (h : ∀ K : Act → World → Prop, (∀ a' w', LstI P ops Q rest a' w' → K a' w') → WpI P o a w K Q) : LstI P ops Q (o :: rest) a w :=
 ⟨wpList_step fun K hK => by
  rw [if_pos hw]
  exact (h K (fun a' w' h1 => hK a' w' h1.out)).out⟩
structure CodI (P : Program) (c : Code) (Q : Exit → Act → World → Prop) (a : Act) (w : World) : Prop where
 out : c.wp P Q a w
theorem c_region {id : Nat} {l : List Oper} (h : LstI P l.toArray Q l a w) : CodI P (.region id l.toArray false) Q a w := ⟨region_L h⟩
theorem c_true {c : Operand} {x y : Code} (hc : a.eval c = .bool true) (h : CodI P x Q a w) : CodI P (.cond c x y) Q a w := ⟨wp_cond_true hc h.out⟩
theorem c_false {c : Operand} {x y : Code} (hc : a.eval c = .bool false) (h : CodI P y Q a w) : CodI P (.cond c x y) Q a w := ⟨wp_cond_false hc h.out⟩
theorem c_skip (h : Q .normal a w) : CodI P .skip Q a w := ⟨wp_skip h⟩
end
structure Stay (ks : List Nat) (a b : Act) : Prop where
 ev : ∀ k, k ∈ ks → b.eval (.tmp k) = a.eval (.tmp k)
 size : b.tmps.size = a.tmps.size
 defers : b.defers = a.defers
theorem Stay.refl (ks : List Nat) (a : Act) : Stay ks a a := ⟨fun _ _ => rfl, rfl, rfl⟩
theorem Stay.trans {ks : List Nat} {a b c : Act} (h : Stay ks a b) (k : Stay ks b c) : Stay ks a c := ⟨fun i hi => (k.ev i hi).trans (h.ev i hi), k.size.trans h.size, k.defers.trans h.defers⟩
theorem Stay.put {ks : List Nat} {a b : Act} (h : Stay ks a b) (d : Nat) (v : Value) (hd : ks.contains d = false) : Stay ks a (b.put (some d) v) :=
 ⟨fun i hi => (ev_other _ _ (fun e => by subst e; rw [List.contains_eq_mem, decide_eq_false_iff_not] at hd; exact hd hi)).trans (h.ev i hi), (sz_put ..).trans h.size, h.defers⟩
end Go.Proofs.Ytdhblehhgpdpdaa
namespace Go.Proofs.Ytdhblehhgpdpdaa
open Go
inductive PlanJ where
 | fin
 | rd (i : Nat) (r : PlanJ)
 | mv (i : Nat) (r : PlanJ)
 | go (i : Nat) (r : PlanJ)
 | two (i j : Nat) (ri rj : PlanJ)
 | three (i j k : Nat) (ri rj rk : PlanJ)
def PlanJ.len : PlanJ → Nat
 | .fin => 0
 | .rd _ r => r.len + 1
 | .mv _ r => r.len + 1
 | .go _ r => r.len + 1
 | .two _ _ r _ => r.len + 1
 | .three _ _ _ r _ _ => r.len + 1
section
variable {P : Program} {ops : Array Oper} {Q : Exit → Act → World → Prop} {md : Region.Mode} {S : World → Prop} {late : Nat → Bool}
def AnyR (P : Program) (md : Region.Mode) (ops : Array Oper) (Q : Exit → Act → World → Prop) (S : World → Prop) (late : Nat → Bool) : Nat → Array Bool → Act → World → Prop
 | 0, listed, a, w => Region.ready md ops listed = [] ∧ Q .normal a w
 | fuel + 1, listed, a, w =>
  (Region.ready md ops listed = [] → Q .normal a w) ∧
  ∀ i ∈ Region.ready md ops listed, wpOp P ops Q i (fun a' w' => (late i = false → S w → S w') ∧ AnyR P md ops Q S late fuel (listed.setIfInBounds i true) a' w') a w
theorem any_of_anyR : ∀ (fuel : Nat) (listed : Array Bool) (a : Act) (w : World), AnyR P md ops Q S late fuel listed a w → wpAny P md ops Q fuel listed a w
 | 0, _, _, _, h => h
 | fuel + 1, _, _, _, h => ⟨h.1, fun i hi => wpOp_mono (fun a' w' k => any_of_anyR fuel _ a' w' k.2) (h.2 i hi)⟩
theorem anyR_first {i N : Nat} {oi : Oper} {v : Value} (hi : ops[i]? = some oi) (hsel : ∀ (j : Nat) (o : Oper) cs b, ops[j]? = some o → o.op ≠ .select cs b)
  (hQ : ∀ c a w, Q (.panic c) (a.put oi.dst v) w → Q (.panic c) a w) (hlate : ∀ j, late j = true → reachB md ops N j i = true) :
  ∀ (fuel : Nat) (listed : Array Bool) (a : Act) (w : World), ShutDown md ops listed →
   (∀ j oj, ops[j]? = some oj → j ≠ i → listed.getD j true = false → (∀ e ∈ oj.after, Region.binds md e = true → e.on ≠ i) → oi.apart ops oj = true) →
   i ∈ Region.ready md ops listed → YieldsIf P ops S oi v a → S w →
   AnyR P md ops Q S late fuel (listed.setIfInBounds i true) (a.put oi.dst v) w → AnyR P md ops Q S late (fuel + 1) listed a w := by
 intro fuel
 induction fuel with
 | zero =>
  intro listed a w _ _ hr hy hS H
  refine ⟨fun h => (by rw [h] at hr; cases hr), fun j hj => ?_⟩
  by_cases hji : j = i
  ·subst hji; exact hy.wpOp hi hS ⟨fun _ h => h, H⟩
  ·have := ready_mono hj hji
   rw [H.1] at this
   cases this
 | succ fuel ih =>
  intro listed a w hsd hfree hr hy hS H
  refine ⟨fun h => (by rw [h] at hr; cases hr), fun j hj => ?_⟩
  have hun := (mem_ready.1 hr).1
  by_cases hji : j = i
  ·subst hji; exact hy.wpOp hi hS ⟨fun _ h => h, H⟩
  ·have h1 := H.2 j (ready_mono hj hji)
   obtain ⟨hjun, oj, hoj, hall⟩ := mem_ready.1 hj
   have hlj : late j = false := by
    cases h : late j
    ·rfl
    ·have := reach_listed hsd N j i (hlate j h) (fun o ho e he hb => by
      obtain rfl : o = oj := Option.some.inj (ho.symm.trans hoj)
      exact hall e he hb)
     rw [unlisted hun] at this
     cases this
   have hnot : ∀ e ∈ oj.after, Region.binds md e = true → e.on ≠ i := fun e he hb heq => by
    have h2 := hall e he hb
    rw [heq, unlisted hun] at h2
    cases h2
   have h2 := wpOp_putIf hoj (hfree j oj hoj hji hjun hnot) (fun cs b => hsel i oi cs b hi) (fun cs b => hsel j oj cs b hoj) hQ hy h1
   have hfree' : ∀ k ok, ops[k]? = some ok → k ≠ i → (listed.setIfInBounds j true).getD k true = false →
     (∀ e ∈ ok.after, Region.binds md e = true → e.on ≠ i) → oi.apart ops ok = true := fun k ok hk hki hun hno => by
    refine hfree k ok hk hki ?_ hno
    by_cases hjk : j = k
    ·subst hjk; exact hjun
    ·rw [getD_set_ne true hjk] at hun; exact hun
   refine wpOp_mono (fun a' w' h3 => ⟨h3.2.1, ih (listed.setIfInBounds j true) a' w' (hsd.set hj) hfree' (ready_mono hr (Ne.symm hji)) h3.1 (h3.2.1 hlj hS) ?_⟩) h2
   rw [Array.setIfInBounds_comm _ _ hji]
   exact h3.2.2
theorem anyR_pure {i : Nat} {oi : Oper} {v : Value} (hi : ops[i]? = some oi) (hsel : ∀ (j : Nat) (o : Oper) cs b, ops[j]? = some o → o.op ≠ .select cs b)
  (hQ : ∀ c a w, Q (.panic c) (a.put oi.dst v) w → Q (.panic c) a w) :
  ∀ (fuel : Nat) (listed : Array Bool) (a : Act) (w : World),
   (∀ j oj, ops[j]? = some oj → j ≠ i → listed.getD j true = false → (∀ e ∈ oj.after, Region.binds md e = true → e.on ≠ i) → oi.apart ops oj = true) →
   i ∈ Region.ready md ops listed → YieldsIf P ops (fun _ => True) oi v a →
   AnyR P md ops Q S late fuel (listed.setIfInBounds i true) (a.put oi.dst v) w → AnyR P md ops Q S late (fuel + 1) listed a w := by
 intro fuel
 induction fuel with
 | zero =>
  intro listed a w _ hr hy H
  refine ⟨fun h => (by rw [h] at hr; cases hr), fun j hj => ?_⟩
  by_cases hji : j = i
  ·subst hji; exact hy.wpOp hi trivial ⟨fun _ h => h, H⟩
  ·have := ready_mono hj hji
   rw [H.1] at this
   cases this
 | succ fuel ih =>
  intro listed a w hfree hr hy H
  refine ⟨fun h => (by rw [h] at hr; cases hr), fun j hj => ?_⟩
  have hun := (mem_ready.1 hr).1
  by_cases hji : j = i
  ·subst hji; exact hy.wpOp hi trivial ⟨fun _ h => h, H⟩
  ·have h1 := H.2 j (ready_mono hj hji)
   obtain ⟨hjun, oj, hoj, hall⟩ := mem_ready.1 hj
   have hnot : ∀ e ∈ oj.after, Region.binds md e = true → e.on ≠ i := fun e he hb heq => by
    have h2 := hall e he hb
    rw [heq, unlisted hun] at h2
    cases h2
   have h2 := wpOp_putIf hoj (hfree j oj hoj hji hjun hnot) (fun cs b => hsel i oi cs b hi) (fun cs b => hsel j oj cs b hoj) hQ hy h1
   have hfree' : ∀ k ok, ops[k]? = some ok → k ≠ i → (listed.setIfInBounds j true).getD k true = false →
     (∀ e ∈ ok.after, Region.binds md e = true → e.on ≠ i) → oi.apart ops ok = true := fun k ok hk hki hun hno => by
    refine hfree k ok hk hki ?_ hno
    by_cases hjk : j = k
    ·subst hjk; exact hjun
    ·rw [getD_set_ne true hjk] at hun; exact hun
   refine wpOp_mono (fun a' w' h3 => ⟨h3.2.1, ih (listed.setIfInBounds j true) a' w' hfree' (ready_mono hr (Ne.symm hji)) h3.1 ?_⟩) h2
   rw [Array.setIfInBounds_comm _ _ hji]
   exact h3.2.2
def SeqQ (P : Program) (ops : Array Oper) (Q : Exit → Act → World → Prop) (S : World → Prop) (late : Nat → Bool) : PlanJ → Act → World → Prop
 | .fin, a, w => Q .normal a w
 | .rd i r, a, w => ∃ o v, ops[i]? = some o ∧ YieldsIf P ops S o v a ∧ S w ∧ (∀ c a w, Q (.panic c) (a.put o.dst v) w → Q (.panic c) a w) ∧ SeqQ P ops Q S late r (a.put o.dst v) w
 | .mv i r, a, w => ∃ o v, ops[i]? = some o ∧ YieldsIf P ops (fun _ => True) o v a ∧ (∀ c a w, Q (.panic c) (a.put o.dst v) w → Q (.panic c) a w) ∧ SeqQ P ops Q S late r (a.put o.dst v) w
 | .go i r, a, w => wpOp P ops Q i (fun a' w' => (late i = false → S w → S w') ∧ SeqQ P ops Q S late r a' w') a w
 | .two i j ri rj, a, w => wpOp P ops Q i (fun a' w' => (late i = false → S w → S w') ∧ SeqQ P ops Q S late ri a' w') a w ∧
   wpOp P ops Q j (fun a' w' => (late j = false → S w → S w') ∧ SeqQ P ops Q S late rj a' w') a w
 | .three i j k ri rj rk, a, w => wpOp P ops Q i (fun a' w' => (late i = false → S w → S w') ∧ SeqQ P ops Q S late ri a' w') a w ∧
   wpOp P ops Q j (fun a' w' => (late j = false → S w → S w') ∧ SeqQ P ops Q S late rj a' w') a w ∧
   wpOp P ops Q k (fun a' w' => (late k = false → S w → S w') ∧ SeqQ P ops Q S late rk a' w') a w
def planJ (md : Region.Mode) (ops : Array Oper) (late : Nat → Bool) : PlanJ → Array Bool → Bool
 | .fin, listed => (Region.ready md ops listed).isEmpty
 | .rd i r, listed => (Region.ready md ops listed).contains i && Region.free md ops listed i && (List.range ops.size).all (fun j => !late j || reachB md ops ops.size j i) && planJ md ops late r (listed.setIfInBounds i true)
 | .mv i r, listed => (Region.ready md ops listed).contains i && Region.free md ops listed i && planJ md ops late r (listed.setIfInBounds i true)
 | .go i r, listed => decide (Region.ready md ops listed = [i]) && planJ md ops late r (listed.setIfInBounds i true)
 | .two i j ri rj, listed => decide (Region.ready md ops listed = [i, j]) && decide (ri.len = rj.len) && planJ md ops late ri (listed.setIfInBounds i true) && planJ md ops late rj (listed.setIfInBounds j true)
 | .three i j k ri rj rk, listed => decide (Region.ready md ops listed = [i, j, k]) && decide (ri.len = rj.len) && decide (ri.len = rk.len) && planJ md ops late ri (listed.setIfInBounds i true) && planJ md ops late rj (listed.setIfInBounds j true) && planJ md ops late rk (listed.setIfInBounds k true)
theorem anyR_of_plan (hs : Region.noSelect ops = true) (hlt : ∀ j, late j = true → j < ops.size) : ∀ (l : PlanJ) (listed : Array Bool) (a : Act) (w : World),
  planJ md ops late l listed = true → ShutDown md ops listed → SeqQ P ops Q S late l a w → AnyR P md ops Q S late l.len listed a w
 | .fin, listed, a, w, hb, _, h => ⟨by simpa [planJ] using hb, h⟩
 | .rd i r, listed, a, w, hb, hd, h => by
  simp only [planJ, Bool.and_eq_true, Bool.not_eq_true', List.all_eq_true, List.mem_range, Bool.or_eq_true] at hb
  obtain ⟨⟨⟨h1, h2⟩, h4⟩, h5⟩ := hb
  obtain ⟨o, v, ho, hy, hS, hQ, hr⟩ := h
  have hri : i ∈ Region.ready md ops listed := by simpa using h1
  exact anyR_first ho (Region.noSelect_spec hs) hQ (N := ops.size) (fun j hj => by
   rcases h4 j (hlt j hj) with h | h
   ·rw [hj] at h; cases h
   ·exact h) r.len listed a w hd (Region.free_spec ho h2) hri hy hS (anyR_of_plan hs hlt r _ _ _ h5 (hd.set hri) hr)
 | .mv i r, listed, a, w, hb, hd, h => by
  simp only [planJ, Bool.and_eq_true] at hb
  obtain ⟨⟨h1, h2⟩, h5⟩ := hb
  obtain ⟨o, v, ho, hy, hQ, hr⟩ := h
  have hri : i ∈ Region.ready md ops listed := by simpa using h1
  exact anyR_pure ho (Region.noSelect_spec hs) hQ r.len listed a w (Region.free_spec ho h2) hri hy (anyR_of_plan hs hlt r _ _ _ h5 (hd.set hri) hr)
 | .go i r, listed, a, w, hb, hd, h => by
  simp only [planJ, Bool.and_eq_true, decide_eq_true_eq] at hb
  obtain ⟨h1, h2⟩ := hb
  have hri : i ∈ Region.ready md ops listed := by rw [h1]; simp
  refine ⟨fun h0 => (by rw [h1] at h0; cases h0), fun j hj => ?_⟩
  rw [h1] at hj
  obtain rfl : j = i := by simpa using hj
  exact wpOp_mono (fun a' w' k => ⟨k.1, anyR_of_plan hs hlt r _ _ _ h2 (hd.set hri) k.2⟩) h
 | .two i j ri rj, listed, a, w, hb, hd, h => by
  simp only [planJ, Bool.and_eq_true, decide_eq_true_eq] at hb
  obtain ⟨⟨⟨h1, h2⟩, h3⟩, h4⟩ := hb
  have hi : i ∈ Region.ready md ops listed := by rw [h1]; simp
  have hj : j ∈ Region.ready md ops listed := by rw [h1]; simp
  refine ⟨fun h0 => (by rw [h1] at h0; cases h0), fun k hk => ?_⟩
  rw [h1] at hk
  have hk2 : k = i ∨ k = j := by simpa using hk
  rcases hk2 with rfl | rfl
  ·exact wpOp_mono (fun a' w' q => ⟨q.1, anyR_of_plan hs hlt ri _ _ _ h3 (hd.set hi) q.2⟩) h.1
  ·refine wpOp_mono (fun a' w' q => ⟨q.1, ?_⟩) h.2
   have := anyR_of_plan hs hlt rj _ a' w' h4 (hd.set hj) q.2
   show AnyR P md ops Q S late ri.len _ a' w'
   rw [h2]
   exact this
 | .three i j k ri rj rk, listed, a, w, hb, hd, h => by
  simp only [planJ, Bool.and_eq_true, decide_eq_true_eq] at hb
  obtain ⟨⟨⟨⟨⟨h1, h2⟩, h2b⟩, h3⟩, h4⟩, h5⟩ := hb
  have hi : i ∈ Region.ready md ops listed := by rw [h1]; simp
  have hj : j ∈ Region.ready md ops listed := by rw [h1]; simp
  have hk0 : k ∈ Region.ready md ops listed := by rw [h1]; simp
  refine ⟨fun h0 => (by rw [h1] at h0; cases h0), fun q hq => ?_⟩
  rw [h1] at hq
  have hk2 : q = i ∨ q = j ∨ q = k := by simpa using hq
  rcases hk2 with rfl | rfl | rfl
  ·exact wpOp_mono (fun a' w' q => ⟨q.1, anyR_of_plan hs hlt ri _ _ _ h3 (hd.set hi) q.2⟩) h.1
  ·refine wpOp_mono (fun a' w' q => ⟨q.1, ?_⟩) h.2.1
   have := anyR_of_plan hs hlt rj _ a' w' h4 (hd.set hj) q.2
   show AnyR P md ops Q S late ri.len _ a' w'
   rw [h2]
   exact this
  ·refine wpOp_mono (fun a' w' q => ⟨q.1, ?_⟩) h.2.2
   have := anyR_of_plan hs hlt rk _ a' w' h5 (hd.set hk0) q.2
   show AnyR P md ops Q S late ri.len _ a' w'
   rw [h2b]
   exact this
structure SeqJ (P : Program) (ops : Array Oper) (Q : Exit → Act → World → Prop) (S : World → Prop) (late : Nat → Bool) (l : PlanJ) (a : Act) (w : World) : Prop where
 out : SeqQ P ops Q S late l a w
theorem region_J {id : Nat} {a : Act} {w : World} (l : PlanJ) (lt : List Nat) (hm : P.follows .mixedOrders = true)
  (hb : (Region.noSelect ops && lt.all (fun j => decide (j < ops.size)) && decide (l.len = ops.size) && planJ .any ops (lateOf lt) l (Array.replicate ops.size false)) = true)
  (h : SeqJ P ops Q S (lateOf lt) l a w.drew) : (Code.region id ops true).wp P Q a w := by
 simp only [Bool.and_eq_true, decide_eq_true_eq] at hb
 obtain ⟨⟨⟨h1, h2⟩, h3⟩, h4⟩ := hb
 have h5 := anyR_of_plan (P := P) (Q := Q) (S := S) h1 (fun j hj => by
  have := List.all_eq_true.1 h2 j (by simpa [lateOf] using hj)
  simpa using this) l _ a w.drew h4 (shutDown_start ops.size) h.out
 rw [h3] at h5
 exact wp_region_any hm (any_of_anyR _ _ _ _ h5)
theorem sJ_end {a : Act} {w : World} (h : Q .normal a w) : SeqJ P ops Q S late .fin a w := ⟨h⟩
theorem sJ_read {i : Nat} {o : Oper} {v : Value} {r : PlanJ} {a : Act} {w : World} (ho : ops[i]? = some o) (hQ : ∀ c a w, Q (.panic c) (a.put o.dst v) w → Q (.panic c) a w) (hw : Region.wanted o (yielded ops a.tmps) = true) (hS : S w)
  (hy : ∀ w, S w → (execOp a.eval o).run P w = .ok (.value v) w) (h : SeqJ P ops Q S late r (a.put o.dst v) w) : SeqJ P ops Q S late (.rd i r) a w := ⟨⟨o, v, ho, Or.inl ⟨hw, hy⟩, hS, hQ, h.out⟩⟩
theorem sJ_mv {i : Nat} {o : Oper} {v : Value} {r : PlanJ} {a : Act} {w : World} (ho : ops[i]? = some o) (hQ : ∀ c a w, Q (.panic c) (a.put o.dst v) w → Q (.panic c) a w) (hw : Region.wanted o (yielded ops a.tmps) = true)
  (hy : ∀ w, (execOp a.eval o).run P w = .ok (.value v) w) (h : SeqJ P ops Q S late r (a.put o.dst v) w) : SeqJ P ops Q S late (.mv i r) a w := ⟨⟨o, v, ho, Or.inl ⟨hw, fun w _ => hy w⟩, hQ, h.out⟩⟩
theorem sJ_do {i : Nat} {o : Oper} {r : PlanJ} {a : Act} {w : World} (ho : ops[i]? = some o) (hw : Region.wanted o (yielded ops a.tmps) = true)
  (h : ∀ K : Act → World → Prop, (∀ a w', (late i = false → S w → S w') → SeqJ P ops Q S late r a w' → K a w') → WpI P o a w K Q) : SeqJ P ops Q S late (.go i r) a w :=
 ⟨wpOp_step ho (fun K' hK => by rw [if_pos hw]; exact (h K' (fun a w h1 h2 => hK a w ⟨h1, h2.out⟩)).out)⟩
end
end Go.Proofs.Ytdhblehhgpdpdaa
