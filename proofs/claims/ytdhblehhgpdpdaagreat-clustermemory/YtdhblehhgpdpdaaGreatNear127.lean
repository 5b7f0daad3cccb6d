import Derived.Test.YtdhblehhgpdpdaaGreatNear124
import Derived.Test.YtdhblehhgpdpdaaGreatNear131
import Derived.Deep.Slices
import Derived.Deep.Strs
import Derived.Deep.Grids
import Derived.Test.YtdhblehhgpdpdaaGreatRows
import Derived.Test.YtdhblehhgpdpdaaGreatByteMem
import Derived.Lib.SmallJoins
import Derived.OpenShut
import Derived.SizedLaws
import Derived.ChangeSlices
import Derived.Test.YtdhblehhgpdpdaaGreatNear80
import Derived.Test.YtdhblehhgpdpdaaGreatCod
namespace Go.Proofs.YtdhblehhgpdpdaaGreat
open Go.ChangeShapes Go.WideShapes Go.ChangeAt Go.RowKit Go.Joins
set_option maxRecDepth 100000
instance : Inhabited Lm := ⟨⟨⟨0, 0, 0, []⟩, none, 0⟩⟩
def CellK (b : Bool) (v : Value) : Prop := (b = true ∧ ∃ x, v = .bool x) ∨ (b = false ∧ ∃ x, v = .int .i64 x ∧ R64 x)
theorem cellsIntN : Tryz.prog.cellsOf 3 = 1 := by kernel_rfl
section
variable {H : Type} {enc : TypeId × Value → H} {w : World} {base : Nat} {held : Bool}
def Flat (enc : TypeId × Value → H) (w : World) (base : Nat) (held : Bool) (t : TypeId) (n : Nat) (K : Nat → Bool) : Prop :=
 Tryz.prog.cellsOf t = n ∧ ∀ fuel cs x, DataW.trod enc Tryz.prog w base (fun _ => true) held fuel t cs = some x → ∀ j v, cs[j]? = some v → CellK (K j) v
theorem flat_int : Flat enc w base held 3 1 (fun _ => false) := ⟨cellsIntN, fun fuel cs x h j v hv => by
 obtain ⟨z, rfl, _, hw⟩ := DataW.trod_int Tryz.underlying3 h
 match j, hv with
 | 0, hv => exact Or.inr ⟨rfl, z, (Option.some.inj hv).symm, R64.of_wf hw⟩⟩
theorem trod_arr {t e : TypeId} {n fuel : Nat} {cs : List Value} {x : DataW H × List MemPlace} (ht : Tryz.prog.underlying t = some (.array n e)) (h : DataW.trod enc Tryz.prog w base (fun _ => true) held fuel t cs = some x) :
  cs.length = Tryz.prog.cellsOf t ∧ ∃ m, ∀ i, i < n → ∃ y, DataW.trod enc Tryz.prog w base (fun _ => true) held m e ((cs.drop (i * Tryz.prog.cellsOf e)).take (Tryz.prog.cellsOf e)) = some y := by
 cases fuel with
 | zero => simp [DataW.trod] at h
 | succ m =>
  unfold DataW.trod at h
  rw [ht] at h
  simp only [Option.ite_none_right_eq_some, Option.map_eq_some_iff] at h
  obtain ⟨hl, xs, hp, _⟩ := h
  refine ⟨hl, m, fun i hi => ?_⟩
  have hg := mapM_some_get hp i i (by simp [hi])
  have hlen := mapM_some_length hp
  rw [List.length_range] at hlen
  exact ⟨xs[i]'(by omega), by rw [hg, List.getElem?_eq_getElem]⟩
theorem drop_take_get {cs : List Value} {o n j : Nat} (hj : j < n) : ((cs.drop o).take n)[j]? = cs[o + j]? := by
 rw [List.getElem?_take, if_pos hj, List.getElem?_drop]
theorem flat_arr {t e : TypeId} {n m N : Nat} {K : Nat → Bool} (ht : Tryz.prog.underlying t = some (.array n e)) (he : Flat enc w base held e m K) (hm : 0 < m) (hc : Tryz.prog.cellsOf t = N) (hN : N = n * m) : Flat enc w base held t N (fun j => K (j % m)) := ⟨hc, fun fuel cs x h j v hv => by
 obtain ⟨hl, q, hx⟩ := trod_arr ht h
 have hj : j < N := by have := (List.getElem?_eq_some_iff.1 hv).1; omega
 have hd : j / m < n := by
  rw [Nat.div_lt_iff_lt_mul hm, ← hN]; exact hj
 obtain ⟨y, hy⟩ := hx (j / m) hd
 rw [he.1] at hy
 refine he.2 _ _ _ hy (j % m) v ?_
 rw [drop_take_get (Nat.mod_lt _ hm), ← hv]
 congr 1
 rw [Nat.mul_comm]
 exact Nat.div_add_mod j m⟩
theorem flat_part {t : TypeId} {fs : Array Field} {n fuel : Nat} {cs : List Value} {x : DataW H × List MemPlace} {K : Nat → Bool} {i : Nat} {f : Field} (ht : Tryz.prog.underlying t = some (.struct fs)) (hf : fs[i]? = some f) (he : Flat enc w base held f.type n K)
  (h : DataW.trod enc Tryz.prog w base (fun _ => true) held fuel t cs = some x) : ∀ j v, j < n → cs[f.offset + j]? = some v → CellK (K j) v := by
 obtain ⟨xs, m, _, _, _, hlen, hx⟩ := DataW.trod_struct ht h
 intro j v hj hv
 have hg := hx i f hf
 have hi : i < fs.size := (Array.getElem?_eq_some_iff.1 hf).1
 rw [List.getElem?_eq_getElem (by omega), he.1] at hg
 exact he.2 _ _ _ hg j v (by rw [drop_take_get hj]; exact hv)
theorem flat_struct {t : TypeId} {fs : Array Field} {N : Nat} {K : Nat → Bool} (ht : Tryz.prog.underlying t = some (.struct fs)) (hc : Tryz.prog.cellsOf t = N) (ix : Nat → Nat) (hcov : ∀ j, j < N → ∃ f n, fs[ix j]? = some f ∧ f.offset ≤ j ∧ j < f.offset + n ∧ Flat enc w base held f.type n (fun i => K (f.offset + i))) : Flat enc w base held t N K := ⟨hc, fun fuel cs x h j v hv => by
 have hj : j < N := by
  obtain ⟨xs, m, _, _, hl, _⟩ := DataW.trod_struct ht h
  have := (List.getElem?_eq_some_iff.1 hv).1
  omega
 obtain ⟨f, n, hf, h1, h2, hfl⟩ := hcov j hj
 have := flat_part ht hf hfl h (j - f.offset) v (by omega) (by rw [Nat.add_sub_cancel' h1]; exact hv)
 rw [Nat.add_sub_cancel' h1] at this
 exact this⟩
set_option maxRecDepth 100000 in
theorem flat_tn : Flat enc w base held 23 4 (fun _ => false) := flat_struct Tryz.underlying23 (by kernel_rfl) id (fun j hj => by
 match j, hj with
 | 0, _ => exact ⟨_, 1, rfl, Nat.le_refl _, by decide, flat_int⟩
 | 1, _ => exact ⟨_, 1, rfl, Nat.le_refl _, by decide, flat_int⟩
 | 2, _ => exact ⟨_, 1, rfl, Nat.le_refl _, by decide, flat_int⟩
 | 3, _ => exact ⟨_, 1, rfl, Nat.le_refl _, by decide, flat_int⟩)
theorem flat_i3 : Flat enc w base held 31 3 (fun _ => false) := flat_arr Tryz.underlying31 flat_int (by decide) (by kernel_rfl) rfl
theorem flat_i43 : Flat enc w base held 32 12 (fun _ => false) := flat_arr Tryz.underlying32 flat_i3 (by decide) (by kernel_rfl) rfl
end
def vI : Value → Int
 | .int _ x => x
 | _ => 0
def vB : Value → Bool
 | .bool b => b
 | _ => false
theorem CellK.i {v : Value} (h : CellK false v) : iV (vI v) = v := by
 rcases h with ⟨h, _⟩ | ⟨_, x, rfl, _⟩
 ·cases h
 ·rfl
theorem CellK.b {v : Value} (h : CellK true v) : .bool (vB v) = v := by
 rcases h with ⟨_, x, rfl⟩ | ⟨h, _⟩
 ·rfl
 ·cases h
theorem CellK.R {b : Bool} {v : Value} (h : CellK b v) : R64 (vI v) := by
 rcases h with ⟨_, x, rfl⟩ | ⟨_, x, rfl, hx⟩
 ·exact R64_nought
 ·exact hx
theorem agV_list {cs : List Value} {f : Nat → Value} {n : Nat} (hl : cs.length = n) (h : ∀ j, j < n → cs[j]? = some (f j)) : Value.agg cs.toArray = agV f 0 n := by
 unfold agV
 congr 2
 refine List.ext_getElem? (fun j => ?_)
 by_cases hj : j < n
 ·rw [h j hj, List.getElem?_map, List.getElem?_range hj]
  show _ = some (f (0 + j))
  rw [Nat.zero_add]
 ·rw [List.getElem?_eq_none (by omega), List.getElem?_eq_none (by simp; omega)]
section
variable {H : Type} {enc : TypeId × Value → H} {w : World} {base : Nat} {held : Bool}
theorem cells_of {cs : List Value} {o n j0 : Nat} {K : Nat → Bool} {K2 : Nat → Bool} (h : ∀ j v, j < n → cs[o + j]? = some v → CellK (K j) v) (hl : o + n ≤ cs.length) (h1 : o ≤ j0) (h2 : j0 < o + n) (e : K (j0 - o) = K2 j0) : CellK (K2 j0) (cs.getD j0 (.int .i64 0)) := by
 rw [← e]
 refine h (j0 - o) _ (by omega) ?_
 rw [Nat.add_sub_cancel' h1, List.getD_eq_getElem?_getD, List.getElem?_eq_getElem (by omega)]
 rfl
set_option maxRecDepth 100000 in
theorem open_tnArg {r : Reach} {b0 : Nat} {v : Value} {d : DataW H} {p : List MemPlace} (hv : Value.okWide Tryz.prog w r b0 23 v) (h : DataW.Trod enc Tryz.prog w base (fun _ => true) held 23 v d p) :
  ∃ t : Tn, v = agV (ntnF t) 0 4 ∧ t.Ok := by
 obtain ⟨cs, rfl, hs⟩ := okWide_struct Tryz.underlying23 hv
 obtain ⟨fuel, hf⟩ := h
 have hf' : DataW.trod enc Tryz.prog w base (fun _ => true) held fuel 23 cs.toList = some (d, p) := hf
 have hl : cs.toList.length = 4 := by rw [Array.length_toList, hs]; kernel_rfl
 have hg : ∀ j, j < 4 → CellK false (cs.toList.getD j (.int .i64 0)) := fun j hj => flat_tn.2 _ _ _ hf' j _ (by rw [List.getD_eq_getElem?_getD, List.getElem?_eq_getElem (by omega)]; rfl)
 refine ⟨⟨vI (cs.toList.getD 0 (.int .i64 0)), vI (cs.toList.getD 1 (.int .i64 0)), vI (cs.toList.getD 2 (.int .i64 0)), vI (cs.toList.getD 3 (.int .i64 0))⟩, ?_, (hg 0 (by omega)).R, (hg 1 (by omega)).R, (hg 2 (by omega)).R, (hg 3 (by omega)).R⟩
 have := agV_list hl (f := ntnF ⟨vI (cs.toList.getD 0 (.int .i64 0)), vI (cs.toList.getD 1 (.int .i64 0)), vI (cs.toList.getD 2 (.int .i64 0)), vI (cs.toList.getD 3 (.int .i64 0))⟩) (fun j hj => by
  have e : cs.toList[j]? = some (cs.toList.getD j (.int .i64 0)) := by rw [List.getD_eq_getElem?_getD, List.getElem?_eq_getElem (by omega)]; rfl
  rw [e]
  congr 1
  match j, hj with
  | 0, _ => exact (hg 0 (by omega)).i.symm
  | 1, _ => exact (hg 1 (by omega)).i.symm
  | 2, _ => exact (hg 2 (by omega)).i.symm
  | 3, _ => exact (hg 3 (by omega)).i.symm)
 rwa [Array.toArray_toList] at this
theorem weightsAll_memN {e : TypeId} {l : List (DataW H)} {d : DataW H} (hd : d ∈ l) : ∀ n, n ∈ d.weights Tryz.prog e → n ∈ DataW.weightsAll Tryz.prog e l := by
 induction l with
 | nil => cases hd
 | cons x l ih =>
  intro n hn
  unfold DataW.weightsAll
  rcases List.mem_cons.1 hd with rfl | hd
  ·exact List.mem_append.2 (Or.inl hn)
  ·exact List.mem_append.2 (Or.inr (ih hd n hn))
end
end Go.Proofs.YtdhblehhgpdpdaaGreat
namespace Go.Proofs.YtdhblehhgpdpdaaGreat
open Go.ChangeShapes Go.WideShapes Go.ChangeAt Go.RowKit Go.Joins
set_option maxRecDepth 100000
def ArgB (w : World) (ao : Option Addr) (len cap : Nat) (g : Nat → Nat) : Prop :=
 Sr w ao len cap (bF g) ∧ len ≤ 140737488351232 ∧ (∀ i, g i < 256) ∧ len ≤ cap
theorem ArgB.below {w w' : World} {ao : Option Addr} {len cap : Nat} {g : Nat → Nat} (h : ArgB w ao len cap g) (k : Below w.heap.size w w') : ArgB w' ao len cap g := ⟨h.1.below k, h.2⟩
theorem bytesByte : Tryz.prog.bytesOf 5 = 1 := by kernel_rfl
theorem cellsByte : Tryz.prog.cellsOf 5 = 1 := by kernel_rfl
section
variable {H : Type} {enc : TypeId × Value → H} {w : World} {base : Nat} {held : Bool}
set_option maxRecDepth 100000 in
theorem open_bytes {fuel : Nat} {v : Value} {x : DataW H × List MemPlace} (h : DataW.trod enc Tryz.prog w base (fun _ => true) held fuel 57 [v] = some x) (hsz : ∀ n ∈ x.1.weights Tryz.prog 57, n ≤ reachBytes) :
  ∃ ao len cap g, v = .slice ao len cap ∧ ArgB w ao len cap g := by
 rcases open_ints Tryz.underlying57 Tryz.underlying5 cellsByte h with ⟨hcs, _⟩ | ⟨a, len, cap, zs, hcs, _, hl, _, hz, hx, hcell, hwz⟩
 ·simp at hcs
  exact ⟨none, 0, 0, fun _ => 0, hcs, Or.inl ⟨rfl, rfl, rfl⟩, by decide, fun _ => by show 0 < 256; omega, Nat.le_refl _⟩
 ·simp at hcs
  have hz' : zs.length = cap := by simpa using hz
  have hb : zs.length * 1 ≤ reachBytes := by
   refine hsz _ ?_
   rw [hx]
   simp [DataW.weights, Tryz.underlying57, bytesByte, lits]
   left; omega
  have hw : ∀ i, i < zs.length → 0 ≤ zs.getD i 0 ∧ zs.getD i 0 < 256 := by
   intro i hi
   have e : zs.getD i 0 = zs[i] := by simp [List.getD, hi]
   have := hwz _ (List.getElem_mem hi)
   rw [e]
   simp [Lit.wf, IntKind.min, IntKind.max, IntKind.bits, IntKind.signed] at this
   omega
  refine ⟨some a, len, cap, fun i => if i < len then (zs.getD i 0).toNat else 0, hcs, Or.inr ⟨a, rfl, fun i hi => ?_⟩, by unfold reachBytes at hb; omega, fun i => ?_, hl⟩
  ·rw [hcell i (by omega)]
   show some (Value.int .u8 (zs.getD i 0)) = some (Value.int .u8 ((if i < len then (zs.getD i 0).toNat else 0 : Nat) : Int))
   rw [if_pos hi, Int.toNat_of_nonneg (hw i (by omega)).1]
  ·show (if i < len then (zs.getD i 0).toNat else 0) < 256
   split
   ·have := hw i (by omega); omega
   ·omega
end
end Go.Proofs.YtdhblehhgpdpdaaGreat
namespace Go.Proofs.YtdhblehhgpdpdaaGreat
open Go
theorem wp_call4n (w : World) {P : Program} {Q : Exit → Act → World → Prop} {o : Oper} {a : Act} {K : Act → World → Prop} (n : Nat) (x y z u : Operand) (T : Array TypeId) (ho : o.op = .call { callee := .value (.func n), args := #[x, y, z, u], argTypes := T }) {p q r s : Value} (hx : a.eval x = p) (hy : a.eval y = q) (hz : a.eval z = r) (hu : a.eval u = s) (hf : (callFunc n #[p, q, r, s]).run P w = .ok (.enter n #[p, q, r, s]) w) {R : Ending → World → Prop} (hc : Calls P n #[p, q, r, s] w R)
  (h : ∀ e w', R e w' → ∃ r, e = .returned r ∧ K (a.put o.dst r) w') : WpI P o a w K Q := by
 refine ⟨?_⟩
 have e : (execOp a.eval o).run P w = .ok (.enter n #[p, q, r, s]) w := by
  unfold execOp
  rw [ho]
  have hv2 : a.eval (Operand.func n) = .func (.func n) #[] #[] := rfl
  simp only [resolve, invoke, Sem.run_bind, List.map_toArray, List.map_cons, List.map_nil, hx, hy, hz, hu, hv2]
  go_simp
 unfold Oper.wp
 rw [e, Oper.upon_enter]
 refine hc.mono ?_
 intro e w' hr
 obtain ⟨r, rfl, hk⟩ := h e w' hr
 exact hk
end Go.Proofs.YtdhblehhgpdpdaaGreat
namespace Go.Proofs.YtdhblehhgpdpdaaGreat
open Go
theorem wp_call3n (w : World) {P : Program} {Q : Exit → Act → World → Prop} {o : Oper} {a : Act} {K : Act → World → Prop} (n : Nat) (x y z : Operand) (T : Array TypeId) (ho : o.op = .call { callee := .value (.func n), args := #[x, y, z], argTypes := T }) {p q r : Value} (hx : a.eval x = p) (hy : a.eval y = q) (hz : a.eval z = r) (hf : (callFunc n #[p, q, r]).run P w = .ok (.enter n #[p, q, r]) w) {R : Ending → World → Prop} (hc : Calls P n #[p, q, r] w R)
  (h : ∀ e w', R e w' → ∃ r, e = .returned r ∧ K (a.put o.dst r) w') : WpI P o a w K Q := by
 refine ⟨?_⟩
 have e : (execOp a.eval o).run P w = .ok (.enter n #[p, q, r]) w := by
  unfold execOp
  rw [ho]
  have hv2 : a.eval (Operand.func n) = .func (.func n) #[] #[] := rfl
  simp only [resolve, invoke, Sem.run_bind, List.map_toArray, List.map_cons, List.map_nil, hx, hy, hz, hv2]
  go_simp
 unfold Oper.wp
 rw [e, Oper.upon_enter]
 refine hc.mono ?_
 intro e w' hr
 obtain ⟨r, rfl, hk⟩ := h e w' hr
 exact hk
end Go.Proofs.YtdhblehhgpdpdaaGreat
namespace Go.Proofs.YtdhblehhgpdpdaaGreat
open Go.RowKit
structure It where
 p : World → Prop
 foot : Nat → Prop
 ok : ∀ {w w' : World}, p w → (∀ k, k < w.heap.size → foot k → w'.heap[k]? = w.heap[k]?) → p w'
 lt : ∀ {w : World} {k : Nat}, p w → foot k → k < w.heap.size
theorem rw_same {t : TypeId} {B s n : Nat} {w w' : World} {v : Value} {xs : List Value} (h : w.ownsRow B t s v n xs) (e : ∀ k, v.ownBlock = some k → w'.heap[k]? = w.heap[k]?) : w'.ownsRow B t s v n xs := by
 refine ⟨h.1, ?_⟩
 rcases h.2 with hn | ⟨g, cap, cur, rfl, hb, hgg, rest⟩
 ·exact .inl hn
 ·exact .inr ⟨g, cap, cur, rfl, hb, (e g rfl).trans hgg, rest⟩
def vhI (t : TypeId) (b N cap : Nat) (g : Nat → Value) : It := ⟨fun w => Vh t w b N cap g, fun k => k = b, fun h e => Vh.same h (e _ h.lt rfl), fun h e => e ▸ h.lt⟩
def ownI (B : Nat) (t : TypeId) (s : Nat) (v : Value) (n : Nat) (xs : List Value) : It := ⟨fun w => w.ownsRow B t s v n xs, fun k => v.ownBlock = some k, fun h e => rw_same h (fun k hk => e k (h.lt k hk).2 hk), fun h e => (h.lt _ e).2⟩
structure Cx (w0 w : World) (l : List It) : Prop where
 bel : Below w0.heap.size w0 w
 it : ∀ x, x ∈ l → x.p w
 up : ∀ x, x ∈ l → ∀ k, x.foot k → w0.heap.size ≤ k
 dis : l.Pairwise fun x y => ∀ k, x.foot k → ¬ y.foot k
section
variable {w0 w w' : World} {l a b : List It} {x y : It}
theorem Cx.start (w0 : World) : Cx w0 w0 [] := ⟨Below.refl _ _, fun _ h => (by cases h), fun _ h => (by cases h), List.Pairwise.nil⟩
theorem Cx.size (H : Cx w0 w l) : w0.heap.size ≤ w.heap.size := H.bel.size
theorem Cx.call (H : Cx w0 w l) (k : Below w.heap.size w w') : Cx w0 w' l := ⟨H.bel.trans (k.mono H.size), fun x hx => x.ok (H.it x hx) (fun j hj _ => k.block j hj), H.up, H.dis⟩
theorem Cx.drew (H : Cx w0 w l) : Cx w0 w.drew l := H.call ⟨rfl, rfl, rfl, Nat.le_refl _, fun _ _ => rfl⟩
theorem Cx.add (H : Cx w0 w l) (k : Below w.heap.size w w') (x : It) (hx : x.p w') (hf : ∀ j, x.foot j → w.heap.size ≤ j) : Cx w0 w' (x :: l) := by
 have H' := H.call k
 have hs := H.size
 refine ⟨H'.bel, fun y hy => ?_, fun y hy j hj => ?_, List.Pairwise.cons (fun y hy j h1 h2 => ?_) H.dis⟩
 ·rcases List.mem_cons.1 hy with rfl | hy
  ·exact hx
  ·exact H'.it y hy
 ·rcases List.mem_cons.1 hy with rfl | hy
  ·have := hf j hj; omega
  ·exact H.up y hy j hj
 ·have h3 := hf j h1
  have h4 := y.lt (H.it y hy) h2
  omega
theorem Cx.put (H : Cx w0 w (a ++ x :: b)) (os : w'.os = w.os) (tape : w'.tape = w.tape) (output : w'.output = w.output) (size : w.heap.size ≤ w'.heap.size) (hk : ∀ k, k < w.heap.size → ¬ x.foot k → w'.heap[k]? = w.heap[k]?) (y : It) (hy : y.p w') (hf : ∀ j, y.foot j → x.foot j ∨ w.heap.size ≤ j) : Cx w0 w' (a ++ y :: b) := by
 have hs := H.size
 obtain ⟨d1, d2, d3⟩ := List.pairwise_append.1 H.dis
 obtain ⟨d4, d5⟩ := List.pairwise_cons.1 d2
 have hx : x ∈ a ++ x :: b := by simp
 have inA : ∀ z, z ∈ a → z ∈ a ++ x :: b := fun z hz => List.mem_append_left _ hz
 have inB : ∀ z, z ∈ b → z ∈ a ++ x :: b := fun z hz => List.mem_append_right _ (List.mem_cons_of_mem _ hz)
 have far : ∀ z, z ∈ a ++ x :: b → ∀ j, z.foot j → ¬ w.heap.size ≤ j := fun z hz j h1 h2 => by have := z.lt (H.it z hz) h1; omega
 refine ⟨⟨os.trans H.bel.os, tape.trans H.bel.tape, output.trans H.bel.output, Nat.le_trans H.bel.size size, fun k hkk => (hk k (by omega) (fun e => by have := H.up x hx k e; omega)).trans (H.bel.block k hkk)⟩, fun z hz => ?_, fun z hz j hj => ?_, List.pairwise_append.2 ⟨d1, List.pairwise_cons.2 ⟨fun z hz j h1 h2 => ?_, d5⟩, fun z hz u hu j h1 h2 => ?_⟩⟩
 ·rcases List.mem_append.1 hz with hz | hz
  ·exact z.ok (H.it z (inA z hz)) (fun k h1 h2 => hk k h1 (fun h3 => d3 z hz x (List.mem_cons_self) k h2 h3))
  ·rcases List.mem_cons.1 hz with rfl | hz
   ·exact hy
   ·exact z.ok (H.it z (inB z hz)) (fun k h1 h2 => hk k h1 (fun h3 => d4 z hz k h3 h2))
 ·rcases List.mem_append.1 hz with hz | hz
  ·exact H.up z (inA z hz) j hj
  ·rcases List.mem_cons.1 hz with rfl | hz
   ·rcases hf j hj with h | h
    ·exact H.up x hx j h
    ·omega
   ·exact H.up z (inB z hz) j hj
 ·rcases hf j h1 with h | h
  ·exact d4 z hz j h h2
  ·exact far z (inB z hz) j h2 h
 ·rcases List.mem_cons.1 hu with rfl | hu
  ·rcases hf j h2 with h | h
   ·exact d3 z hz x (List.mem_cons_self) j h1 h
   ·exact far z (inA z hz) j h1 h
  ·exact d3 z hz u (List.mem_cons_of_mem _ hu) j h1 h2
theorem Cx.sub {m : List It} (H : Cx w0 w l) (h : m.Sublist l) : Cx w0 w m := ⟨H.bel, fun x hx => H.it x (h.subset hx), fun x hx => H.up x (h.subset hx), H.dis.sublist h⟩
theorem Cx.perm {m : List It} (H : Cx w0 w l) (h : l.Perm m) : Cx w0 w m := ⟨H.bel, fun x hx => H.it x (h.mem_iff.2 hx), fun x hx => H.up x (h.mem_iff.2 hx), H.dis.perm h (fun h1 k h2 h3 => h1 k h3 h2)⟩
theorem Cx.base {v0 : World} (H : Cx w0 w l) (k : Below v0.heap.size v0 w0) (hs : v0.heap.size ≤ w0.heap.size) : Cx v0 w l := ⟨k.trans (H.bel.mono hs), H.it, fun x hx j hj => Nat.le_trans hs (H.up x hx j hj), H.dis⟩
theorem Cx.tl (H : Cx w0 w (x :: l)) : Cx w0 w l := H.sub (List.sublist_cons_self x l)
end
structure Its (l : List It) (w : World) : Prop where
 it : ∀ x, x ∈ l → x.p w
theorem Its.nil (w : World) : Its [] w := ⟨fun _ h => (by cases h)⟩
theorem Its.cons {w : World} {x : It} {l : List It} (h : x.p w) (t : Its l w) : Its (x :: l) w := ⟨fun y hy => by
 rcases List.mem_cons.1 hy with rfl | hy
 ·exact h
 ·exact t.it y hy⟩
theorem Its.tl {w : World} {x : It} {l : List It} (h : Its (x :: l) w) : Its l w := ⟨fun y hy => h.it y (List.mem_cons_of_mem _ hy)⟩
theorem Cx.v0 {w0 w : World} {l : List It} {t : TypeId} {b N cap : Nat} {g : Nat → Value} (H : Cx w0 w (vhI t b N cap g :: l)) : Vh t w b N cap g := H.it _ (List.mem_cons_self)
theorem Its.v0 {w : World} {l : List It} {t : TypeId} {b N cap : Nat} {g : Nat → Value} (H : Its (vhI t b N cap g :: l) w) : Vh t w b N cap g := H.it _ (List.mem_cons_self)
theorem Cx.o0 {w0 w : World} {l : List It} {x : It} (H : Cx w0 w (x :: l)) : x.p w := H.it _ (List.mem_cons_self)
theorem Cx.p0 {w0 w w' : World} {l : List It} {x : It} (H : Cx w0 w (x :: l)) (os : w'.os = w.os) (tape : w'.tape = w.tape) (output : w'.output = w.output) (size : w.heap.size ≤ w'.heap.size) (hk : ∀ k, k < w.heap.size → ¬ x.foot k → w'.heap[k]? = w.heap[k]?) (y : It) (hy : y.p w') (hf : ∀ j, y.foot j → x.foot j ∨ w.heap.size ≤ j) : Cx w0 w' (y :: l) := Cx.put (a := []) H os tape output size hk y hy hf
theorem Cx.s0 {w0 w w' : World} {l : List It} {t : TypeId} {b N cap : Nat} {g g' : Nat → Value} (H : Cx w0 w (vhI t b N cap g :: l)) (k : Kept b w w') (m : Vh t w' b N cap g') : Cx w0 w' (vhI t b N cap g' :: l) := Cx.p0 H k.os k.tape k.output k.size (fun j h1 h2 => k.block j h1 h2) (vhI t b N cap g') m (fun _ h => Or.inl h)
theorem Cx.v1 {w0 w : World} {x0 : It} {l : List It} {t : TypeId} {b N cap : Nat} {g : Nat → Value} (H : Cx w0 w (x0 :: vhI t b N cap g :: l)) : Vh t w b N cap g := H.it _ (List.mem_cons_of_mem _ (List.mem_cons_self))
theorem Its.v1 {w : World} {x0 : It} {l : List It} {t : TypeId} {b N cap : Nat} {g : Nat → Value} (H : Its (x0 :: vhI t b N cap g :: l) w) : Vh t w b N cap g := H.it _ (List.mem_cons_of_mem _ (List.mem_cons_self))
theorem Cx.o1 {w0 w : World} {x0 : It} {l : List It} {x : It} (H : Cx w0 w (x0 :: x :: l)) : x.p w := H.it _ (List.mem_cons_of_mem _ (List.mem_cons_self))
theorem Cx.p1 {w0 w w' : World} {x0 : It} {l : List It} {x : It} (H : Cx w0 w (x0 :: x :: l)) (os : w'.os = w.os) (tape : w'.tape = w.tape) (output : w'.output = w.output) (size : w.heap.size ≤ w'.heap.size) (hk : ∀ k, k < w.heap.size → ¬ x.foot k → w'.heap[k]? = w.heap[k]?) (y : It) (hy : y.p w') (hf : ∀ j, y.foot j → x.foot j ∨ w.heap.size ≤ j) : Cx w0 w' (x0 :: y :: l) := Cx.put (a := [x0]) H os tape output size hk y hy hf
theorem Cx.s1 {w0 w w' : World} {x0 : It} {l : List It} {t : TypeId} {b N cap : Nat} {g g' : Nat → Value} (H : Cx w0 w (x0 :: vhI t b N cap g :: l)) (k : Kept b w w') (m : Vh t w' b N cap g') : Cx w0 w' (x0 :: vhI t b N cap g' :: l) := Cx.p1 H k.os k.tape k.output k.size (fun j h1 h2 => k.block j h1 h2) (vhI t b N cap g') m (fun _ h => Or.inl h)
theorem Cx.f1 {w0 w : World} {x0 : It} {x : It} {l : List It} (H : Cx w0 w (x0 :: x :: l)) : Cx w0 w (x :: x0 :: l) := H.perm (List.perm_middle (l₁ := [x0]))
theorem Cx.b1 {w0 w : World} {x0 : It} {x : It} {l : List It} (H : Cx w0 w (x :: x0 :: l)) : Cx w0 w (x0 :: x :: l) := H.perm (List.perm_middle (l₁ := [x0])).symm
theorem Cx.v2 {w0 w : World} {x0 x1 : It} {l : List It} {t : TypeId} {b N cap : Nat} {g : Nat → Value} (H : Cx w0 w (x0 :: x1 :: vhI t b N cap g :: l)) : Vh t w b N cap g := H.it _ (List.mem_cons_of_mem _ (List.mem_cons_of_mem _ (List.mem_cons_self)))
theorem Its.v2 {w : World} {x0 x1 : It} {l : List It} {t : TypeId} {b N cap : Nat} {g : Nat → Value} (H : Its (x0 :: x1 :: vhI t b N cap g :: l) w) : Vh t w b N cap g := H.it _ (List.mem_cons_of_mem _ (List.mem_cons_of_mem _ (List.mem_cons_self)))
theorem Cx.o2 {w0 w : World} {x0 x1 : It} {l : List It} {x : It} (H : Cx w0 w (x0 :: x1 :: x :: l)) : x.p w := H.it _ (List.mem_cons_of_mem _ (List.mem_cons_of_mem _ (List.mem_cons_self)))
theorem Cx.p2 {w0 w w' : World} {x0 x1 : It} {l : List It} {x : It} (H : Cx w0 w (x0 :: x1 :: x :: l)) (os : w'.os = w.os) (tape : w'.tape = w.tape) (output : w'.output = w.output) (size : w.heap.size ≤ w'.heap.size) (hk : ∀ k, k < w.heap.size → ¬ x.foot k → w'.heap[k]? = w.heap[k]?) (y : It) (hy : y.p w') (hf : ∀ j, y.foot j → x.foot j ∨ w.heap.size ≤ j) : Cx w0 w' (x0 :: x1 :: y :: l) := Cx.put (a := [x0, x1]) H os tape output size hk y hy hf
theorem Cx.s2 {w0 w w' : World} {x0 x1 : It} {l : List It} {t : TypeId} {b N cap : Nat} {g g' : Nat → Value} (H : Cx w0 w (x0 :: x1 :: vhI t b N cap g :: l)) (k : Kept b w w') (m : Vh t w' b N cap g') : Cx w0 w' (x0 :: x1 :: vhI t b N cap g' :: l) := Cx.p2 H k.os k.tape k.output k.size (fun j h1 h2 => k.block j h1 h2) (vhI t b N cap g') m (fun _ h => Or.inl h)
theorem Cx.f2 {w0 w : World} {x0 x1 : It} {x : It} {l : List It} (H : Cx w0 w (x0 :: x1 :: x :: l)) : Cx w0 w (x :: x0 :: x1 :: l) := H.perm (List.perm_middle (l₁ := [x0, x1]))
theorem Cx.b2 {w0 w : World} {x0 x1 : It} {x : It} {l : List It} (H : Cx w0 w (x :: x0 :: x1 :: l)) : Cx w0 w (x0 :: x1 :: x :: l) := H.perm (List.perm_middle (l₁ := [x0, x1])).symm
theorem Cx.v3 {w0 w : World} {x0 x1 x2 : It} {l : List It} {t : TypeId} {b N cap : Nat} {g : Nat → Value} (H : Cx w0 w (x0 :: x1 :: x2 :: vhI t b N cap g :: l)) : Vh t w b N cap g := H.it _ (List.mem_cons_of_mem _ (List.mem_cons_of_mem _ (List.mem_cons_of_mem _ (List.mem_cons_self))))
theorem Its.v3 {w : World} {x0 x1 x2 : It} {l : List It} {t : TypeId} {b N cap : Nat} {g : Nat → Value} (H : Its (x0 :: x1 :: x2 :: vhI t b N cap g :: l) w) : Vh t w b N cap g := H.it _ (List.mem_cons_of_mem _ (List.mem_cons_of_mem _ (List.mem_cons_of_mem _ (List.mem_cons_self))))
theorem Cx.o3 {w0 w : World} {x0 x1 x2 : It} {l : List It} {x : It} (H : Cx w0 w (x0 :: x1 :: x2 :: x :: l)) : x.p w := H.it _ (List.mem_cons_of_mem _ (List.mem_cons_of_mem _ (List.mem_cons_of_mem _ (List.mem_cons_self))))
theorem Cx.p3 {w0 w w' : World} {x0 x1 x2 : It} {l : List It} {x : It} (H : Cx w0 w (x0 :: x1 :: x2 :: x :: l)) (os : w'.os = w.os) (tape : w'.tape = w.tape) (output : w'.output = w.output) (size : w.heap.size ≤ w'.heap.size) (hk : ∀ k, k < w.heap.size → ¬ x.foot k → w'.heap[k]? = w.heap[k]?) (y : It) (hy : y.p w') (hf : ∀ j, y.foot j → x.foot j ∨ w.heap.size ≤ j) : Cx w0 w' (x0 :: x1 :: x2 :: y :: l) := Cx.put (a := [x0, x1, x2]) H os tape output size hk y hy hf
theorem Cx.s3 {w0 w w' : World} {x0 x1 x2 : It} {l : List It} {t : TypeId} {b N cap : Nat} {g g' : Nat → Value} (H : Cx w0 w (x0 :: x1 :: x2 :: vhI t b N cap g :: l)) (k : Kept b w w') (m : Vh t w' b N cap g') : Cx w0 w' (x0 :: x1 :: x2 :: vhI t b N cap g' :: l) := Cx.p3 H k.os k.tape k.output k.size (fun j h1 h2 => k.block j h1 h2) (vhI t b N cap g') m (fun _ h => Or.inl h)
theorem Cx.f3 {w0 w : World} {x0 x1 x2 : It} {x : It} {l : List It} (H : Cx w0 w (x0 :: x1 :: x2 :: x :: l)) : Cx w0 w (x :: x0 :: x1 :: x2 :: l) := H.perm (List.perm_middle (l₁ := [x0, x1, x2]))
theorem Cx.b3 {w0 w : World} {x0 x1 x2 : It} {x : It} {l : List It} (H : Cx w0 w (x :: x0 :: x1 :: x2 :: l)) : Cx w0 w (x0 :: x1 :: x2 :: x :: l) := H.perm (List.perm_middle (l₁ := [x0, x1, x2])).symm
theorem Cx.v4 {w0 w : World} {x0 x1 x2 x3 : It} {l : List It} {t : TypeId} {b N cap : Nat} {g : Nat → Value} (H : Cx w0 w (x0 :: x1 :: x2 :: x3 :: vhI t b N cap g :: l)) : Vh t w b N cap g := H.it _ (List.mem_cons_of_mem _ (List.mem_cons_of_mem _ (List.mem_cons_of_mem _ (List.mem_cons_of_mem _ (List.mem_cons_self)))))
theorem Its.v4 {w : World} {x0 x1 x2 x3 : It} {l : List It} {t : TypeId} {b N cap : Nat} {g : Nat → Value} (H : Its (x0 :: x1 :: x2 :: x3 :: vhI t b N cap g :: l) w) : Vh t w b N cap g := H.it _ (List.mem_cons_of_mem _ (List.mem_cons_of_mem _ (List.mem_cons_of_mem _ (List.mem_cons_of_mem _ (List.mem_cons_self)))))
theorem Cx.o4 {w0 w : World} {x0 x1 x2 x3 : It} {l : List It} {x : It} (H : Cx w0 w (x0 :: x1 :: x2 :: x3 :: x :: l)) : x.p w := H.it _ (List.mem_cons_of_mem _ (List.mem_cons_of_mem _ (List.mem_cons_of_mem _ (List.mem_cons_of_mem _ (List.mem_cons_self)))))
theorem Cx.p4 {w0 w w' : World} {x0 x1 x2 x3 : It} {l : List It} {x : It} (H : Cx w0 w (x0 :: x1 :: x2 :: x3 :: x :: l)) (os : w'.os = w.os) (tape : w'.tape = w.tape) (output : w'.output = w.output) (size : w.heap.size ≤ w'.heap.size) (hk : ∀ k, k < w.heap.size → ¬ x.foot k → w'.heap[k]? = w.heap[k]?) (y : It) (hy : y.p w') (hf : ∀ j, y.foot j → x.foot j ∨ w.heap.size ≤ j) : Cx w0 w' (x0 :: x1 :: x2 :: x3 :: y :: l) := Cx.put (a := [x0, x1, x2, x3]) H os tape output size hk y hy hf
theorem Cx.s4 {w0 w w' : World} {x0 x1 x2 x3 : It} {l : List It} {t : TypeId} {b N cap : Nat} {g g' : Nat → Value} (H : Cx w0 w (x0 :: x1 :: x2 :: x3 :: vhI t b N cap g :: l)) (k : Kept b w w') (m : Vh t w' b N cap g') : Cx w0 w' (x0 :: x1 :: x2 :: x3 :: vhI t b N cap g' :: l) := Cx.p4 H k.os k.tape k.output k.size (fun j h1 h2 => k.block j h1 h2) (vhI t b N cap g') m (fun _ h => Or.inl h)
theorem Cx.f4 {w0 w : World} {x0 x1 x2 x3 : It} {x : It} {l : List It} (H : Cx w0 w (x0 :: x1 :: x2 :: x3 :: x :: l)) : Cx w0 w (x :: x0 :: x1 :: x2 :: x3 :: l) := H.perm (List.perm_middle (l₁ := [x0, x1, x2, x3]))
theorem Cx.b4 {w0 w : World} {x0 x1 x2 x3 : It} {x : It} {l : List It} (H : Cx w0 w (x :: x0 :: x1 :: x2 :: x3 :: l)) : Cx w0 w (x0 :: x1 :: x2 :: x3 :: x :: l) := H.perm (List.perm_middle (l₁ := [x0, x1, x2, x3])).symm
theorem Cx.v5 {w0 w : World} {x0 x1 x2 x3 x4 : It} {l : List It} {t : TypeId} {b N cap : Nat} {g : Nat → Value} (H : Cx w0 w (x0 :: x1 :: x2 :: x3 :: x4 :: vhI t b N cap g :: l)) : Vh t w b N cap g := H.it _ (List.mem_cons_of_mem _ (List.mem_cons_of_mem _ (List.mem_cons_of_mem _ (List.mem_cons_of_mem _ (List.mem_cons_of_mem _ (List.mem_cons_self))))))
theorem Its.v5 {w : World} {x0 x1 x2 x3 x4 : It} {l : List It} {t : TypeId} {b N cap : Nat} {g : Nat → Value} (H : Its (x0 :: x1 :: x2 :: x3 :: x4 :: vhI t b N cap g :: l) w) : Vh t w b N cap g := H.it _ (List.mem_cons_of_mem _ (List.mem_cons_of_mem _ (List.mem_cons_of_mem _ (List.mem_cons_of_mem _ (List.mem_cons_of_mem _ (List.mem_cons_self))))))
theorem Cx.o5 {w0 w : World} {x0 x1 x2 x3 x4 : It} {l : List It} {x : It} (H : Cx w0 w (x0 :: x1 :: x2 :: x3 :: x4 :: x :: l)) : x.p w := H.it _ (List.mem_cons_of_mem _ (List.mem_cons_of_mem _ (List.mem_cons_of_mem _ (List.mem_cons_of_mem _ (List.mem_cons_of_mem _ (List.mem_cons_self))))))
theorem Cx.p5 {w0 w w' : World} {x0 x1 x2 x3 x4 : It} {l : List It} {x : It} (H : Cx w0 w (x0 :: x1 :: x2 :: x3 :: x4 :: x :: l)) (os : w'.os = w.os) (tape : w'.tape = w.tape) (output : w'.output = w.output) (size : w.heap.size ≤ w'.heap.size) (hk : ∀ k, k < w.heap.size → ¬ x.foot k → w'.heap[k]? = w.heap[k]?) (y : It) (hy : y.p w') (hf : ∀ j, y.foot j → x.foot j ∨ w.heap.size ≤ j) : Cx w0 w' (x0 :: x1 :: x2 :: x3 :: x4 :: y :: l) := Cx.put (a := [x0, x1, x2, x3, x4]) H os tape output size hk y hy hf
theorem Cx.s5 {w0 w w' : World} {x0 x1 x2 x3 x4 : It} {l : List It} {t : TypeId} {b N cap : Nat} {g g' : Nat → Value} (H : Cx w0 w (x0 :: x1 :: x2 :: x3 :: x4 :: vhI t b N cap g :: l)) (k : Kept b w w') (m : Vh t w' b N cap g') : Cx w0 w' (x0 :: x1 :: x2 :: x3 :: x4 :: vhI t b N cap g' :: l) := Cx.p5 H k.os k.tape k.output k.size (fun j h1 h2 => k.block j h1 h2) (vhI t b N cap g') m (fun _ h => Or.inl h)
theorem Cx.f5 {w0 w : World} {x0 x1 x2 x3 x4 : It} {x : It} {l : List It} (H : Cx w0 w (x0 :: x1 :: x2 :: x3 :: x4 :: x :: l)) : Cx w0 w (x :: x0 :: x1 :: x2 :: x3 :: x4 :: l) := H.perm (List.perm_middle (l₁ := [x0, x1, x2, x3, x4]))
theorem Cx.b5 {w0 w : World} {x0 x1 x2 x3 x4 : It} {x : It} {l : List It} (H : Cx w0 w (x :: x0 :: x1 :: x2 :: x3 :: x4 :: l)) : Cx w0 w (x0 :: x1 :: x2 :: x3 :: x4 :: x :: l) := H.perm (List.perm_middle (l₁ := [x0, x1, x2, x3, x4])).symm
theorem Cx.v6 {w0 w : World} {x0 x1 x2 x3 x4 x5 : It} {l : List It} {t : TypeId} {b N cap : Nat} {g : Nat → Value} (H : Cx w0 w (x0 :: x1 :: x2 :: x3 :: x4 :: x5 :: vhI t b N cap g :: l)) : Vh t w b N cap g := H.it _ (List.mem_cons_of_mem _ (List.mem_cons_of_mem _ (List.mem_cons_of_mem _ (List.mem_cons_of_mem _ (List.mem_cons_of_mem _ (List.mem_cons_of_mem _ (List.mem_cons_self)))))))
theorem Its.v6 {w : World} {x0 x1 x2 x3 x4 x5 : It} {l : List It} {t : TypeId} {b N cap : Nat} {g : Nat → Value} (H : Its (x0 :: x1 :: x2 :: x3 :: x4 :: x5 :: vhI t b N cap g :: l) w) : Vh t w b N cap g := H.it _ (List.mem_cons_of_mem _ (List.mem_cons_of_mem _ (List.mem_cons_of_mem _ (List.mem_cons_of_mem _ (List.mem_cons_of_mem _ (List.mem_cons_of_mem _ (List.mem_cons_self)))))))
theorem Cx.o6 {w0 w : World} {x0 x1 x2 x3 x4 x5 : It} {l : List It} {x : It} (H : Cx w0 w (x0 :: x1 :: x2 :: x3 :: x4 :: x5 :: x :: l)) : x.p w := H.it _ (List.mem_cons_of_mem _ (List.mem_cons_of_mem _ (List.mem_cons_of_mem _ (List.mem_cons_of_mem _ (List.mem_cons_of_mem _ (List.mem_cons_of_mem _ (List.mem_cons_self)))))))
theorem Cx.p6 {w0 w w' : World} {x0 x1 x2 x3 x4 x5 : It} {l : List It} {x : It} (H : Cx w0 w (x0 :: x1 :: x2 :: x3 :: x4 :: x5 :: x :: l)) (os : w'.os = w.os) (tape : w'.tape = w.tape) (output : w'.output = w.output) (size : w.heap.size ≤ w'.heap.size) (hk : ∀ k, k < w.heap.size → ¬ x.foot k → w'.heap[k]? = w.heap[k]?) (y : It) (hy : y.p w') (hf : ∀ j, y.foot j → x.foot j ∨ w.heap.size ≤ j) : Cx w0 w' (x0 :: x1 :: x2 :: x3 :: x4 :: x5 :: y :: l) := Cx.put (a := [x0, x1, x2, x3, x4, x5]) H os tape output size hk y hy hf
theorem Cx.s6 {w0 w w' : World} {x0 x1 x2 x3 x4 x5 : It} {l : List It} {t : TypeId} {b N cap : Nat} {g g' : Nat → Value} (H : Cx w0 w (x0 :: x1 :: x2 :: x3 :: x4 :: x5 :: vhI t b N cap g :: l)) (k : Kept b w w') (m : Vh t w' b N cap g') : Cx w0 w' (x0 :: x1 :: x2 :: x3 :: x4 :: x5 :: vhI t b N cap g' :: l) := Cx.p6 H k.os k.tape k.output k.size (fun j h1 h2 => k.block j h1 h2) (vhI t b N cap g') m (fun _ h => Or.inl h)
theorem Cx.f6 {w0 w : World} {x0 x1 x2 x3 x4 x5 : It} {x : It} {l : List It} (H : Cx w0 w (x0 :: x1 :: x2 :: x3 :: x4 :: x5 :: x :: l)) : Cx w0 w (x :: x0 :: x1 :: x2 :: x3 :: x4 :: x5 :: l) := H.perm (List.perm_middle (l₁ := [x0, x1, x2, x3, x4, x5]))
theorem Cx.b6 {w0 w : World} {x0 x1 x2 x3 x4 x5 : It} {x : It} {l : List It} (H : Cx w0 w (x :: x0 :: x1 :: x2 :: x3 :: x4 :: x5 :: l)) : Cx w0 w (x0 :: x1 :: x2 :: x3 :: x4 :: x5 :: x :: l) := H.perm (List.perm_middle (l₁ := [x0, x1, x2, x3, x4, x5])).symm
theorem Cx.v7 {w0 w : World} {x0 x1 x2 x3 x4 x5 x6 : It} {l : List It} {t : TypeId} {b N cap : Nat} {g : Nat → Value} (H : Cx w0 w (x0 :: x1 :: x2 :: x3 :: x4 :: x5 :: x6 :: vhI t b N cap g :: l)) : Vh t w b N cap g := H.it _ (List.mem_cons_of_mem _ (List.mem_cons_of_mem _ (List.mem_cons_of_mem _ (List.mem_cons_of_mem _ (List.mem_cons_of_mem _ (List.mem_cons_of_mem _ (List.mem_cons_of_mem _ (List.mem_cons_self))))))))
theorem Its.v7 {w : World} {x0 x1 x2 x3 x4 x5 x6 : It} {l : List It} {t : TypeId} {b N cap : Nat} {g : Nat → Value} (H : Its (x0 :: x1 :: x2 :: x3 :: x4 :: x5 :: x6 :: vhI t b N cap g :: l) w) : Vh t w b N cap g := H.it _ (List.mem_cons_of_mem _ (List.mem_cons_of_mem _ (List.mem_cons_of_mem _ (List.mem_cons_of_mem _ (List.mem_cons_of_mem _ (List.mem_cons_of_mem _ (List.mem_cons_of_mem _ (List.mem_cons_self))))))))
theorem Cx.o7 {w0 w : World} {x0 x1 x2 x3 x4 x5 x6 : It} {l : List It} {x : It} (H : Cx w0 w (x0 :: x1 :: x2 :: x3 :: x4 :: x5 :: x6 :: x :: l)) : x.p w := H.it _ (List.mem_cons_of_mem _ (List.mem_cons_of_mem _ (List.mem_cons_of_mem _ (List.mem_cons_of_mem _ (List.mem_cons_of_mem _ (List.mem_cons_of_mem _ (List.mem_cons_of_mem _ (List.mem_cons_self))))))))
theorem Cx.p7 {w0 w w' : World} {x0 x1 x2 x3 x4 x5 x6 : It} {l : List It} {x : It} (H : Cx w0 w (x0 :: x1 :: x2 :: x3 :: x4 :: x5 :: x6 :: x :: l)) (os : w'.os = w.os) (tape : w'.tape = w.tape) (output : w'.output = w.output) (size : w.heap.size ≤ w'.heap.size) (hk : ∀ k, k < w.heap.size → ¬ x.foot k → w'.heap[k]? = w.heap[k]?) (y : It) (hy : y.p w') (hf : ∀ j, y.foot j → x.foot j ∨ w.heap.size ≤ j) : Cx w0 w' (x0 :: x1 :: x2 :: x3 :: x4 :: x5 :: x6 :: y :: l) := Cx.put (a := [x0, x1, x2, x3, x4, x5, x6]) H os tape output size hk y hy hf
theorem Cx.s7 {w0 w w' : World} {x0 x1 x2 x3 x4 x5 x6 : It} {l : List It} {t : TypeId} {b N cap : Nat} {g g' : Nat → Value} (H : Cx w0 w (x0 :: x1 :: x2 :: x3 :: x4 :: x5 :: x6 :: vhI t b N cap g :: l)) (k : Kept b w w') (m : Vh t w' b N cap g') : Cx w0 w' (x0 :: x1 :: x2 :: x3 :: x4 :: x5 :: x6 :: vhI t b N cap g' :: l) := Cx.p7 H k.os k.tape k.output k.size (fun j h1 h2 => k.block j h1 h2) (vhI t b N cap g') m (fun _ h => Or.inl h)
theorem Cx.b7 {w0 w : World} {x0 x1 x2 x3 x4 x5 x6 : It} {x : It} {l : List It} (H : Cx w0 w (x :: x0 :: x1 :: x2 :: x3 :: x4 :: x5 :: x6 :: l)) : Cx w0 w (x0 :: x1 :: x2 :: x3 :: x4 :: x5 :: x6 :: x :: l) := H.perm (List.perm_middle (l₁ := [x0, x1, x2, x3, x4, x5, x6])).symm
theorem Cx.v8 {w0 w : World} {x0 x1 x2 x3 x4 x5 x6 x7 : It} {l : List It} {t : TypeId} {b N cap : Nat} {g : Nat → Value} (H : Cx w0 w (x0 :: x1 :: x2 :: x3 :: x4 :: x5 :: x6 :: x7 :: vhI t b N cap g :: l)) : Vh t w b N cap g := H.it _ (List.mem_cons_of_mem _ (List.mem_cons_of_mem _ (List.mem_cons_of_mem _ (List.mem_cons_of_mem _ (List.mem_cons_of_mem _ (List.mem_cons_of_mem _ (List.mem_cons_of_mem _ (List.mem_cons_of_mem _ (List.mem_cons_self)))))))))
theorem Its.v8 {w : World} {x0 x1 x2 x3 x4 x5 x6 x7 : It} {l : List It} {t : TypeId} {b N cap : Nat} {g : Nat → Value} (H : Its (x0 :: x1 :: x2 :: x3 :: x4 :: x5 :: x6 :: x7 :: vhI t b N cap g :: l) w) : Vh t w b N cap g := H.it _ (List.mem_cons_of_mem _ (List.mem_cons_of_mem _ (List.mem_cons_of_mem _ (List.mem_cons_of_mem _ (List.mem_cons_of_mem _ (List.mem_cons_of_mem _ (List.mem_cons_of_mem _ (List.mem_cons_of_mem _ (List.mem_cons_self)))))))))
theorem Cx.o8 {w0 w : World} {x0 x1 x2 x3 x4 x5 x6 x7 : It} {l : List It} {x : It} (H : Cx w0 w (x0 :: x1 :: x2 :: x3 :: x4 :: x5 :: x6 :: x7 :: x :: l)) : x.p w := H.it _ (List.mem_cons_of_mem _ (List.mem_cons_of_mem _ (List.mem_cons_of_mem _ (List.mem_cons_of_mem _ (List.mem_cons_of_mem _ (List.mem_cons_of_mem _ (List.mem_cons_of_mem _ (List.mem_cons_of_mem _ (List.mem_cons_self)))))))))
theorem Cx.p8 {w0 w w' : World} {x0 x1 x2 x3 x4 x5 x6 x7 : It} {l : List It} {x : It} (H : Cx w0 w (x0 :: x1 :: x2 :: x3 :: x4 :: x5 :: x6 :: x7 :: x :: l)) (os : w'.os = w.os) (tape : w'.tape = w.tape) (output : w'.output = w.output) (size : w.heap.size ≤ w'.heap.size) (hk : ∀ k, k < w.heap.size → ¬ x.foot k → w'.heap[k]? = w.heap[k]?) (y : It) (hy : y.p w') (hf : ∀ j, y.foot j → x.foot j ∨ w.heap.size ≤ j) : Cx w0 w' (x0 :: x1 :: x2 :: x3 :: x4 :: x5 :: x6 :: x7 :: y :: l) := Cx.put (a := [x0, x1, x2, x3, x4, x5, x6, x7]) H os tape output size hk y hy hf
theorem Cx.s8 {w0 w w' : World} {x0 x1 x2 x3 x4 x5 x6 x7 : It} {l : List It} {t : TypeId} {b N cap : Nat} {g g' : Nat → Value} (H : Cx w0 w (x0 :: x1 :: x2 :: x3 :: x4 :: x5 :: x6 :: x7 :: vhI t b N cap g :: l)) (k : Kept b w w') (m : Vh t w' b N cap g') : Cx w0 w' (x0 :: x1 :: x2 :: x3 :: x4 :: x5 :: x6 :: x7 :: vhI t b N cap g' :: l) := Cx.p8 H k.os k.tape k.output k.size (fun j h1 h2 => k.block j h1 h2) (vhI t b N cap g') m (fun _ h => Or.inl h)
theorem Cx.b8 {w0 w : World} {x0 x1 x2 x3 x4 x5 x6 x7 : It} {x : It} {l : List It} (H : Cx w0 w (x :: x0 :: x1 :: x2 :: x3 :: x4 :: x5 :: x6 :: x7 :: l)) : Cx w0 w (x0 :: x1 :: x2 :: x3 :: x4 :: x5 :: x6 :: x7 :: x :: l) := H.perm (List.perm_middle (l₁ := [x0, x1, x2, x3, x4, x5, x6, x7])).symm
theorem Cx.v9 {w0 w : World} {x0 x1 x2 x3 x4 x5 x6 x7 x8 : It} {l : List It} {t : TypeId} {b N cap : Nat} {g : Nat → Value} (H : Cx w0 w (x0 :: x1 :: x2 :: x3 :: x4 :: x5 :: x6 :: x7 :: x8 :: vhI t b N cap g :: l)) : Vh t w b N cap g := H.it _ (List.mem_cons_of_mem _ (List.mem_cons_of_mem _ (List.mem_cons_of_mem _ (List.mem_cons_of_mem _ (List.mem_cons_of_mem _ (List.mem_cons_of_mem _ (List.mem_cons_of_mem _ (List.mem_cons_of_mem _ (List.mem_cons_of_mem _ (List.mem_cons_self))))))))))
theorem Its.v9 {w : World} {x0 x1 x2 x3 x4 x5 x6 x7 x8 : It} {l : List It} {t : TypeId} {b N cap : Nat} {g : Nat → Value} (H : Its (x0 :: x1 :: x2 :: x3 :: x4 :: x5 :: x6 :: x7 :: x8 :: vhI t b N cap g :: l) w) : Vh t w b N cap g := H.it _ (List.mem_cons_of_mem _ (List.mem_cons_of_mem _ (List.mem_cons_of_mem _ (List.mem_cons_of_mem _ (List.mem_cons_of_mem _ (List.mem_cons_of_mem _ (List.mem_cons_of_mem _ (List.mem_cons_of_mem _ (List.mem_cons_of_mem _ (List.mem_cons_self))))))))))
theorem Cx.o9 {w0 w : World} {x0 x1 x2 x3 x4 x5 x6 x7 x8 : It} {l : List It} {x : It} (H : Cx w0 w (x0 :: x1 :: x2 :: x3 :: x4 :: x5 :: x6 :: x7 :: x8 :: x :: l)) : x.p w := H.it _ (List.mem_cons_of_mem _ (List.mem_cons_of_mem _ (List.mem_cons_of_mem _ (List.mem_cons_of_mem _ (List.mem_cons_of_mem _ (List.mem_cons_of_mem _ (List.mem_cons_of_mem _ (List.mem_cons_of_mem _ (List.mem_cons_of_mem _ (List.mem_cons_self))))))))))
theorem Cx.p9 {w0 w w' : World} {x0 x1 x2 x3 x4 x5 x6 x7 x8 : It} {l : List It} {x : It} (H : Cx w0 w (x0 :: x1 :: x2 :: x3 :: x4 :: x5 :: x6 :: x7 :: x8 :: x :: l)) (os : w'.os = w.os) (tape : w'.tape = w.tape) (output : w'.output = w.output) (size : w.heap.size ≤ w'.heap.size) (hk : ∀ k, k < w.heap.size → ¬ x.foot k → w'.heap[k]? = w.heap[k]?) (y : It) (hy : y.p w') (hf : ∀ j, y.foot j → x.foot j ∨ w.heap.size ≤ j) : Cx w0 w' (x0 :: x1 :: x2 :: x3 :: x4 :: x5 :: x6 :: x7 :: x8 :: y :: l) := Cx.put (a := [x0, x1, x2, x3, x4, x5, x6, x7, x8]) H os tape output size hk y hy hf
theorem Cx.b9 {w0 w : World} {x0 x1 x2 x3 x4 x5 x6 x7 x8 : It} {x : It} {l : List It} (H : Cx w0 w (x :: x0 :: x1 :: x2 :: x3 :: x4 :: x5 :: x6 :: x7 :: x8 :: l)) : Cx w0 w (x0 :: x1 :: x2 :: x3 :: x4 :: x5 :: x6 :: x7 :: x8 :: x :: l) := H.perm (List.perm_middle (l₁ := [x0, x1, x2, x3, x4, x5, x6, x7, x8])).symm
class FldK (P : Program) (s : TypeId) (k : Nat) (d : outParam Nat) : Prop where
 run : ∀ {f : Operand → Value} {o : Oper} {x : Operand} {b off : Nat}, o.op = .fieldAddr s x k → f x = .pointer (some ⟨b, off, none⟩) → ∀ w, (execOp f o).run P w = .ok (.value (.pointer (some ⟨b, off + d, none⟩))) w
class ManyK (P : Program) (t : TypeId) (n : outParam Nat) : Prop where
 out : Many P t n
class OneK (P : Program) (t : TypeId) : Prop where
 out : OneC P t
class SizK (P : Program) (t : TypeId) (n : outParam Nat) : Prop where
 out : ∀ w, (sizeOf t).run P w = .ok n w
class ArrK (P : Program) (s : TypeId) (len : outParam Nat) (e : outParam TypeId) : Prop where
 out : P.underlying s = some (.array len e)
class SlcK (P : Program) (s : TypeId) (e : outParam TypeId) : Prop where
 out : P.underlying s = some (.slice e)
class ZerK (P : Program) (t : TypeId) (n : outParam Nat) (f : outParam (Nat → Value)) : Prop where
 out : ∀ w, (zeroValue t).run P w = .ok (agV f 0 n) w
class Zer1 (P : Program) (t : TypeId) (v : outParam Value) : Prop where
 out : ∀ w, (zeroValue t).run P w = .ok v w
 one : v.cells = #[v]
class EntK (P : Program) (n : Nat) : Prop where
 out : ∀ args w, (callFunc n args).run P w = .ok (.enter n args) w
class LenK (P : Program) (t : TypeId) : Prop where
 run : ∀ {f : Operand → Value} {o : Oper} {x : Operand} {ao : Option Addr} {n c : Nat}, o.op = .call { callee := .builtin .len, args := #[x], argTypes := #[t] } → f x = .slice ao n c → ∀ w, (execOp f o).run P w = .ok (.value (.int .i64 ((n : Nat) : Int))) w
instance {P : Program} {t : TypeId} {n : Nat} [h : ManyK P t n] : SizK P t n := ⟨h.out.size⟩
instance {P : Program} {t : TypeId} [h : OneK P t] : SizK P t 1 := ⟨h.out.size⟩
section
variable {P : Program} {f : Operand → Value} {o : Oper}
theorem run_nilC (x : Operand) (ho : o.op = .nilCheck x) {a : Addr} (hx : f x = .pointer (some a)) (w : World) : (execOp f o).run P w = .ok (.value (.pointer (some a))) w := by
 unfold execOp
 rw [ho]
 dsimp only
 rw [hx]
 rfl
theorem run_ixSC (s e : TypeId) (x y : Operand) (ho : o.op = .indexAddr s x y) {n : Nat} (hu : P.underlying s = some (.slice e)) (hs : ∀ w, (sizeOf e).run P w = .ok n w) {b off i len cap : Nat} {z : Int} (hx : f x = .slice (some ⟨b, off, none⟩) len cap) (hy : f y = .int .i64 z) (hz : z = (i : Int)) (hi : i < len) (w : World) :
  (execOp f o).run P w = .ok (.value (.pointer (some ⟨b, off + i * n, none⟩))) w := by
 subst hz
 have h2 : (i : Int) < (len : Int) := by omega
 unfold execOp
 simp only [ho, hx, hy, Instr.indexAt, asIntOf, Instr.sureAddr, Sem.run_bind, Sem.run_pure, Result.andThen_ok, run_underlying hu, add_at]
 simp [h2, hs]
theorem run_lodCs {ty : TypeId} {x : Operand} {n : Nat} (T : Many P ty n) {b off : Nat} {g : Nat → Value} {w : World} (hc : ∀ k, k < n → w.cell? ⟨b, off + k, none⟩ = some (g k)) (ho : o.op = .load ty x) (hx : f x = .pointer (some ⟨b, off, none⟩)) :
  (execOp f o).run P w = .ok (.value (agV g 0 n)) w := by
 have hl : (loadCells ⟨b, off, none⟩ n).run P w = .ok ((List.range n).map fun j => g (0 + j)).toArray w :=
  run_loadCells w ⟨b, off, none⟩ n (fun j => g (0 + j)) (fun j hj => by rw [add_at, Nat.zero_add]; exact hc j hj)
 unfold execOp
 simp only [ho, hx, Instr.loadAt, Instr.sureAddr, loadVar, Sem.run_bind, Sem.run_pure, Result.andThen_ok, T.agg, T.size, hl, if_true]
 rfl
theorem run_mkF (fn : Fn) (xs : Array Operand) (ho : o.op = .makeFunc fn #[] xs) {vs : Array Value} (hx : xs.map f = vs) (w : World) : (execOp f o).run P w = .ok (.value (.func fn #[] vs)) w := by
 unfold execOp
 rw [ho]
 dsimp only
 rw [hx]
 go_simp
theorem ev_func (a : Act) (n : Nat) : a.eval (.func n) = .func (.func n) #[] #[] := rfl
end
theorem Qv {p : Prop} (h : p := by first | exact ev_in rfl (by omega) | exact ev_out rfl (by assumption) | exact ev_const _ _ | exact ev_func _ _) : p := h
theorem Qh {p : Prop} (h : p := by first | exact H.v0 | exact H.v1 | exact H.v2 | exact H.v3 | exact H.v4 | exact H.v5 | exact H.v6 | exact H.v7 | exact H.v8 | exact H.v9 | exact Vh.below G0 H.bel | exact Vh.below G1 H.bel | exact Vh.below G2 H.bel | assumption) : p := h
section
variable {P : Program} {ops : Array Oper} {Q : Exit → Act → World → Prop} {A : Act} {L : List (Nat × Value)} {w0 w : World} {rest : List Oper} {o : Oper} {d : Nat} {v : Value} {l : List It}
theorem qa (h : LstI P ops Q rest (putL A ((d, v) :: L)) w) (hd : o.dst = some d := by rfl) (hw : Region.wanted o (yielded ops (putL A L).tmps) = true := by first | exact wanted_rd rfl | exact wanted_g rfl rfl rfl Qv)
  (hy : (execOp (putL A L).eval o).run P w = .ok (.value v) w := by first
   | exact run_move _ rfl Qv _
   | exact run_assign _ rfl Qv _
   | exact FldK.run rfl Qv _
   | exact run_lod1 _ _ rfl OneK.out Qv Qh (by omega) rfl
   | exact run_loadP _ _ rfl ManyK.out Qv Qh (by omega)
   | exact run_nilC _ rfl Qv _
   | exact run_ixG _ _ _ _ rfl ArrK.out SizK.out Qv Qv rfl (by omega) _
   | exact run_ixSC _ _ _ _ rfl SlcK.out SizK.out Qv Qv rfl (by omega) _
   | exact run_ixVM _ _ _ _ rfl ArrK.out ManyK.out Qv rfl Qv rfl (by omega) _
   | exact run_ixV1 _ _ _ _ rfl ArrK.out OneK.out Qv Qv rfl (by omega) _
   | exact LenK.run rfl Qv _
   | exact run_lssI _ _ rfl Qv Qv rfl _
   | exact run_gtrI _ _ rfl Qv Qv rfl _
   | exact run_eqlI _ _ rfl Qv Qv rfl _
   | exact run_neqI _ _ rfl Qv Qv rfl _
   | exact run_leqI _ _ rfl Qv Qv rfl _
   | exact run_geqI _ _ rfl Qv Qv rfl _
   | exact run_eqlE _ _ rfl Qv Qv rfl _
   | exact run_neqE _ _ rfl Qv Qv rfl _
   | exact run_addI _ _ rfl Qv Qv (by omega) (by omega) _
   | exact run_subI _ _ rfl Qv Qv (by omega) (by omega) _
   | exact run_notB _ _ rfl Qv _
   | exact run_extA _ rfl Qv _
   | exact run_extB _ rfl Qv _
   | exact run_ext3A _ rfl Qv _
   | exact run_ext3B _ rfl Qv _
   | exact run_ext3C _ rfl Qv _) : LstI P ops Q (o :: rest) (putL A L) w := m_mv hd hw hy h
theorem q_skip (h : LstI P ops Q rest (putL A ((d, undef) :: L)) w) (hd : o.dst = some d := by rfl) (hw : Region.wanted o (yielded ops (putL A L).tmps) = false := by first | exact wanted_n rfl rfl rfl Qv (by decide) | exact wanted_u rfl rfl rfl Qv) : LstI P ops Q (o :: rest) (putL A L) w := m_skip hd hw h
theorem qg (hy : (execOp (putL A L).eval o).run P w = .ok (.value v) w) (h : LstI P ops Q rest (putL A ((d, v) :: L)) w) (hd : o.dst = some d := by rfl) (hw : Region.wanted o (yielded ops (putL A L).tmps) = true := by first | exact wanted_rd rfl | exact wanted_g rfl rfl rfl Qv) : LstI P ops Q (o :: rest) (putL A L) w := m_mv hd hw hy h
variable {S : World → Prop} {late : Nat → Bool} {i : Nat} {r : PlanJ}
theorem qj (h : SeqJ P ops Q S late r (putL A ((d, v) :: L)) w) (ho : ops[i]? = some o := by rfl) (hd : o.dst = some d := by rfl) (hQ : ∀ c a w, Q (.panic c) (a.put (some d) v) w → Q (.panic c) a w := by exact fun _ _ _ h => h) (hw : Region.wanted o (yielded ops (putL A L).tmps) = true := by first | exact wanted_rd rfl | exact wanted_g rfl rfl rfl Qv)
  (hy : ∀ w, (execOp (putL A L).eval o).run P w = .ok (.value v) w := by first
   | exact fun w => run_move _ rfl Qv w
   | exact fun w => run_assign _ rfl Qv w
   | exact fun w => FldK.run rfl Qv w
   | exact fun w => run_nilC _ rfl Qv w
   | exact fun w => run_ixG _ _ _ _ rfl ArrK.out SizK.out Qv Qv rfl (by omega) w
   | exact fun w => run_ixSC _ _ _ _ rfl SlcK.out SizK.out Qv Qv rfl (by omega) w
   | exact fun w => run_ixVM _ _ _ _ rfl ArrK.out ManyK.out Qv rfl Qv rfl (by omega) w
   | exact fun w => run_ixV1 _ _ _ _ rfl ArrK.out OneK.out Qv Qv rfl (by omega) w
   | exact fun w => LenK.run rfl Qv w
   | exact fun w => run_lssI _ _ rfl Qv Qv rfl w
   | exact fun w => run_gtrI _ _ rfl Qv Qv rfl w
   | exact fun w => run_eqlI _ _ rfl Qv Qv rfl w
   | exact fun w => run_neqI _ _ rfl Qv Qv rfl w
   | exact fun w => run_leqI _ _ rfl Qv Qv rfl w
   | exact fun w => run_geqI _ _ rfl Qv Qv rfl w
   | exact fun w => run_eqlE _ _ rfl Qv Qv rfl w
   | exact fun w => run_neqE _ _ rfl Qv Qv rfl w
   | exact fun w => run_addI _ _ rfl Qv Qv (by omega) (by omega) w
   | exact fun w => run_subI _ _ rfl Qv Qv (by omega) (by omega) w
   | exact fun w => run_notB _ _ rfl Qv w
   | exact fun w => run_extA _ rfl Qv w
   | exact fun w => run_extB _ rfl Qv w
   | exact fun w => run_ext3A _ rfl Qv w
   | exact fun w => run_ext3B _ rfl Qv w
   | exact fun w => run_ext3C _ rfl Qv w) : SeqJ P ops Q S late (.mv i r) (putL A L) w := j_mv ho hd hQ hw hy h
theorem qr (hS : S w) (h : SeqJ P ops Q S late r (putL A ((d, v) :: L)) w) (ho : ops[i]? = some o := by rfl) (hd : o.dst = some d := by rfl) (hQ : ∀ c a w, Q (.panic c) (a.put (some d) v) w → Q (.panic c) a w := by exact fun _ _ _ h => h) (hw : Region.wanted o (yielded ops (putL A L).tmps) = true := by first | exact wanted_rd rfl | exact wanted_g rfl rfl rfl Qv)
  (hy : ∀ w, S w → (execOp (putL A L).eval o).run P w = .ok (.value v) w := by first
   | exact fun _ H => run_lod1 _ _ rfl OneK.out Qv Qh (by omega) rfl
   | exact fun _ H => run_loadP _ _ rfl ManyK.out Qv Qh (by omega)) : SeqJ P ops Q S late (.rd i r) (putL A L) w := j_rd ho hd hQ hw hS hy h
theorem q_al (H : Cx w0 w l) {ty : TypeId} {n : Nat} {f : Nat → Value}
  (h : ∀ w', Cx w0 w' (vhI ty w.heap.size n n f :: l) → w'.heap.size = w.heap.size + 1 → LstI P ops Q rest (putL A ((d, .pointer (some ⟨w.heap.size, 0, none⟩)) :: L)) w')
  (ho : o.op = .alloc ty := by rfl) (Z : ZerK P ty n f := by infer_instance) (hn : n ≤ maxLen := by exact of_decide_eq_true rfl) (hd : o.dst = some d := by rfl) (hw : Region.wanted o (yielded ops (putL A L).tmps) = true := by exact wanted_rd rfl) : LstI P ops Q (o :: rest) (putL A L) w :=
 m_do hd hw (fun _ hK => wp_allocG w ty ho Z.out hn (fun w' m k z => hK _ _ (h w' (H.add k _ m (fun j (e : j = _) => Nat.le_of_eq e.symm)) z)))
theorem wp_alloc1 {a : Act} {K : Act → World → Prop} (w : World) (ty : TypeId) (ho : o.op = .alloc ty) (hz : ∀ w, (zeroValue ty).run P w = .ok v w) (h1 : v.cells = #[v])
  (h : ∀ w', Vh ty w' w.heap.size 1 1 (fun _ => v) → Below w.heap.size w w' → w'.heap.size = w.heap.size + 1 → K (a.put o.dst (.pointer (some ⟨w.heap.size, 0, none⟩))) w') : WpI P o a w K Q := by
 refine ⟨?_⟩
 have hh := h (w.alloc (.cells ((List.range 1).map fun _ => v).toArray ty)) (Vh.of_row _ 1 (by decide) (by show (w.heap.push _)[w.heap.size]? = _; rw [Array.getElem?_push_size])) (al_below _ _) (al_size _ _)
 unfold Oper.wp execOp
 simp only [ho, Instr.alloc, newVar, newRow, newObj, Sem.run_bind, hz, Result.andThen_ok, h1]
 go_simp
 exact hh
theorem q_al1 (H : Cx w0 w l) {ty : TypeId}
  (h : ∀ w', Cx w0 w' (vhI ty w.heap.size 1 1 (fun _ => v) :: l) → w'.heap.size = w.heap.size + 1 → LstI P ops Q rest (putL A ((d, .pointer (some ⟨w.heap.size, 0, none⟩)) :: L)) w')
  (ho : o.op = .alloc ty := by rfl) (Z : Zer1 P ty v := by infer_instance) (hd : o.dst = some d := by rfl) (hw : Region.wanted o (yielded ops (putL A L).tmps) = true := by exact wanted_rd rfl) : LstI P ops Q (o :: rest) (putL A L) w :=
 m_do hd hw (fun _ hK => wp_alloc1 w ty ho Z.out Z.one (fun w' m k z => hK _ _ (h w' (H.add k _ m (fun j (e : j = _) => Nat.le_of_eq e.symm)) z)))
theorem q_box (H : Cx w0 w l) {ty : TypeId} {x : Operand} {n : Nat} {f : Nat → Value}
  (h : ∀ w', Cx w0 w' (vhI ty w.heap.size n n f :: l) → w'.heap.size = w.heap.size + 1 → LstI P ops Q rest (putL A ((d, .pointer (some ⟨w.heap.size, 0, none⟩)) :: L)) w')
  (ho : o.op = .box ty x := by rfl) (hx : (putL A L).eval x = agV f 0 n := by exact Qv) (hn : n ≤ maxLen := by exact of_decide_eq_true rfl) (hd : o.dst = some d := by rfl) (hw : Region.wanted o (yielded ops (putL A L).tmps) = true := by exact wanted_rd rfl) : LstI P ops Q (o :: rest) (putL A L) w :=
 m_do hd hw (fun _ hK => wp_boxG w ty x ho hx hn (fun w' m k z => hK _ _ (h w' (H.add k _ m (fun j (e : j = _) => Nat.le_of_eq e.symm)) z)))
theorem wp_box1 {a : Act} {K : Act → World → Prop} (w : World) (ty : TypeId) (x : Operand) (ho : o.op = .box ty x) (hx : a.eval x = v) (h1 : v.cells = #[v])
  (h : ∀ w', Vh ty w' w.heap.size 1 1 (fun _ => v) → Below w.heap.size w w' → w'.heap.size = w.heap.size + 1 → K (a.put o.dst (.pointer (some ⟨w.heap.size, 0, none⟩))) w') : WpI P o a w K Q := by
 refine ⟨?_⟩
 have hh := h (w.alloc (.cells ((List.range 1).map fun _ => v).toArray ty)) (Vh.of_row _ 1 (by decide) (by show (w.heap.push _)[w.heap.size]? = _; rw [Array.getElem?_push_size])) (al_below _ _) (al_size _ _)
 unfold Oper.wp execOp
 simp only [ho, hx, Instr.box, newVar, newRow, newObj, h1]
 go_simp
 exact hh
theorem q_box1 (H : Cx w0 w l) {ty : TypeId} {x : Operand}
  (h : ∀ w', Cx w0 w' (vhI ty w.heap.size 1 1 (fun _ => v) :: l) → w'.heap.size = w.heap.size + 1 → LstI P ops Q rest (putL A ((d, .pointer (some ⟨w.heap.size, 0, none⟩)) :: L)) w')
  (ho : o.op = .box ty x := by rfl) (hx : (putL A L).eval x = v := by exact Qv) (h1 : v.cells = #[v] := by rfl) (hd : o.dst = some d := by rfl) (hw : Region.wanted o (yielded ops (putL A L).tmps) = true := by exact wanted_rd rfl) : LstI P ops Q (o :: rest) (putL A L) w :=
 m_do hd hw (fun _ hK => wp_box1 w ty x ho hx h1 (fun w' m k z => hK _ _ (h w' (H.add k _ m (fun j (e : j = _) => Nat.le_of_eq e.symm)) z)))
theorem q_sp0 {ty t : TypeId} {x y : Operand} {b q n N cap : Nat} {g g' f : Nat → Value} (H : Cx w0 w (vhI t b N cap g :: l)) (e : ∀ j, j < N → stP g q n f j = g' j) (h1 : ∀ j, j < n → (f j).oneCell' = true)
  (h : ∀ w', Cx w0 w' (vhI t b N cap g' :: l) → w'.heap.size = w.heap.size → LstI P ops Q rest (putL A L) w')
  (ho : o.op = .store ty x y := by rfl) (T : ManyK P ty n := by infer_instance) (hx : (putL A L).eval x = .pointer (some ⟨b, q, none⟩) := by exact Qv) (hy : (putL A L).eval y = agV f 0 n := by exact Qv) (hn : q + n ≤ N := by omega) (hd : o.dst = none := by rfl) (hw : Region.wanted o (yielded ops (putL A L).tmps) = true := by exact wanted_rd rfl) : LstI P ops Q (o :: rest) (putL A L) w :=
 m_st hw (fun _ hK => wp_storeP w ty x y ho T.out hx hy H.v0 hn h1 hd (fun w' m k z => hK _ (h w' (H.s0 k (m.congr e)) z)))
theorem q_st1 {ty t : TypeId} {x0 : It} {x y : Operand} {b q N cap : Nat} {g g' : Nat → Value} {u : Value} (H : Cx w0 w (x0 :: vhI t b N cap g :: l)) (e : ∀ j, j < N → stW g q u j = g' j)
  (h : ∀ w', Cx w0 w' (x0 :: vhI t b N cap g' :: l) → w'.heap.size = w.heap.size → LstI P ops Q rest (putL A L) w')
  (ho : o.op = .store ty x y := by rfl) (T : OneK P ty := by infer_instance) (hx : (putL A L).eval x = .pointer (some ⟨b, q, none⟩) := by exact Qv) (hy : (putL A L).eval y = u := by exact Qv) (hn : q < N := by omega) (h1 : u.oneCell' = true := by rfl) (h2 : u.cells = #[u] := by rfl) (hd : o.dst = none := by rfl) (hw : Region.wanted o (yielded ops (putL A L).tmps) = true := by exact wanted_rd rfl) : LstI P ops Q (o :: rest) (putL A L) w :=
 m_st hw (fun _ hK => wp_sto1 w ty x y ho T.out hx hy H.v1 hn h1 h2 hd (fun w' m k z => hK _ (h w' (H.s1 k (m.congr e)) z)))
theorem q_sp1 {ty t : TypeId} {x0 : It} {x y : Operand} {b q n N cap : Nat} {g g' f : Nat → Value} (H : Cx w0 w (x0 :: vhI t b N cap g :: l)) (e : ∀ j, j < N → stP g q n f j = g' j) (h1 : ∀ j, j < n → (f j).oneCell' = true)
  (h : ∀ w', Cx w0 w' (x0 :: vhI t b N cap g' :: l) → w'.heap.size = w.heap.size → LstI P ops Q rest (putL A L) w')
  (ho : o.op = .store ty x y := by rfl) (T : ManyK P ty n := by infer_instance) (hx : (putL A L).eval x = .pointer (some ⟨b, q, none⟩) := by exact Qv) (hy : (putL A L).eval y = agV f 0 n := by exact Qv) (hn : q + n ≤ N := by omega) (hd : o.dst = none := by rfl) (hw : Region.wanted o (yielded ops (putL A L).tmps) = true := by exact wanted_rd rfl) : LstI P ops Q (o :: rest) (putL A L) w :=
 m_st hw (fun _ hK => wp_storeP w ty x y ho T.out hx hy H.v1 hn h1 hd (fun w' m k z => hK _ (h w' (H.s1 k (m.congr e)) z)))
theorem q_st2 {ty t : TypeId} {x0 x1 : It} {x y : Operand} {b q N cap : Nat} {g g' : Nat → Value} {u : Value} (H : Cx w0 w (x0 :: x1 :: vhI t b N cap g :: l)) (e : ∀ j, j < N → stW g q u j = g' j)
  (h : ∀ w', Cx w0 w' (x0 :: x1 :: vhI t b N cap g' :: l) → w'.heap.size = w.heap.size → LstI P ops Q rest (putL A L) w')
  (ho : o.op = .store ty x y := by rfl) (T : OneK P ty := by infer_instance) (hx : (putL A L).eval x = .pointer (some ⟨b, q, none⟩) := by exact Qv) (hy : (putL A L).eval y = u := by exact Qv) (hn : q < N := by omega) (h1 : u.oneCell' = true := by rfl) (h2 : u.cells = #[u] := by rfl) (hd : o.dst = none := by rfl) (hw : Region.wanted o (yielded ops (putL A L).tmps) = true := by exact wanted_rd rfl) : LstI P ops Q (o :: rest) (putL A L) w :=
 m_st hw (fun _ hK => wp_sto1 w ty x y ho T.out hx hy H.v2 hn h1 h2 hd (fun w' m k z => hK _ (h w' (H.s2 k (m.congr e)) z)))
theorem q_sp2 {ty t : TypeId} {x0 x1 : It} {x y : Operand} {b q n N cap : Nat} {g g' f : Nat → Value} (H : Cx w0 w (x0 :: x1 :: vhI t b N cap g :: l)) (e : ∀ j, j < N → stP g q n f j = g' j) (h1 : ∀ j, j < n → (f j).oneCell' = true)
  (h : ∀ w', Cx w0 w' (x0 :: x1 :: vhI t b N cap g' :: l) → w'.heap.size = w.heap.size → LstI P ops Q rest (putL A L) w')
  (ho : o.op = .store ty x y := by rfl) (T : ManyK P ty n := by infer_instance) (hx : (putL A L).eval x = .pointer (some ⟨b, q, none⟩) := by exact Qv) (hy : (putL A L).eval y = agV f 0 n := by exact Qv) (hn : q + n ≤ N := by omega) (hd : o.dst = none := by rfl) (hw : Region.wanted o (yielded ops (putL A L).tmps) = true := by exact wanted_rd rfl) : LstI P ops Q (o :: rest) (putL A L) w :=
 m_st hw (fun _ hK => wp_storeP w ty x y ho T.out hx hy H.v2 hn h1 hd (fun w' m k z => hK _ (h w' (H.s2 k (m.congr e)) z)))
theorem q_sp3 {ty t : TypeId} {x0 x1 x2 : It} {x y : Operand} {b q n N cap : Nat} {g g' f : Nat → Value} (H : Cx w0 w (x0 :: x1 :: x2 :: vhI t b N cap g :: l)) (e : ∀ j, j < N → stP g q n f j = g' j) (h1 : ∀ j, j < n → (f j).oneCell' = true)
  (h : ∀ w', Cx w0 w' (x0 :: x1 :: x2 :: vhI t b N cap g' :: l) → w'.heap.size = w.heap.size → LstI P ops Q rest (putL A L) w')
  (ho : o.op = .store ty x y := by rfl) (T : ManyK P ty n := by infer_instance) (hx : (putL A L).eval x = .pointer (some ⟨b, q, none⟩) := by exact Qv) (hy : (putL A L).eval y = agV f 0 n := by exact Qv) (hn : q + n ≤ N := by omega) (hd : o.dst = none := by rfl) (hw : Region.wanted o (yielded ops (putL A L).tmps) = true := by exact wanted_rd rfl) : LstI P ops Q (o :: rest) (putL A L) w :=
 m_st hw (fun _ hK => wp_storeP w ty x y ho T.out hx hy H.v3 hn h1 hd (fun w' m k z => hK _ (h w' (H.s3 k (m.congr e)) z)))
theorem q_st4 {ty t : TypeId} {x0 x1 x2 x3 : It} {x y : Operand} {b q N cap : Nat} {g g' : Nat → Value} {u : Value} (H : Cx w0 w (x0 :: x1 :: x2 :: x3 :: vhI t b N cap g :: l)) (e : ∀ j, j < N → stW g q u j = g' j)
  (h : ∀ w', Cx w0 w' (x0 :: x1 :: x2 :: x3 :: vhI t b N cap g' :: l) → w'.heap.size = w.heap.size → LstI P ops Q rest (putL A L) w')
  (ho : o.op = .store ty x y := by rfl) (T : OneK P ty := by infer_instance) (hx : (putL A L).eval x = .pointer (some ⟨b, q, none⟩) := by exact Qv) (hy : (putL A L).eval y = u := by exact Qv) (hn : q < N := by omega) (h1 : u.oneCell' = true := by rfl) (h2 : u.cells = #[u] := by rfl) (hd : o.dst = none := by rfl) (hw : Region.wanted o (yielded ops (putL A L).tmps) = true := by exact wanted_rd rfl) : LstI P ops Q (o :: rest) (putL A L) w :=
 m_st hw (fun _ hK => wp_sto1 w ty x y ho T.out hx hy H.v4 hn h1 h2 hd (fun w' m k z => hK _ (h w' (H.s4 k (m.congr e)) z)))
theorem q_sp4 {ty t : TypeId} {x0 x1 x2 x3 : It} {x y : Operand} {b q n N cap : Nat} {g g' f : Nat → Value} (H : Cx w0 w (x0 :: x1 :: x2 :: x3 :: vhI t b N cap g :: l)) (e : ∀ j, j < N → stP g q n f j = g' j) (h1 : ∀ j, j < n → (f j).oneCell' = true)
  (h : ∀ w', Cx w0 w' (x0 :: x1 :: x2 :: x3 :: vhI t b N cap g' :: l) → w'.heap.size = w.heap.size → LstI P ops Q rest (putL A L) w')
  (ho : o.op = .store ty x y := by rfl) (T : ManyK P ty n := by infer_instance) (hx : (putL A L).eval x = .pointer (some ⟨b, q, none⟩) := by exact Qv) (hy : (putL A L).eval y = agV f 0 n := by exact Qv) (hn : q + n ≤ N := by omega) (hd : o.dst = none := by rfl) (hw : Region.wanted o (yielded ops (putL A L).tmps) = true := by exact wanted_rd rfl) : LstI P ops Q (o :: rest) (putL A L) w :=
 m_st hw (fun _ hK => wp_storeP w ty x y ho T.out hx hy H.v4 hn h1 hd (fun w' m k z => hK _ (h w' (H.s4 k (m.congr e)) z)))
theorem q_sp5 {ty t : TypeId} {x0 x1 x2 x3 x4 : It} {x y : Operand} {b q n N cap : Nat} {g g' f : Nat → Value} (H : Cx w0 w (x0 :: x1 :: x2 :: x3 :: x4 :: vhI t b N cap g :: l)) (e : ∀ j, j < N → stP g q n f j = g' j) (h1 : ∀ j, j < n → (f j).oneCell' = true)
  (h : ∀ w', Cx w0 w' (x0 :: x1 :: x2 :: x3 :: x4 :: vhI t b N cap g' :: l) → w'.heap.size = w.heap.size → LstI P ops Q rest (putL A L) w')
  (ho : o.op = .store ty x y := by rfl) (T : ManyK P ty n := by infer_instance) (hx : (putL A L).eval x = .pointer (some ⟨b, q, none⟩) := by exact Qv) (hy : (putL A L).eval y = agV f 0 n := by exact Qv) (hn : q + n ≤ N := by omega) (hd : o.dst = none := by rfl) (hw : Region.wanted o (yielded ops (putL A L).tmps) = true := by exact wanted_rd rfl) : LstI P ops Q (o :: rest) (putL A L) w :=
 m_st hw (fun _ hK => wp_storeP w ty x y ho T.out hx hy H.v5 hn h1 hd (fun w' m k z => hK _ (h w' (H.s5 k (m.congr e)) z)))
theorem q_sp7 {ty t : TypeId} {x0 x1 x2 x3 x4 x5 x6 : It} {x y : Operand} {b q n N cap : Nat} {g g' f : Nat → Value} (H : Cx w0 w (x0 :: x1 :: x2 :: x3 :: x4 :: x5 :: x6 :: vhI t b N cap g :: l)) (e : ∀ j, j < N → stP g q n f j = g' j) (h1 : ∀ j, j < n → (f j).oneCell' = true)
  (h : ∀ w', Cx w0 w' (x0 :: x1 :: x2 :: x3 :: x4 :: x5 :: x6 :: vhI t b N cap g' :: l) → w'.heap.size = w.heap.size → LstI P ops Q rest (putL A L) w')
  (ho : o.op = .store ty x y := by rfl) (T : ManyK P ty n := by infer_instance) (hx : (putL A L).eval x = .pointer (some ⟨b, q, none⟩) := by exact Qv) (hy : (putL A L).eval y = agV f 0 n := by exact Qv) (hn : q + n ≤ N := by omega) (hd : o.dst = none := by rfl) (hw : Region.wanted o (yielded ops (putL A L).tmps) = true := by exact wanted_rd rfl) : LstI P ops Q (o :: rest) (putL A L) w :=
 m_st hw (fun _ hK => wp_storeP w ty x y ho T.out hx hy H.v7 hn h1 hd (fun w' m k z => hK _ (h w' (H.s7 k (m.congr e)) z)))
theorem q_c1 {n : Nat} {x : Operand} {T : Array TypeId} [E : EntK P n] {u : Value} {R : Ending → World → Prop} (hc : Calls P n #[u] w R)
  (h : ∀ e w', R e w' → ∃ r, e = .returned r ∧ LstI P ops Q rest (putL A ((d, r) :: L)) w') (ho : o.op = .call { callee := .value (.func n), args := #[x], argTypes := T } := by rfl) (hx : (putL A L).eval x = u := by exact Qv) (hd : o.dst = some d := by rfl) (hw : Region.wanted o (yielded ops (putL A L).tmps) = true := by exact wanted_rd rfl) : LstI P ops Q (o :: rest) (putL A L) w :=
 m_do hd hw (fun _ hK => wp_call1 w n x T ho hx (E.out _ _) hc (fun e w' hr => by obtain ⟨r, h1, h2⟩ := h e w' hr; exact ⟨r, h1, hK _ _ h2⟩))
theorem q_c2 {n : Nat} {x y : Operand} {T : Array TypeId} [E : EntK P n] {u u2 : Value} {R : Ending → World → Prop} (hc : Calls P n #[u, u2] w R)
  (h : ∀ e w', R e w' → ∃ r, e = .returned r ∧ LstI P ops Q rest (putL A ((d, r) :: L)) w') (ho : o.op = .call { callee := .value (.func n), args := #[x, y], argTypes := T } := by rfl) (hx : (putL A L).eval x = u := by exact Qv) (hy : (putL A L).eval y = u2 := by exact Qv) (hd : o.dst = some d := by rfl) (hw : Region.wanted o (yielded ops (putL A L).tmps) = true := by exact wanted_rd rfl) : LstI P ops Q (o :: rest) (putL A L) w :=
 m_do hd hw (fun _ hK => wp_call2 w n x y T ho hx hy (E.out _ _) hc (fun e w' hr => by obtain ⟨r, h1, h2⟩ := h e w' hr; exact ⟨r, h1, hK _ _ h2⟩))
theorem q_c3 {n : Nat} {x y z : Operand} {T : Array TypeId} [E : EntK P n] {u u2 u3 : Value} {R : Ending → World → Prop} (hc : Calls P n #[u, u2, u3] w R)
  (h : ∀ e w', R e w' → ∃ r, e = .returned r ∧ LstI P ops Q rest (putL A ((d, r) :: L)) w') (ho : o.op = .call { callee := .value (.func n), args := #[x, y, z], argTypes := T } := by rfl) (hx : (putL A L).eval x = u := by exact Qv) (hy : (putL A L).eval y = u2 := by exact Qv) (hz : (putL A L).eval z = u3 := by exact Qv) (hd : o.dst = some d := by rfl) (hw : Region.wanted o (yielded ops (putL A L).tmps) = true := by exact wanted_rd rfl) : LstI P ops Q (o :: rest) (putL A L) w :=
 m_do hd hw (fun _ hK => wp_call3n w n x y z T ho hx hy hz (E.out _ _) hc (fun e w' hr => by obtain ⟨r, h1, h2⟩ := h e w' hr; exact ⟨r, h1, hK _ _ h2⟩))
end
section
variable {P : Program} {Q : Exit → Act → World → Prop} {a : Act} {w : World} {y : Code} {J : Act → World → Prop} {id : Nat}
theorem r_nx (h : Q .ret a w) : Nx P y Q .ret a w := h
theorem r_th (h : Q .ret a w) : Exit.then J Q .ret a w := h
theorem r_bl (h : Q .ret a w) : Exit.inBlock id Q .ret a w := h
end
theorem q_if {P : Program} {Q : Exit → Act → World → Prop} {A : Act} {L : List (Nat × Value)} {w : World} {c : Operand} {x y : Code} {t : Bool} (h1 : t = true → CodI P x Q (putL A L) w) (h2 : t = false → CodI P y Q (putL A L) w) (hc : (putL A L).eval c = .bool t := by exact Qv) : CodI P (.cond c x y) Q (putL A L) w := c_cond hc h1 h2
theorem q_yes {P : Program} {Q : Exit → Act → World → Prop} {A : Act} {L : List (Nat × Value)} {w : World} {c : Operand} {x y : Code} {t : Bool} (ht : t = true) (h : CodI P x Q (putL A L) w) (hc : (putL A L).eval c = .bool t := by exact Qv) : CodI P (.cond c x y) Q (putL A L) w := c_cond hc (fun _ => h) (fun e => by rw [ht] at e; cases e)
theorem q_no {P : Program} {Q : Exit → Act → World → Prop} {A : Act} {L : List (Nat × Value)} {w : World} {c : Operand} {x y : Code} {t : Bool} (ht : t = false) (h : CodI P y Q (putL A L) w) (hc : (putL A L).eval c = .bool t := by exact Qv) : CodI P (.cond c x y) Q (putL A L) w := c_cond hc (fun e => by rw [ht] at e; cases e) (fun _ => h)
end Go.Proofs.YtdhblehhgpdpdaaGreat
