import Derived.Test.YtdhblehhgpdpdaaNear65
import Derived.Test.YtdhblehhgpdpdaaNodOK
import Derived.Deep.Slices
import Derived.Deep.Strs
import Derived.Deep.Grids
namespace Go.Proofs.Ytdhblehhgpdpdaa
open Go.ChangeShapes Go.WideShapes Go.ChangeAt Go.RowKit Go.Joins
set_option maxRecDepth 100000
instance : Inhabited Lm := ⟨⟨⟨0, 0, 0, []⟩, none, 0⟩⟩
def CellK (b : Bool) (v : Value) : Prop := (b = true ∧ ∃ x, v = .bool x) ∨ (b = false ∧ ∃ x, v = .int .i64 x ∧ R64 x)
theorem cellsIntN : Try.prog.cellsOf 3 = 1 := by kernel_rfl
section
variable {H : Type} {enc : TypeId × Value → H} {w : World} {base : Nat} {held : Bool}
def Flat (enc : TypeId × Value → H) (w : World) (base : Nat) (held : Bool) (t : TypeId) (n : Nat) (K : Nat → Bool) : Prop :=
 Try.prog.cellsOf t = n ∧ ∀ fuel cs x, DataW.trod enc Try.prog w base (fun _ => true) held fuel t cs = some x → ∀ j v, cs[j]? = some v → CellK (K j) v
theorem flat_int : Flat enc w base held 3 1 (fun _ => false) := ⟨cellsIntN, fun fuel cs x h j v hv => by
 obtain ⟨z, rfl, _, hw⟩ := DataW.trod_int Try.underlying3 h
 match j, hv with
 | 0, hv => exact Or.inr ⟨rfl, z, (Option.some.inj hv).symm, R64.of_wf hw⟩⟩
theorem drop_take_get {cs : List Value} {o n j : Nat} (hj : j < n) : ((cs.drop o).take n)[j]? = cs[o + j]? := by
 rw [List.getElem?_take, if_pos hj, List.getElem?_drop]
theorem flat_part {t : TypeId} {fs : Array Field} {n fuel : Nat} {cs : List Value} {x : DataW H × List MemPlace} {K : Nat → Bool} {i : Nat} {f : Field} (ht : Try.prog.underlying t = some (.struct fs)) (hf : fs[i]? = some f) (he : Flat enc w base held f.type n K)
  (h : DataW.trod enc Try.prog w base (fun _ => true) held fuel t cs = some x) : ∀ j v, j < n → cs[f.offset + j]? = some v → CellK (K j) v := by
 obtain ⟨xs, m, _, _, _, hlen, hx⟩ := DataW.trod_struct ht h
 intro j v hj hv
 have hg := hx i f hf
 have hi : i < fs.size := (Array.getElem?_eq_some_iff.1 hf).1
 rw [List.getElem?_eq_getElem (by omega), he.1] at hg
 exact he.2 _ _ _ hg j v (by rw [drop_take_get hj]; exact hv)
theorem flat_struct {t : TypeId} {fs : Array Field} {N : Nat} {K : Nat → Bool} (ht : Try.prog.underlying t = some (.struct fs)) (hc : Try.prog.cellsOf t = N) (ix : Nat → Nat) (hcov : ∀ j, j < N → ∃ f n, fs[ix j]? = some f ∧ f.offset ≤ j ∧ j < f.offset + n ∧ Flat enc w base held f.type n (fun i => K (f.offset + i))) : Flat enc w base held t N K := ⟨hc, fun fuel cs x h j v hv => by
 have hj : j < N := by
  obtain ⟨xs, m, _, _, hl, _⟩ := DataW.trod_struct ht h
  have := (List.getElem?_eq_some_iff.1 hv).1
  omega
 obtain ⟨f, n, hf, h1, h2, hfl⟩ := hcov j hj
 have := flat_part ht hf hfl h (j - f.offset) v (by omega) (by rw [Nat.add_sub_cancel' h1]; exact hv)
 rw [Nat.add_sub_cancel' h1] at this
 exact this⟩
set_option maxRecDepth 100000 in
theorem flat_tn : Flat enc w base held 23 4 (fun _ => false) := flat_struct Try.underlying23 (by kernel_rfl) id (fun j hj => by
 match j, hj with
 | 0, _ => exact ⟨_, 1, rfl, Nat.le_refl _, by decide, flat_int⟩
 | 1, _ => exact ⟨_, 1, rfl, Nat.le_refl _, by decide, flat_int⟩
 | 2, _ => exact ⟨_, 1, rfl, Nat.le_refl _, by decide, flat_int⟩
 | 3, _ => exact ⟨_, 1, rfl, Nat.le_refl _, by decide, flat_int⟩)
end
def vI : Value → Int
 | .int _ x => x
 | _ => 0
def vB : Value → Bool
 | .bool b => b
 | _ => false
theorem CellK.i {v : Value} (h : CellK false v) : iV (vI v) = v := by
 rcases h with ⟨h, _⟩ | ⟨_, x, rfl, _⟩
 ·cases h
 ·rfl
theorem CellK.b {v : Value} (h : CellK true v) : .bool (vB v) = v := by
 rcases h with ⟨_, x, rfl⟩ | ⟨h, _⟩
 ·rfl
 ·cases h
theorem CellK.R {b : Bool} {v : Value} (h : CellK b v) : R64 (vI v) := by
 rcases h with ⟨_, x, rfl⟩ | ⟨_, x, rfl, hx⟩
 ·exact R64_nought
 ·exact hx
theorem agV_list {cs : List Value} {f : Nat → Value} {n : Nat} (hl : cs.length = n) (h : ∀ j, j < n → cs[j]? = some (f j)) : Value.agg cs.toArray = agV f 0 n := by
 unfold agV
 congr 2
 refine List.ext_getElem? (fun j => ?_)
 by_cases hj : j < n
 ·rw [h j hj, List.getElem?_map, List.getElem?_range hj]
  show _ = some (f (0 + j))
  rw [Nat.zero_add]
 ·rw [List.getElem?_eq_none (by omega), List.getElem?_eq_none (by simp; omega)]
section
variable {H : Type} {enc : TypeId × Value → H} {w : World} {base : Nat} {held : Bool}
set_option maxRecDepth 100000 in
theorem open_tnArg {r : Reach} {b0 : Nat} {v : Value} {d : DataW H} {p : List MemPlace} (hv : Value.okWide Try.prog w r b0 23 v) (h : DataW.Trod enc Try.prog w base (fun _ => true) held 23 v d p) :
  ∃ t : Tn, v = agV (ntnF t) 0 4 ∧ t.Ok := by
 obtain ⟨cs, rfl, hs⟩ := okWide_struct Try.underlying23 hv
 obtain ⟨fuel, hf⟩ := h
 have hf' : DataW.trod enc Try.prog w base (fun _ => true) held fuel 23 cs.toList = some (d, p) := hf
 have hl : cs.toList.length = 4 := by rw [Array.length_toList, hs]; kernel_rfl
 have hg : ∀ j, j < 4 → CellK false (cs.toList.getD j (.int .i64 0)) := fun j hj => flat_tn.2 _ _ _ hf' j _ (by rw [List.getD_eq_getElem?_getD, List.getElem?_eq_getElem (by omega)]; rfl)
 refine ⟨⟨vI (cs.toList.getD 0 (.int .i64 0)), vI (cs.toList.getD 1 (.int .i64 0)), vI (cs.toList.getD 2 (.int .i64 0)), vI (cs.toList.getD 3 (.int .i64 0))⟩, ?_, (hg 0 (by omega)).R, (hg 1 (by omega)).R, (hg 2 (by omega)).R, (hg 3 (by omega)).R⟩
 have := agV_list hl (f := ntnF ⟨vI (cs.toList.getD 0 (.int .i64 0)), vI (cs.toList.getD 1 (.int .i64 0)), vI (cs.toList.getD 2 (.int .i64 0)), vI (cs.toList.getD 3 (.int .i64 0))⟩) (fun j hj => by
  have e : cs.toList[j]? = some (cs.toList.getD j (.int .i64 0)) := by rw [List.getD_eq_getElem?_getD, List.getElem?_eq_getElem (by omega)]; rfl
  rw [e]
  congr 1
  match j, hj with
  | 0, _ => exact (hg 0 (by omega)).i.symm
  | 1, _ => exact (hg 1 (by omega)).i.symm
  | 2, _ => exact (hg 2 (by omega)).i.symm
  | 3, _ => exact (hg 3 (by omega)).i.symm)
 rwa [Array.toArray_toList] at this
end
end Go.Proofs.Ytdhblehhgpdpdaa
