/- Joined: OpenNd, NodOps2, NodOps3. -/
import Derived.Test.YtngmeaaglogieabGreatNear67
import Derived.Test.YtngmeaaglogieabGreatNodOK
import Derived.Deep.Slices
import Derived.Deep.Strs
import Derived.Deep.Grids
namespace Go.Proofs.YtngmeaaglogieabGreat
open Go.ChangeShapes Go.WideShapes Go.ChangeAt Go.RowKit Go.Joins
set_option maxRecDepth 100000

instance : Inhabited Lm := ⟨⟨⟨0, 0, 0, []⟩, none, 0⟩⟩
/-- A cell that holds a truth value, or a number of 64 bits. -/
def CellK (b : Bool) (v : Value) : Prop := (b = true ∧ ∃ x, v = .bool x) ∨ (b = false ∧ ∃ x, v = .int .i64 x ∧ R64 x)
theorem cellsIntN : Tryz.prog.cellsOf 3 = 1 := by kernel_rfl
theorem cellsBoolN : Tryz.prog.cellsOf 4 = 1 := by kernel_rfl
section
variable {H : Type} {enc : TypeId × Value → H} {w : World} {base : Nat} {held : Bool}
/-- A type whose cells are such, all of them. -/
def Flat (enc : TypeId × Value → H) (w : World) (base : Nat) (held : Bool) (t : TypeId) (n : Nat) (K : Nat → Bool) : Prop :=
  Tryz.prog.cellsOf t = n ∧ ∀ fuel cs x, DataW.trod enc Tryz.prog w base (fun _ => true) held fuel t cs = some x → ∀ j v, cs[j]? = some v → CellK (K j) v
theorem flat_int : Flat enc w base held 3 1 (fun _ => false) := ⟨cellsIntN, fun fuel cs x h j v hv => by
  obtain ⟨z, rfl, _, hw⟩ := DataW.trod_int Tryz.underlying3 h
  match j, hv with
  | 0, hv => exact Or.inr ⟨rfl, z, (Option.some.inj hv).symm, R64.of_wf hw⟩⟩
theorem flat_bool : Flat enc w base held 4 1 (fun _ => true) := ⟨cellsBoolN, fun fuel cs x h j v hv => by
  obtain ⟨z, rfl, _⟩ := DataW.trod_bool Tryz.underlying4 h
  match j, hv with
  | 0, hv => exact Or.inl ⟨rfl, z, (Option.some.inj hv).symm⟩⟩
theorem trod_arr {t e : TypeId} {n fuel : Nat} {cs : List Value} {x : DataW H × List MemPlace} (ht : Tryz.prog.underlying t = some (.array n e)) (h : DataW.trod enc Tryz.prog w base (fun _ => true) held fuel t cs = some x) :
    cs.length = Tryz.prog.cellsOf t ∧ ∃ m, ∀ i, i < n → ∃ y, DataW.trod enc Tryz.prog w base (fun _ => true) held m e ((cs.drop (i * Tryz.prog.cellsOf e)).take (Tryz.prog.cellsOf e)) = some y := by
  cases fuel with
  | zero => simp [DataW.trod] at h
  | succ m =>
    unfold DataW.trod at h
    rw [ht] at h
    simp only [Option.ite_none_right_eq_some, Option.map_eq_some_iff] at h
    obtain ⟨hl, xs, hp, _⟩ := h
    refine ⟨hl, m, fun i hi => ?_⟩
    have hg := mapM_some_get hp i i (by simp [hi])
    have hlen := mapM_some_length hp
    rw [List.length_range] at hlen
    exact ⟨xs[i]'(by omega), by rw [hg, List.getElem?_eq_getElem]⟩
theorem drop_take_get {cs : List Value} {o n j : Nat} (hj : j < n) : ((cs.drop o).take n)[j]? = cs[o + j]? := by
  rw [List.getElem?_take, if_pos hj, List.getElem?_drop]
theorem flat_arr {t e : TypeId} {n m N : Nat} {K : Nat → Bool} (ht : Tryz.prog.underlying t = some (.array n e)) (he : Flat enc w base held e m K) (hm : 0 < m) (hc : Tryz.prog.cellsOf t = N) (hN : N = n * m) : Flat enc w base held t N (fun j => K (j % m)) := ⟨hc, fun fuel cs x h j v hv => by
  obtain ⟨hl, q, hx⟩ := trod_arr ht h
  have hj : j < N := by have := (List.getElem?_eq_some_iff.1 hv).1; omega
  have hd : j / m < n := by
    rw [Nat.div_lt_iff_lt_mul hm, ← hN]; exact hj
  obtain ⟨y, hy⟩ := hx (j / m) hd
  rw [he.1] at hy
  refine he.2 _ _ _ hy (j % m) v ?_
  rw [drop_take_get (Nat.mod_lt _ hm), ← hv]
  congr 1
  rw [Nat.mul_comm]
  exact Nat.div_add_mod j m⟩
/-- A field's part. -/
theorem flat_part {t : TypeId} {fs : Array Field} {n fuel : Nat} {cs : List Value} {x : DataW H × List MemPlace} {K : Nat → Bool} {i : Nat} {f : Field} (ht : Tryz.prog.underlying t = some (.struct fs)) (hf : fs[i]? = some f) (he : Flat enc w base held f.type n K)
    (h : DataW.trod enc Tryz.prog w base (fun _ => true) held fuel t cs = some x) : ∀ j v, j < n → cs[f.offset + j]? = some v → CellK (K j) v := by
  obtain ⟨xs, m, _, _, _, hlen, hx⟩ := DataW.trod_struct ht h
  intro j v hj hv
  have hg := hx i f hf
  have hi : i < fs.size := (Array.getElem?_eq_some_iff.1 hf).1
  rw [List.getElem?_eq_getElem (by omega), he.1] at hg
  exact he.2 _ _ _ hg j v (by rw [drop_take_get hj]; exact hv)
/-- A structure of fields that are flat. -/
theorem flat_struct {t : TypeId} {fs : Array Field} {N : Nat} {K : Nat → Bool} (ht : Tryz.prog.underlying t = some (.struct fs)) (hc : Tryz.prog.cellsOf t = N) (ix : Nat → Nat) (hcov : ∀ j, j < N → ∃ f n, fs[ix j]? = some f ∧ f.offset ≤ j ∧ j < f.offset + n ∧ Flat enc w base held f.type n (fun i => K (f.offset + i))) : Flat enc w base held t N K := ⟨hc, fun fuel cs x h j v hv => by
  have hj : j < N := by
    obtain ⟨xs, m, _, _, hl, _⟩ := DataW.trod_struct ht h
    have := (List.getElem?_eq_some_iff.1 hv).1
    omega
  obtain ⟨f, n, hf, h1, h2, hfl⟩ := hcov j hj
  have := flat_part ht hf hfl h (j - f.offset) v (by omega) (by rw [Nat.add_sub_cancel' h1]; exact hv)
  rw [Nat.add_sub_cancel' h1] at this
  exact this⟩
set_option maxRecDepth 100000 in
theorem flat_tn : Flat enc w base held 23 4 (fun _ => false) := flat_struct Tryz.underlying23 (by kernel_rfl) id (fun j hj => by
  match j, hj with
  | 0, _ => exact ⟨_, 1, rfl, Nat.le_refl _, by decide, flat_int⟩
  | 1, _ => exact ⟨_, 1, rfl, Nat.le_refl _, by decide, flat_int⟩
  | 2, _ => exact ⟨_, 1, rfl, Nat.le_refl _, by decide, flat_int⟩
  | 3, _ => exact ⟨_, 1, rfl, Nat.le_refl _, by decide, flat_int⟩)
theorem Flat.as {t : TypeId} {n : Nat} {K K' : Nat → Bool} (h : Flat enc w base held t n K) (e : ∀ j, j < n → K j = K' j) (hl : ∀ fuel cs x, DataW.trod enc Tryz.prog w base (fun _ => true) held fuel t cs = some x → cs.length ≤ n) : Flat enc w base held t n K' := ⟨h.1, fun fuel cs x hx j v hv => by
  have := h.2 fuel cs x hx j v hv
  rw [e j (by have := (List.getElem?_eq_some_iff.1 hv).1; have := hl fuel cs x hx; omega)] at this
  exact this⟩
theorem len_int : ∀ fuel cs x, DataW.trod enc Tryz.prog w base (fun _ => true) held fuel 3 cs = some x → cs.length ≤ 1 := fun fuel cs x h => by
  obtain ⟨z, rfl, _, hw⟩ := DataW.trod_int Tryz.underlying3 h; exact Nat.le_refl _
theorem len_bool : ∀ fuel cs x, DataW.trod enc Tryz.prog w base (fun _ => true) held fuel 4 cs = some x → cs.length ≤ 1 := fun fuel cs x h => by
  obtain ⟨z, rfl, _⟩ := DataW.trod_bool Tryz.underlying4 h; exact Nat.le_refl _
theorem len_arr {t e : TypeId} {n N : Nat} (ht : Tryz.prog.underlying t = some (.array n e)) (hc : Tryz.prog.cellsOf t = N) : ∀ fuel cs x, DataW.trod enc Tryz.prog w base (fun _ => true) held fuel t cs = some x → cs.length ≤ N := fun fuel cs x h => by
  have := (trod_arr ht h).1; omega
theorem flat_intK {K : Nat → Bool} (h : K 0 = false) : Flat enc w base held 3 1 K := flat_int.as (fun j hj => by
  obtain rfl : j = 0 := by omega
  exact h.symm) len_int
theorem flat_boolK {K : Nat → Bool} (h : K 0 = true) : Flat enc w base held 4 1 K := flat_bool.as (fun j hj => by
  obtain rfl : j = 0 := by omega
  exact h.symm) len_bool
theorem flat_arrK {t e : TypeId} {n m N : Nat} {K K' : Nat → Bool} (ht : Tryz.prog.underlying t = some (.array n e)) (he : Flat enc w base held e m K) (hm : 0 < m) (hc : Tryz.prog.cellsOf t = N) (hN : N = n * m) (e2 : ∀ j, j < N → K (j % m) = K' j) : Flat enc w base held t N K' := (flat_arr ht he hm hc hN).as e2 (len_arr ht hc)
set_option maxRecDepth 100000 in
theorem flat_st : Flat enc w base held 25 7 (fun j => decide (j = 5)) := flat_struct Tryz.underlying25 (by kernel_rfl) id (fun j hj => by
  match j, hj with
  | 0, _ => exact ⟨_, 1, rfl, Nat.le_refl _, by decide, flat_intK rfl⟩
  | 1, _ => exact ⟨_, 1, rfl, Nat.le_refl _, by decide, flat_intK rfl⟩
  | 2, _ => exact ⟨_, 1, rfl, Nat.le_refl _, by decide, flat_intK rfl⟩
  | 3, _ => exact ⟨_, 1, rfl, Nat.le_refl _, by decide, flat_intK rfl⟩
  | 4, _ => exact ⟨_, 1, rfl, Nat.le_refl _, by decide, flat_intK rfl⟩
  | 5, _ => exact ⟨_, 1, rfl, Nat.le_refl _, by decide, flat_boolK rfl⟩
  | 6, _ => exact ⟨_, 1, rfl, Nat.le_refl _, by decide, flat_intK rfl⟩)
set_option maxRecDepth 100000 in
theorem flat_rl : Flat enc w base held 30 12 (fun j => decide (j < 4)) := flat_struct Tryz.underlying30 (by kernel_rfl) (fun j => j / 4) (fun j hj => by
  by_cases h1 : j < 4
  · refine ⟨_, 4, by rw [show j / 4 = 0 by omega]; rfl, Nat.zero_le _, by show j < 0 + 4; omega, flat_arrK Tryz.underlying27 flat_bool (by decide) (by kernel_rfl) rfl (fun i hi => ?_)⟩
    exact (decide_eq_true (show 0 + i < 4 by omega)).symm
  · by_cases h2 : j < 8
    · refine ⟨_, 4, by rw [show j / 4 = 1 by omega]; rfl, by show 4 ≤ j; omega, by show j < 4 + 4; omega, flat_arrK Tryz.underlying28 flat_int (by decide) (by kernel_rfl) rfl (fun i hi => ?_)⟩
      exact (decide_eq_false (show ¬ 4 + i < 4 by omega)).symm
    · refine ⟨_, 4, by rw [show j / 4 = 2 by omega]; rfl, by show 8 ≤ j; omega, by show j < 8 + 4; omega, flat_arrK Tryz.underlying28 flat_int (by decide) (by kernel_rfl) rfl (fun i hi => ?_)⟩
      exact (decide_eq_false (show ¬ 8 + i < 4 by omega)).symm)
theorem flat_ax : Flat enc w base held 26 21 (fun j => decide (j % 7 = 5)) := flat_arr Tryz.underlying26 flat_st (by decide) (by kernel_rfl) rfl
theorem flat_i3 : Flat enc w base held 31 3 (fun _ => false) := flat_arr Tryz.underlying31 flat_int (by decide) (by kernel_rfl) rfl
theorem flat_i4 : Flat enc w base held 28 4 (fun _ => false) := flat_arr Tryz.underlying28 flat_int (by decide) (by kernel_rfl) rfl
theorem flat_i43 : Flat enc w base held 32 12 (fun _ => false) := flat_arr Tryz.underlying32 flat_i3 (by decide) (by kernel_rfl) rfl
set_option maxRecDepth 100000 in
theorem open_trowN {fuel : Nat} {v : Value} {x : DataW H × List MemPlace} (h : DataW.trod enc Tryz.prog w base (fun _ => true) held fuel 33 [v] = some x) (hsz : ∀ n ∈ x.1.weights Tryz.prog 33, n ≤ reachBytes) :
    ∃ (ao : Option Addr) (cap : Nat) (l : List Bool), v = .slice ao l.length cap ∧ Sr w ao l.length cap (tF (fun i => l.getD i false)) ∧ l.length ≤ 140737488351232 ∧ l.length ≤ cap := by
  rcases Go.Deep.open_bools Tryz.underlying33 Tryz.underlying4 cellsBoolN h with ⟨hcs, _⟩ | ⟨a, len, cap, B, hcs, _, hl, _, hx, hcell⟩
  · simp at hcs
    exact ⟨none, 0, [], hcs, Or.inl ⟨rfl, rfl, rfl⟩, by decide, Nat.le_refl _⟩
  · simp at hcs
    have hb : cap * 1 ≤ reachBytes := by
      refine hsz _ ?_
      rw [hx]
      simp [Go.Deep.boolRow, DataW.weights, Tryz.underlying33, show Tryz.prog.bytesOf 4 = 1 by kernel_rfl]
      left; omega
    have el : ((List.range len).map B).length = len := by simp
    refine ⟨some a, cap, (List.range len).map B, by rw [el]; exact hcs, Or.inr ⟨a, rfl, fun i hi => ?_⟩, by rw [el]; unfold reachBytes at hb; omega, by rw [el]; exact hl⟩
    rw [el] at hi
    rw [hcell i (by omega)]
    show _ = some (Value.bool (((List.range len).map B).getD i false))
    rw [List.getD_eq_getElem?_getD, List.getElem?_map, List.getElem?_range hi]
    rfl
end
/-- A computer out of its cells. -/
def vI : Value → Int
  | .int _ x => x
  | _ => 0
def vB : Value → Bool
  | .bool b => b
  | _ => false
def ofC (f : Nat → Value) (l : List Bool) : Nd := ⟨vI (f 0), vI (f 1), ⟨vI (f 2), vI (f 3), vI (f 4), vI (f 5)⟩,
  fun a => ⟨vI (f (6 + 7 * a)), vI (f (6 + 7 * a + 1)), vI (f (6 + 7 * a + 2)), vI (f (6 + 7 * a + 3)), vI (f (6 + 7 * a + 4)), vB (f (6 + 7 * a + 5)), vI (f (6 + 7 * a + 6))⟩,
  ⟨fun i => vB (f (27 + i)), fun i => vI (f (31 + i)), fun i => vI (f (35 + i))⟩, fun s a => vI (f (39 + 3 * s + a)), fun s => vI (f (51 + s)), fun s a => vI (f (55 + 3 * s + a)), fun a => vI (f (67 + a)), vI (f 70), vI (f 71), vB (f 72), l⟩
def KN (j : Nat) : Bool := decide (27 ≤ j ∧ j < 31) || decide (6 ≤ j ∧ j < 27 ∧ (j - 6) % 7 = 5) || decide (j = 72)
theorem CellK.i {v : Value} (h : CellK false v) : iV (vI v) = v := by
  rcases h with ⟨h, _⟩ | ⟨_, x, rfl, _⟩
  · cases h
  · rfl
theorem CellK.b {v : Value} (h : CellK true v) : .bool (vB v) = v := by
  rcases h with ⟨_, x, rfl⟩ | ⟨h, _⟩
  · rfl
  · cases h
theorem CellK.R {b : Bool} {v : Value} (h : CellK b v) : R64 (vI v) := by
  rcases h with ⟨_, x, rfl⟩ | ⟨_, x, rfl, hx⟩
  · exact R64_nought
  · exact hx
theorem ofC_ndF {f : Nat → Value} {l : List Bool} (h : ∀ j, j < 73 → CellK (KN j) (f j)) : ∀ j, j < 74 → ndF (ofC f l) (f 73) j = f j := by
  intro j hj
  have hi : ∀ j, j < 73 → KN j = false → iV (vI (f j)) = f j := fun j hj e => by have := h j hj; rw [e] at this; exact this.i
  have hb : ∀ j, j < 73 → KN j = true → .bool (vB (f j)) = f j := fun j hj e => by have := h j hj; rw [e] at this; exact this.b
  have kf : ∀ j, ¬ (27 ≤ j ∧ j < 31) → ¬ (6 ≤ j ∧ j < 27 ∧ (j - 6) % 7 = 5) → j ≠ 72 → KN j = false := fun j a b c => by
    unfold KN; rw [decide_eq_false a, decide_eq_false b, decide_eq_false c]; rfl
  unfold ndF
  by_cases c2 : j < 2
  · rw [if_pos c2]
    have : j = 0 ∨ j = 1 := by omega
    rcases this with rfl | rfl
    · exact hi 0 (by omega) rfl
    · exact hi 1 (by omega) rfl
  rw [if_neg c2]
  by_cases c6 : j < 6
  · rw [if_pos c6]
    have : j = 2 ∨ j = 3 ∨ j = 4 ∨ j = 5 := by omega
    rcases this with rfl | rfl | rfl | rfl
    · exact hi 2 (by omega) rfl
    · exact hi 3 (by omega) rfl
    · exact hi 4 (by omega) rfl
    · exact hi 5 (by omega) rfl
  rw [if_neg c6]
  by_cases c27 : j < 27
  · rw [if_pos c27]
    obtain ⟨a, k, ea, ek, hk, ej⟩ : ∃ a k, (j - 6) / 7 = a ∧ (j - 6) % 7 = k ∧ k < 7 ∧ j = 6 + 7 * a + k := ⟨_, _, rfl, rfl, by omega, by omega⟩
    rw [ea, ek]
    match k, hk with
    | 0, _ => refine (hi (6 + 7 * a) (by omega) (kf _ (by omega) (by omega) (by omega))).trans ?_; rw [ej]; rfl
    | 1, _ => refine (hi (6 + 7 * a + 1) (by omega) (kf _ (by omega) (by omega) (by omega))).trans ?_; rw [ej]
    | 2, _ => refine (hi (6 + 7 * a + 2) (by omega) (kf _ (by omega) (by omega) (by omega))).trans ?_; rw [ej]
    | 3, _ => refine (hi (6 + 7 * a + 3) (by omega) (kf _ (by omega) (by omega) (by omega))).trans ?_; rw [ej]
    | 4, _ => refine (hi (6 + 7 * a + 4) (by omega) (kf _ (by omega) (by omega) (by omega))).trans ?_; rw [ej]
    | 5, _ =>
      refine (hb (6 + 7 * a + 5) (by omega) ?_).trans ?_
      · unfold KN; rw [decide_eq_false (show ¬ (27 ≤ 6 + 7 * a + 5 ∧ 6 + 7 * a + 5 < 31) by omega), decide_eq_true (show 6 ≤ 6 + 7 * a + 5 ∧ 6 + 7 * a + 5 < 27 ∧ (6 + 7 * a + 5 - 6) % 7 = 5 by omega)]; rfl
      · rw [ej]
    | 6, _ => refine (hi (6 + 7 * a + 6) (by omega) (kf _ (by omega) (by omega) (by omega))).trans ?_; rw [ej]
  rw [if_neg c27]
  by_cases c39 : j < 39
  · rw [if_pos c39]
    unfold nrlF
    by_cases d1 : j - 27 < 4
    · rw [if_pos d1]
      refine (hb (27 + (j - 27)) (by omega) ?_).trans ?_
      · unfold KN; rw [decide_eq_true (show 27 ≤ 27 + (j - 27) ∧ 27 + (j - 27) < 31 by omega)]; rfl
      · congr 1; omega
    · rw [if_neg d1]
      by_cases d2 : j - 27 < 8
      · rw [if_pos d2]
        refine (hi (31 + (j - 27 - 4)) (by omega) (kf _ (by omega) (by omega) (by omega))).trans ?_
        congr 1; omega
      · rw [if_neg d2]
        refine (hi (35 + (j - 27 - 8)) (by omega) (kf _ (by omega) (by omega) (by omega))).trans ?_
        congr 1; omega
  rw [if_neg c39]
  by_cases c51 : j < 51
  · rw [if_pos c51]
    refine (hi (39 + 3 * ((j - 39) / 3) + (j - 39) % 3) (by omega) (kf _ (by omega) (by omega) (by omega))).trans ?_
    congr 1; omega
  rw [if_neg c51]
  by_cases c55 : j < 55
  · rw [if_pos c55]
    refine (hi (51 + (j - 51)) (by omega) (kf _ (by omega) (by omega) (by omega))).trans ?_
    congr 1; omega
  rw [if_neg c55]
  by_cases c67 : j < 67
  · rw [if_pos c67]
    refine (hi (55 + 3 * ((j - 55) / 3) + (j - 55) % 3) (by omega) (kf _ (by omega) (by omega) (by omega))).trans ?_
    congr 1; omega
  rw [if_neg c67]
  by_cases c70 : j < 70
  · rw [if_pos c70]
    refine (hi (67 + (j - 67)) (by omega) (kf _ (by omega) (by omega) (by omega))).trans ?_
    congr 1; omega
  rw [if_neg c70]
  by_cases c71 : j < 71
  · rw [if_pos c71]
    obtain rfl : j = 70 := by omega
    exact hi 70 (by omega) rfl
  rw [if_neg c71]
  by_cases c72 : j < 72
  · rw [if_pos c72]
    obtain rfl : j = 71 := by omega
    exact hi 71 (by omega) rfl
  rw [if_neg c72]
  by_cases c73 : j < 73
  · rw [if_pos c73]
    obtain rfl : j = 72 := by omega
    exact hb 72 (by omega) rfl
  · rw [if_neg c73]
    obtain rfl : j = 73 := by omega
    rfl
theorem ofC_ok {f : Nat → Value} {l : List Bool} (h : ∀ j, R64 (vI (f j))) (hl : l.length ≤ 140737488351232) : NdOK (ofC f l) :=
  ⟨h _, h _, ⟨h _, h _, h _, h _⟩, fun _ => ⟨h _, h _, h _, h _, h _, h _⟩, fun _ => h _, fun _ => h _, fun _ _ => h _, fun _ => h _, fun _ _ => h _, fun _ => h _, h _, h _, hl⟩
theorem agV_list {cs : List Value} {f : Nat → Value} {n : Nat} (hl : cs.length = n) (h : ∀ j, j < n → cs[j]? = some (f j)) : Value.agg cs.toArray = agV f 0 n := by
  unfold agV
  congr 2
  refine List.ext_getElem? (fun j => ?_)
  by_cases hj : j < n
  · rw [h j hj, List.getElem?_map, List.getElem?_range hj]
    show _ = some (f (0 + j))
    rw [Nat.zero_add]
  · rw [List.getElem?_eq_none (by omega), List.getElem?_eq_none (by simp; omega)]
section
variable {H : Type} {enc : TypeId × Value → H} {w : World} {base : Nat} {held : Bool}
theorem okWide_arrN {t e : TypeId} {n : Nat} {r : Reach} {b0 : Nat} {v : Value} (ht : Tryz.prog.underlying t = some (.array n e)) (h : Value.okWide Tryz.prog w r b0 t v) : ∃ cs, v = .agg cs ∧ cs.size = Tryz.prog.cellsOf t := by
  simp only [Value.okWide, ht] at h
  obtain ⟨cs, h1, h2, _⟩ := h
  exact ⟨cs, h1, h2⟩
theorem cells_of {cs : List Value} {o n j0 : Nat} {K : Nat → Bool} {K2 : Nat → Bool} (h : ∀ j v, j < n → cs[o + j]? = some v → CellK (K j) v) (hl : o + n ≤ cs.length) (h1 : o ≤ j0) (h2 : j0 < o + n) (e : K (j0 - o) = K2 j0) : CellK (K2 j0) (cs.getD j0 (.int .i64 0)) := by
  rw [← e]
  refine h (j0 - o) _ (by omega) ?_
  rw [Nat.add_sub_cancel' h1, List.getD_eq_getElem?_getD, List.getElem?_eq_getElem (by omega)]
  rfl
set_option maxRecDepth 100000 in
theorem open_ndC {fuel : Nat} {cs : List Value} {x : DataW H × List MemPlace} (h : DataW.trod enc Tryz.prog w base (fun _ => true) held fuel 37 cs = some x) (hsz : ∀ n ∈ x.1.weights Tryz.prog 37, n ≤ reachBytes) :
    ∃ (n : Nd) (ao : Option Addr) (c : Nat), cs.length = 74 ∧ (∀ j, j < 74 → cs[j]? = some (ndF n (.slice ao n.vA.length c) j)) ∧ NdOK n ∧ AgRd w n ao c ∧ n.vA.length ≤ c := by
  obtain ⟨xs, m, _, ex, hl, hlen, hx⟩ := DataW.trod_struct Tryz.underlying37 h
  have hl : cs.length = 74 := hl.trans (by kernel_rfl)
  have hlen : xs.length = 11 := hlen
  have p0 := flat_part (K := fun _ => false) (n := 1) Tryz.underlying37 (i := 0) rfl flat_int h
  have p1 := flat_part (K := fun _ => false) (n := 1) Tryz.underlying37 (i := 1) rfl flat_int h
  have p2 := flat_part (n := 4) Tryz.underlying37 (i := 2) rfl flat_tn h
  have p3 := flat_part (n := 21) Tryz.underlying37 (i := 3) rfl flat_ax h
  have p4 := flat_part (n := 12) Tryz.underlying37 (i := 4) rfl flat_rl h
  have p5 := flat_part (n := 12) Tryz.underlying37 (i := 5) rfl flat_i43 h
  have p6 := flat_part (n := 4) Tryz.underlying37 (i := 6) rfl flat_i4 h
  have p7 := flat_part (n := 12) Tryz.underlying37 (i := 7) rfl flat_i43 h
  have p8 := flat_part (n := 3) Tryz.underlying37 (i := 8) rfl flat_i3 h
  have p9 := flat_part (n := 1) Tryz.underlying37 (i := 9) rfl flat_int h
  have h10 := hx 10 _ rfl
  rw [List.getElem?_eq_getElem (by omega)] at h10
  obtain ⟨y, ey⟩ : ∃ y, y = xs[10] := ⟨_, rfl⟩
  rw [← ey] at h10
  have ev3 : Tryz.prog.cellsOf 35 = 3 := by kernel_rfl
  have h10' : DataW.trod enc Tryz.prog w base (fun _ => true) held m 35 ((cs.drop 71).take (Tryz.prog.cellsOf 35)) = some y := h10
  rw [ev3] at h10'
  obtain ⟨y0, y1, y2, m2, e, _, g0, g1, g2⟩ := Go.Deep.trod_struct3 Tryz.underlying35 h10'
  obtain ⟨c0, c1, c2, ec⟩ : ∃ c0 c1 c2, (cs.drop 71).take 3 = [c0, c1, c2] := by
    have : ((cs.drop 71).take 3).length = 3 := by rw [List.length_take, List.length_drop, hl]; rfl
    match hq : (cs.drop 71).take 3, this with
    | [c0, c1, c2], _ => exact ⟨c0, c1, c2, rfl⟩
  rw [ec] at g0 g1 g2
  have k0 : DataW.trod enc Tryz.prog w base (fun _ => true) held m2 3 [c0] = some y0 := by rw [cellsIntN] at g0; exact g0
  have k1 : DataW.trod enc Tryz.prog w base (fun _ => true) held m2 4 [c1] = some y1 := by rw [cellsBoolN] at g1; exact g1
  have k2 : DataW.trod enc Tryz.prog w base (fun _ => true) held m2 33 [c2] = some y2 := by rw [show Tryz.prog.cellsOf 33 = 1 by kernel_rfl] at g2; exact g2
  have q0 := flat_int.2 _ _ _ k0 0 c0 rfl
  have q1 := flat_bool.2 _ _ _ k1 0 c1 rfl
  have hg : ∀ k, k < 3 → cs[71 + k]? = [c0, c1, c2][k]? := fun k hk => by rw [← ec, drop_take_get hk]
  obtain ⟨ao, c, l, rfl, hs, hl1, hl2⟩ := open_trowN k2 (fun n hn => hsz n (by
    rw [ex]
    simp only [DataW.weights, Tryz.underlying37]
    refine DataW.weights_mem_each (j := 10) (t := 35) (d := y.1) rfl (by rw [List.getElem?_map, List.getElem?_eq_getElem (by omega), ← ey]; rfl) n ?_
    rw [e]
    simp only [DataW.weights, Tryz.underlying35, List.map, DataW.weightsEach]
    simp only [List.mem_append]
    exact Or.inr (Or.inr (Or.inl hn))))
  have hc : ∀ j, j < 73 → CellK (KN j) (cs.getD j (.int .i64 0)) := fun j hj => by
    by_cases r0 : j < 1
    · exact cells_of (o := 0) p0 (by omega) (by omega) (by omega) (by rw [show j = 0 by omega]; rfl)
    by_cases r1 : j < 2
    · exact cells_of (o := 1) p1 (by omega) (by omega) (by omega) (by rw [show j = 1 by omega]; rfl)
    have kf : ¬ (27 ≤ j ∧ j < 31) → ¬ (6 ≤ j ∧ j < 27 ∧ (j - 6) % 7 = 5) → j ≠ 72 → false = KN j := fun a b c => by
      unfold KN; rw [decide_eq_false a, decide_eq_false b, decide_eq_false c]; rfl
    by_cases r2 : j < 6
    · exact cells_of (o := 2) p2 (by omega) (by omega) (by omega) (kf (by omega) (by omega) (by omega))
    by_cases r3 : j < 27
    · refine cells_of (o := 6) p3 (by omega) (by omega) (by omega) ?_
      unfold KN
      rw [decide_eq_false (show ¬ (27 ≤ j ∧ j < 31) by omega), decide_eq_false (show ¬ j = 72 by omega), Bool.false_or, Bool.or_false]
      exact decide_eq_decide.2 ⟨fun h => ⟨by omega, by omega, h⟩, fun h => h.2.2⟩
    by_cases r4 : j < 39
    · refine cells_of (o := 27) p4 (by omega) (by omega) (by omega) ?_
      unfold KN
      rw [decide_eq_false (show ¬ (6 ≤ j ∧ j < 27 ∧ (j - 6) % 7 = 5) by omega), decide_eq_false (show ¬ j = 72 by omega), Bool.or_false, Bool.or_false]
      exact decide_eq_decide.2 ⟨fun h => ⟨by omega, by omega⟩, fun h => by omega⟩
    by_cases r5 : j < 51
    · exact cells_of (o := 39) p5 (by omega) (by omega) (by omega) (kf (by omega) (by omega) (by omega))
    by_cases r6 : j < 55
    · exact cells_of (o := 51) p6 (by omega) (by omega) (by omega) (kf (by omega) (by omega) (by omega))
    by_cases r7 : j < 67
    · exact cells_of (o := 55) p7 (by omega) (by omega) (by omega) (kf (by omega) (by omega) (by omega))
    by_cases r8 : j < 70
    · exact cells_of (o := 67) p8 (by omega) (by omega) (by omega) (kf (by omega) (by omega) (by omega))
    by_cases r9 : j < 71
    · exact cells_of (o := 70) p9 (by omega) (by omega) (by omega) (kf (by omega) (by omega) (by omega))
    rw [List.getD_eq_getElem?_getD]
    by_cases r10 : j < 72
    · obtain rfl : j = 71 := by omega
      rw [show (71 : Nat) = 71 + 0 from rfl, hg 0 (by omega)]; exact q0
    · obtain rfl : j = 72 := by omega
      rw [show (72 : Nat) = 71 + 1 from rfl, hg 1 (by omega)]; exact q1
  have e73 : cs.getD 73 (.int .i64 0) = .slice ao l.length c := by
    rw [List.getD_eq_getElem?_getD, show (73 : Nat) = 71 + 2 from rfl, hg 2 (by omega)]; rfl
  have hR : ∀ j, R64 (vI (cs.getD j (.int .i64 0))) := fun j => by
    by_cases hj : j < 73
    · exact (hc j hj).R
    by_cases hj2 : j = 73
    · rw [hj2, e73]; exact R64_nought
    · rw [List.getD_eq_getElem?_getD, List.getElem?_eq_none (by omega)]; exact R64_nought
  refine ⟨ofC (fun j => cs.getD j (.int .i64 0)) l, ao, c, hl, fun j hj => ?_, ofC_ok hR hl1, hs, hl2⟩
  have := ofC_ndF (l := l) hc j hj
  rw [e73] at this
  refine Eq.trans ?_ (congrArg some this.symm)
  rw [List.getD_eq_getElem?_getD, List.getElem?_eq_getElem (by omega)]
  rfl
set_option maxRecDepth 100000 in
theorem open_ndArg {r : Reach} {b0 : Nat} {v : Value} {d : DataW H} {p : List MemPlace} (hv : Value.okWide Tryz.prog w r b0 37 v) (h : DataW.Trod enc Tryz.prog w base (fun _ => true) held 37 v d p) (hsz : ∀ n ∈ d.weights Tryz.prog 37, n ≤ reachBytes) :
    ∃ (n : Nd) (ao : Option Addr) (c : Nat), v = ndV n (.slice ao n.vA.length c) ∧ NdOK n ∧ AgRd w n ao c ∧ n.vA.length ≤ c := by
  obtain ⟨cs, rfl, _⟩ := okWide_struct Tryz.underlying37 hv
  obtain ⟨fuel, hf⟩ := h
  have hf' : DataW.trod enc Tryz.prog w base (fun _ => true) held fuel 37 cs.toList = some (d, p) := hf
  obtain ⟨n, ao, c, hl, hc, ok, ag, hcap⟩ := open_ndC hf' hsz
  refine ⟨n, ao, c, ?_, ok, ag, hcap⟩
  have := agV_list hl hc
  rwa [Array.toArray_toList] at this
set_option maxRecDepth 100000 in
theorem open_tnArg {r : Reach} {b0 : Nat} {v : Value} {d : DataW H} {p : List MemPlace} (hv : Value.okWide Tryz.prog w r b0 23 v) (h : DataW.Trod enc Tryz.prog w base (fun _ => true) held 23 v d p) :
    ∃ t : Tn, v = agV (ntnF t) 0 4 ∧ t.Ok := by
  obtain ⟨cs, rfl, hs⟩ := okWide_struct Tryz.underlying23 hv
  obtain ⟨fuel, hf⟩ := h
  have hf' : DataW.trod enc Tryz.prog w base (fun _ => true) held fuel 23 cs.toList = some (d, p) := hf
  have hl : cs.toList.length = 4 := by rw [Array.length_toList, hs]; kernel_rfl
  have hg : ∀ j, j < 4 → CellK false (cs.toList.getD j (.int .i64 0)) := fun j hj => flat_tn.2 _ _ _ hf' j _ (by rw [List.getD_eq_getElem?_getD, List.getElem?_eq_getElem (by omega)]; rfl)
  refine ⟨⟨vI (cs.toList.getD 0 (.int .i64 0)), vI (cs.toList.getD 1 (.int .i64 0)), vI (cs.toList.getD 2 (.int .i64 0)), vI (cs.toList.getD 3 (.int .i64 0))⟩, ?_, (hg 0 (by omega)).R, (hg 1 (by omega)).R, (hg 2 (by omega)).R, (hg 3 (by omega)).R⟩
  have := agV_list hl (f := ntnF ⟨vI (cs.toList.getD 0 (.int .i64 0)), vI (cs.toList.getD 1 (.int .i64 0)), vI (cs.toList.getD 2 (.int .i64 0)), vI (cs.toList.getD 3 (.int .i64 0))⟩) (fun j hj => by
    have e : cs.toList[j]? = some (cs.toList.getD j (.int .i64 0)) := by rw [List.getD_eq_getElem?_getD, List.getElem?_eq_getElem (by omega)]; rfl
    rw [e]
    congr 1
    match j, hj with
    | 0, _ => exact (hg 0 (by omega)).i.symm
    | 1, _ => exact (hg 1 (by omega)).i.symm
    | 2, _ => exact (hg 2 (by omega)).i.symm
    | 3, _ => exact (hg 3 (by omega)).i.symm)
  rwa [Array.toArray_toList] at this
set_option maxRecDepth 100000 in
theorem open_i3Arg {r : Reach} {b0 : Nat} {v : Value} {d : DataW H} {p : List MemPlace} (hv : Value.okWide Tryz.prog w r b0 31 v) (h : DataW.Trod enc Tryz.prog w base (fun _ => true) held 31 v d p) :
    ∃ f : Nat → Int, v = agV (fun a => iV (f a)) 0 3 ∧ ∀ a, R64 (f a) := by
  obtain ⟨cs, rfl, hs⟩ := okWide_arrN Tryz.underlying31 hv
  obtain ⟨fuel, hf⟩ := h
  have hf' : DataW.trod enc Tryz.prog w base (fun _ => true) held fuel 31 cs.toList = some (d, p) := hf
  have hl : cs.toList.length = 3 := by rw [Array.length_toList, hs]; kernel_rfl
  have hg : ∀ j, j < 3 → CellK false (cs.toList.getD j (.int .i64 0)) := fun j hj => flat_i3.2 _ _ _ hf' j _ (by rw [List.getD_eq_getElem?_getD, List.getElem?_eq_getElem (by omega)]; rfl)
  refine ⟨fun j => vI (cs.toList.getD j (.int .i64 0)), ?_, fun j => ?_⟩
  · have := agV_list hl (f := fun a => iV (vI (cs.toList.getD a (.int .i64 0)))) (fun j hj => by
      have e : cs.toList[j]? = some (cs.toList.getD j (.int .i64 0)) := by rw [List.getD_eq_getElem?_getD, List.getElem?_eq_getElem (by omega)]; rfl
      rw [e]
      congr 1
      exact (hg j hj).i.symm)
    rwa [Array.toArray_toList] at this
  · by_cases hj : j < 3
    · exact (hg j hj).R
    · show R64 (vI (cs.toList.getD j (.int .i64 0)))
      rw [List.getD_eq_getElem?_getD, List.getElem?_eq_none (by omega)]; exact R64_nought
theorem cellsMsN : Tryz.prog.cellsOf 41 = 4 := by kernel_rfl
theorem bytesMsN : Tryz.prog.bytesOf 41 = 48 := by kernel_rfl
theorem cellsIsN : Tryz.prog.cellsOf 39 = 1 := by kernel_rfl
set_option maxRecDepth 100000 in
theorem open_msC {fuel : Nat} {cs : List Value} {x : DataW H × List MemPlace} (h : DataW.trod enc Tryz.prog w base (fun _ => true) held fuel 41 cs = some x) (hsz : ∀ n ∈ x.1.weights Tryz.prog 41, n ≤ reachBytes) :
    ∃ c : Lm, cs.length = 4 ∧ (∀ j, j < 4 → cs[j]? = some (lmF c j)) ∧ LvRd w c ∧ ∀ i, R64 (gL c.m.L i) := by
  obtain ⟨xs, n, _, ex, hl, hlen, hf⟩ := DataW.trod_struct Tryz.underlying41 h
  rw [cellsMsN] at hl
  match cs, hl with
  | [c0, c1, c2, c3], _ =>
    match xs, hlen with
    | [y0, y1, y2, y3], _ =>
      have g0 : DataW.trod enc Tryz.prog w base (fun _ => true) held n 3 (List.take (Tryz.prog.cellsOf 3) [c0, c1, c2, c3]) = some y0 := hf 0 _ rfl
      have g1 : DataW.trod enc Tryz.prog w base (fun _ => true) held n 3 (List.take (Tryz.prog.cellsOf 3) [c1, c2, c3]) = some y1 := hf 1 _ rfl
      have g2 : DataW.trod enc Tryz.prog w base (fun _ => true) held n 3 (List.take (Tryz.prog.cellsOf 3) [c2, c3]) = some y2 := hf 2 _ rfl
      have g3 : DataW.trod enc Tryz.prog w base (fun _ => true) held n 39 (List.take (Tryz.prog.cellsOf 39) [c3]) = some y3 := hf 3 _ rfl
      rw [cellsIntN] at g0 g1 g2
      rw [cellsIsN] at g3
      obtain ⟨a0, q0, _, w0⟩ := DataW.trod_int Tryz.underlying3 (show DataW.trod enc Tryz.prog w base (fun _ => true) held n 3 [c0] = some y0 from g0)
      obtain ⟨a1, q1, _, w1⟩ := DataW.trod_int Tryz.underlying3 (show DataW.trod enc Tryz.prog w base (fun _ => true) held n 3 [c1] = some y1 from g1)
      obtain ⟨a2, q2, _, w2⟩ := DataW.trod_int Tryz.underlying3 (show DataW.trod enc Tryz.prog w base (fun _ => true) held n 3 [c2] = some y2 from g2)
      simp at q0 q1 q2
      subst q0 q1 q2
      have g3' : DataW.trod enc Tryz.prog w base (fun _ => true) held n 39 [c3] = some y3 := g3
      obtain ⟨ao, len, cap, f, rfl, ha⟩ := open_row g3' (fun k hk => hsz k (by
        rw [ex]
        simp only [DataW.weights, Tryz.underlying41, List.map, DataW.weightsEach]
        simp only [List.mem_append]
        exact Or.inr (Or.inr (Or.inr (Or.inl hk)))))
      have hcap : len ≤ cap := by
        rcases open_ints Tryz.underlying39 Tryz.underlying3 cellsInt g3' with ⟨hcs, _⟩ | ⟨a, l, c, zs, hcs, _, hl, _⟩
        · simp at hcs
          omega
        · simp at hcs
          omega
      have el : ((List.range len).map f).length = len := by simp
      have eg : ∀ i, i < len → gL ((List.range len).map f) i = f i := fun i hi => by
        unfold gL; rw [List.getD_eq_getElem?_getD, List.getElem?_map, List.getElem?_range hi]; rfl
      refine ⟨⟨⟨a0, a1, a2, (List.range len).map f⟩, ao, cap⟩, rfl, fun j hj => ?_, ⟨?_, by dsimp only; rw [el]; exact hcap, by dsimp only; rw [el]; have := ha.2.1; omega⟩, fun i => ?_⟩
      · have e4 : (Value.slice ao len cap) = lmV ⟨⟨a0, a1, a2, (List.range len).map f⟩, ao, cap⟩ := by unfold lmV; dsimp only; rw [el]
        rw [e4]
        match j, hj with
        | 0, _ => rfl
        | 1, _ => rfl
        | 2, _ => rfl
        | 3, _ => rfl
      · dsimp only
        rw [el]
        rcases ha.1 with h | ⟨x, rfl, hc⟩
        · exact Or.inl h
        · exact Or.inr ⟨x, rfl, fun i hi => by rw [hc i hi]; unfold iF; rw [eg i hi]⟩
      · dsimp only
        by_cases hi : i < len
        · rw [eg i hi]; exact ha.2.2 i
        · unfold gL; rw [List.getD_eq_getElem?_getD, List.getElem?_eq_none (by rw [el]; omega)]; exact R64_nought
theorem weightsAll_memN {e : TypeId} {l : List (DataW H)} {d : DataW H} (hd : d ∈ l) : ∀ n, n ∈ d.weights Tryz.prog e → n ∈ DataW.weightsAll Tryz.prog e l := by
  induction l with
  | nil => cases hd
  | cons x l ih =>
    intro n hn
    unfold DataW.weightsAll
    rcases List.mem_cons.1 hd with rfl | hd
    · exact List.mem_append.2 (Or.inl hn)
    · exact List.mem_append.2 (Or.inr (ih hd n hn))
set_option maxRecDepth 100000 in
theorem open_msgsArg {r : Reach} {b0 : Nat} {v : Value} {d : DataW H} {p : List MemPlace} (hv : Value.okWide Tryz.prog w r b0 38 v) (h : DataW.Trod enc Tryz.prog w base (fun _ => true) held 38 v d p) (hsz : ∀ n ∈ d.weights Tryz.prog 38, n ≤ reachBytes) :
    ∃ (mo : Option Addr) (mc : Nat) (L : List Lm), v = .slice mo L.length mc ∧ MRd w mo L ∧ L.length ≤ 2932031007317 ∧ L.length ≤ mc ∧ ∀ m, m ∈ L → ∀ i, R64 (gL m.m.L i) := by
  obtain ⟨ao, len, cap, rfl⟩ := okWide_slice Tryz.underlying38 hv
  obtain ⟨fuel, hf⟩ := h
  have hf' : DataW.trod enc Tryz.prog w base (fun _ => true) held fuel 38 [.slice ao len cap] = some (d, p) := hf
  rcases Go.Deep.open_slice Tryz.underlying38 hf' with ⟨hcs, _⟩ | ⟨a, l, c, m, n, D, Pl, hcs, _, hl, hm, hmm, ex, hx⟩
  · simp at hcs
    obtain ⟨rfl, rfl, rfl⟩ := hcs
    exact ⟨none, 0, [], rfl, ⟨fun h => absurd h (by simp), fun _ h => absurd h (by simp)⟩, by show 0 ≤ _; omega, Nat.le_refl _, fun _ h => absurd h (by simp)⟩
  · simp at hcs
    obtain ⟨rfl, rfl, rfl⟩ := hcs
    simp only [if_true] at hmm
    subst hmm
    simp only [Prod.mk.injEq] at ex
    have hw : ∀ i, i < len → ∀ k ∈ (D i).weights Tryz.prog 41, k ≤ reachBytes := fun i hi k hk => hsz k (by
      rw [ex.1]
      simp only [DataW.weights, Tryz.underlying38]
      exact List.mem_cons_of_mem _ (List.mem_append.2 (Or.inl (weightsAll_memN (List.mem_map.2 ⟨i, List.mem_range.2 hi, rfl⟩) k hk))))
    have hb : m * 48 ≤ reachBytes := hsz _ (by
      rw [ex.1]
      simp only [DataW.weights, Tryz.underlying38, bytesMsN]
      refine List.mem_cons.2 (Or.inl ?_)
      rw [List.length_map, List.length_map, List.length_range, List.length_range]
      congr 1
      omega)
    obtain ⟨F, hF⟩ := Go.Deep.choose_lt (α := Lm) (n := len) (p := fun i c => (∀ k, k < 4 → w.cell? ((a.add (i * 4)).add k) = some (lmF c k)) ∧ LvRd w c ∧ ∀ i, R64 (gL c.m.L i)) (fun i hi => by
      obtain ⟨cs', h1, h2⟩ := hx i (by omega)
      rw [cellsMsN] at h1
      obtain ⟨cc, e, h3, h4⟩ := open_msC h2 (hw i hi)
      refine ⟨cc, fun k hk => ?_, h4⟩
      obtain ⟨_, _, hcc⟩ := World.cells?_some h1
      rw [hcc k hk, h3 k hk])
    have el : ((List.range len).map F).length = len := by simp
    have hat : ∀ i c, ((List.range len).map F)[i]? = some c → i < len ∧ c = F i := fun i c hi => by
      have hlt : i < len := by have := (List.getElem?_eq_some_iff.1 hi).1; rw [el] at this; exact this
      rw [List.getElem?_map, List.getElem?_range hlt] at hi
      exact ⟨hlt, (Option.some.inj hi).symm⟩
    refine ⟨some a, m, (List.range len).map F, by rw [el], ⟨fun hl0 => ?_, fun c hc => ?_⟩, by rw [el]; unfold reachBytes at hb; omega, by rw [el]; exact hl, fun c hc => ?_⟩
    · rw [el] at hl0
      obtain ⟨b, o, spot⟩ := a
      have hs : spot = none := by
        have h0 : w.cell? (((⟨b, o, spot⟩ : Addr).add (0 * 4)).add 0) = some (iV (F 0).m.K) := (hF 0 hl0).1 0 (by omega)
        simpa [Addr.add] using World.cell?_spot h0
      subst hs
      refine ⟨b, o, rfl, fun i c hi k hk => ?_⟩
      obtain ⟨hlt, rfl⟩ := hat i c hi
      have := (hF i hlt).1 k hk
      rw [Addr.add_lit, Addr.add_lit] at this
      exact this
    · obtain ⟨i, hi⟩ := List.getElem?_of_mem hc
      obtain ⟨hlt, rfl⟩ := hat i c hi
      exact (hF i hlt).2.1
    · obtain ⟨i, hi⟩ := List.getElem?_of_mem hc
      obtain ⟨hlt, rfl⟩ := hat i c hi
      exact (hF i hlt).2.2
end

end Go.Proofs.YtngmeaaglogieabGreat

namespace Go.Proofs.YtngmeaaglogieabGreat
open Go.RowKit

section
variable {f : Operand → Value} {o : Oper}
theorem run_extA (x : Operand) (ho : o.op = .extract x 0) {u v : Value} (hx : f x = .tuple #[u, v]) (w : World) : (execOp f o).run Tryz.prog w = .ok (.value u) w := by
  unfold execOp
  rw [ho]
  dsimp only
  rw [hx]
  rfl
theorem run_extB (x : Operand) (ho : o.op = .extract x 1) {u v : Value} (hx : f x = .tuple #[u, v]) (w : World) : (execOp f o).run Tryz.prog w = .ok (.value v) w := by
  unfold execOp
  rw [ho]
  dsimp only
  rw [hx]
  rfl
theorem run_ixN (x y : Operand) (ho : o.op = .indexAddr 39 x y) {a : Addr} {n cap i : Nat} {z : Int} (hx : f x = .slice (some a) n cap) (hy : f y = .int .i64 z) (hz : z = (i : Int)) (hi : i < n) (w : World) :
    (execOp f o).run Tryz.prog w = .ok (.value (.pointer (some (a.add i)))) w := by
  subst hz
  have hi2 : (i : Int) < n := by omega
  unfold execOp
  rw [ho]
  dsimp only
  rw [hx, hy]
  go_simp
theorem run_ldI (x : Operand) (ho : o.op = .load 3 x) {a : Addr} {v : Int} (hx : f x = .pointer (some a)) {w : World} (hc : w.cell? a = some (.int .i64 v)) : (execOp f o).run Tryz.prog w = .ok (.value (.int .i64 v)) w := by
  unfold execOp
  rw [ho]
  dsimp only
  rw [hx]
  go_simp
theorem run_cut4 (x : Operand) (ho : o.op = .slice 28 x none none none) {b off : Nat} (hx : f x = .pointer (some ⟨b, off, none⟩)) (w : World) : (execOp f o).run Tryz.prog w = .ok (.value (.slice (some ⟨b, off, none⟩) 4 4)) w := by
  unfold execOp
  rw [ho]
  dsimp only
  rw [hx]
  go_simp
end
/-- A message that fits has so many numbers; where they lie. -/
theorem fL_mem {id fr s kind many : Int} {L : List Lm} {c : Lm} (h : fL id fr L s kind many = some c) : c ∈ L ∧ fitB id fr s kind many c.m = true := by
  unfold fL at h
  have h2 := List.find?_some h
  exact ⟨List.mem_of_find?_eq_some h, h2⟩
theorem fit_len {id fr s kind many : Int} {m : Ms} (h : fitB id fr s kind many m = true) : (m.L.length : Int) = many := by
  unfold fitB at h
  simp only [Bool.and_eq_true, decide_eq_true_eq] at h
  exact h.2
theorem LvRd.at {w : World} {c : Lm} (h : LvRd w c) (hl : 0 < c.m.L.length) : ∃ y, c.ao = some y ∧ ∀ i, i < c.m.L.length → w.cell? (y.add i) = some (.int .i64 (gL c.m.L i)) := by
  rcases h.1 with ⟨_, h0, _⟩ | ⟨y, e, hy⟩
  · omega
  · exact ⟨y, e, fun i hi => hy i hi⟩
/-- The four votes heard, as a row. -/
theorem he_row {w : World} {b : Nat} {n : Nd} {v : Value} (h : Vh 37 w b 74 74 (ndF n v)) : Sr w (some ⟨b, 0 + 51, none⟩) 4 4 (iF n.he) := by
  refine Or.inr ⟨_, rfl, fun i hi => ?_⟩
  rw [add_at]
  have := h.cell (i := 0 + 51 + i) (by omega)
  rw [this]
  match i, hi with
  | 0, _ => rfl
  | 1, _ => rfl
  | 2, _ => rfl
  | 3, _ => rfl

end Go.Proofs.YtngmeaaglogieabGreat

namespace Go.Proofs.YtngmeaaglogieabGreat
open Go.RowKit

theorem manySt : Many Tryz.prog 25 7 := Many.of _ Tryz.underlying25 rfl (by kernel_rfl)
theorem manyRl : Many Tryz.prog 30 12 := Many.of _ Tryz.underlying30 rfl (by kernel_rfl)
theorem stP_all7 (g : Nat → Value) (h : Nat → Value) : ∀ j, j < 7 → stP g 0 7 h j = h j := fun j hj => by
  have := stP_in g (o := 0) (n := 7) h hj
  rwa [Nat.zero_add] at this
theorem zeroSt (w : World) : (zeroValue 25).run Tryz.prog w = .ok (agV (nstF St.nil') 0 7) w := by kernel_rfl
section
variable {f : Operand → Value} {o : Oper}
theorem run_mulW (x y : Operand) (ho : o.op = .binOp .mul 3 x y 3) {u v : Int} (hx : f x = .int .i64 u) (hy : f y = .int .i64 v) (w : World) : (execOp f o).run Tryz.prog w = .ok (.value (.int .i64 (wrap64 (u * v)))) w := by
  unfold execOp
  rw [ho]
  dsimp only
  rw [hx, hy]
  go_simp
  rw [IntKind.wrap_i64]
  unfold wrap64
  omega
theorem run_addW (x y : Operand) (ho : o.op = .binOp .add 3 x y 3) {u v : Int} (hx : f x = .int .i64 u) (hy : f y = .int .i64 v) (w : World) : (execOp f o).run Tryz.prog w = .ok (.value (.int .i64 (wrap64 (u + v)))) w := by
  unfold execOp
  rw [ho]
  dsimp only
  rw [hx, hy]
  go_simp
  rw [IntKind.wrap_i64]
  unfold wrap64
  omega
theorem run_mulN (x y : Operand) (ho : o.op = .binOp .mul 3 x y 3) {u v : Int} (hx : f x = .int .i64 u) (hy : f y = .int .i64 v) (h1 : -9223372036854775808 ≤ u * v) (h2 : u * v ≤ 9223372036854775807) (w : World) : (execOp f o).run Tryz.prog w = .ok (.value (.int .i64 (u * v))) w := by
  rw [run_mulW x y ho hx hy w]
  have : wrap64 (u * v) = u * v := by unfold wrap64; omega
  rw [this]
theorem run_geqI {b : Bool} (x y : Operand) (ho : o.op = .binOp .geq 3 x y 3) {u v : Int} (hx : f x = .int .i64 u) (hy : f y = .int .i64 v) (hb : decide (v ≤ u) = b) (w : World) : (execOp f o).run Tryz.prog w = .ok (.value (.bool b)) w := by
  subst hb
  unfold execOp
  rw [ho]
  dsimp only
  rw [hx, hy]
  go_simp
theorem run_loadPe {P : Program} (ty : TypeId) (x : Operand) (ho : o.op = .load ty x) {b k n N cap : Nat} {t : TypeId} {g h : Nat → Value} (T : Many P ty n) (hx : f x = .pointer (some ⟨b, k, none⟩)) {w : World} (hm : Vh t w b N cap g) (hn : k + n ≤ N) (he : ∀ j, j < n → g (k + j) = h j) :
    (execOp f o).run P w = .ok (.value (agV h 0 n)) w := by
  rw [run_loadP ty x ho T hx hm hn]
  have : agV g k n = agV h 0 n := by
    unfold agV
    congr 1
    congr 1
    apply List.map_congr_left
    intro j hj
    rw [he j (by simpa using hj), Nat.zero_add]
  rw [this]
end
theorem wp_row7 (w : World) {o : Oper} {a : Act} {K : Act → World → Prop} {Q : Exit → Act → World → Prop} (x0 x1 x2 x3 x4 x5 x6 : Operand) (ho : o.op = .buildSlice 39 7 #[(0, x0), (1, x1), (2, x2), (3, x3), (4, x4), (5, x5), (6, x6)]) {g : Nat → Int} (h0 : a.eval x0 = .int .i64 (g 0)) (h1 : a.eval x1 = .int .i64 (g 1)) (h2 : a.eval x2 = .int .i64 (g 2)) (h3 : a.eval x3 = .int .i64 (g 3)) (h4 : a.eval x4 = .int .i64 (g 4)) (h5 : a.eval x5 = .int .i64 (g 5)) (h6 : a.eval x6 = .int .i64 (g 6))
    (h : ∀ w', Vh 3 w' w.heap.size 7 7 (fun i => iV (g i)) → Below w.heap.size w w' → w'.heap.size = w.heap.size + 1 → K (a.put o.dst (.slice (some ⟨w.heap.size, 0, none⟩) 7 7)) w') : WpI Tryz.prog o a w K Q := by
  have hh := h (w.alloc (.cells #[.int .i64 (g 0), .int .i64 (g 1), .int .i64 (g 2), .int .i64 (g 3), .int .i64 (g 4), .int .i64 (g 5), .int .i64 (g 6)] 3)) (Vh.of_row (fun i => iV (g i)) 7 (by decide) (by show (w.heap.push _)[w.heap.size]? = _; rw [Array.getElem?_push_size]; rfl)) (al_below _ _) (al_size _ _)
  have e : (execOp a.eval o).run Tryz.prog w = .ok (.value (.slice (some ⟨w.heap.size, 0, none⟩) 7 7)) (w.alloc (.cells #[.int .i64 (g 0), .int .i64 (g 1), .int .i64 (g 2), .int .i64 (g 3), .int .i64 (g 4), .int .i64 (g 5), .int .i64 (g 6)] 3)) := by
    generalize a.eval = f at h0 h1 h2 h3 h4 h5 h6
    unfold execOp
    rw [ho]
    simp only [List.map_toArray, List.map_cons, List.map_nil]
    rw [h0, h1, h2, h3, h4, h5, h6]
    go_simp
  refine ⟨?_⟩
  unfold Oper.wp
  rw [e]
  exact hh
theorem ndF_ax (n : Nd) (v : Value) {a : Nat} (ha : a < 3) : ∀ j, j < 7 → ndF n v (0 + 6 + a * 7 + j) = nstF (n.ax a) j := by
  intro j hj
  unfold ndF
  rw [if_neg (by omega), if_neg (by omega), if_pos (by omega), show (0 + 6 + a * 7 + j - 6) / 7 = a by omega, show (0 + 6 + a * 7 + j - 6) % 7 = j by omega]
theorem ndF_in (n : Nd) (v : Value) {i : Nat} (hi : i < 4) : ndF n v (0 + 27 + 0 + i * 1) = .bool (n.rl.I i) := by
  unfold ndF
  rw [if_neg (by omega), if_neg (by omega), if_neg (by omega), if_pos (by omega)]
  unfold nrlF
  rw [if_pos (by omega), show 0 + 27 + 0 + i * 1 - 27 = i by omega]
theorem ndF_mi (n : Nd) (v : Value) {i : Nat} (hi : i < 4) : ndF n v (0 + 27 + 4 + i * 1) = .int .i64 (n.rl.M i) := by
  unfold ndF
  rw [if_neg (by omega), if_neg (by omega), if_neg (by omega), if_pos (by omega)]
  unfold nrlF
  rw [if_neg (by omega), if_pos (by omega), show 0 + 27 + 4 + i * 1 - 27 - 4 = i by omega]
  rfl
theorem ndF_jo (n : Nd) (v : Value) {i : Nat} (hi : i < 4) : ndF n v (0 + 27 + 8 + i * 1) = .int .i64 (n.rl.J i) := by
  unfold ndF
  rw [if_neg (by omega), if_neg (by omega), if_neg (by omega), if_pos (by omega)]
  unfold nrlF
  rw [if_neg (by omega), if_neg (by omega), show 0 + 27 + 8 + i * 1 - 27 - 8 = i by omega]
  rfl
theorem gL_map (l : List Int) : l.map iV = rowV (iF (gL l)) l.length := by
  apply List.ext_getElem?
  intro i
  rw [List.getElem?_map]
  rcases Nat.lt_or_ge i l.length with h | h
  · rw [rowV_at _ h, List.getElem?_eq_getElem h]
    unfold iF gL
    rw [List.getD_eq_getElem?_getD, List.getElem?_eq_getElem h]
    rfl
  · rw [rowV_none _ h, List.getElem?_eq_none h]; rfl
theorem nstF_one (s : St) : ∀ j, j < 7 → (nstF s j).oneCell' = true := by
  intro j _
  unfold nstF iV
  repeat' split
  all_goals rfl

end Go.Proofs.YtngmeaaglogieabGreat
