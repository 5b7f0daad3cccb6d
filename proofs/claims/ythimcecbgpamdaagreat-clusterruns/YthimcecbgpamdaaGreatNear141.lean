/- Joined: OpenNd, OpenByte, Call4, Call6, Aut. -/
import Derived.Test.YthimcecbgpamdaaGreatNear149
import Derived.Test.YthimcecbgpamdaaGreatNear144
import Derived.Deep.Slices
import Derived.Deep.Strs
import Derived.Deep.Grids
import Derived.Test.YthimcecbgpamdaaGreatRows
import Derived.Test.YthimcecbgpamdaaGreatNear171
import Derived.Lib.SmallJoins
import Derived.OpenShut
import Derived.SizedLaws
import Derived.ChangeSlices
import Derived.Test.YthimcecbgpamdaaGreatNear95
namespace Go.Proofs.YthimcecbgpamdaaGreat
open Go.ChangeShapes Go.WideShapes Go.ChangeAt Go.RowKit Go.Joins
set_option maxRecDepth 100000

instance : Inhabited Lm := ⟨⟨⟨0, 0, 0, []⟩, none, 0⟩⟩
/-- A cell that holds a truth value, or a number of 64 bits. -/
def CellK (b : Bool) (v : Value) : Prop := (b = true ∧ ∃ x, v = .bool x) ∨ (b = false ∧ ∃ x, v = .int .i64 x ∧ R64 x)
theorem cellsIntN : Tryz.prog.cellsOf 3 = 1 := by kernel_rfl
theorem cellsBoolN : Tryz.prog.cellsOf 4 = 1 := by kernel_rfl
section
variable {H : Type} {enc : TypeId × Value → H} {w : World} {base : Nat} {held : Bool}
/-- A type whose cells are such, all of them. -/
def Flat (enc : TypeId × Value → H) (w : World) (base : Nat) (held : Bool) (t : TypeId) (n : Nat) (K : Nat → Bool) : Prop :=
  Tryz.prog.cellsOf t = n ∧ ∀ fuel cs x, DataW.trod enc Tryz.prog w base (fun _ => true) held fuel t cs = some x → ∀ j v, cs[j]? = some v → CellK (K j) v
theorem flat_int : Flat enc w base held 3 1 (fun _ => false) := ⟨cellsIntN, fun fuel cs x h j v hv => by
  obtain ⟨z, rfl, _, hw⟩ := DataW.trod_int Tryz.underlying3 h
  match j, hv with
  | 0, hv => exact Or.inr ⟨rfl, z, (Option.some.inj hv).symm, R64.of_wf hw⟩⟩
theorem flat_bool : Flat enc w base held 4 1 (fun _ => true) := ⟨cellsBoolN, fun fuel cs x h j v hv => by
  obtain ⟨z, rfl, _⟩ := DataW.trod_bool Tryz.underlying4 h
  match j, hv with
  | 0, hv => exact Or.inl ⟨rfl, z, (Option.some.inj hv).symm⟩⟩
theorem trod_arr {t e : TypeId} {n fuel : Nat} {cs : List Value} {x : DataW H × List MemPlace} (ht : Tryz.prog.underlying t = some (.array n e)) (h : DataW.trod enc Tryz.prog w base (fun _ => true) held fuel t cs = some x) :
    cs.length = Tryz.prog.cellsOf t ∧ ∃ m, ∀ i, i < n → ∃ y, DataW.trod enc Tryz.prog w base (fun _ => true) held m e ((cs.drop (i * Tryz.prog.cellsOf e)).take (Tryz.prog.cellsOf e)) = some y := by
  cases fuel with
  | zero => simp [DataW.trod] at h
  | succ m =>
    unfold DataW.trod at h
    rw [ht] at h
    simp only [Option.ite_none_right_eq_some, Option.map_eq_some_iff] at h
    obtain ⟨hl, xs, hp, _⟩ := h
    refine ⟨hl, m, fun i hi => ?_⟩
    have hg := mapM_some_get hp i i (by simp [hi])
    have hlen := mapM_some_length hp
    rw [List.length_range] at hlen
    exact ⟨xs[i]'(by omega), by rw [hg, List.getElem?_eq_getElem]⟩
theorem drop_take_get {cs : List Value} {o n j : Nat} (hj : j < n) : ((cs.drop o).take n)[j]? = cs[o + j]? := by
  rw [List.getElem?_take, if_pos hj, List.getElem?_drop]
theorem flat_arr {t e : TypeId} {n m N : Nat} {K : Nat → Bool} (ht : Tryz.prog.underlying t = some (.array n e)) (he : Flat enc w base held e m K) (hm : 0 < m) (hc : Tryz.prog.cellsOf t = N) (hN : N = n * m) : Flat enc w base held t N (fun j => K (j % m)) := ⟨hc, fun fuel cs x h j v hv => by
  obtain ⟨hl, q, hx⟩ := trod_arr ht h
  have hj : j < N := by have := (List.getElem?_eq_some_iff.1 hv).1; omega
  have hd : j / m < n := by
    rw [Nat.div_lt_iff_lt_mul hm, ← hN]; exact hj
  obtain ⟨y, hy⟩ := hx (j / m) hd
  rw [he.1] at hy
  refine he.2 _ _ _ hy (j % m) v ?_
  rw [drop_take_get (Nat.mod_lt _ hm), ← hv]
  congr 1
  rw [Nat.mul_comm]
  exact Nat.div_add_mod j m⟩
/-- A field's part. -/
theorem flat_part {t : TypeId} {fs : Array Field} {n fuel : Nat} {cs : List Value} {x : DataW H × List MemPlace} {K : Nat → Bool} {i : Nat} {f : Field} (ht : Tryz.prog.underlying t = some (.struct fs)) (hf : fs[i]? = some f) (he : Flat enc w base held f.type n K)
    (h : DataW.trod enc Tryz.prog w base (fun _ => true) held fuel t cs = some x) : ∀ j v, j < n → cs[f.offset + j]? = some v → CellK (K j) v := by
  obtain ⟨xs, m, _, _, _, hlen, hx⟩ := DataW.trod_struct ht h
  intro j v hj hv
  have hg := hx i f hf
  have hi : i < fs.size := (Array.getElem?_eq_some_iff.1 hf).1
  rw [List.getElem?_eq_getElem (by omega), he.1] at hg
  exact he.2 _ _ _ hg j v (by rw [drop_take_get hj]; exact hv)
/-- A structure of fields that are flat. -/
theorem flat_struct {t : TypeId} {fs : Array Field} {N : Nat} {K : Nat → Bool} (ht : Tryz.prog.underlying t = some (.struct fs)) (hc : Tryz.prog.cellsOf t = N) (ix : Nat → Nat) (hcov : ∀ j, j < N → ∃ f n, fs[ix j]? = some f ∧ f.offset ≤ j ∧ j < f.offset + n ∧ Flat enc w base held f.type n (fun i => K (f.offset + i))) : Flat enc w base held t N K := ⟨hc, fun fuel cs x h j v hv => by
  have hj : j < N := by
    obtain ⟨xs, m, _, _, hl, _⟩ := DataW.trod_struct ht h
    have := (List.getElem?_eq_some_iff.1 hv).1
    omega
  obtain ⟨f, n, hf, h1, h2, hfl⟩ := hcov j hj
  have := flat_part ht hf hfl h (j - f.offset) v (by omega) (by rw [Nat.add_sub_cancel' h1]; exact hv)
  rw [Nat.add_sub_cancel' h1] at this
  exact this⟩
set_option maxRecDepth 100000 in
theorem flat_tn : Flat enc w base held 23 4 (fun _ => false) := flat_struct Tryz.underlying23 (by kernel_rfl) id (fun j hj => by
  match j, hj with
  | 0, _ => exact ⟨_, 1, rfl, Nat.le_refl _, by decide, flat_int⟩
  | 1, _ => exact ⟨_, 1, rfl, Nat.le_refl _, by decide, flat_int⟩
  | 2, _ => exact ⟨_, 1, rfl, Nat.le_refl _, by decide, flat_int⟩
  | 3, _ => exact ⟨_, 1, rfl, Nat.le_refl _, by decide, flat_int⟩)
theorem Flat.as {t : TypeId} {n : Nat} {K K' : Nat → Bool} (h : Flat enc w base held t n K) (e : ∀ j, j < n → K j = K' j) (hl : ∀ fuel cs x, DataW.trod enc Tryz.prog w base (fun _ => true) held fuel t cs = some x → cs.length ≤ n) : Flat enc w base held t n K' := ⟨h.1, fun fuel cs x hx j v hv => by
  have := h.2 fuel cs x hx j v hv
  rw [e j (by have := (List.getElem?_eq_some_iff.1 hv).1; have := hl fuel cs x hx; omega)] at this
  exact this⟩
theorem len_int : ∀ fuel cs x, DataW.trod enc Tryz.prog w base (fun _ => true) held fuel 3 cs = some x → cs.length ≤ 1 := fun fuel cs x h => by
  obtain ⟨z, rfl, _, hw⟩ := DataW.trod_int Tryz.underlying3 h; exact Nat.le_refl _
theorem len_bool : ∀ fuel cs x, DataW.trod enc Tryz.prog w base (fun _ => true) held fuel 4 cs = some x → cs.length ≤ 1 := fun fuel cs x h => by
  obtain ⟨z, rfl, _⟩ := DataW.trod_bool Tryz.underlying4 h; exact Nat.le_refl _
theorem len_arr {t e : TypeId} {n N : Nat} (ht : Tryz.prog.underlying t = some (.array n e)) (hc : Tryz.prog.cellsOf t = N) : ∀ fuel cs x, DataW.trod enc Tryz.prog w base (fun _ => true) held fuel t cs = some x → cs.length ≤ N := fun fuel cs x h => by
  have := (trod_arr ht h).1; omega
theorem flat_intK {K : Nat → Bool} (h : K 0 = false) : Flat enc w base held 3 1 K := flat_int.as (fun j hj => by
  obtain rfl : j = 0 := by omega
  exact h.symm) len_int
theorem flat_boolK {K : Nat → Bool} (h : K 0 = true) : Flat enc w base held 4 1 K := flat_bool.as (fun j hj => by
  obtain rfl : j = 0 := by omega
  exact h.symm) len_bool
theorem flat_arrK {t e : TypeId} {n m N : Nat} {K K' : Nat → Bool} (ht : Tryz.prog.underlying t = some (.array n e)) (he : Flat enc w base held e m K) (hm : 0 < m) (hc : Tryz.prog.cellsOf t = N) (hN : N = n * m) (e2 : ∀ j, j < N → K (j % m) = K' j) : Flat enc w base held t N K' := (flat_arr ht he hm hc hN).as e2 (len_arr ht hc)
set_option maxRecDepth 100000 in
theorem flat_st : Flat enc w base held 25 7 (fun j => decide (j = 5)) := flat_struct Tryz.underlying25 (by kernel_rfl) id (fun j hj => by
  match j, hj with
  | 0, _ => exact ⟨_, 1, rfl, Nat.le_refl _, by decide, flat_intK rfl⟩
  | 1, _ => exact ⟨_, 1, rfl, Nat.le_refl _, by decide, flat_intK rfl⟩
  | 2, _ => exact ⟨_, 1, rfl, Nat.le_refl _, by decide, flat_intK rfl⟩
  | 3, _ => exact ⟨_, 1, rfl, Nat.le_refl _, by decide, flat_intK rfl⟩
  | 4, _ => exact ⟨_, 1, rfl, Nat.le_refl _, by decide, flat_intK rfl⟩
  | 5, _ => exact ⟨_, 1, rfl, Nat.le_refl _, by decide, flat_boolK rfl⟩
  | 6, _ => exact ⟨_, 1, rfl, Nat.le_refl _, by decide, flat_intK rfl⟩)
set_option maxRecDepth 100000 in
theorem flat_rl : Flat enc w base held 30 12 (fun j => decide (j < 4)) := flat_struct Tryz.underlying30 (by kernel_rfl) (fun j => j / 4) (fun j hj => by
  by_cases h1 : j < 4
  · refine ⟨_, 4, by rw [show j / 4 = 0 by omega]; rfl, Nat.zero_le _, by show j < 0 + 4; omega, flat_arrK Tryz.underlying27 flat_bool (by decide) (by kernel_rfl) rfl (fun i hi => ?_)⟩
    exact (decide_eq_true (show 0 + i < 4 by omega)).symm
  · by_cases h2 : j < 8
    · refine ⟨_, 4, by rw [show j / 4 = 1 by omega]; rfl, by show 4 ≤ j; omega, by show j < 4 + 4; omega, flat_arrK Tryz.underlying28 flat_int (by decide) (by kernel_rfl) rfl (fun i hi => ?_)⟩
      exact (decide_eq_false (show ¬ 4 + i < 4 by omega)).symm
    · refine ⟨_, 4, by rw [show j / 4 = 2 by omega]; rfl, by show 8 ≤ j; omega, by show j < 8 + 4; omega, flat_arrK Tryz.underlying28 flat_int (by decide) (by kernel_rfl) rfl (fun i hi => ?_)⟩
      exact (decide_eq_false (show ¬ 8 + i < 4 by omega)).symm)
theorem flat_ax : Flat enc w base held 26 21 (fun j => decide (j % 7 = 5)) := flat_arr Tryz.underlying26 flat_st (by decide) (by kernel_rfl) rfl
theorem flat_i3 : Flat enc w base held 31 3 (fun _ => false) := flat_arr Tryz.underlying31 flat_int (by decide) (by kernel_rfl) rfl
theorem flat_i4 : Flat enc w base held 28 4 (fun _ => false) := flat_arr Tryz.underlying28 flat_int (by decide) (by kernel_rfl) rfl
theorem flat_i43 : Flat enc w base held 32 12 (fun _ => false) := flat_arr Tryz.underlying32 flat_i3 (by decide) (by kernel_rfl) rfl
set_option maxRecDepth 100000 in
theorem open_trowN {fuel : Nat} {v : Value} {x : DataW H × List MemPlace} (h : DataW.trod enc Tryz.prog w base (fun _ => true) held fuel 33 [v] = some x) (hsz : ∀ n ∈ x.1.weights Tryz.prog 33, n ≤ reachBytes) :
    ∃ (ao : Option Addr) (cap : Nat) (l : List Bool), v = .slice ao l.length cap ∧ Sr w ao l.length cap (tF (fun i => l.getD i false)) ∧ l.length ≤ 140737488351232 ∧ l.length ≤ cap := by
  rcases Go.Deep.open_bools Tryz.underlying33 Tryz.underlying4 cellsBoolN h with ⟨hcs, _⟩ | ⟨a, len, cap, B, hcs, _, hl, _, hx, hcell⟩
  · simp at hcs
    exact ⟨none, 0, [], hcs, Or.inl ⟨rfl, rfl, rfl⟩, by decide, Nat.le_refl _⟩
  · simp at hcs
    have hb : cap * 1 ≤ reachBytes := by
      refine hsz _ ?_
      rw [hx]
      simp [Go.Deep.boolRow, DataW.weights, Tryz.underlying33, show Tryz.prog.bytesOf 4 = 1 by kernel_rfl]
      left; omega
    have el : ((List.range len).map B).length = len := by simp
    refine ⟨some a, cap, (List.range len).map B, by rw [el]; exact hcs, Or.inr ⟨a, rfl, fun i hi => ?_⟩, by rw [el]; unfold reachBytes at hb; omega, by rw [el]; exact hl⟩
    rw [el] at hi
    rw [hcell i (by omega)]
    show _ = some (Value.bool (((List.range len).map B).getD i false))
    rw [List.getD_eq_getElem?_getD, List.getElem?_map, List.getElem?_range hi]
    rfl
end
/-- A computer out of its cells. -/
def vI : Value → Int
  | .int _ x => x
  | _ => 0
def vB : Value → Bool
  | .bool b => b
  | _ => false
def ofC (f : Nat → Value) (l : List Bool) : Nd := ⟨vI (f 0), vI (f 1), ⟨vI (f 2), vI (f 3), vI (f 4), vI (f 5)⟩,
  fun a => ⟨vI (f (6 + 7 * a)), vI (f (6 + 7 * a + 1)), vI (f (6 + 7 * a + 2)), vI (f (6 + 7 * a + 3)), vI (f (6 + 7 * a + 4)), vB (f (6 + 7 * a + 5)), vI (f (6 + 7 * a + 6))⟩,
  ⟨fun i => vB (f (27 + i)), fun i => vI (f (31 + i)), fun i => vI (f (35 + i))⟩, fun s a => vI (f (39 + 3 * s + a)), fun s => vI (f (51 + s)), fun s a => vI (f (55 + 3 * s + a)), fun a => vI (f (67 + a)), vI (f 70), vI (f 71), vB (f 72), l⟩
def KN (j : Nat) : Bool := decide (27 ≤ j ∧ j < 31) || decide (6 ≤ j ∧ j < 27 ∧ (j - 6) % 7 = 5) || decide (j = 72)
theorem CellK.i {v : Value} (h : CellK false v) : iV (vI v) = v := by
  rcases h with ⟨h, _⟩ | ⟨_, x, rfl, _⟩
  · cases h
  · rfl
theorem CellK.b {v : Value} (h : CellK true v) : .bool (vB v) = v := by
  rcases h with ⟨_, x, rfl⟩ | ⟨h, _⟩
  · rfl
  · cases h
theorem CellK.R {b : Bool} {v : Value} (h : CellK b v) : R64 (vI v) := by
  rcases h with ⟨_, x, rfl⟩ | ⟨_, x, rfl, hx⟩
  · exact R64_nought
  · exact hx
theorem ofC_ndF {f : Nat → Value} {l : List Bool} (h : ∀ j, j < 73 → CellK (KN j) (f j)) : ∀ j, j < 74 → ndF (ofC f l) (f 73) j = f j := by
  intro j hj
  have hi : ∀ j, j < 73 → KN j = false → iV (vI (f j)) = f j := fun j hj e => by have := h j hj; rw [e] at this; exact this.i
  have hb : ∀ j, j < 73 → KN j = true → .bool (vB (f j)) = f j := fun j hj e => by have := h j hj; rw [e] at this; exact this.b
  have kf : ∀ j, ¬ (27 ≤ j ∧ j < 31) → ¬ (6 ≤ j ∧ j < 27 ∧ (j - 6) % 7 = 5) → j ≠ 72 → KN j = false := fun j a b c => by
    unfold KN; rw [decide_eq_false a, decide_eq_false b, decide_eq_false c]; rfl
  unfold ndF
  by_cases c2 : j < 2
  · rw [if_pos c2]
    have : j = 0 ∨ j = 1 := by omega
    rcases this with rfl | rfl
    · exact hi 0 (by omega) rfl
    · exact hi 1 (by omega) rfl
  rw [if_neg c2]
  by_cases c6 : j < 6
  · rw [if_pos c6]
    have : j = 2 ∨ j = 3 ∨ j = 4 ∨ j = 5 := by omega
    rcases this with rfl | rfl | rfl | rfl
    · exact hi 2 (by omega) rfl
    · exact hi 3 (by omega) rfl
    · exact hi 4 (by omega) rfl
    · exact hi 5 (by omega) rfl
  rw [if_neg c6]
  by_cases c27 : j < 27
  · rw [if_pos c27]
    obtain ⟨a, k, ea, ek, hk, ej⟩ : ∃ a k, (j - 6) / 7 = a ∧ (j - 6) % 7 = k ∧ k < 7 ∧ j = 6 + 7 * a + k := ⟨_, _, rfl, rfl, by omega, by omega⟩
    rw [ea, ek]
    match k, hk with
    | 0, _ => refine (hi (6 + 7 * a) (by omega) (kf _ (by omega) (by omega) (by omega))).trans ?_; rw [ej]; rfl
    | 1, _ => refine (hi (6 + 7 * a + 1) (by omega) (kf _ (by omega) (by omega) (by omega))).trans ?_; rw [ej]
    | 2, _ => refine (hi (6 + 7 * a + 2) (by omega) (kf _ (by omega) (by omega) (by omega))).trans ?_; rw [ej]
    | 3, _ => refine (hi (6 + 7 * a + 3) (by omega) (kf _ (by omega) (by omega) (by omega))).trans ?_; rw [ej]
    | 4, _ => refine (hi (6 + 7 * a + 4) (by omega) (kf _ (by omega) (by omega) (by omega))).trans ?_; rw [ej]
    | 5, _ =>
      refine (hb (6 + 7 * a + 5) (by omega) ?_).trans ?_
      · unfold KN; rw [decide_eq_false (show ¬ (27 ≤ 6 + 7 * a + 5 ∧ 6 + 7 * a + 5 < 31) by omega), decide_eq_true (show 6 ≤ 6 + 7 * a + 5 ∧ 6 + 7 * a + 5 < 27 ∧ (6 + 7 * a + 5 - 6) % 7 = 5 by omega)]; rfl
      · rw [ej]
    | 6, _ => refine (hi (6 + 7 * a + 6) (by omega) (kf _ (by omega) (by omega) (by omega))).trans ?_; rw [ej]
  rw [if_neg c27]
  by_cases c39 : j < 39
  · rw [if_pos c39]
    unfold nrlF
    by_cases d1 : j - 27 < 4
    · rw [if_pos d1]
      refine (hb (27 + (j - 27)) (by omega) ?_).trans ?_
      · unfold KN; rw [decide_eq_true (show 27 ≤ 27 + (j - 27) ∧ 27 + (j - 27) < 31 by omega)]; rfl
      · congr 1; omega
    · rw [if_neg d1]
      by_cases d2 : j - 27 < 8
      · rw [if_pos d2]
        refine (hi (31 + (j - 27 - 4)) (by omega) (kf _ (by omega) (by omega) (by omega))).trans ?_
        congr 1; omega
      · rw [if_neg d2]
        refine (hi (35 + (j - 27 - 8)) (by omega) (kf _ (by omega) (by omega) (by omega))).trans ?_
        congr 1; omega
  rw [if_neg c39]
  by_cases c51 : j < 51
  · rw [if_pos c51]
    refine (hi (39 + 3 * ((j - 39) / 3) + (j - 39) % 3) (by omega) (kf _ (by omega) (by omega) (by omega))).trans ?_
    congr 1; omega
  rw [if_neg c51]
  by_cases c55 : j < 55
  · rw [if_pos c55]
    refine (hi (51 + (j - 51)) (by omega) (kf _ (by omega) (by omega) (by omega))).trans ?_
    congr 1; omega
  rw [if_neg c55]
  by_cases c67 : j < 67
  · rw [if_pos c67]
    refine (hi (55 + 3 * ((j - 55) / 3) + (j - 55) % 3) (by omega) (kf _ (by omega) (by omega) (by omega))).trans ?_
    congr 1; omega
  rw [if_neg c67]
  by_cases c70 : j < 70
  · rw [if_pos c70]
    refine (hi (67 + (j - 67)) (by omega) (kf _ (by omega) (by omega) (by omega))).trans ?_
    congr 1; omega
  rw [if_neg c70]
  by_cases c71 : j < 71
  · rw [if_pos c71]
    obtain rfl : j = 70 := by omega
    exact hi 70 (by omega) rfl
  rw [if_neg c71]
  by_cases c72 : j < 72
  · rw [if_pos c72]
    obtain rfl : j = 71 := by omega
    exact hi 71 (by omega) rfl
  rw [if_neg c72]
  by_cases c73 : j < 73
  · rw [if_pos c73]
    obtain rfl : j = 72 := by omega
    exact hb 72 (by omega) rfl
  · rw [if_neg c73]
    obtain rfl : j = 73 := by omega
    rfl
theorem ofC_ok {f : Nat → Value} {l : List Bool} (h : ∀ j, R64 (vI (f j))) (hl : l.length ≤ 140737488351232) : NdOK (ofC f l) :=
  ⟨h _, h _, ⟨h _, h _, h _, h _⟩, fun _ => ⟨h _, h _, h _, h _, h _, h _⟩, fun _ => h _, fun _ => h _, fun _ _ => h _, fun _ => h _, fun _ _ => h _, fun _ => h _, h _, h _, hl⟩
theorem agV_list {cs : List Value} {f : Nat → Value} {n : Nat} (hl : cs.length = n) (h : ∀ j, j < n → cs[j]? = some (f j)) : Value.agg cs.toArray = agV f 0 n := by
  unfold agV
  congr 2
  refine List.ext_getElem? (fun j => ?_)
  by_cases hj : j < n
  · rw [h j hj, List.getElem?_map, List.getElem?_range hj]
    show _ = some (f (0 + j))
    rw [Nat.zero_add]
  · rw [List.getElem?_eq_none (by omega), List.getElem?_eq_none (by simp; omega)]
section
variable {H : Type} {enc : TypeId × Value → H} {w : World} {base : Nat} {held : Bool}
theorem okWide_arrN {t e : TypeId} {n : Nat} {r : Reach} {b0 : Nat} {v : Value} (ht : Tryz.prog.underlying t = some (.array n e)) (h : Value.okWide Tryz.prog w r b0 t v) : ∃ cs, v = .agg cs ∧ cs.size = Tryz.prog.cellsOf t := by
  simp only [Value.okWide, ht] at h
  obtain ⟨cs, h1, h2, _⟩ := h
  exact ⟨cs, h1, h2⟩
theorem cells_of {cs : List Value} {o n j0 : Nat} {K : Nat → Bool} {K2 : Nat → Bool} (h : ∀ j v, j < n → cs[o + j]? = some v → CellK (K j) v) (hl : o + n ≤ cs.length) (h1 : o ≤ j0) (h2 : j0 < o + n) (e : K (j0 - o) = K2 j0) : CellK (K2 j0) (cs.getD j0 (.int .i64 0)) := by
  rw [← e]
  refine h (j0 - o) _ (by omega) ?_
  rw [Nat.add_sub_cancel' h1, List.getD_eq_getElem?_getD, List.getElem?_eq_getElem (by omega)]
  rfl
set_option maxRecDepth 100000 in
theorem open_ndC {fuel : Nat} {cs : List Value} {x : DataW H × List MemPlace} (h : DataW.trod enc Tryz.prog w base (fun _ => true) held fuel 37 cs = some x) (hsz : ∀ n ∈ x.1.weights Tryz.prog 37, n ≤ reachBytes) :
    ∃ (n : Nd) (ao : Option Addr) (c : Nat), cs.length = 74 ∧ (∀ j, j < 74 → cs[j]? = some (ndF n (.slice ao n.vA.length c) j)) ∧ NdOK n ∧ AgRd w n ao c ∧ n.vA.length ≤ c := by
  obtain ⟨xs, m, _, ex, hl, hlen, hx⟩ := DataW.trod_struct Tryz.underlying37 h
  have hl : cs.length = 74 := hl.trans (by kernel_rfl)
  have hlen : xs.length = 11 := hlen
  have p0 := flat_part (K := fun _ => false) (n := 1) Tryz.underlying37 (i := 0) rfl flat_int h
  have p1 := flat_part (K := fun _ => false) (n := 1) Tryz.underlying37 (i := 1) rfl flat_int h
  have p2 := flat_part (n := 4) Tryz.underlying37 (i := 2) rfl flat_tn h
  have p3 := flat_part (n := 21) Tryz.underlying37 (i := 3) rfl flat_ax h
  have p4 := flat_part (n := 12) Tryz.underlying37 (i := 4) rfl flat_rl h
  have p5 := flat_part (n := 12) Tryz.underlying37 (i := 5) rfl flat_i43 h
  have p6 := flat_part (n := 4) Tryz.underlying37 (i := 6) rfl flat_i4 h
  have p7 := flat_part (n := 12) Tryz.underlying37 (i := 7) rfl flat_i43 h
  have p8 := flat_part (n := 3) Tryz.underlying37 (i := 8) rfl flat_i3 h
  have p9 := flat_part (n := 1) Tryz.underlying37 (i := 9) rfl flat_int h
  have h10 := hx 10 _ rfl
  rw [List.getElem?_eq_getElem (by omega)] at h10
  obtain ⟨y, ey⟩ : ∃ y, y = xs[10] := ⟨_, rfl⟩
  rw [← ey] at h10
  have ev3 : Tryz.prog.cellsOf 35 = 3 := by kernel_rfl
  have h10' : DataW.trod enc Tryz.prog w base (fun _ => true) held m 35 ((cs.drop 71).take (Tryz.prog.cellsOf 35)) = some y := h10
  rw [ev3] at h10'
  obtain ⟨y0, y1, y2, m2, e, _, g0, g1, g2⟩ := Go.Deep.trod_struct3 Tryz.underlying35 h10'
  obtain ⟨c0, c1, c2, ec⟩ : ∃ c0 c1 c2, (cs.drop 71).take 3 = [c0, c1, c2] := by
    have : ((cs.drop 71).take 3).length = 3 := by rw [List.length_take, List.length_drop, hl]; rfl
    match hq : (cs.drop 71).take 3, this with
    | [c0, c1, c2], _ => exact ⟨c0, c1, c2, rfl⟩
  rw [ec] at g0 g1 g2
  have k0 : DataW.trod enc Tryz.prog w base (fun _ => true) held m2 3 [c0] = some y0 := by rw [cellsIntN] at g0; exact g0
  have k1 : DataW.trod enc Tryz.prog w base (fun _ => true) held m2 4 [c1] = some y1 := by rw [cellsBoolN] at g1; exact g1
  have k2 : DataW.trod enc Tryz.prog w base (fun _ => true) held m2 33 [c2] = some y2 := by rw [show Tryz.prog.cellsOf 33 = 1 by kernel_rfl] at g2; exact g2
  have q0 := flat_int.2 _ _ _ k0 0 c0 rfl
  have q1 := flat_bool.2 _ _ _ k1 0 c1 rfl
  have hg : ∀ k, k < 3 → cs[71 + k]? = [c0, c1, c2][k]? := fun k hk => by rw [← ec, drop_take_get hk]
  obtain ⟨ao, c, l, rfl, hs, hl1, hl2⟩ := open_trowN k2 (fun n hn => hsz n (by
    rw [ex]
    simp only [DataW.weights, Tryz.underlying37]
    refine DataW.weights_mem_each (j := 10) (t := 35) (d := y.1) rfl (by rw [List.getElem?_map, List.getElem?_eq_getElem (by omega), ← ey]; rfl) n ?_
    rw [e]
    simp only [DataW.weights, Tryz.underlying35, List.map, DataW.weightsEach]
    simp only [List.mem_append]
    exact Or.inr (Or.inr (Or.inl hn))))
  have hc : ∀ j, j < 73 → CellK (KN j) (cs.getD j (.int .i64 0)) := fun j hj => by
    by_cases r0 : j < 1
    · exact cells_of (o := 0) p0 (by omega) (by omega) (by omega) (by rw [show j = 0 by omega]; rfl)
    by_cases r1 : j < 2
    · exact cells_of (o := 1) p1 (by omega) (by omega) (by omega) (by rw [show j = 1 by omega]; rfl)
    have kf : ¬ (27 ≤ j ∧ j < 31) → ¬ (6 ≤ j ∧ j < 27 ∧ (j - 6) % 7 = 5) → j ≠ 72 → false = KN j := fun a b c => by
      unfold KN; rw [decide_eq_false a, decide_eq_false b, decide_eq_false c]; rfl
    by_cases r2 : j < 6
    · exact cells_of (o := 2) p2 (by omega) (by omega) (by omega) (kf (by omega) (by omega) (by omega))
    by_cases r3 : j < 27
    · refine cells_of (o := 6) p3 (by omega) (by omega) (by omega) ?_
      unfold KN
      rw [decide_eq_false (show ¬ (27 ≤ j ∧ j < 31) by omega), decide_eq_false (show ¬ j = 72 by omega), Bool.false_or, Bool.or_false]
      exact decide_eq_decide.2 ⟨fun h => ⟨by omega, by omega, h⟩, fun h => h.2.2⟩
    by_cases r4 : j < 39
    · refine cells_of (o := 27) p4 (by omega) (by omega) (by omega) ?_
      unfold KN
      rw [decide_eq_false (show ¬ (6 ≤ j ∧ j < 27 ∧ (j - 6) % 7 = 5) by omega), decide_eq_false (show ¬ j = 72 by omega), Bool.or_false, Bool.or_false]
      exact decide_eq_decide.2 ⟨fun h => ⟨by omega, by omega⟩, fun h => by omega⟩
    by_cases r5 : j < 51
    · exact cells_of (o := 39) p5 (by omega) (by omega) (by omega) (kf (by omega) (by omega) (by omega))
    by_cases r6 : j < 55
    · exact cells_of (o := 51) p6 (by omega) (by omega) (by omega) (kf (by omega) (by omega) (by omega))
    by_cases r7 : j < 67
    · exact cells_of (o := 55) p7 (by omega) (by omega) (by omega) (kf (by omega) (by omega) (by omega))
    by_cases r8 : j < 70
    · exact cells_of (o := 67) p8 (by omega) (by omega) (by omega) (kf (by omega) (by omega) (by omega))
    by_cases r9 : j < 71
    · exact cells_of (o := 70) p9 (by omega) (by omega) (by omega) (kf (by omega) (by omega) (by omega))
    rw [List.getD_eq_getElem?_getD]
    by_cases r10 : j < 72
    · obtain rfl : j = 71 := by omega
      rw [show (71 : Nat) = 71 + 0 from rfl, hg 0 (by omega)]; exact q0
    · obtain rfl : j = 72 := by omega
      rw [show (72 : Nat) = 71 + 1 from rfl, hg 1 (by omega)]; exact q1
  have e73 : cs.getD 73 (.int .i64 0) = .slice ao l.length c := by
    rw [List.getD_eq_getElem?_getD, show (73 : Nat) = 71 + 2 from rfl, hg 2 (by omega)]; rfl
  have hR : ∀ j, R64 (vI (cs.getD j (.int .i64 0))) := fun j => by
    by_cases hj : j < 73
    · exact (hc j hj).R
    by_cases hj2 : j = 73
    · rw [hj2, e73]; exact R64_nought
    · rw [List.getD_eq_getElem?_getD, List.getElem?_eq_none (by omega)]; exact R64_nought
  refine ⟨ofC (fun j => cs.getD j (.int .i64 0)) l, ao, c, hl, fun j hj => ?_, ofC_ok hR hl1, hs, hl2⟩
  have := ofC_ndF (l := l) hc j hj
  rw [e73] at this
  refine Eq.trans ?_ (congrArg some this.symm)
  rw [List.getD_eq_getElem?_getD, List.getElem?_eq_getElem (by omega)]
  rfl
set_option maxRecDepth 100000 in
theorem open_ndArg {r : Reach} {b0 : Nat} {v : Value} {d : DataW H} {p : List MemPlace} (hv : Value.okWide Tryz.prog w r b0 37 v) (h : DataW.Trod enc Tryz.prog w base (fun _ => true) held 37 v d p) (hsz : ∀ n ∈ d.weights Tryz.prog 37, n ≤ reachBytes) :
    ∃ (n : Nd) (ao : Option Addr) (c : Nat), v = ndV n (.slice ao n.vA.length c) ∧ NdOK n ∧ AgRd w n ao c ∧ n.vA.length ≤ c := by
  obtain ⟨cs, rfl, _⟩ := okWide_struct Tryz.underlying37 hv
  obtain ⟨fuel, hf⟩ := h
  have hf' : DataW.trod enc Tryz.prog w base (fun _ => true) held fuel 37 cs.toList = some (d, p) := hf
  obtain ⟨n, ao, c, hl, hc, ok, ag, hcap⟩ := open_ndC hf' hsz
  refine ⟨n, ao, c, ?_, ok, ag, hcap⟩
  have := agV_list hl hc
  rwa [Array.toArray_toList] at this
set_option maxRecDepth 100000 in
theorem open_tnArg {r : Reach} {b0 : Nat} {v : Value} {d : DataW H} {p : List MemPlace} (hv : Value.okWide Tryz.prog w r b0 23 v) (h : DataW.Trod enc Tryz.prog w base (fun _ => true) held 23 v d p) :
    ∃ t : Tn, v = agV (ntnF t) 0 4 ∧ t.Ok := by
  obtain ⟨cs, rfl, hs⟩ := okWide_struct Tryz.underlying23 hv
  obtain ⟨fuel, hf⟩ := h
  have hf' : DataW.trod enc Tryz.prog w base (fun _ => true) held fuel 23 cs.toList = some (d, p) := hf
  have hl : cs.toList.length = 4 := by rw [Array.length_toList, hs]; kernel_rfl
  have hg : ∀ j, j < 4 → CellK false (cs.toList.getD j (.int .i64 0)) := fun j hj => flat_tn.2 _ _ _ hf' j _ (by rw [List.getD_eq_getElem?_getD, List.getElem?_eq_getElem (by omega)]; rfl)
  refine ⟨⟨vI (cs.toList.getD 0 (.int .i64 0)), vI (cs.toList.getD 1 (.int .i64 0)), vI (cs.toList.getD 2 (.int .i64 0)), vI (cs.toList.getD 3 (.int .i64 0))⟩, ?_, (hg 0 (by omega)).R, (hg 1 (by omega)).R, (hg 2 (by omega)).R, (hg 3 (by omega)).R⟩
  have := agV_list hl (f := ntnF ⟨vI (cs.toList.getD 0 (.int .i64 0)), vI (cs.toList.getD 1 (.int .i64 0)), vI (cs.toList.getD 2 (.int .i64 0)), vI (cs.toList.getD 3 (.int .i64 0))⟩) (fun j hj => by
    have e : cs.toList[j]? = some (cs.toList.getD j (.int .i64 0)) := by rw [List.getD_eq_getElem?_getD, List.getElem?_eq_getElem (by omega)]; rfl
    rw [e]
    congr 1
    match j, hj with
    | 0, _ => exact (hg 0 (by omega)).i.symm
    | 1, _ => exact (hg 1 (by omega)).i.symm
    | 2, _ => exact (hg 2 (by omega)).i.symm
    | 3, _ => exact (hg 3 (by omega)).i.symm)
  rwa [Array.toArray_toList] at this
set_option maxRecDepth 100000 in
theorem open_i3Arg {r : Reach} {b0 : Nat} {v : Value} {d : DataW H} {p : List MemPlace} (hv : Value.okWide Tryz.prog w r b0 31 v) (h : DataW.Trod enc Tryz.prog w base (fun _ => true) held 31 v d p) :
    ∃ f : Nat → Int, v = agV (fun a => iV (f a)) 0 3 ∧ ∀ a, R64 (f a) := by
  obtain ⟨cs, rfl, hs⟩ := okWide_arrN Tryz.underlying31 hv
  obtain ⟨fuel, hf⟩ := h
  have hf' : DataW.trod enc Tryz.prog w base (fun _ => true) held fuel 31 cs.toList = some (d, p) := hf
  have hl : cs.toList.length = 3 := by rw [Array.length_toList, hs]; kernel_rfl
  have hg : ∀ j, j < 3 → CellK false (cs.toList.getD j (.int .i64 0)) := fun j hj => flat_i3.2 _ _ _ hf' j _ (by rw [List.getD_eq_getElem?_getD, List.getElem?_eq_getElem (by omega)]; rfl)
  refine ⟨fun j => vI (cs.toList.getD j (.int .i64 0)), ?_, fun j => ?_⟩
  · have := agV_list hl (f := fun a => iV (vI (cs.toList.getD a (.int .i64 0)))) (fun j hj => by
      have e : cs.toList[j]? = some (cs.toList.getD j (.int .i64 0)) := by rw [List.getD_eq_getElem?_getD, List.getElem?_eq_getElem (by omega)]; rfl
      rw [e]
      congr 1
      exact (hg j hj).i.symm)
    rwa [Array.toArray_toList] at this
  · by_cases hj : j < 3
    · exact (hg j hj).R
    · show R64 (vI (cs.toList.getD j (.int .i64 0)))
      rw [List.getD_eq_getElem?_getD, List.getElem?_eq_none (by omega)]; exact R64_nought
theorem cellsMsN : Tryz.prog.cellsOf 67 = 4 := by kernel_rfl
theorem bytesMsN : Tryz.prog.bytesOf 67 = 48 := by kernel_rfl
theorem cellsIsN : Tryz.prog.cellsOf 65 = 1 := by kernel_rfl
set_option maxRecDepth 100000 in
theorem open_msC {fuel : Nat} {cs : List Value} {x : DataW H × List MemPlace} (h : DataW.trod enc Tryz.prog w base (fun _ => true) held fuel 67 cs = some x) (hsz : ∀ n ∈ x.1.weights Tryz.prog 67, n ≤ reachBytes) :
    ∃ c : Lm, cs.length = 4 ∧ (∀ j, j < 4 → cs[j]? = some (lmF c j)) ∧ LvRd w c ∧ ∀ i, R64 (gL c.m.L i) := by
  obtain ⟨xs, n, _, ex, hl, hlen, hf⟩ := DataW.trod_struct Tryz.underlying67 h
  rw [cellsMsN] at hl
  match cs, hl with
  | [c0, c1, c2, c3], _ =>
    match xs, hlen with
    | [y0, y1, y2, y3], _ =>
      have g0 : DataW.trod enc Tryz.prog w base (fun _ => true) held n 3 (List.take (Tryz.prog.cellsOf 3) [c0, c1, c2, c3]) = some y0 := hf 0 _ rfl
      have g1 : DataW.trod enc Tryz.prog w base (fun _ => true) held n 3 (List.take (Tryz.prog.cellsOf 3) [c1, c2, c3]) = some y1 := hf 1 _ rfl
      have g2 : DataW.trod enc Tryz.prog w base (fun _ => true) held n 3 (List.take (Tryz.prog.cellsOf 3) [c2, c3]) = some y2 := hf 2 _ rfl
      have g3 : DataW.trod enc Tryz.prog w base (fun _ => true) held n 65 (List.take (Tryz.prog.cellsOf 65) [c3]) = some y3 := hf 3 _ rfl
      rw [cellsIntN] at g0 g1 g2
      rw [cellsIsN] at g3
      obtain ⟨a0, q0, _, w0⟩ := DataW.trod_int Tryz.underlying3 (show DataW.trod enc Tryz.prog w base (fun _ => true) held n 3 [c0] = some y0 from g0)
      obtain ⟨a1, q1, _, w1⟩ := DataW.trod_int Tryz.underlying3 (show DataW.trod enc Tryz.prog w base (fun _ => true) held n 3 [c1] = some y1 from g1)
      obtain ⟨a2, q2, _, w2⟩ := DataW.trod_int Tryz.underlying3 (show DataW.trod enc Tryz.prog w base (fun _ => true) held n 3 [c2] = some y2 from g2)
      simp at q0 q1 q2
      subst q0 q1 q2
      have g3' : DataW.trod enc Tryz.prog w base (fun _ => true) held n 65 [c3] = some y3 := g3
      obtain ⟨ao, len, cap, f, rfl, ha⟩ := open_row g3' (fun k hk => hsz k (by
        rw [ex]
        simp only [DataW.weights, Tryz.underlying67, List.map, DataW.weightsEach]
        simp only [List.mem_append]
        exact Or.inr (Or.inr (Or.inr (Or.inl hk)))))
      have hcap : len ≤ cap := by
        rcases open_ints Tryz.underlying65 Tryz.underlying3 cellsInt g3' with ⟨hcs, _⟩ | ⟨a, l, c, zs, hcs, _, hl, _⟩
        · simp at hcs
          omega
        · simp at hcs
          omega
      have el : ((List.range len).map f).length = len := by simp
      have eg : ∀ i, i < len → gL ((List.range len).map f) i = f i := fun i hi => by
        unfold gL; rw [List.getD_eq_getElem?_getD, List.getElem?_map, List.getElem?_range hi]; rfl
      refine ⟨⟨⟨a0, a1, a2, (List.range len).map f⟩, ao, cap⟩, rfl, fun j hj => ?_, ⟨?_, by dsimp only; rw [el]; exact hcap, by dsimp only; rw [el]; have := ha.2.1; omega⟩, fun i => ?_⟩
      · have e4 : (Value.slice ao len cap) = lmV ⟨⟨a0, a1, a2, (List.range len).map f⟩, ao, cap⟩ := by unfold lmV; dsimp only; rw [el]
        rw [e4]
        match j, hj with
        | 0, _ => rfl
        | 1, _ => rfl
        | 2, _ => rfl
        | 3, _ => rfl
      · dsimp only
        rw [el]
        rcases ha.1 with h | ⟨x, rfl, hc⟩
        · exact Or.inl h
        · exact Or.inr ⟨x, rfl, fun i hi => by rw [hc i hi]; unfold iF; rw [eg i hi]⟩
      · dsimp only
        by_cases hi : i < len
        · rw [eg i hi]; exact ha.2.2 i
        · unfold gL; rw [List.getD_eq_getElem?_getD, List.getElem?_eq_none (by rw [el]; omega)]; exact R64_nought
theorem weightsAll_memN {e : TypeId} {l : List (DataW H)} {d : DataW H} (hd : d ∈ l) : ∀ n, n ∈ d.weights Tryz.prog e → n ∈ DataW.weightsAll Tryz.prog e l := by
  induction l with
  | nil => cases hd
  | cons x l ih =>
    intro n hn
    unfold DataW.weightsAll
    rcases List.mem_cons.1 hd with rfl | hd
    · exact List.mem_append.2 (Or.inl hn)
    · exact List.mem_append.2 (Or.inr (ih hd n hn))
set_option maxRecDepth 100000 in
theorem open_msgsArg {r : Reach} {b0 : Nat} {v : Value} {d : DataW H} {p : List MemPlace} (hv : Value.okWide Tryz.prog w r b0 71 v) (h : DataW.Trod enc Tryz.prog w base (fun _ => true) held 71 v d p) (hsz : ∀ n ∈ d.weights Tryz.prog 71, n ≤ reachBytes) :
    ∃ (mo : Option Addr) (mc : Nat) (L : List Lm), v = .slice mo L.length mc ∧ MRd w mo L ∧ L.length ≤ 2932031007317 ∧ L.length ≤ mc ∧ ∀ m, m ∈ L → ∀ i, R64 (gL m.m.L i) := by
  obtain ⟨ao, len, cap, rfl⟩ := okWide_slice Tryz.underlying71 hv
  obtain ⟨fuel, hf⟩ := h
  have hf' : DataW.trod enc Tryz.prog w base (fun _ => true) held fuel 71 [.slice ao len cap] = some (d, p) := hf
  rcases Go.Deep.open_slice Tryz.underlying71 hf' with ⟨hcs, _⟩ | ⟨a, l, c, m, n, D, Pl, hcs, _, hl, hm, hmm, ex, hx⟩
  · simp at hcs
    obtain ⟨rfl, rfl, rfl⟩ := hcs
    exact ⟨none, 0, [], rfl, ⟨fun h => absurd h (by simp), fun _ h => absurd h (by simp)⟩, by show 0 ≤ _; omega, Nat.le_refl _, fun _ h => absurd h (by simp)⟩
  · simp at hcs
    obtain ⟨rfl, rfl, rfl⟩ := hcs
    simp only [if_true] at hmm
    subst hmm
    simp only [Prod.mk.injEq] at ex
    have hw : ∀ i, i < len → ∀ k ∈ (D i).weights Tryz.prog 67, k ≤ reachBytes := fun i hi k hk => hsz k (by
      rw [ex.1]
      simp only [DataW.weights, Tryz.underlying71]
      exact List.mem_cons_of_mem _ (List.mem_append.2 (Or.inl (weightsAll_memN (List.mem_map.2 ⟨i, List.mem_range.2 hi, rfl⟩) k hk))))
    have hb : m * 48 ≤ reachBytes := hsz _ (by
      rw [ex.1]
      simp only [DataW.weights, Tryz.underlying71, bytesMsN]
      refine List.mem_cons.2 (Or.inl ?_)
      rw [List.length_map, List.length_map, List.length_range, List.length_range]
      congr 1
      omega)
    obtain ⟨F, hF⟩ := Go.Deep.choose_lt (α := Lm) (n := len) (p := fun i c => (∀ k, k < 4 → w.cell? ((a.add (i * 4)).add k) = some (lmF c k)) ∧ LvRd w c ∧ ∀ i, R64 (gL c.m.L i)) (fun i hi => by
      obtain ⟨cs', h1, h2⟩ := hx i (by omega)
      rw [cellsMsN] at h1
      obtain ⟨cc, e, h3, h4⟩ := open_msC h2 (hw i hi)
      refine ⟨cc, fun k hk => ?_, h4⟩
      obtain ⟨_, _, hcc⟩ := World.cells?_some h1
      rw [hcc k hk, h3 k hk])
    have el : ((List.range len).map F).length = len := by simp
    have hat : ∀ i c, ((List.range len).map F)[i]? = some c → i < len ∧ c = F i := fun i c hi => by
      have hlt : i < len := by have := (List.getElem?_eq_some_iff.1 hi).1; rw [el] at this; exact this
      rw [List.getElem?_map, List.getElem?_range hlt] at hi
      exact ⟨hlt, (Option.some.inj hi).symm⟩
    refine ⟨some a, m, (List.range len).map F, by rw [el], ⟨fun hl0 => ?_, fun c hc => ?_⟩, by rw [el]; unfold reachBytes at hb; omega, by rw [el]; exact hl, fun c hc => ?_⟩
    · rw [el] at hl0
      obtain ⟨b, o, spot⟩ := a
      have hs : spot = none := by
        have h0 : w.cell? (((⟨b, o, spot⟩ : Addr).add (0 * 4)).add 0) = some (iV (F 0).m.K) := (hF 0 hl0).1 0 (by omega)
        simpa [Addr.add] using World.cell?_spot h0
      subst hs
      refine ⟨b, o, rfl, fun i c hi k hk => ?_⟩
      obtain ⟨hlt, rfl⟩ := hat i c hi
      have := (hF i hlt).1 k hk
      rw [Addr.add_lit, Addr.add_lit] at this
      exact this
    · obtain ⟨i, hi⟩ := List.getElem?_of_mem hc
      obtain ⟨hlt, rfl⟩ := hat i c hi
      exact (hF i hlt).2.1
    · obtain ⟨i, hi⟩ := List.getElem?_of_mem hc
      obtain ⟨hlt, rfl⟩ := hat i c hi
      exact (hF i hlt).2.2
end

end Go.Proofs.YthimcecbgpamdaaGreat

namespace Go.Proofs.YthimcecbgpamdaaGreat
open Go.ChangeShapes Go.WideShapes Go.ChangeAt Go.RowKit Go.Joins
set_option maxRecDepth 100000

/-- Bytes that were handed in. -/
def ArgB (w : World) (ao : Option Addr) (len cap : Nat) (g : Nat → Nat) : Prop :=
  Sr w ao len cap (bF g) ∧ len ≤ 140737488351232 ∧ (∀ i, g i < 256) ∧ len ≤ cap
theorem ArgB.below {w w' : World} {ao : Option Addr} {len cap : Nat} {g : Nat → Nat} (h : ArgB w ao len cap g) (k : Below w.heap.size w w') : ArgB w' ao len cap g := ⟨h.1.below k, h.2⟩

theorem bytesByte : Tryz.prog.bytesOf 5 = 1 := by kernel_rfl
theorem cellsByte : Tryz.prog.cellsOf 5 = 1 := by kernel_rfl

section
variable {H : Type} {enc : TypeId × Value → H} {w : World} {base : Nat} {held : Bool}

set_option maxRecDepth 100000 in
theorem open_bytes {fuel : Nat} {v : Value} {x : DataW H × List MemPlace} (h : DataW.trod enc Tryz.prog w base (fun _ => true) held fuel 76 [v] = some x) (hsz : ∀ n ∈ x.1.weights Tryz.prog 76, n ≤ reachBytes) :
    ∃ ao len cap g, v = .slice ao len cap ∧ ArgB w ao len cap g := by
  rcases open_ints Tryz.underlying76 Tryz.underlying5 cellsByte h with ⟨hcs, _⟩ | ⟨a, len, cap, zs, hcs, _, hl, _, hz, hx, hcell, hwz⟩
  · simp at hcs
    exact ⟨none, 0, 0, fun _ => 0, hcs, Or.inl ⟨rfl, rfl, rfl⟩, by decide, fun _ => by show 0 < 256; omega, Nat.le_refl _⟩
  · simp at hcs
    have hz' : zs.length = cap := by simpa using hz
    have hb : zs.length * 1 ≤ reachBytes := by
      refine hsz _ ?_
      rw [hx]
      simp [DataW.weights, Tryz.underlying76, bytesByte, lits]
      left; omega
    have hw : ∀ i, i < zs.length → 0 ≤ zs.getD i 0 ∧ zs.getD i 0 < 256 := by
      intro i hi
      have e : zs.getD i 0 = zs[i] := by simp [List.getD, hi]
      have := hwz _ (List.getElem_mem hi)
      rw [e]
      simp [Lit.wf, IntKind.min, IntKind.max, IntKind.bits, IntKind.signed] at this
      omega
    refine ⟨some a, len, cap, fun i => if i < len then (zs.getD i 0).toNat else 0, hcs, Or.inr ⟨a, rfl, fun i hi => ?_⟩, by unfold reachBytes at hb; omega, fun i => ?_, hl⟩
    · rw [hcell i (by omega)]
      show some (Value.int .u8 (zs.getD i 0)) = some (Value.int .u8 ((if i < len then (zs.getD i 0).toNat else 0 : Nat) : Int))
      rw [if_pos hi, Int.toNat_of_nonneg (hw i (by omega)).1]
    · show (if i < len then (zs.getD i 0).toNat else 0) < 256
      split
      · have := hw i (by omega); omega
      · omega
set_option maxRecDepth 100000 in
theorem open_bytesArg {r : Reach} {b0 : Nat} {v : Value} {d : DataW H} {p : List MemPlace} (hv : Value.okWide Tryz.prog w r b0 76 v) (h : DataW.Trod enc Tryz.prog w base (fun _ => true) held 76 v d p) (hsz : ∀ n ∈ d.weights Tryz.prog 76, n ≤ reachBytes) :
    ∃ ao len cap g, v = .slice ao len cap ∧ ArgB w ao len cap g := by
  obtain ⟨ao, len, cap, rfl⟩ := okWide_slice Tryz.underlying76 hv
  obtain ⟨fuel, hf⟩ := h
  have hf' : DataW.trod enc Tryz.prog w base (fun _ => true) held fuel 76 [.slice ao len cap] = some (d, p) := hf
  exact open_bytes hf' hsz
theorem bulk_lits {k : IntKind} (zs : List Int) : Rows.uptoBulkAll (lits (H := H) k zs) = zs.length := by
  induction zs with
  | nil => rfl
  | cons z zs ih =>
    show Rows.uptoBulkAll (DataW.lit (.int k z) :: lits k zs) = _
    simp only [Rows.uptoBulkAll, Rows.uptoBulk, ih, List.length_cons]
    omega
/-- The same, with what the reading's bulk says of the length. -/
theorem open_bytesUp {r : Reach} {b0 : Nat} {v : Value} {d : DataW H} {p : List MemPlace} (hv : Value.okWide Tryz.prog w r b0 76 v) (h : DataW.Trod enc Tryz.prog w base (fun _ => true) held 76 v d p) (hsz : ∀ n ∈ d.weights Tryz.prog 76, n ≤ reachBytes) :
    ∃ ao len cap g, v = .slice ao len cap ∧ ArgB w ao len cap g ∧ len ≤ Rows.uptoBulk d := by
  obtain ⟨ao, len, cap, g, rfl, ha⟩ := open_bytesArg hv h hsz
  refine ⟨ao, len, cap, g, rfl, ha, ?_⟩
  obtain ⟨fuel, hf⟩ := h
  have hf' : DataW.trod enc Tryz.prog w base (fun _ => true) held fuel 76 [.slice ao len cap] = some (d, p) := hf
  rcases open_ints Tryz.underlying76 Tryz.underlying5 cellsByte hf' with ⟨hcs, _⟩ | ⟨a, l, c, zs, hcs, _, hl, _, hz, hx, _⟩
  · simp at hcs
    omega
  · simp at hcs
    have hz' : zs.length = c := by simpa using hz
    have e : d = .slice (lits .u8 (zs.take l)) (lits .u8 (zs.drop l)) := congrArg Prod.fst hx
    rw [e]
    simp only [Rows.uptoBulk, bulk_lits, List.length_take]
    omega
end

end Go.Proofs.YthimcecbgpamdaaGreat

namespace Go.Proofs.YthimcecbgpamdaaGreat
open Go

theorem wp_call4n (w : World) {P : Program} {Q : Exit → Act → World → Prop} {o : Oper} {a : Act} {K : Act → World → Prop} (n : Nat) (x y z u : Operand) (T : Array TypeId) (ho : o.op = .call { callee := .value (.func n), args := #[x, y, z, u], argTypes := T }) {p q r s : Value} (hx : a.eval x = p) (hy : a.eval y = q) (hz : a.eval z = r) (hu : a.eval u = s) (hf : (callFunc n #[p, q, r, s]).run P w = .ok (.enter n #[p, q, r, s]) w) {R : Ending → World → Prop} (hc : Calls P n #[p, q, r, s] w R)
    (h : ∀ e w', R e w' → ∃ r, e = .returned r ∧ K (a.put o.dst r) w') : WpI P o a w K Q := by
  refine ⟨?_⟩
  have e : (execOp a.eval o).run P w = .ok (.enter n #[p, q, r, s]) w := by
    unfold execOp
    rw [ho]
    have hv2 : a.eval (Operand.func n) = .func (.func n) #[] #[] := rfl
    simp only [resolve, invoke, Sem.run_bind, List.map_toArray, List.map_cons, List.map_nil, hx, hy, hz, hu, hv2]
    go_simp
  unfold Oper.wp
  rw [e, Oper.upon_enter]
  refine hc.mono ?_
  intro e w' hr
  obtain ⟨r, rfl, hk⟩ := h e w' hr
  exact hk

end Go.Proofs.YthimcecbgpamdaaGreat

namespace Go.Proofs.YthimcecbgpamdaaGreat
open Go

theorem wp_call6 (w : World) {P : Program} {Q : Exit → Act → World → Prop} {o : Oper} {a : Act} {K : Act → World → Prop} (n : Nat) (x y z u v x6 : Operand) (T : Array TypeId) (ho : o.op = .call { callee := .value (.func n), args := #[x, y, z, u, v, x6], argTypes := T }) {p q r s t p6 : Value} (hx : a.eval x = p) (hy : a.eval y = q) (hz : a.eval z = r) (hu : a.eval u = s) (hv : a.eval v = t) (h6 : a.eval x6 = p6) (hf : (callFunc n #[p, q, r, s, t, p6]).run P w = .ok (.enter n #[p, q, r, s, t, p6]) w) {R : Ending → World → Prop} (hc : Calls P n #[p, q, r, s, t, p6] w R)
    (h : ∀ e w', R e w' → ∃ r, e = .returned r ∧ K (a.put o.dst r) w') : WpI P o a w K Q := by
  refine ⟨?_⟩
  have e : (execOp a.eval o).run P w = .ok (.enter n #[p, q, r, s, t, p6]) w := by
    unfold execOp
    rw [ho]
    have hv2 : a.eval (Operand.func n) = .func (.func n) #[] #[] := rfl
    simp only [resolve, invoke, Sem.run_bind, List.map_toArray, List.map_cons, List.map_nil, hx, hy, hz, hu, hv, h6, hv2]
    go_simp
  unfold Oper.wp
  rw [e, Oper.upon_enter]
  refine hc.mono ?_
  intro e w' hr
  obtain ⟨r, rfl, hk⟩ := h e w' hr
  exact hk

theorem wp_call3n (w : World) {P : Program} {Q : Exit → Act → World → Prop} {o : Oper} {a : Act} {K : Act → World → Prop} (n : Nat) (x y z : Operand) (T : Array TypeId) (ho : o.op = .call { callee := .value (.func n), args := #[x, y, z], argTypes := T }) {p q r : Value} (hx : a.eval x = p) (hy : a.eval y = q) (hz : a.eval z = r) (hf : (callFunc n #[p, q, r]).run P w = .ok (.enter n #[p, q, r]) w) {R : Ending → World → Prop} (hc : Calls P n #[p, q, r] w R)
    (h : ∀ e w', R e w' → ∃ r, e = .returned r ∧ K (a.put o.dst r) w') : WpI P o a w K Q := by
  refine ⟨?_⟩
  have e : (execOp a.eval o).run P w = .ok (.enter n #[p, q, r]) w := by
    unfold execOp
    rw [ho]
    have hv2 : a.eval (Operand.func n) = .func (.func n) #[] #[] := rfl
    simp only [resolve, invoke, Sem.run_bind, List.map_toArray, List.map_cons, List.map_nil, hx, hy, hz, hv2]
    go_simp
  unfold Oper.wp
  rw [e, Oper.upon_enter]
  refine hc.mono ?_
  intro e w' hr
  obtain ⟨r, rfl, hk⟩ := h e w' hr
  exact hk


end Go.Proofs.YthimcecbgpamdaaGreat

namespace Go.Proofs.YthimcecbgpamdaaGreat
open Go.RowKit

/-- A thing in memory: what it says of a world, in which blocks it lies. -/
structure It where
  p : World → Prop
  foot : Nat → Prop
  ok : ∀ {w w' : World}, p w → (∀ k, k < w.heap.size → foot k → w'.heap[k]? = w.heap[k]?) → p w'
  lt : ∀ {w : World} {k : Nat}, p w → foot k → k < w.heap.size
theorem rw_same {t : TypeId} {B s n : Nat} {w w' : World} {v : Value} {xs : List Value} (h : w.ownsRow B t s v n xs) (e : ∀ k, v.ownBlock = some k → w'.heap[k]? = w.heap[k]?) : w'.ownsRow B t s v n xs := by
  refine ⟨h.1, ?_⟩
  rcases h.2 with hn | ⟨g, cap, cur, rfl, hb, hgg, rest⟩
  · exact .inl hn
  · exact .inr ⟨g, cap, cur, rfl, hb, (e g rfl).trans hgg, rest⟩
def vhI (t : TypeId) (b N cap : Nat) (g : Nat → Value) : It := ⟨fun w => Vh t w b N cap g, fun k => k = b, fun h e => Vh.same h (e _ h.lt rfl), fun h e => e ▸ h.lt⟩
def ownI (B : Nat) (t : TypeId) (s : Nat) (v : Value) (n : Nat) (xs : List Value) : It := ⟨fun w => w.ownsRow B t s v n xs, fun k => v.ownBlock = some k, fun h e => rw_same h (fun k hk => e k (h.lt k hk).2 hk), fun h e => (h.lt _ e).2⟩
/-- The world since w0: what is below is as it was, and these things lie apart above it. -/
structure Cx (w0 w : World) (l : List It) : Prop where
  bel : Below w0.heap.size w0 w
  it : ∀ x, x ∈ l → x.p w
  up : ∀ x, x ∈ l → ∀ k, x.foot k → w0.heap.size ≤ k
  dis : l.Pairwise fun x y => ∀ k, x.foot k → ¬ y.foot k
section
variable {w0 w w' : World} {l a b : List It} {x y : It}
theorem Cx.start (w0 : World) : Cx w0 w0 [] := ⟨Below.refl _ _, fun _ h => (by cases h), fun _ h => (by cases h), List.Pairwise.nil⟩
theorem Cx.size (H : Cx w0 w l) : w0.heap.size ≤ w.heap.size := H.bel.size
theorem Cx.call (H : Cx w0 w l) (k : Below w.heap.size w w') : Cx w0 w' l := ⟨H.bel.trans (k.mono H.size), fun x hx => x.ok (H.it x hx) (fun j hj _ => k.block j hj), H.up, H.dis⟩
theorem Cx.drew (H : Cx w0 w l) : Cx w0 w.drew l := H.call ⟨rfl, rfl, rfl, Nat.le_refl _, fun _ _ => rfl⟩
theorem Cx.add (H : Cx w0 w l) (k : Below w.heap.size w w') (x : It) (hx : x.p w') (hf : ∀ j, x.foot j → w.heap.size ≤ j) : Cx w0 w' (x :: l) := by
  have H' := H.call k
  have hs := H.size
  refine ⟨H'.bel, fun y hy => ?_, fun y hy j hj => ?_, List.Pairwise.cons (fun y hy j h1 h2 => ?_) H.dis⟩
  · rcases List.mem_cons.1 hy with rfl | hy
    · exact hx
    · exact H'.it y hy
  · rcases List.mem_cons.1 hy with rfl | hy
    · have := hf j hj; omega
    · exact H.up y hy j hj
  · have h3 := hf j h1
    have h4 := y.lt (H.it y hy) h2
    omega
structure Chg (w w' : World) (x y : It) : Prop where
  os : w'.os = w.os
  tape : w'.tape = w.tape
  output : w'.output = w.output
  size : w.heap.size ≤ w'.heap.size
  hk : ∀ k, k < w.heap.size → ¬ x.foot k → w'.heap[k]? = w.heap[k]?
  hy : y.p w'
  hf : ∀ j, y.foot j → x.foot j ∨ w.heap.size ≤ j
theorem Cx.p0 (H : Cx w0 w (x :: b)) (c : Chg w w' x y) : Cx w0 w' (y :: b) := by
  have hs := H.size
  obtain ⟨d4, d5⟩ := List.pairwise_cons.1 H.dis
  have hx : x ∈ x :: b := List.mem_cons_self
  have inB : ∀ z, z ∈ b → z ∈ x :: b := fun z hz => List.mem_cons_of_mem _ hz
  refine ⟨⟨c.os.trans H.bel.os, c.tape.trans H.bel.tape, c.output.trans H.bel.output, Nat.le_trans H.bel.size c.size, fun k hkk => (c.hk k (by omega) (fun e => by have := H.up x hx k e; omega)).trans (H.bel.block k hkk)⟩, fun z hz => ?_, fun z hz j hj => ?_, List.pairwise_cons.2 ⟨fun z hz j h1 h2 => ?_, d5⟩⟩
  · rcases List.mem_cons.1 hz with rfl | hz
    · exact c.hy
    · exact z.ok (H.it z (inB z hz)) (fun k h1 h2 => c.hk k h1 (fun h3 => d4 z hz k h3 h2))
  · rcases List.mem_cons.1 hz with rfl | hz
    · rcases c.hf j hj with h | h
      · exact H.up x hx j h
      · omega
    · exact H.up z (inB z hz) j hj
  · rcases c.hf j h1 with h | h
    · exact d4 z hz j h h2
    · have := z.lt (H.it z (inB z hz)) h2; omega
theorem Cx.sub {m : List It} (H : Cx w0 w l) (h : m.Sublist l) : Cx w0 w m := ⟨H.bel, fun x hx => H.it x (h.subset hx), fun x hx => H.up x (h.subset hx), H.dis.sublist h⟩
theorem Cx.perm {m : List It} (H : Cx w0 w l) (h : l.Perm m) : Cx w0 w m := ⟨H.bel, fun x hx => H.it x (h.mem_iff.2 hx), fun x hx => H.up x (h.mem_iff.2 hx), H.dis.perm h (fun h1 k h2 h3 => h1 k h3 h2)⟩
/-- Another base. -/
theorem Cx.base {v0 : World} (H : Cx w0 w l) (k : Below v0.heap.size v0 w0) (hs : v0.heap.size ≤ w0.heap.size) : Cx v0 w l := ⟨k.trans (H.bel.mono hs), H.it, fun x hx j hj => Nat.le_trans hs (H.up x hx j hj), H.dis⟩
theorem Cx.tl (H : Cx w0 w (x :: l)) : Cx w0 w l := H.sub (List.sublist_cons_self x l)
end
/-- Only what is read: at each world that an order may come by. -/
structure Its (l : List It) (w : World) : Prop where
  it : ∀ x, x ∈ l → x.p w
theorem Cx.its {w0 w : World} {l : List It} (H : Cx w0 w l) : Its l w := ⟨H.it⟩
theorem Its.nil (w : World) : Its [] w := ⟨fun _ h => (by cases h)⟩
theorem Its.cons {w : World} {x : It} {l : List It} (h : x.p w) (t : Its l w) : Its (x :: l) w := ⟨fun y hy => by
  rcases List.mem_cons.1 hy with rfl | hy
  · exact h
  · exact t.it y hy⟩
theorem Its.tl {w : World} {x : It} {l : List It} (h : Its (x :: l) w) : Its l w := ⟨fun y hy => h.it y (List.mem_cons_of_mem _ hy)⟩
structure AtK (w0 w : World) (x : It) (F : It → List It) : Prop where
  o : x.p w
  size : w0.heap.size ≤ w.heap.size
  put : ∀ {w' : World} {y : It}, Chg w w' x y → Cx w0 w' (F y)
section
variable {w0 w w' : World} {x0 x1 x2 x3 x4 x5 x6 x7 x8 x : It} {l : List It} {t : TypeId} {b N cap : Nat} {g g' : Nat → Value} {F : It → List It}
theorem AtK.s (H : AtK w0 w (vhI t b N cap g) F) (k : Kept b w w') (m : Vh t w' b N cap g') : Cx w0 w' (F (vhI t b N cap g')) := H.put ⟨k.os, k.tape, k.output, k.size, fun j h1 h2 => k.block j h1 h2, m, fun _ h => Or.inl h⟩
theorem Cx.o0 (H : Cx w0 w (x :: l)) : x.p w := H.it _ List.mem_cons_self
theorem Cx.v0 (H : Cx w0 w (vhI t b N cap g :: l)) : Vh t w b N cap g := H.o0
theorem Its.v0 (H : Its (vhI t b N cap g :: l) w) : Vh t w b N cap g := H.it _ List.mem_cons_self
theorem Cx.a0 (H : Cx w0 w (x :: l)) : AtK w0 w x (fun y => y :: l) := ⟨H.o0, H.size, fun c => H.p0 c⟩
theorem Cx.f1 (H : Cx w0 w (x0 :: x :: l)) : Cx w0 w (x :: x0 :: l) := H.perm (List.perm_middle (l₁ := [x0]))
theorem Cx.b1 (H : Cx w0 w (x :: x0 :: l)) : Cx w0 w (x0 :: x :: l) := H.perm (List.perm_middle (l₁ := [x0])).symm
theorem Cx.o1 (H : Cx w0 w (x0 :: x :: l)) : x.p w := H.f1.o0
theorem Cx.v1 (H : Cx w0 w (x0 :: vhI t b N cap g :: l)) : Vh t w b N cap g := H.o1
theorem Its.v1 (H : Its (x0 :: vhI t b N cap g :: l) w) : Vh t w b N cap g := H.tl.v0
theorem Cx.a1 (H : Cx w0 w (x0 :: x :: l)) : AtK w0 w x (fun y => x0 :: y :: l) := ⟨H.o1, H.size, fun c => (H.f1.p0 c).b1⟩
theorem Cx.f2 (H : Cx w0 w (x0 :: x1 :: x :: l)) : Cx w0 w (x :: x0 :: x1 :: l) := H.perm (List.perm_middle (l₁ := [x0, x1]))
theorem Cx.b2 (H : Cx w0 w (x :: x0 :: x1 :: l)) : Cx w0 w (x0 :: x1 :: x :: l) := H.perm (List.perm_middle (l₁ := [x0, x1])).symm
theorem Cx.o2 (H : Cx w0 w (x0 :: x1 :: x :: l)) : x.p w := H.f2.o0
theorem Cx.v2 (H : Cx w0 w (x0 :: x1 :: vhI t b N cap g :: l)) : Vh t w b N cap g := H.o2
theorem Its.v2 (H : Its (x0 :: x1 :: vhI t b N cap g :: l) w) : Vh t w b N cap g := H.tl.v1
theorem Cx.a2 (H : Cx w0 w (x0 :: x1 :: x :: l)) : AtK w0 w x (fun y => x0 :: x1 :: y :: l) := ⟨H.o2, H.size, fun c => (H.f2.p0 c).b2⟩
theorem Cx.f3 (H : Cx w0 w (x0 :: x1 :: x2 :: x :: l)) : Cx w0 w (x :: x0 :: x1 :: x2 :: l) := H.perm (List.perm_middle (l₁ := [x0, x1, x2]))
theorem Cx.b3 (H : Cx w0 w (x :: x0 :: x1 :: x2 :: l)) : Cx w0 w (x0 :: x1 :: x2 :: x :: l) := H.perm (List.perm_middle (l₁ := [x0, x1, x2])).symm
theorem Cx.o3 (H : Cx w0 w (x0 :: x1 :: x2 :: x :: l)) : x.p w := H.f3.o0
theorem Cx.v3 (H : Cx w0 w (x0 :: x1 :: x2 :: vhI t b N cap g :: l)) : Vh t w b N cap g := H.o3
theorem Its.v3 (H : Its (x0 :: x1 :: x2 :: vhI t b N cap g :: l) w) : Vh t w b N cap g := H.tl.v2
theorem Cx.a3 (H : Cx w0 w (x0 :: x1 :: x2 :: x :: l)) : AtK w0 w x (fun y => x0 :: x1 :: x2 :: y :: l) := ⟨H.o3, H.size, fun c => (H.f3.p0 c).b3⟩
theorem Cx.f4 (H : Cx w0 w (x0 :: x1 :: x2 :: x3 :: x :: l)) : Cx w0 w (x :: x0 :: x1 :: x2 :: x3 :: l) := H.perm (List.perm_middle (l₁ := [x0, x1, x2, x3]))
theorem Cx.b4 (H : Cx w0 w (x :: x0 :: x1 :: x2 :: x3 :: l)) : Cx w0 w (x0 :: x1 :: x2 :: x3 :: x :: l) := H.perm (List.perm_middle (l₁ := [x0, x1, x2, x3])).symm
theorem Cx.o4 (H : Cx w0 w (x0 :: x1 :: x2 :: x3 :: x :: l)) : x.p w := H.f4.o0
theorem Cx.v4 (H : Cx w0 w (x0 :: x1 :: x2 :: x3 :: vhI t b N cap g :: l)) : Vh t w b N cap g := H.o4
theorem Its.v4 (H : Its (x0 :: x1 :: x2 :: x3 :: vhI t b N cap g :: l) w) : Vh t w b N cap g := H.tl.v3
theorem Cx.a4 (H : Cx w0 w (x0 :: x1 :: x2 :: x3 :: x :: l)) : AtK w0 w x (fun y => x0 :: x1 :: x2 :: x3 :: y :: l) := ⟨H.o4, H.size, fun c => (H.f4.p0 c).b4⟩
theorem Cx.f5 (H : Cx w0 w (x0 :: x1 :: x2 :: x3 :: x4 :: x :: l)) : Cx w0 w (x :: x0 :: x1 :: x2 :: x3 :: x4 :: l) := H.perm (List.perm_middle (l₁ := [x0, x1, x2, x3, x4]))
theorem Cx.b5 (H : Cx w0 w (x :: x0 :: x1 :: x2 :: x3 :: x4 :: l)) : Cx w0 w (x0 :: x1 :: x2 :: x3 :: x4 :: x :: l) := H.perm (List.perm_middle (l₁ := [x0, x1, x2, x3, x4])).symm
theorem Cx.o5 (H : Cx w0 w (x0 :: x1 :: x2 :: x3 :: x4 :: x :: l)) : x.p w := H.f5.o0
theorem Cx.v5 (H : Cx w0 w (x0 :: x1 :: x2 :: x3 :: x4 :: vhI t b N cap g :: l)) : Vh t w b N cap g := H.o5
theorem Its.v5 (H : Its (x0 :: x1 :: x2 :: x3 :: x4 :: vhI t b N cap g :: l) w) : Vh t w b N cap g := H.tl.v4
theorem Cx.a5 (H : Cx w0 w (x0 :: x1 :: x2 :: x3 :: x4 :: x :: l)) : AtK w0 w x (fun y => x0 :: x1 :: x2 :: x3 :: x4 :: y :: l) := ⟨H.o5, H.size, fun c => (H.f5.p0 c).b5⟩
theorem Cx.f6 (H : Cx w0 w (x0 :: x1 :: x2 :: x3 :: x4 :: x5 :: x :: l)) : Cx w0 w (x :: x0 :: x1 :: x2 :: x3 :: x4 :: x5 :: l) := H.perm (List.perm_middle (l₁ := [x0, x1, x2, x3, x4, x5]))
theorem Cx.b6 (H : Cx w0 w (x :: x0 :: x1 :: x2 :: x3 :: x4 :: x5 :: l)) : Cx w0 w (x0 :: x1 :: x2 :: x3 :: x4 :: x5 :: x :: l) := H.perm (List.perm_middle (l₁ := [x0, x1, x2, x3, x4, x5])).symm
theorem Cx.o6 (H : Cx w0 w (x0 :: x1 :: x2 :: x3 :: x4 :: x5 :: x :: l)) : x.p w := H.f6.o0
theorem Cx.v6 (H : Cx w0 w (x0 :: x1 :: x2 :: x3 :: x4 :: x5 :: vhI t b N cap g :: l)) : Vh t w b N cap g := H.o6
theorem Its.v6 (H : Its (x0 :: x1 :: x2 :: x3 :: x4 :: x5 :: vhI t b N cap g :: l) w) : Vh t w b N cap g := H.tl.v5
theorem Cx.a6 (H : Cx w0 w (x0 :: x1 :: x2 :: x3 :: x4 :: x5 :: x :: l)) : AtK w0 w x (fun y => x0 :: x1 :: x2 :: x3 :: x4 :: x5 :: y :: l) := ⟨H.o6, H.size, fun c => (H.f6.p0 c).b6⟩
theorem Cx.f7 (H : Cx w0 w (x0 :: x1 :: x2 :: x3 :: x4 :: x5 :: x6 :: x :: l)) : Cx w0 w (x :: x0 :: x1 :: x2 :: x3 :: x4 :: x5 :: x6 :: l) := H.perm (List.perm_middle (l₁ := [x0, x1, x2, x3, x4, x5, x6]))
theorem Cx.b7 (H : Cx w0 w (x :: x0 :: x1 :: x2 :: x3 :: x4 :: x5 :: x6 :: l)) : Cx w0 w (x0 :: x1 :: x2 :: x3 :: x4 :: x5 :: x6 :: x :: l) := H.perm (List.perm_middle (l₁ := [x0, x1, x2, x3, x4, x5, x6])).symm
theorem Cx.o7 (H : Cx w0 w (x0 :: x1 :: x2 :: x3 :: x4 :: x5 :: x6 :: x :: l)) : x.p w := H.f7.o0
theorem Cx.v7 (H : Cx w0 w (x0 :: x1 :: x2 :: x3 :: x4 :: x5 :: x6 :: vhI t b N cap g :: l)) : Vh t w b N cap g := H.o7
theorem Its.v7 (H : Its (x0 :: x1 :: x2 :: x3 :: x4 :: x5 :: x6 :: vhI t b N cap g :: l) w) : Vh t w b N cap g := H.tl.v6
theorem Cx.a7 (H : Cx w0 w (x0 :: x1 :: x2 :: x3 :: x4 :: x5 :: x6 :: x :: l)) : AtK w0 w x (fun y => x0 :: x1 :: x2 :: x3 :: x4 :: x5 :: x6 :: y :: l) := ⟨H.o7, H.size, fun c => (H.f7.p0 c).b7⟩
theorem Cx.f8 (H : Cx w0 w (x0 :: x1 :: x2 :: x3 :: x4 :: x5 :: x6 :: x7 :: x :: l)) : Cx w0 w (x :: x0 :: x1 :: x2 :: x3 :: x4 :: x5 :: x6 :: x7 :: l) := H.perm (List.perm_middle (l₁ := [x0, x1, x2, x3, x4, x5, x6, x7]))
theorem Cx.b8 (H : Cx w0 w (x :: x0 :: x1 :: x2 :: x3 :: x4 :: x5 :: x6 :: x7 :: l)) : Cx w0 w (x0 :: x1 :: x2 :: x3 :: x4 :: x5 :: x6 :: x7 :: x :: l) := H.perm (List.perm_middle (l₁ := [x0, x1, x2, x3, x4, x5, x6, x7])).symm
theorem Cx.o8 (H : Cx w0 w (x0 :: x1 :: x2 :: x3 :: x4 :: x5 :: x6 :: x7 :: x :: l)) : x.p w := H.f8.o0
theorem Cx.v8 (H : Cx w0 w (x0 :: x1 :: x2 :: x3 :: x4 :: x5 :: x6 :: x7 :: vhI t b N cap g :: l)) : Vh t w b N cap g := H.o8
theorem Its.v8 (H : Its (x0 :: x1 :: x2 :: x3 :: x4 :: x5 :: x6 :: x7 :: vhI t b N cap g :: l) w) : Vh t w b N cap g := H.tl.v7
theorem Cx.a8 (H : Cx w0 w (x0 :: x1 :: x2 :: x3 :: x4 :: x5 :: x6 :: x7 :: x :: l)) : AtK w0 w x (fun y => x0 :: x1 :: x2 :: x3 :: x4 :: x5 :: x6 :: x7 :: y :: l) := ⟨H.o8, H.size, fun c => (H.f8.p0 c).b8⟩
theorem Cx.f9 (H : Cx w0 w (x0 :: x1 :: x2 :: x3 :: x4 :: x5 :: x6 :: x7 :: x8 :: x :: l)) : Cx w0 w (x :: x0 :: x1 :: x2 :: x3 :: x4 :: x5 :: x6 :: x7 :: x8 :: l) := H.perm (List.perm_middle (l₁ := [x0, x1, x2, x3, x4, x5, x6, x7, x8]))
theorem Cx.b9 (H : Cx w0 w (x :: x0 :: x1 :: x2 :: x3 :: x4 :: x5 :: x6 :: x7 :: x8 :: l)) : Cx w0 w (x0 :: x1 :: x2 :: x3 :: x4 :: x5 :: x6 :: x7 :: x8 :: x :: l) := H.perm (List.perm_middle (l₁ := [x0, x1, x2, x3, x4, x5, x6, x7, x8])).symm
theorem Cx.o9 (H : Cx w0 w (x0 :: x1 :: x2 :: x3 :: x4 :: x5 :: x6 :: x7 :: x8 :: x :: l)) : x.p w := H.f9.o0
theorem Cx.v9 (H : Cx w0 w (x0 :: x1 :: x2 :: x3 :: x4 :: x5 :: x6 :: x7 :: x8 :: vhI t b N cap g :: l)) : Vh t w b N cap g := H.o9
theorem Its.v9 (H : Its (x0 :: x1 :: x2 :: x3 :: x4 :: x5 :: x6 :: x7 :: x8 :: vhI t b N cap g :: l) w) : Vh t w b N cap g := H.tl.v8
theorem Cx.a9 (H : Cx w0 w (x0 :: x1 :: x2 :: x3 :: x4 :: x5 :: x6 :: x7 :: x8 :: x :: l)) : AtK w0 w x (fun y => x0 :: x1 :: x2 :: x3 :: x4 :: x5 :: x6 :: x7 :: x8 :: y :: l) := ⟨H.o9, H.size, fun c => (H.f9.p0 c).b9⟩
end
/-- A word's shape, told by its number. -/
class FldK (P : Program) (s : TypeId) (k : Nat) (d : outParam Nat) : Prop where
  run : ∀ {f : Operand → Value} {o : Oper} {x : Operand} {b off : Nat}, o.op = .fieldAddr s x k → f x = .pointer (some ⟨b, off, none⟩) → ∀ w, (execOp f o).run P w = .ok (.value (.pointer (some ⟨b, off + d, none⟩))) w
class ManyK (P : Program) (t : TypeId) (n : outParam Nat) : Prop where
  out : Many P t n
class OneK (P : Program) (t : TypeId) : Prop where
  out : OneC P t
class SizK (P : Program) (t : TypeId) (n : outParam Nat) : Prop where
  out : ∀ w, (sizeOf t).run P w = .ok n w
class ArrK (P : Program) (s : TypeId) (len : outParam Nat) (e : outParam TypeId) : Prop where
  out : P.underlying s = some (.array len e)
class SlcK (P : Program) (s : TypeId) (e : outParam TypeId) : Prop where
  out : P.underlying s = some (.slice e)
class ZerK (P : Program) (t : TypeId) (n : outParam Nat) (f : outParam (Nat → Value)) : Prop where
  out : ∀ w, (zeroValue t).run P w = .ok (agV f 0 n) w
class Zer1 (P : Program) (t : TypeId) (v : outParam Value) : Prop where
  out : ∀ w, (zeroValue t).run P w = .ok v w
  one : v.cells = #[v]
class EntK (P : Program) (n : Nat) : Prop where
  out : ∀ args w, (callFunc n args).run P w = .ok (.enter n args) w
class LenK (P : Program) (t : TypeId) : Prop where
  run : ∀ {f : Operand → Value} {o : Oper} {x : Operand} {ao : Option Addr} {n c : Nat}, o.op = .call { callee := .builtin .len, args := #[x], argTypes := #[t] } → f x = .slice ao n c → ∀ w, (execOp f o).run P w = .ok (.value (.int .i64 ((n : Nat) : Int))) w
instance {P : Program} {t : TypeId} {n : Nat} [h : ManyK P t n] : SizK P t n := ⟨h.out.size⟩
instance {P : Program} {t : TypeId} [h : OneK P t] : SizK P t 1 := ⟨h.out.size⟩
section
variable {P : Program} {f : Operand → Value} {o : Oper}
theorem run_nilC (x : Operand) (ho : o.op = .nilCheck x) {a : Addr} (hx : f x = .pointer (some a)) (w : World) : (execOp f o).run P w = .ok (.value (.pointer (some a))) w := by
  unfold execOp
  rw [ho]
  dsimp only
  rw [hx]
  rfl
theorem run_ixSC (s e : TypeId) (x y : Operand) (ho : o.op = .indexAddr s x y) {n : Nat} (hu : P.underlying s = some (.slice e)) (hs : ∀ w, (sizeOf e).run P w = .ok n w) {b off i len cap : Nat} {z : Int} (hx : f x = .slice (some ⟨b, off, none⟩) len cap) (hy : f y = .int .i64 z) (hz : z = (i : Int)) (hi : i < len) (w : World) :
    (execOp f o).run P w = .ok (.value (.pointer (some ⟨b, off + i * n, none⟩))) w := by
  subst hz
  have h2 : (i : Int) < (len : Int) := by omega
  unfold execOp
  simp only [ho, hx, hy, Instr.indexAt, asIntOf, Instr.sureAddr, Sem.run_bind, Sem.run_pure, Result.andThen_ok, run_underlying hu, add_at]
  simp [h2, hs]
theorem run_lodCs {ty : TypeId} {x : Operand} {n : Nat} (T : Many P ty n) {b off : Nat} {g : Nat → Value} {w : World} (hc : ∀ k, k < n → w.cell? ⟨b, off + k, none⟩ = some (g k)) (ho : o.op = .load ty x) (hx : f x = .pointer (some ⟨b, off, none⟩)) :
    (execOp f o).run P w = .ok (.value (agV g 0 n)) w := by
  have hl : (loadCells ⟨b, off, none⟩ n).run P w = .ok ((List.range n).map fun j => g (0 + j)).toArray w :=
    run_loadCells w ⟨b, off, none⟩ n (fun j => g (0 + j)) (fun j hj => by rw [add_at, Nat.zero_add]; exact hc j hj)
  unfold execOp
  simp only [ho, hx, Instr.loadAt, Instr.sureAddr, loadVar, Sem.run_bind, Sem.run_pure, Result.andThen_ok, T.agg, T.size, hl, if_true]
  rfl
theorem run_mkF (fn : Fn) (xs : Array Operand) (ho : o.op = .makeFunc fn #[] xs) {vs : Array Value} (hx : xs.map f = vs) (w : World) : (execOp f o).run P w = .ok (.value (.func fn #[] vs)) w := by
  unfold execOp
  rw [ho]
  dsimp only
  rw [hx]
  go_simp
theorem ev_func (a : Act) (n : Nat) : a.eval (.func n) = .func (.func n) #[] #[] := rfl
end
theorem Qe {A : Act} {l : List (Nat × Value)} {k : Nat} {v : Value} (h : lookL k l = some v) (hk : k < A.tmps.size := by omega) : (putL A l).eval (.tmp k) = v := ev_in h hk
theorem Qv {p : Prop} (h : p := by first | exact ev_in rfl (by omega) | exact ev_out rfl (by assumption) | exact ev_const _ _ | exact ev_func _ _) : p := h
/-- Where a block lies. -/
theorem Qh {p : Prop} (h : p := by first | exact H.v0 | exact H.v1 | exact H.v2 | exact H.v3 | exact H.v4 | exact H.v5 | exact H.v6 | exact H.v7 | exact H.v8 | exact H.v9 | exact Vh.below G0 H.bel | exact Vh.below G1 H.bel | exact Vh.below G2 H.bel | assumption) : p := h
theorem Qw {p : Prop} (h : p := by first | exact wanted_rd rfl | exact wanted_g rfl rfl rfl Qv) : p := h
section
variable {P : Program} {ops : Array Oper} {Q : Exit → Act → World → Prop} {A : Act} {L : List (Nat × Value)} {w0 w : World} {rest : List Oper} {o : Oper} {d : Nat} {v : Value} {l : List It}
/-- What neither calls nor writes. -/
theorem qa (h : LstI P ops Q rest (putL A ((d, v) :: L)) w) (hd : o.dst = some d := by rfl) (hw : Region.wanted o (yielded ops (putL A L).tmps) = true := by first | exact wanted_rd rfl | exact wanted_g rfl rfl rfl Qv)
    (hy : (execOp (putL A L).eval o).run P w = .ok (.value v) w := by first
      | exact run_move _ rfl Qv _
      | exact run_assign _ rfl Qv _
      | exact FldK.run rfl Qv _
      | exact run_lod1 _ _ rfl OneK.out Qv Qh (by omega) rfl
      | exact run_loadP _ _ rfl ManyK.out Qv Qh (by omega)
      | exact run_nilC _ rfl Qv _
      | exact run_ixG _ _ _ _ rfl ArrK.out SizK.out Qv Qv rfl (by omega) _
      | exact run_ixSC _ _ _ _ rfl SlcK.out SizK.out Qv Qv rfl (by omega) _
      | exact run_ixVM _ _ _ _ rfl ArrK.out ManyK.out Qv rfl Qv rfl (by omega) _
      | exact run_ixV1 _ _ _ _ rfl ArrK.out OneK.out Qv Qv rfl (by omega) _
      | exact LenK.run rfl Qv _
      | exact run_lssI _ _ rfl Qv Qv rfl _
      | exact run_gtrI _ _ rfl Qv Qv rfl _
      | exact run_eqlI _ _ rfl Qv Qv rfl _
      | exact run_neqI _ _ rfl Qv Qv rfl _
      | exact run_leqI _ _ rfl Qv Qv rfl _
      | exact run_geqI _ _ rfl Qv Qv rfl _
      | exact run_eqlE _ _ rfl Qv Qv rfl _
      | exact run_neqE _ _ rfl Qv Qv rfl _
      | exact run_addI _ _ rfl Qv Qv (by omega) (by omega) _
      | exact run_subI _ _ rfl Qv Qv (by omega) (by omega) _
      | exact run_notB _ _ rfl Qv _
      | exact run_extA _ rfl Qv _
      | exact run_extB _ rfl Qv _
      | exact run_ext3A _ rfl Qv _
      | exact run_ext3B _ rfl Qv _
      | exact run_ext3C _ rfl Qv _) : LstI P ops Q (o :: rest) (putL A L) w := m_mv hd hw hy h
theorem q_skip (h : LstI P ops Q rest (putL A ((d, undef) :: L)) w) (hd : o.dst = some d := by rfl) (hw : Region.wanted o (yielded ops (putL A L).tmps) = false := by first | exact wanted_n rfl rfl rfl Qv (by decide) | exact wanted_u rfl rfl rfl Qv) : LstI P ops Q (o :: rest) (putL A L) w := m_skip hd hw h
/-- A given value. -/
theorem qg (hy : (execOp (putL A L).eval o).run P w = .ok (.value v) w) (h : LstI P ops Q rest (putL A ((d, v) :: L)) w) (hd : o.dst = some d := by rfl) (hw : Region.wanted o (yielded ops (putL A L).tmps) = true := by first | exact wanted_rd rfl | exact wanted_g rfl rfl rfl Qv) : LstI P ops Q (o :: rest) (putL A L) w := m_mv hd hw hy h
variable {S : World → Prop} {late : Nat → Bool} {i : Nat} {r : PlanJ}
/-- The same where the order is drawn; what reads cells. -/
theorem qj (h : SeqJ P ops Q S late r (putL A ((d, v) :: L)) w) (ho : ops[i]? = some o := by rfl) (hd : o.dst = some d := by rfl) (hQ : ∀ c a w, Q (.panic c) (a.put (some d) v) w → Q (.panic c) a w := by exact fun _ _ _ h => h) (hw : Region.wanted o (yielded ops (putL A L).tmps) = true := by first | exact wanted_rd rfl | exact wanted_g rfl rfl rfl Qv)
    (hy : ∀ w, (execOp (putL A L).eval o).run P w = .ok (.value v) w := by first
      | exact fun w => run_move _ rfl Qv w
      | exact fun w => run_assign _ rfl Qv w
      | exact fun w => FldK.run rfl Qv w
      | exact fun w => run_nilC _ rfl Qv w
      | exact fun w => run_ixG _ _ _ _ rfl ArrK.out SizK.out Qv Qv rfl (by omega) w
      | exact fun w => run_ixSC _ _ _ _ rfl SlcK.out SizK.out Qv Qv rfl (by omega) w
      | exact fun w => run_ixVM _ _ _ _ rfl ArrK.out ManyK.out Qv rfl Qv rfl (by omega) w
      | exact fun w => run_ixV1 _ _ _ _ rfl ArrK.out OneK.out Qv Qv rfl (by omega) w
      | exact fun w => LenK.run rfl Qv w
      | exact fun w => run_lssI _ _ rfl Qv Qv rfl w
      | exact fun w => run_gtrI _ _ rfl Qv Qv rfl w
      | exact fun w => run_eqlI _ _ rfl Qv Qv rfl w
      | exact fun w => run_neqI _ _ rfl Qv Qv rfl w
      | exact fun w => run_leqI _ _ rfl Qv Qv rfl w
      | exact fun w => run_geqI _ _ rfl Qv Qv rfl w
      | exact fun w => run_eqlE _ _ rfl Qv Qv rfl w
      | exact fun w => run_neqE _ _ rfl Qv Qv rfl w
      | exact fun w => run_addI _ _ rfl Qv Qv (by omega) (by omega) w
      | exact fun w => run_subI _ _ rfl Qv Qv (by omega) (by omega) w
      | exact fun w => run_notB _ _ rfl Qv w
      | exact fun w => run_extA _ rfl Qv w
      | exact fun w => run_extB _ rfl Qv w
      | exact fun w => run_ext3A _ rfl Qv w
      | exact fun w => run_ext3B _ rfl Qv w
      | exact fun w => run_ext3C _ rfl Qv w) : SeqJ P ops Q S late (.mv i r) (putL A L) w := j_mv ho hd hQ hw hy h
theorem qr (hS : S w) (h : SeqJ P ops Q S late r (putL A ((d, v) :: L)) w) (ho : ops[i]? = some o := by rfl) (hd : o.dst = some d := by rfl) (hQ : ∀ c a w, Q (.panic c) (a.put (some d) v) w → Q (.panic c) a w := by exact fun _ _ _ h => h) (hw : Region.wanted o (yielded ops (putL A L).tmps) = true := by first | exact wanted_rd rfl | exact wanted_g rfl rfl rfl Qv)
    (hy : ∀ w, S w → (execOp (putL A L).eval o).run P w = .ok (.value v) w := by first
      | exact fun _ H => run_lod1 _ _ rfl OneK.out Qv Qh (by omega) rfl
      | exact fun _ H => run_loadP _ _ rfl ManyK.out Qv Qh (by omega)) : SeqJ P ops Q S late (.rd i r) (putL A L) w := j_rd ho hd hQ hw hS hy h
/-- A variable made; a parameter's. -/
theorem q_al (H : Cx w0 w l) {ty : TypeId} {n : Nat} {f : Nat → Value}
    (h : ∀ w', Cx w0 w' (vhI ty w.heap.size n n f :: l) → w'.heap.size = w.heap.size + 1 → LstI P ops Q rest (putL A ((d, .pointer (some ⟨w.heap.size, 0, none⟩)) :: L)) w')
    (ho : o.op = .alloc ty := by rfl) (Z : ZerK P ty n f := by infer_instance) (hn : n ≤ maxLen := by exact of_decide_eq_true rfl) (hd : o.dst = some d := by rfl) (hw : Region.wanted o (yielded ops (putL A L).tmps) = true := by exact wanted_rd rfl) : LstI P ops Q (o :: rest) (putL A L) w :=
  m_do hd hw (fun _ hK => wp_allocG w ty ho Z.out hn (fun w' m k z => hK _ _ (h w' (H.add k _ m (fun j (e : j = _) => Nat.le_of_eq e.symm)) z)))
theorem wp_alloc1 {a : Act} {K : Act → World → Prop} (w : World) (ty : TypeId) (ho : o.op = .alloc ty) (hz : ∀ w, (zeroValue ty).run P w = .ok v w) (h1 : v.cells = #[v])
    (h : ∀ w', Vh ty w' w.heap.size 1 1 (fun _ => v) → Below w.heap.size w w' → w'.heap.size = w.heap.size + 1 → K (a.put o.dst (.pointer (some ⟨w.heap.size, 0, none⟩))) w') : WpI P o a w K Q := by
  refine ⟨?_⟩
  have hh := h (w.alloc (.cells ((List.range 1).map fun _ => v).toArray ty)) (Vh.of_row _ 1 (by decide) (by show (w.heap.push _)[w.heap.size]? = _; rw [Array.getElem?_push_size])) (al_below _ _) (al_size _ _)
  unfold Oper.wp execOp
  simp only [ho, Instr.alloc, newVar, newRow, newObj, Sem.run_bind, hz, Result.andThen_ok, h1]
  go_simp
  exact hh
theorem q_al1 (H : Cx w0 w l) {ty : TypeId}
    (h : ∀ w', Cx w0 w' (vhI ty w.heap.size 1 1 (fun _ => v) :: l) → w'.heap.size = w.heap.size + 1 → LstI P ops Q rest (putL A ((d, .pointer (some ⟨w.heap.size, 0, none⟩)) :: L)) w')
    (ho : o.op = .alloc ty := by rfl) (Z : Zer1 P ty v := by infer_instance) (hd : o.dst = some d := by rfl) (hw : Region.wanted o (yielded ops (putL A L).tmps) = true := by exact wanted_rd rfl) : LstI P ops Q (o :: rest) (putL A L) w :=
  m_do hd hw (fun _ hK => wp_alloc1 w ty ho Z.out Z.one (fun w' m k z => hK _ _ (h w' (H.add k _ m (fun j (e : j = _) => Nat.le_of_eq e.symm)) z)))
theorem q_box (H : Cx w0 w l) {ty : TypeId} {x : Operand} {n : Nat} {f : Nat → Value}
    (h : ∀ w', Cx w0 w' (vhI ty w.heap.size n n f :: l) → w'.heap.size = w.heap.size + 1 → LstI P ops Q rest (putL A ((d, .pointer (some ⟨w.heap.size, 0, none⟩)) :: L)) w')
    (ho : o.op = .box ty x := by rfl) (hx : (putL A L).eval x = agV f 0 n := by exact Qv) (hn : n ≤ maxLen := by exact of_decide_eq_true rfl) (hd : o.dst = some d := by rfl) (hw : Region.wanted o (yielded ops (putL A L).tmps) = true := by exact wanted_rd rfl) : LstI P ops Q (o :: rest) (putL A L) w :=
  m_do hd hw (fun _ hK => wp_boxG w ty x ho hx hn (fun w' m k z => hK _ _ (h w' (H.add k _ m (fun j (e : j = _) => Nat.le_of_eq e.symm)) z)))
theorem wp_box1 {a : Act} {K : Act → World → Prop} (w : World) (ty : TypeId) (x : Operand) (ho : o.op = .box ty x) (hx : a.eval x = v) (h1 : v.cells = #[v])
    (h : ∀ w', Vh ty w' w.heap.size 1 1 (fun _ => v) → Below w.heap.size w w' → w'.heap.size = w.heap.size + 1 → K (a.put o.dst (.pointer (some ⟨w.heap.size, 0, none⟩))) w') : WpI P o a w K Q := by
  refine ⟨?_⟩
  have hh := h (w.alloc (.cells ((List.range 1).map fun _ => v).toArray ty)) (Vh.of_row _ 1 (by decide) (by show (w.heap.push _)[w.heap.size]? = _; rw [Array.getElem?_push_size])) (al_below _ _) (al_size _ _)
  unfold Oper.wp execOp
  simp only [ho, hx, Instr.box, newVar, newRow, newObj, h1]
  go_simp
  exact hh
theorem q_box1 (H : Cx w0 w l) {ty : TypeId} {x : Operand}
    (h : ∀ w', Cx w0 w' (vhI ty w.heap.size 1 1 (fun _ => v) :: l) → w'.heap.size = w.heap.size + 1 → LstI P ops Q rest (putL A ((d, .pointer (some ⟨w.heap.size, 0, none⟩)) :: L)) w')
    (ho : o.op = .box ty x := by rfl) (hx : (putL A L).eval x = v := by exact Qv) (h1 : v.cells = #[v] := by rfl) (hd : o.dst = some d := by rfl) (hw : Region.wanted o (yielded ops (putL A L).tmps) = true := by exact wanted_rd rfl) : LstI P ops Q (o :: rest) (putL A L) w :=
  m_do hd hw (fun _ hK => wp_box1 w ty x ho hx h1 (fun w' m k z => hK _ _ (h w' (H.add k _ m (fun j (e : j = _) => Nat.le_of_eq e.symm)) z)))
theorem q_st {F : It → List It} {ty t : TypeId} {x y : Operand} {b q N cap : Nat} {g g' : Nat → Value} {u : Value} (H : AtK w0 w (vhI t b N cap g) F) (e : ∀ j, j < N → stW g q u j = g' j)
    (h : ∀ w', Cx w0 w' (F (vhI t b N cap g')) → w'.heap.size = w.heap.size → LstI P ops Q rest (putL A L) w')
    (ho : o.op = .store ty x y := by rfl) (T : OneK P ty := by infer_instance) (hx : (putL A L).eval x = .pointer (some ⟨b, q, none⟩) := by exact Qv) (hy : (putL A L).eval y = u := by exact Qv) (hn : q < N := by omega) (h1 : u.oneCell' = true := by rfl) (h2 : u.cells = #[u] := by rfl) (hd : o.dst = none := by rfl) (hw : Region.wanted o (yielded ops (putL A L).tmps) = true := by exact wanted_rd rfl) : LstI P ops Q (o :: rest) (putL A L) w :=
  m_st hw (fun _ hK => wp_sto1 w ty x y ho T.out hx hy H.o hn h1 h2 hd (fun w' m k z => hK _ (h w' (H.s k (m.congr e)) z)))
theorem q_sp {F : It → List It} {ty t : TypeId} {x y : Operand} {b q n N cap : Nat} {g g' f : Nat → Value} (H : AtK w0 w (vhI t b N cap g) F) (e : ∀ j, j < N → stP g q n f j = g' j) (h1 : ∀ j, j < n → (f j).oneCell' = true)
    (h : ∀ w', Cx w0 w' (F (vhI t b N cap g')) → w'.heap.size = w.heap.size → LstI P ops Q rest (putL A L) w')
    (ho : o.op = .store ty x y := by rfl) (T : ManyK P ty n := by infer_instance) (hx : (putL A L).eval x = .pointer (some ⟨b, q, none⟩) := by exact Qv) (hy : (putL A L).eval y = agV f 0 n := by exact Qv) (hn : q + n ≤ N := by omega) (hd : o.dst = none := by rfl) (hw : Region.wanted o (yielded ops (putL A L).tmps) = true := by exact wanted_rd rfl) : LstI P ops Q (o :: rest) (putL A L) w :=
  m_st hw (fun _ hK => wp_storeP w ty x y ho T.out hx hy H.o hn h1 hd (fun w' m k z => hK _ (h w' (H.s k (m.congr e)) z)))
/-- Calls. -/
theorem q_c0 {n : Nat} {T : Array TypeId} [E : EntK P n] {R : Ending → World → Prop} (hc : Calls P n #[] w R)
    (h : ∀ e w', R e w' → ∃ r, e = .returned r ∧ LstI P ops Q rest (putL A ((d, r) :: L)) w') (ho : o.op = .call { callee := .value (.func n), args := #[], argTypes := T } := by rfl) (hd : o.dst = some d := by rfl) (hw : Region.wanted o (yielded ops (putL A L).tmps) = true := by exact wanted_rd rfl) : LstI P ops Q (o :: rest) (putL A L) w :=
  m_do hd hw (fun _ hK => wp_call0 w n T ho (E.out _ _) hc (fun e w' hr => by obtain ⟨r, h1, h2⟩ := h e w' hr; exact ⟨r, h1, hK _ _ h2⟩))
theorem q_c1 {n : Nat} {x : Operand} {T : Array TypeId} [E : EntK P n] {u : Value} {R : Ending → World → Prop} (hc : Calls P n #[u] w R)
    (h : ∀ e w', R e w' → ∃ r, e = .returned r ∧ LstI P ops Q rest (putL A ((d, r) :: L)) w') (ho : o.op = .call { callee := .value (.func n), args := #[x], argTypes := T } := by rfl) (hx : (putL A L).eval x = u := by exact Qv) (hd : o.dst = some d := by rfl) (hw : Region.wanted o (yielded ops (putL A L).tmps) = true := by exact wanted_rd rfl) : LstI P ops Q (o :: rest) (putL A L) w :=
  m_do hd hw (fun _ hK => wp_call1 w n x T ho hx (E.out _ _) hc (fun e w' hr => by obtain ⟨r, h1, h2⟩ := h e w' hr; exact ⟨r, h1, hK _ _ h2⟩))
theorem q_c2 {n : Nat} {x y : Operand} {T : Array TypeId} [E : EntK P n] {u u2 : Value} {R : Ending → World → Prop} (hc : Calls P n #[u, u2] w R)
    (h : ∀ e w', R e w' → ∃ r, e = .returned r ∧ LstI P ops Q rest (putL A ((d, r) :: L)) w') (ho : o.op = .call { callee := .value (.func n), args := #[x, y], argTypes := T } := by rfl) (hx : (putL A L).eval x = u := by exact Qv) (hy : (putL A L).eval y = u2 := by exact Qv) (hd : o.dst = some d := by rfl) (hw : Region.wanted o (yielded ops (putL A L).tmps) = true := by exact wanted_rd rfl) : LstI P ops Q (o :: rest) (putL A L) w :=
  m_do hd hw (fun _ hK => wp_call2 w n x y T ho hx hy (E.out _ _) hc (fun e w' hr => by obtain ⟨r, h1, h2⟩ := h e w' hr; exact ⟨r, h1, hK _ _ h2⟩))
theorem q_c3 {n : Nat} {x y z : Operand} {T : Array TypeId} [E : EntK P n] {u u2 u3 : Value} {R : Ending → World → Prop} (hc : Calls P n #[u, u2, u3] w R)
    (h : ∀ e w', R e w' → ∃ r, e = .returned r ∧ LstI P ops Q rest (putL A ((d, r) :: L)) w') (ho : o.op = .call { callee := .value (.func n), args := #[x, y, z], argTypes := T } := by rfl) (hx : (putL A L).eval x = u := by exact Qv) (hy : (putL A L).eval y = u2 := by exact Qv) (hz : (putL A L).eval z = u3 := by exact Qv) (hd : o.dst = some d := by rfl) (hw : Region.wanted o (yielded ops (putL A L).tmps) = true := by exact wanted_rd rfl) : LstI P ops Q (o :: rest) (putL A L) w :=
  m_do hd hw (fun _ hK => wp_call3n w n x y z T ho hx hy hz (E.out _ _) hc (fun e w' hr => by obtain ⟨r, h1, h2⟩ := h e w' hr; exact ⟨r, h1, hK _ _ h2⟩))
theorem q_c4 {n : Nat} {x y z q : Operand} {T : Array TypeId} [E : EntK P n] {u u2 u3 u4 : Value} {R : Ending → World → Prop} (hc : Calls P n #[u, u2, u3, u4] w R)
    (h : ∀ e w', R e w' → ∃ r, e = .returned r ∧ LstI P ops Q rest (putL A ((d, r) :: L)) w') (ho : o.op = .call { callee := .value (.func n), args := #[x, y, z, q], argTypes := T } := by rfl) (hx : (putL A L).eval x = u := by exact Qv) (hy : (putL A L).eval y = u2 := by exact Qv) (hz : (putL A L).eval z = u3 := by exact Qv) (hq : (putL A L).eval q = u4 := by exact Qv) (hd : o.dst = some d := by rfl) (hw : Region.wanted o (yielded ops (putL A L).tmps) = true := by exact wanted_rd rfl) : LstI P ops Q (o :: rest) (putL A L) w :=
  m_do hd hw (fun _ hK => wp_call4n w n x y z q T ho hx hy hz hq (E.out _ _) hc (fun e w' hr => by obtain ⟨r, h1, h2⟩ := h e w' hr; exact ⟨r, h1, hK _ _ h2⟩))
end
section
variable {P : Program} {Q : Exit → Act → World → Prop} {a : Act} {w : World} {y : Code} {J : Act → World → Prop} {id : Nat}
/-- Out of all that is around. -/
theorem r_nx (h : Q .ret a w) : Nx P y Q .ret a w := h
theorem r_th (h : Q .ret a w) : Exit.then J Q .ret a w := h
theorem r_bl (h : Q .ret a w) : Exit.inBlock id Q .ret a w := h
end
/-- A condition. -/
theorem q_if {P : Program} {Q : Exit → Act → World → Prop} {A : Act} {L : List (Nat × Value)} {w : World} {c : Operand} {x y : Code} {t : Bool} (h1 : t = true → CodI P x Q (putL A L) w) (h2 : t = false → CodI P y Q (putL A L) w) (hc : (putL A L).eval c = .bool t := by exact Qv) : CodI P (.cond c x y) Q (putL A L) w := c_cond hc h1 h2
theorem q_yes {P : Program} {Q : Exit → Act → World → Prop} {A : Act} {L : List (Nat × Value)} {w : World} {c : Operand} {x y : Code} {t : Bool} (ht : t = true) (h : CodI P x Q (putL A L) w) (hc : (putL A L).eval c = .bool t := by exact Qv) : CodI P (.cond c x y) Q (putL A L) w := c_cond hc (fun _ => h) (fun e => by rw [ht] at e; cases e)
theorem q_no {P : Program} {Q : Exit → Act → World → Prop} {A : Act} {L : List (Nat × Value)} {w : World} {c : Operand} {x y : Code} {t : Bool} (ht : t = false) (h : CodI P y Q (putL A L) w) (hc : (putL A L).eval c = .bool t := by exact Qv) : CodI P (.cond c x y) Q (putL A L) w := c_cond hc (fun e => by rw [ht] at e; cases e) (fun _ => h)

end Go.Proofs.YthimcecbgpamdaaGreat
