/- A row of parcels in memory while it is sorted: what stands where by places. -/
import Derived.Test.YthjeedlhlkggkabBusCut
import Derived.Test.YthjeedlhlkggkabNear11
import Derived.Test.YthjeedlhlkggkabStaFin
namespace Go.Proofs.Ythjeedlhlkggkab
open Go.RowKit

def lp0 : Lp := ⟨pc0, none, 0⟩
/-- The row holds F (d 0), F (d 1), .. -/
def SoR (W : World) (g cap n : Nat) (F : Nat → Lp) (d : Nat → Nat) : Prop :=
  ∃ cur : Array Value, W.heap[g]? = some (.cells cur 32 (0, 0)) ∧ cur.size = cap * 5 ∧ n ≤ cap ∧ cap ≤ maxLen ∧ ∀ i, i < n → ∀ k u, (lpC (F (d i)))[k]? = some u → cur[i * 5 + k]? = some u
section
variable {W W' w w' : World} {g cap n B : Nat} {F : Nat → Lp} {d e : Nat → Nat}
theorem SoR.pc (h : SoR W g cap n F d) {i : Nat} (hi : i < n) : PcAt W g (i * 5) (F (d i)).p (lpV (F (d i))) := by
  obtain ⟨cur, hg, _, _, _, hc⟩ := h
  refine PcAt.of (fun k _ u hu => ?_)
  unfold World.cell?
  rw [hg]
  simp [hc i hi k u hu]
theorem SoR.lt (h : SoR W g cap n F d) : g < W.heap.size := by obtain ⟨cur, hg, _⟩ := h; exact lt_of_block hg
theorem SoR.same (h : SoR W g cap n F d) (k : W'.heap[g]? = W.heap[g]?) : SoR W' g cap n F d := by obtain ⟨cur, hg, r⟩ := h; exact ⟨cur, k.trans hg, r⟩
theorem SoR.below (h : SoR W g cap n F d) (k : Below W.heap.size W W') : SoR W' g cap n F d := h.same (k.block g h.lt)
theorem sor_of {L : List Lp} (h : RowP w B (.slice (some ⟨g, 0, none⟩) L.length cap) L) : SoR w g cap L.length (fun i => L.getD i lp0) (fun i => i) := by
  rcases h.2 with ⟨e, _⟩ | ⟨g', c', cur, e, hb, hg, h1, h2, h3, h4⟩
  · cases e
  · cases e
    refine ⟨cur, hg, h3, h1, h2, fun i hi k u hu => ?_⟩
    have hk : k < 5 := (List.getElem?_eq_some_iff.1 hu).1
    have hL : L[i]? = some (L.getD i lp0) := by rw [List.getD_eq_getElem?_getD, List.getElem?_eq_getElem hi]; rfl
    have e1 := lpL_at hL hk
    rw [← h4, List.getElem?_take_of_lt (by omega)] at e1
    rw [← Array.getElem?_toList, e1]
    exact hu
theorem SoR.row (h : SoR W g cap n F d) (hB : B ≤ g) : RowP W B (.slice (some ⟨g, 0, none⟩) n cap) ((List.range n).map fun i => F (d i)) := by
  obtain ⟨cur, hg, hs, h1, h2, hc⟩ := h
  refine ⟨lpL_len _, Or.inr ⟨g, cap, cur, by rw [List.length_map, List.length_range], hB, hg, by rw [List.length_map, List.length_range]; exact h1, h2, hs, ?_⟩⟩
  rw [List.length_map, List.length_range]
  have hl : (cur.toList.take (n * 5)).length = n * 5 := by rw [List.length_take, Array.length_toList, hs]; omega
  refine List.ext_getElem? fun j => ?_
  by_cases hj : j < n * 5
  · have e : j = j / 5 * 5 + j % 5 := by omega
    have hi : j / 5 < n := by omega
    have hL : ((List.range n).map fun i => F (d i))[j / 5]? = some (F (d (j / 5))) := by rw [List.getElem?_map, List.getElem?_range hi]; rfl
    rw [List.getElem?_take_of_lt hj, Array.getElem?_toList]
    have hk : j % 5 < 5 := by omega
    have e1 := lpL_at hL hk
    rw [← e] at e1
    rw [e1]
    have hu : (lpC (F (d (j / 5))))[j % 5]? = some ((lpC (F (d (j / 5))))[j % 5]'(by show _ < 5; omega)) := List.getElem?_eq_getElem _
    have := hc (j / 5) hi (j % 5) _ hu
    rw [← e] at this
    rw [this, hu]
  · rw [List.getElem?_eq_none (by rw [hl]; omega), List.getElem?_eq_none (by rw [lpL_len, List.length_map, List.length_range]; omega)]
/-- What stands at one place written over. -/
def upD (d : Nat → Nat) (i y : Nat) (x : Nat) : Nat := if x = i then y else d x
theorem upD_two (d : Nat → Nat) (i j : Nat) : upD (upD d i (d j)) j (d i) = swD d i j := by
  funext x
  unfold upD swD
  by_cases h1 : x = j
  · rw [if_pos h1]
    by_cases h2 : x = i
    · rw [if_pos h2, ← h1, ← h2]
    · rw [if_neg h2, if_pos h1]
  · rw [if_neg h1]
    by_cases h2 : x = i
    · rw [if_pos h2, if_pos h2]
    · rw [if_neg h2, if_neg h2, if_neg h1]
theorem set5_at {cur : Array Value} {o : Nat} {v0 v1 v2 v3 v4 : Value} (h : o + 5 ≤ cur.size) {j : Nat} :
    (((((cur.setIfInBounds o v0).setIfInBounds (o + 1) v1).setIfInBounds (o + 2) v2).setIfInBounds (o + 3) v3).setIfInBounds (o + 4) v4)[j]? =
      if j = o then some v0 else if j = o + 1 then some v1 else if j = o + 2 then some v2 else if j = o + 3 then some v3 else if j = o + 4 then some v4 else cur[j]? := by
  simp only [Array.getElem?_setIfInBounds, Array.size_setIfInBounds]
  by_cases e0 : j = o
  · subst e0
    rw [if_neg (by omega), if_neg (by omega), if_neg (by omega), if_neg (by omega), if_pos rfl, if_pos (by omega), if_pos rfl]
  · by_cases e1 : j = o + 1
    · subst e1
      rw [if_neg (by omega), if_neg (by omega), if_neg (by omega), if_pos rfl, if_pos (by omega), if_neg (by omega), if_pos rfl]
    · by_cases e2 : j = o + 2
      · subst e2
        rw [if_neg (by omega), if_neg (by omega), if_pos rfl, if_pos (by omega), if_neg (by omega), if_neg (by omega), if_pos rfl]
      · by_cases e3 : j = o + 3
        · subst e3
          rw [if_neg (by omega), if_pos rfl, if_pos (by omega), if_neg (by omega), if_neg (by omega), if_neg (by omega), if_pos rfl]
        · by_cases e4 : j = o + 4
          · subst e4
            rw [if_pos rfl, if_pos (by omega), if_neg (by omega), if_neg (by omega), if_neg (by omega), if_neg (by omega), if_pos rfl]
          · rw [if_neg (by omega), if_neg (by omega), if_neg (by omega), if_neg (by omega), if_neg (by omega), if_neg e0, if_neg e1, if_neg e2, if_neg e3, if_neg e4]
theorem SoR.put (h : SoR w g cap n F d) {i : Nat} (hi : i < n) (y : Nat) : ∃ w', w' = ((((w.setCell ⟨g, i * 5, none⟩ (.int .i64 (F y).p.fr)).setCell ⟨g, i * 5 + 1, none⟩ (.int .i64 (F y).p.to)).setCell ⟨g, i * 5 + 2, none⟩ (.int .i64 (F y).p.du)).setCell ⟨g, i * 5 + 3, none⟩ (.int .i64 (F y).p.se)).setCell ⟨g, i * 5 + 4, none⟩ (lpV (F y)) ∧ SoR w' g cap n F (upD d i y) ∧ Kept g w w' ∧ w'.heap.size = w.heap.size := by
  refine ⟨_, rfl, ?_, ((((kept_set w g (i * 5) _).trans (kept_set _ g (i * 5 + 1) _) (Or.inl rfl)).trans (kept_set _ g (i * 5 + 2) _) (Or.inl rfl)).trans (kept_set _ g (i * 5 + 3) _) (Or.inl rfl)).trans (kept_set _ g (i * 5 + 4) _) (Or.inl rfl), by simp⟩
  obtain ⟨cur, hg, hs, h1, h2, hc⟩ := h
  have g1 := heap_setCell_same w g (i * 5) _ _ (.int .i64 (F y).p.fr) hg
  have g2 := heap_setCell_same _ g (i * 5 + 1) _ _ (.int .i64 (F y).p.to) g1
  have g3 := heap_setCell_same _ g (i * 5 + 2) _ _ (.int .i64 (F y).p.du) g2
  have g4 := heap_setCell_same _ g (i * 5 + 3) _ _ (.int .i64 (F y).p.se) g3
  refine ⟨_, heap_setCell_same _ g (i * 5 + 4) _ _ (lpV (F y)) g4, by simp [hs], h1, h2, fun j hj k u hu => ?_⟩
  have hk : k < 5 := (List.getElem?_eq_some_iff.1 hu).1
  rw [set5_at (by omega)]
  by_cases e : j = i
  · subst e
    unfold upD at hu
    rw [if_pos rfl] at hu
    have : k = 0 ∨ k = 1 ∨ k = 2 ∨ k = 3 ∨ k = 4 := by omega
    rcases this with rfl | rfl | rfl | rfl | rfl
    · rw [if_pos (by omega)]; exact hu
    · rw [if_neg (by omega), if_pos rfl]; exact hu
    · rw [if_neg (by omega), if_neg (by omega), if_pos rfl]; exact hu
    · rw [if_neg (by omega), if_neg (by omega), if_neg (by omega), if_pos rfl]; exact hu
    · rw [if_neg (by omega), if_neg (by omega), if_neg (by omega), if_neg (by omega), if_pos rfl]; exact hu
  · unfold upD at hu
    rw [if_neg e] at hu
    rw [if_neg (by omega), if_neg (by omega), if_neg (by omega), if_neg (by omega), if_neg (by omega)]
    exact hc j hj k u hu
theorem SoR.free (h : SoR w g cap n F d) (i : Nat) : w.frozen? ⟨g, i, none⟩ = false := by obtain ⟨cur, hg, _⟩ := h; simp [World.frozen?, hg]
end
/-- A parcel of the row as a value. -/
def lcV (c : Lp) : Value := pcV c.p (lpV c)
theorem run_ixR {f : Operand → Value} {o : Oper} (x y : Operand) (ho : o.op = .indexAddr 23 x y) {g n cap i : Nat} {z : Int} (hx : f x = .slice (some ⟨g, 0, none⟩) n cap) (hy : f y = .int .i64 z) (hz : z = (i : Int)) (hi : i < n) (w : World) :
    (execOp f o).run Try.prog w = .ok (.value (.pointer (some ⟨g, i * 5, none⟩))) w := by
  subst hz
  have := run_ixP x y ho hx hy hi w
  rwa [Nat.zero_add] at this
theorem run_lodR {f : Operand → Value} {o : Oper} (x : Operand) (ho : o.op = .load 32 x) {g cap n i : Nat} {F : Nat → Lp} {d : Nat → Nat} (hx : f x = .pointer (some ⟨g, i * 5, none⟩)) {w : World} (h : SoR w g cap n F d) (hi : i < n) :
    (execOp f o).run Try.prog w = .ok (.value (lcV (F (d i)))) w := run_lodP x ho hx (h.pc hi)
theorem run_subP {f : Operand → Value} {o : Oper} (x y : Operand) (ho : o.op = .binOp .sub 3 x y 3) {u v : Int} (hx : f x = .int .i64 u) (hy : f y = .int .i64 v) (h1 : -9223372036854775808 ≤ u - v) (h2 : u - v ≤ 9223372036854775807) (w : World) : (execOp f o).run Try.prog w = .ok (.value (.int .i64 (u - v))) w := by
  unfold execOp
  rw [ho]
  dsimp only
  rw [hx, hy]
  go_simp
  rw [IntKind.wrap_i64]
  omega
theorem run_ltP {f : Operand → Value} {o : Oper} (x y : Operand) (ho : o.op = .binOp .lss 3 x y 3) {u v : Int} {b : Bool} (hx : f x = .int .i64 u) (hy : f y = .int .i64 v) (hb : decide (u < v) = b) (w : World) : (execOp f o).run Try.prog w = .ok (.value (.bool b)) w := by
  subst hb
  unfold execOp
  rw [ho]
  dsimp only
  rw [hx, hy]
  go_simp
theorem run_gtP {f : Operand → Value} {o : Oper} (x y : Operand) (ho : o.op = .binOp .gtr 3 x y 3) {u v : Int} {b : Bool} (hx : f x = .int .i64 u) (hy : f y = .int .i64 v) (hb : decide (u > v) = b) (w : World) : (execOp f o).run Try.prog w = .ok (.value (.bool b)) w := by
  subst hb
  unfold execOp
  rw [ho]
  dsimp only
  rw [hx, hy]
  go_simp
/-- One place of the row written. -/
theorem wp_storeR (w : World) {o : Oper} {a : Act} {K : Act → World → Prop} {Q : Exit → Act → World → Prop} (x y : Operand) (ho : o.op = .store 32 x y) {g cap n i z : Nat} {F : Nat → Lp} {d : Nat → Nat} (hx : a.eval x = .pointer (some ⟨g, i * 5, none⟩)) (hy : a.eval y = lcV (F z)) (hm : SoR w g cap n F d) (hi : i < n) (hd : o.dst = none)
    (h : ∀ w', SoR w' g cap n F (upD d i z) → Kept g w w' → w'.heap.size = w.heap.size → K a w') : WpI Try.prog o a w K Q := by
  refine ⟨?_⟩
  obtain ⟨c0, c1, c2, c3, c4⟩ := hm.pc hi
  have f0 := hm.free (i * 5); have f1 := hm.free (i * 5 + 1); have f2 := hm.free (i * 5 + 2); have f3 := hm.free (i * 5 + 3); have f4 := hm.free (i * 5 + 4)
  obtain ⟨w', e, m, kp, sz⟩ := hm.put hi z
  have hh := h w' m kp sz
  rw [e] at hh
  clear hm m kp h e sz
  unfold lcV pcV at hy
  unfold lpV at hy hh c4
  generalize (F z).ao = ao at *
  generalize (F z).p.ds.length = nn at *
  generalize (F z).cap = cc at *
  generalize (F (d i)).ao = ao2 at *
  generalize (F (d i)).p.ds.length = nn2 at *
  generalize (F (d i)).cap = cc2 at *
  unfold Oper.wp execOp
  rw [ho]
  dsimp only
  rw [hx, hy]
  go_simp
  exact hh
/-- A function value called. -/
theorem wp_callV (w : World) {o : Oper} {a : Act} {K : Act → World → Prop} {Q : Exit → Act → World → Prop} (c x y : Operand) (T : Array TypeId) (ho : o.op = .call { callee := .value c, args := #[x, y], argTypes := T }) {u v : Value} (hc : a.eval c = .func (.func 26) #[] #[]) (hx : a.eval x = u) (hy : a.eval y = v) {R : Ending → World → Prop} (hk : Calls Try.prog 26 #[u, v] w R)
    (h : ∀ e w', R e w' → ∃ r, e = .returned r ∧ K (a.put o.dst r) w') : WpI Try.prog o a w K Q := by
  refine ⟨?_⟩
  have e : (execOp a.eval o).run Try.prog w = .ok (.enter 26 #[u, v]) w := by
    unfold execOp
    rw [ho]
    simp only [resolve, invoke, Sem.run_bind, List.map_toArray, List.map_cons, List.map_nil, hc, hx, hy]
    go_simp
  unfold Oper.wp
  rw [e, Oper.upon_enter]
  refine hk.mono ?_
  intro e w' hr
  obtain ⟨r, rfl, hh⟩ := h e w' hr
  exact hh

end Go.Proofs.Ythjeedlhlkggkab
