/- Four times four numbers in memory; operations over frames that are variables. -/
import Derived.Test.YtomlpcbccfmejaaAgrOK
import Derived.Test.YtomlpcbccfmejaaFourMem
import Derived.Test.YtomlpcbccfmejaaFrames
import Derived.Laws.StructEq
namespace Go.Proofs.Ytomlpcbccfmejaa
open Go.RowKit

/-- The cells of a grid. -/
def gridC (x : Nat → Nat → Int) : Array Value := #[.int .i64 (x 0 0), .int .i64 (x 0 1), .int .i64 (x 0 2), .int .i64 (x 0 3), .int .i64 (x 1 0), .int .i64 (x 1 1), .int .i64 (x 1 2), .int .i64 (x 1 3), .int .i64 (x 2 0), .int .i64 (x 2 1), .int .i64 (x 2 2), .int .i64 (x 2 3), .int .i64 (x 3 0), .int .i64 (x 3 1), .int .i64 (x 3 2), .int .i64 (x 3 3)]
theorem gridV_cells (x : Nat → Nat → Int) : gridV x = .agg (gridC x) := rfl
/-- The block of a grid. -/
def G16 (w : World) (b : Nat) (x : Nat → Nat → Int) : Prop := w.heap[b]? = some (.cells (gridC x) 28 (0, 0))
section
variable {w w' : World} {b : Nat} {x : Nat → Nat → Int}
theorem G16.cell (h : G16 w b x) {i j : Nat} (hi : i < 4) (hj : j < 4) : w.cell? ⟨b, i * 4 + j, none⟩ = some (.int .i64 (x i j)) := by
  have : i = 0 ∨ i = 1 ∨ i = 2 ∨ i = 3 := by omega
  have : j = 0 ∨ j = 1 ∨ j = 2 ∨ j = 3 := by omega
  unfold G16 at h
  unfold World.cell?
  rw [h]
  rcases ‹i = 0 ∨ _› with rfl | rfl | rfl | rfl <;> rcases ‹j = 0 ∨ _› with rfl | rfl | rfl | rfl <;> rfl
theorem G16.lt (h : G16 w b x) : b < w.heap.size := lt_of_block h
theorem G16.same (h : G16 w b x) (e : w'.heap[b]? = w.heap[b]?) : G16 w' b x := e.trans h
theorem G16.below (h : G16 w b x) (k : Below w.heap.size w w') : G16 w' b x := h.same (k.block b h.lt)
theorem G16.kept {z : Nat} (h : G16 w b x) (k : Kept z w w') (hz : b ≠ z) : G16 w' b x := h.same (k.block b h.lt hz)
theorem G16.congr {y : Nat → Nat → Int} (h : G16 w b x) (e : ∀ i j, i < 4 → j < 4 → x i j = y i j) : G16 w b y := by
  unfold G16 at h ⊢
  rw [h]
  unfold gridC
  simp only [e 0 0 (by omega) (by omega), e 0 1 (by omega) (by omega), e 0 2 (by omega) (by omega), e 0 3 (by omega) (by omega), e 1 0 (by omega) (by omega), e 1 1 (by omega) (by omega), e 1 2 (by omega) (by omega), e 1 3 (by omega) (by omega), e 2 0 (by omega) (by omega), e 2 1 (by omega) (by omega), e 2 2 (by omega) (by omega), e 2 3 (by omega) (by omega), e 3 0 (by omega) (by omega), e 3 1 (by omega) (by omega), e 3 2 (by omega) (by omega), e 3 3 (by omega) (by omega)]
theorem G16.new (w : World) (x : Nat → Nat → Int) : G16 (w.alloc (.cells (gridC x) 28)) w.heap.size x := by
  unfold G16
  show (w.heap.push _)[w.heap.size]? = _
  rw [Array.getElem?_push_size]
end
theorem put_comm (a : Act) {i j : Nat} (h : i ≠ j) (x y : Value) : (a.put (some i) x).put (some j) y = (a.put (some j) y).put (some i) x := by
  unfold Act.put
  simp only
  congr 1
  apply Array.ext_getElem?
  intro k
  simp only [Array.getElem?_setIfInBounds, Array.size_setIfInBounds]
  by_cases h1 : j = k <;> by_cases h2 : i = k <;> simp [h1, h2] <;> omega
theorem run_load4 {f : Operand → Value} {o : Oper} (x : Operand) (ho : o.op = .load 27 x) {b : Nat} {g : Nat → Int} (hx : f x = .pointer (some ⟨b, 0, none⟩)) {w : World} (hc : F4 w b g) :
    (execOp f o).run Try.prog w = .ok (.value (fourV g)) w := by
  have c0 := hc.cell (show 0 < 4 by omega); have c1 := hc.cell (show 1 < 4 by omega); have c2 := hc.cell (show 2 < 4 by omega); have c3 := hc.cell (show 3 < 4 by omega)
  unfold execOp
  rw [ho]
  dsimp only
  rw [hx]
  unfold fourV
  go_simp
theorem wp_call3 (w : World) {P : Program} {Q : Exit → Act → World → Prop} {o : Oper} {a : Act} {K : Act → World → Prop} (n : Nat) (x y z : Operand) (T : Array TypeId) (ho : o.op = .call { callee := .value (.func n), args := #[x, y, z], argTypes := T }) {v u t : Value} (hx : a.eval x = v) (hy : a.eval y = u) (hz : a.eval z = t) (hf : (callFunc n #[v, u, t]).run P w = .ok (.enter n #[v, u, t]) w) {R : Ending → World → Prop} (hc : Calls P n #[v, u, t] w R)
    (h : ∀ e w', R e w' → ∃ r, e = .returned r ∧ K (a.put o.dst r) w') : WpI P o a w K Q := by
  refine ⟨?_⟩
  have e : (execOp a.eval o).run P w = .ok (.enter n #[v, u, t]) w := by
    unfold execOp
    rw [ho]
    simp only [resolve, invoke, Sem.run_bind, List.map_toArray, List.map_cons, List.map_nil, hx, hy, hz]
    go_simp
  unfold Oper.wp
  rw [e, Oper.upon_enter]
  refine hc.mono ?_
  intro e w' hr
  obtain ⟨r, rfl, hk⟩ := h e w' hr
  exact hk
theorem wp_allocG (w : World) {o : Oper} {a : Act} {K : Act → World → Prop} {Q : Exit → Act → World → Prop} (ho : o.op = .alloc 28)
    (h : ∀ w', G16 w' w.heap.size (fun _ _ => 0) → Below w.heap.size w w' → w'.heap.size = w.heap.size + 1 → K (a.put o.dst (.pointer (some ⟨w.heap.size, 0, none⟩))) w') : WpI Try.prog o a w K Q := by
  refine ⟨?_⟩
  have hh := h _ (G16.new w (fun _ _ => 0)) (al_below _ _) (al_size _ _)
  unfold gridC at hh
  unfold Oper.wp execOp
  rw [ho]
  go_simp
  exact hh
theorem grid_store (P : Program) (g : Nat) (t : TypeId) (old T : Array Value) (w : World) (hg : w.heap[g]? = some (.cells old t (0, 0))) (hs : old.size = T.size) (h1 : T.all (·.oneCell') = true) :
    (storeCells ⟨g, 0, none⟩ T.toList).run P w = .ok () (w.setRow g T) := by
  have := run_storeCells_from (P := P) g t T.toList 0 old w hg (by simp; omega) (fun v hv => (Array.all_eq_true_iff_forall_mem.1 h1) v (by simpa using hv))
  simpa using this
theorem infoG : (Try.prog.info? 28).map (·.size) = some 16 := by kernel_rfl
theorem wp_storeG (w : World) {o : Oper} {a : Act} {K : Act → World → Prop} {Q : Exit → Act → World → Prop} (x y : Operand) (ho : o.op = .store 28 x y) {b : Nat} {u v : Nat → Nat → Int} (hx : a.eval x = .pointer (some ⟨b, 0, none⟩)) (hy : a.eval y = gridV v) (hm : G16 w b u) (hd : o.dst = none)
    (h : ∀ w', G16 w' b v → Kept b w w' → K a w') : WpI Try.prog o a w K Q := by
  refine ⟨?_⟩
  have st := grid_store Try.prog b 28 (gridC u) (gridC v) w hm rfl (by simp [gridC, Value.oneCell'])
  have hh := h _ (setRow_heap w b (gridC u) (gridC v) 28 (0, 0) hm) ⟨rfl, rfl, rfl, by simp [World.setRow], fun k _ hk => setRow_other w b k _ hk⟩
  have sv : (gridC v).size = 16 := rfl
  rw [gridV_cells] at hy
  generalize gridC v = T at *
  clear h hm
  unfold Oper.wp execOp
  rw [ho]
  dsimp only
  rw [hx, hy]
  go_simp
  exact hh

theorem run_eqF (d : Nat) (a b c e : Int) (w : World) : (Op.equalIn (d + 1 + 1) 27 (.agg #[.int .i64 a, .int .i64 b, .int .i64 c, .int .i64 e]) (.agg #[.int .i64 a, .int .i64 b, .int .i64 c, .int .i64 e])).run Try.prog w = .ok true w := by
  have u3 := Try.underlying3
  have a3 := Try.isAgg3
  have z3 := Try.sizeOf3
  have ta : (a == a) = true := by simp
  have tb : (b == b) = true := by simp
  have tc : (c == c) = true := by simp
  have td : (e == e) = true := by simp
  rw [Op.equalIn]
  simp only [Sem.run_bind, run_underlying Try.underlying27, Result.andThen_ok]
  simp only [Std.Legacy.Range.forIn_eq_forIn_range', Std.Legacy.Range.size, Nat.sub_zero, Nat.add_sub_cancel, Nat.div_one, List.range'_succ, List.range'_zero, List.forIn_cons, List.forIn_nil]
  go_simp
set_option maxRecDepth 100000 in
theorem run_eq16 (x : Nat → Nat → Int) (w : World) : (Op.equalIn 10000 28 (gridV x) (gridV x)).run Try.prog w = .ok true w := by
  have u3 := Try.underlying27
  have a3 := Try.isAgg27
  have z3 := Try.sizeOf27
  have h0 := run_eqF 9997 (x 0 0) (x 0 1) (x 0 2) (x 0 3) w
  have h1 := run_eqF 9997 (x 1 0) (x 1 1) (x 1 2) (x 1 3) w
  have h2 := run_eqF 9997 (x 2 0) (x 2 1) (x 2 2) (x 2 3) w
  have h3 := run_eqF 9997 (x 3 0) (x 3 1) (x 3 2) (x 3 3) w
  unfold gridV
  rw [show (10000 : Nat) = 9997 + 1 + 1 + 1 from rfl, Op.equalIn]
  simp only [Sem.run_bind, run_underlying Try.underlying28, Result.andThen_ok]
  simp only [Std.Legacy.Range.forIn_eq_forIn_range', Std.Legacy.Range.size, Nat.sub_zero, Nat.add_sub_cancel, Nat.div_one, List.range'_succ, List.range'_zero, List.forIn_cons, List.forIn_nil]
  go_simp

end Go.Proofs.Ytomlpcbccfmejaa
