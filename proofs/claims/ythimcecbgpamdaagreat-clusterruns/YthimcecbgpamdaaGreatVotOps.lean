/- Operations on votes and verdicts, their frame a variable; truth values appended. -/
import Derived.Test.YthimcecbgpamdaaGreatNear70
import Derived.Test.YthimcecbgpamdaaGreatNear95
namespace Go.Proofs.YthimcecbgpamdaaGreat
open Go.RowKit

theorem run_ixI {f : Operand → Value} {o : Oper} (x y : Operand) (ho : o.op = .indexAddr 28 x y) {b i : Nat} (hx : f x = .pointer (some ⟨b, 0, none⟩)) (hy : f y = .int .i64 (i : Int)) (hi : i < 4) (w : World) :
    (execOp f o).run Tryz.prog w = .ok (.value (.pointer (some ⟨b, i, none⟩))) w := by
  have hi2 : (i : Int) < 4 := by omega
  unfold execOp
  rw [ho]
  dsimp only
  rw [hx, hy]
  go_simp
theorem run_fldV {f : Operand → Value} {o : Oper} (x : Operand) (i : Nat) (ho : o.op = .fieldAddr 35 x i) {b : Nat} (hx : f x = .pointer (some ⟨b, 0, none⟩)) (hi : i < 3) (w : World) :
    (execOp f o).run Tryz.prog w = .ok (.value (.pointer (some ⟨b, i, none⟩))) w := by
  have : i = 0 ∨ i = 1 ∨ i = 2 := by omega
  unfold execOp
  rw [ho]
  dsimp only
  rw [hx]
  rcases this with rfl | rfl | rfl <;> go_simp
theorem run_lodI {f : Operand → Value} {o : Oper} (x : Operand) (ho : o.op = .load 3 x) {a : Addr} {v : Int} (hx : f x = .pointer (some a)) {w : World} (hc : w.cell? a = some (.int .i64 v)) :
    (execOp f o).run Tryz.prog w = .ok (.value (.int .i64 v)) w := by
  unfold execOp
  rw [ho]
  dsimp only
  rw [hx]
  go_simp
theorem run_lodT {f : Operand → Value} {o : Oper} (x : Operand) (ho : o.op = .load 33 x) {a : Addr} {ao : Option Addr} {n c : Nat} (hx : f x = .pointer (some a)) {w : World} (hc : w.cell? a = some (.slice ao n c)) :
    (execOp f o).run Tryz.prog w = .ok (.value (.slice ao n c)) w := by
  unfold execOp
  rw [ho]
  dsimp only
  rw [hx]
  go_simp
theorem run_gtrN {f : Operand → Value} {o : Oper} (x y : Operand) (ho : o.op = .binOp .gtr 3 x y 3) {u v : Int} (hx : f x = .int .i64 u) (hy : f y = .int .i64 v) (w : World) : (execOp f o).run Tryz.prog w = .ok (.value (.bool (decide (v < u)))) w := by
  unfold execOp
  rw [ho]
  dsimp only
  rw [hx, hy]
  go_simp
theorem run_eqN {f : Operand → Value} {o : Oper} (x y : Operand) (ho : o.op = .binOp .eql 3 x y 3) {u v : Int} (hx : f x = .int .i64 u) (hy : f y = .int .i64 v) (w : World) : (execOp f o).run Tryz.prog w = .ok (.value (.bool (u == v))) w := by
  unfold execOp
  rw [ho]
  dsimp only
  rw [hx, hy]
  go_simp
theorem wp_callV (w : World) {o : Oper} {a : Act} {K : Act → World → Prop} {Q : Exit → Act → World → Prop} (x y : Operand) (n : Nat) (T : Array TypeId) (ho : o.op = .call { callee := .value x, args := #[y], argTypes := T }) {p q u : Value} (hx : a.eval x = .func (.func n) #[] #[p, q]) (hy : a.eval y = u) (hf : (callFunc n #[u, p, q]).run Tryz.prog w = .ok (.enter n #[u, p, q]) w) {R : Ending → World → Prop} (hc : Calls Tryz.prog n #[u, p, q] w R)
    (h : ∀ e w', R e w' → ∃ r, e = .returned r ∧ K (a.put o.dst r) w') : WpI Tryz.prog o a w K Q := by
  refine ⟨?_⟩
  have e : (execOp a.eval o).run Tryz.prog w = .ok (.enter n #[u, p, q]) w := by
    unfold execOp
    rw [ho]
    simp only [resolve, invoke, Sem.run_bind, List.map_toArray, List.map_cons, List.map_nil, hx, hy]
    go_simp
  unfold Oper.wp
  rw [e, Oper.upon_enter]
  refine hc.mono ?_
  intro e w' hr
  obtain ⟨r, rfl, hk⟩ := h e w' hr
  exact hk

theorem run_lod4 {f : Operand → Value} {o : Oper} (x : Operand) (ho : o.op = .load 28 x) {b : Nat} {u : Nat → Int} (hx : f x = .pointer (some ⟨b, 0, none⟩)) {w : World} (h : F4 w b u) : (execOp f o).run Tryz.prog w = .ok (.value (fourV u)) w := by
  have c0 := h.cell (show 0 < 4 by omega); have c1 := h.cell (show 1 < 4 by omega); have c2 := h.cell (show 2 < 4 by omega); have c3 := h.cell (show 3 < 4 by omega)
  unfold execOp
  rw [ho]
  dsimp only
  rw [hx]
  unfold fourV
  go_simp
theorem run_lodB4 {f : Operand → Value} {o : Oper} (x : Operand) (ho : o.op = .load 27 x) {p : Nat} {u : Nat → Bool} (hx : f x = .pointer (some ⟨p, 0, none⟩)) {w : World} (h : B4 w p u) : (execOp f o).run Tryz.prog w = .ok (.value (boolV u)) w := by
  have c0 := h.cell (show 0 < 4 by omega); have c1 := h.cell (show 1 < 4 by omega); have c2 := h.cell (show 2 < 4 by omega); have c3 := h.cell (show 3 < 4 by omega)
  unfold execOp
  rw [ho]
  dsimp only
  rw [hx]
  unfold boolV
  go_simp
theorem run_lodb {f : Operand → Value} {o : Oper} (x : Operand) (ho : o.op = .load 4 x) {a : Addr} {v : Bool} (hx : f x = .pointer (some a)) {w : World} (hc : w.cell? a = some (.bool v)) :
    (execOp f o).run Tryz.prog w = .ok (.value (.bool v)) w := by
  unfold execOp
  rw [ho]
  dsimp only
  rw [hx]
  go_simp
theorem infoBool : (Tryz.prog.info? 4).map (fun i => (i.zero, i.size, i.bytes)) = some (some (.bool false), 1, 1) := by kernel_rfl
/-- Truth values appended to a row of one's own. -/
theorem wp_joinT (w : World) {o : Oper} {a : Act} {K : Act → World → Prop} {Q : Exit → Act → World → Prop} (s x : Operand)
    (ho : o.op = .call { callee := .builtin .append, args := #[s, x], argTypes := #[33, 33] }) (B : Nat) (hB : B ≤ w.heap.size)
    (v : Value) (n : Nat) (xs : List Value) (hs : a.eval s = v) (hown : w.ownsRow B 4 1 v n xs)
    (vo : Option Addr) (lv cv : Nat) (f : Nat → Value) (hx : a.eval x = .slice vo lv cv) (har : Sr w vo lv cv f) (h1 : ∀ i, i < lv → (f i).oneCell' = true) (hl : n + lv ≤ 140737488355328)
    (h : ∀ v' w', w'.ownsRow B 4 1 v' (n + lv) (xs ++ rowV f lv) → Below B w w' → K (a.put o.dst v') w') : o.wp Tryz.prog a w K Q := by
  obtain ⟨i0, hi, hz0, hz1, hz2⟩ := info_parts infoBool
  rcases har with ⟨rfl, rfl, rfl⟩ | ⟨y, rfl, hc⟩
  · have hrun := run_append_owned_none (P := Tryz.prog) (w := w) B 33 o.type 4 i0 1 Tryz.underlying33 hi v n xs hown
    have hh := h v w (by simpa [rowV] using hown) (Below.refl _ _)
    unfold Oper.wp execOp
    simp only [ho, resolve, invoke, builtin, Sem.run_bind, Sem.run_pure, Result.andThen_ok, List.map_toArray, List.map_cons, List.map_nil, hs, hx, hrun]
    exact hh
  · refine wp_append_own (P := Tryz.prog) w s x 33 ho B 4 i0 (.bool false) 1 1 Tryz.underlying33 hi hz0 hz1 hz2 rfl (by decide) v n xs hs hown y lv cv (rowV f lv) hx (rowV_len f lv) ?_ (rowV_one f lv h1) (by unfold maxLen; omega) (by omega) hB ?_
    · intro j u hj
      rcases Nat.lt_or_ge j lv with h2 | h2
      · rw [rowV_at f h2] at hj; cases hj
        exact hc j h2
      · rw [rowV_none f h2] at hj; cases hj
    · intro v' w2 ho2 hgr hnil
      exact h v' w2 ho2 (own_below hown hgr (Below.refl _ _) hB)
theorem wpList_joinT (w : World) {ops : Array Oper} {rest : List Oper} {o : Oper} {a : Act} {Q : Exit → Act → World → Prop} (hgd : o.guard = none) (s x : Operand)
    (ho : o.op = .call { callee := .builtin .append, args := #[s, x], argTypes := #[33, 33] }) (B : Nat) (hB : B ≤ w.heap.size)
    (v : Value) (n : Nat) (xs : List Value) (hs : a.eval s = v) (hown : w.ownsRow B 4 1 v n xs)
    (vo : Option Addr) (lv cv : Nat) (f : Nat → Value) (hx : a.eval x = .slice vo lv cv) (har : Sr w vo lv cv f) (h1 : ∀ i, i < lv → (f i).oneCell' = true) (hl : n + lv ≤ 140737488355328)
    (h : ∀ v' w', w'.ownsRow B 4 1 v' (n + lv) (xs ++ rowV f lv) → Below B w w' → wpList Tryz.prog ops Q rest (a.put o.dst v') w') : wpList Tryz.prog ops Q (o :: rest) a w :=
  wpList_plain hgd fun _ hK => wp_joinT w s x ho B hB v n xs hs hown vo lv cv f hx har h1 hl fun v' w' h2 h3 => hK _ _ (h v' w' h2 h3)
theorem wp_oneT (w : World) {o : Oper} {a : Act} {K : Act → World → Prop} {Q : Exit → Act → World → Prop} (x : Operand) (ho : o.op = .buildSlice 33 1 #[(0, x)]) {v : Bool} (hx : a.eval x = .bool v)
    (h : K (a.put o.dst (.slice (some ⟨w.heap.size, 0, none⟩) 1 1)) (w.alloc (.cells #[.bool v] 4))) : WpI Tryz.prog o a w K Q := by
  have e : (execOp a.eval o).run Tryz.prog w = .ok (.value (.slice (some ⟨w.heap.size, 0, none⟩) 1 1)) (w.alloc (.cells #[.bool v] 4)) := by
    generalize a.eval = f at hx
    unfold execOp
    rw [ho]
    simp only [List.map_toArray, List.map_cons, List.map_nil]
    rw [hx]
    go_simp
  refine ⟨?_⟩
  unfold Oper.wp
  rw [e]
  exact h
theorem wp_storeT (w : World) {o : Oper} {a : Act} {K : Act → World → Prop} {Q : Exit → Act → World → Prop} (x y : Operand) (ho : o.op = .store 33 x y) {ad : Addr} {vo : Option Addr} {vn vc : Nat} (hx : a.eval x = .pointer (some ad)) (hy : a.eval y = .slice vo vn vc) {u : Value} (hc : w.cell? ad = some u) (hf : w.frozen? ad = false) (hd : o.dst = none)
    (h : K a (w.setCell ad (.slice vo vn vc))) : WpI Tryz.prog o a w K Q := by
  refine ⟨?_⟩
  unfold Oper.wp execOp
  rw [ho]
  dsimp only
  rw [hx, hy]
  go_simp
  exact h
theorem sr_one {t : TypeId} (w : World) (v : Value) : Sr (w.alloc (.cells #[v] t)) (some ⟨w.heap.size, 0, none⟩) 1 1 (fun _ => v) := by
  have V := Vh.new w t #[v] (fun _ => v) (by show 1 ≤ maxLen; decide) (fun i hi => by
    have : i = 0 := by simp at hi; omega
    subst this; rfl)
  exact Or.inr ⟨_, rfl, fun i hi => by rw [Addr.add_lit, Nat.zero_add]; exact V.cell hi⟩

end Go.Proofs.YthimcecbgpamdaaGreat
