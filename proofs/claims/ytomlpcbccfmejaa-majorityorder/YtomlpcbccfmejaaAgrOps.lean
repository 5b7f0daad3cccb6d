/- Four rows of numbers in memory; four numbers read and written whole. -/
import Derived.Test.YtomlpcbccfmejaaAgrTel
import Derived.Test.YtomlpcbccfmejaaGridRet
namespace Go.Proofs.Ytomlpcbccfmejaa
open Go.RowKit

theorem wpList_load4 (w : World) {ops : Array Oper} {rest : List Oper} {o : Oper} {a : Act} {Q : Exit → Act → World → Prop} (hgd : o.guard = none) (x : Operand) (ho : o.op = .load 27 x) {b : Nat} {y : Nat → Int} (hx : a.eval x = .pointer (some ⟨b, 0, none⟩)) (hm : F4 w b y)
    (h : wpList Try.prog ops Q rest (a.put o.dst (fourV y)) w) : wpList Try.prog ops Q (o :: rest) a w :=
  wpList_plain hgd fun _ hK => by
    unfold Oper.wp
    rw [run_load4 x ho hx hm]
    exact hK _ _ h
theorem wpList_store4 (w : World) {ops : Array Oper} {rest : List Oper} {o : Oper} {a : Act} {Q : Exit → Act → World → Prop} (hgd : o.guard = none) (x y : Operand) (ho : o.op = .store 27 x y) {b : Nat} {u v : Nat → Int} (hx : a.eval x = .pointer (some ⟨b, 0, none⟩)) (hy : a.eval y = fourV v) (hm : F4 w b u) (hd : o.dst = none)
    (h : ∀ w', F4 w' b v → Kept b w w' → wpList Try.prog ops Q rest a w') : wpList Try.prog ops Q (o :: rest) a w :=
  wpList_plain hgd fun _ hK => (wp_store4 w x y ho hx hy hm hd (fun w' m k => hK _ _ (h w' m k))).out

/-- Slices as values. -/
def slF (A : Nat → Option Addr) (N C : Nat → Nat) (i : Nat) : Value := .slice (A i) (N i) (C i)
/-- Four of them as one value. -/
def rowsV (S : Nat → Value) : Value := .agg #[S 0, S 1, S 2, S 3]
/-- The block of four slices. -/
def R4 (w : World) (b : Nat) (S : Nat → Value) : Prop := Vh 37 w b 4 4 S
section
variable {w w' : World} {b : Nat} {S : Nat → Value}
theorem R4.cell (h : R4 w b S) {i : Nat} (hi : i < 4) : w.cell? ⟨b, i, none⟩ = some (S i) := Vh.cell h hi
theorem R4.free (h : R4 w b S) (i : Nat) : w.frozen? ⟨b, i, none⟩ = false := Vh.free h i
theorem R4.lt (h : R4 w b S) : b < w.heap.size := Vh.lt h
theorem R4.same (h : R4 w b S) (e : w'.heap[b]? = w.heap[b]?) : R4 w' b S := Vh.same h e
theorem R4.below (h : R4 w b S) (k : Below w.heap.size w w') : R4 w' b S := Vh.below h k
theorem R4.kept {z : Nat} (h : R4 w b S) (k : Kept z w w') (hz : b ≠ z) : R4 w' b S := Vh.kept h k hz
theorem R4.congr {T : Nat → Value} (h : R4 w b S) (e : ∀ i, i < 4 → S i = T i) : R4 w b T := Vh.congr h e
theorem R4.new (w : World) (S : Nat → Value) : R4 (w.alloc (.cells #[S 0, S 1, S 2, S 3] 37)) w.heap.size S :=
  Vh.new w 37 #[S 0, S 1, S 2, S 3] S (by show 4 ≤ maxLen; decide) (fun i hi => by
    have : i = 0 ∨ i = 1 ∨ i = 2 ∨ i = 3 := by simp at hi; omega
    rcases this with rfl | rfl | rfl | rfl <;> rfl)
theorem R4.put (h : R4 w b S) (T : Nat → Value) : ∃ w', w' = (((w.setCell ⟨b, 0, none⟩ (T 0)).setCell ⟨b, 1, none⟩ (T 1)).setCell ⟨b, 2, none⟩ (T 2)).setCell ⟨b, 3, none⟩ (T 3) ∧ R4 w' b T ∧ Kept b w w' := by
  refine ⟨_, rfl, (Vh.set (Vh.set (Vh.set (Vh.set h 0 (T 0)) 1 (T 1)) 2 (T 2)) 3 (T 3)).congr (fun i hi => ?_), (((kept_set w b 0 _).trans (kept_set _ b 1 _) (Or.inl rfl)).trans (kept_set _ b 2 _) (Or.inl rfl)).trans (kept_set _ b 3 _) (Or.inl rfl)⟩
  have : i = 0 ∨ i = 1 ∨ i = 2 ∨ i = 3 := by omega
  rcases this with rfl | rfl | rfl | rfl <;> rfl
end
theorem wp_storeR (w : World) {o : Oper} {a : Act} {K : Act → World → Prop} {Q : Exit → Act → World → Prop} (x y : Operand) (ho : o.op = .store 37 x y) {b : Nat} {u : Nat → Value} {A : Nat → Option Addr} {N C : Nat → Nat} (hx : a.eval x = .pointer (some ⟨b, 0, none⟩)) (hy : a.eval y = rowsV (slF A N C)) (hm : R4 w b u) (hd : o.dst = none)
    (h : ∀ w', R4 w' b (slF A N C) → Kept b w w' → K a w') : WpI Try.prog o a w K Q := by
  refine ⟨?_⟩
  have c0 := hm.cell (show 0 < 4 by omega); have c1 := hm.cell (show 1 < 4 by omega); have c2 := hm.cell (show 2 < 4 by omega); have c3 := hm.cell (show 3 < 4 by omega)
  have f0 := hm.free 0; have f1 := hm.free 1; have f2 := hm.free 2; have f3 := hm.free 3
  obtain ⟨w', e, m, kp⟩ := hm.put (slF A N C)
  have hh := h w' m kp
  rw [e] at hh
  clear hm m kp h e
  unfold rowsV slF at hy
  unfold slF at hh
  unfold Oper.wp execOp
  rw [ho]
  dsimp only
  rw [hx, hy]
  go_simp
  exact hh
theorem wpList_storeR (w : World) {ops : Array Oper} {rest : List Oper} {o : Oper} {a : Act} {Q : Exit → Act → World → Prop} (hgd : o.guard = none) (x y : Operand) (ho : o.op = .store 37 x y) {b : Nat} {u : Nat → Value} {A : Nat → Option Addr} {N C : Nat → Nat} (hx : a.eval x = .pointer (some ⟨b, 0, none⟩)) (hy : a.eval y = rowsV (slF A N C)) (hm : R4 w b u) (hd : o.dst = none)
    (h : ∀ w', R4 w' b (slF A N C) → Kept b w w' → wpList Try.prog ops Q rest a w') : wpList Try.prog ops Q (o :: rest) a w :=
  wpList_plain hgd fun _ hK => (wp_storeR w x y ho hx hy hm hd (fun w' m k => hK _ _ (h w' m k))).out
theorem run_loadR {f : Operand → Value} {o : Oper} (x : Operand) (ho : o.op = .load 37 x) {b : Nat} {A : Nat → Option Addr} {N C : Nat → Nat} (hx : f x = .pointer (some ⟨b, 0, none⟩)) {w : World} (hc : R4 w b (slF A N C)) :
    (execOp f o).run Try.prog w = .ok (.value (rowsV (slF A N C))) w := by
  have c0 := hc.cell (show 0 < 4 by omega); have c1 := hc.cell (show 1 < 4 by omega); have c2 := hc.cell (show 2 < 4 by omega); have c3 := hc.cell (show 3 < 4 by omega)
  unfold slF at c0 c1 c2 c3
  unfold execOp
  rw [ho]
  dsimp only
  rw [hx]
  unfold rowsV slF
  go_simp
theorem wpList_loadR (w : World) {ops : Array Oper} {rest : List Oper} {o : Oper} {a : Act} {Q : Exit → Act → World → Prop} (hgd : o.guard = none) (x : Operand) (ho : o.op = .load 37 x) {b : Nat} {A : Nat → Option Addr} {N C : Nat → Nat} (hx : a.eval x = .pointer (some ⟨b, 0, none⟩)) (hm : R4 w b (slF A N C))
    (h : wpList Try.prog ops Q rest (a.put o.dst (rowsV (slF A N C))) w) : wpList Try.prog ops Q (o :: rest) a w :=
  wpList_plain hgd fun _ hK => by
    unfold Oper.wp
    rw [run_loadR x ho hx hm]
    exact hK _ _ h
theorem run_atR {f : Operand → Value} {o : Oper} (x y : Operand) (ho : o.op = .indexAddr 37 x y) {b i : Nat} (hx : f x = .pointer (some ⟨b, 0, none⟩)) (hy : f y = .int .i64 (i : Int)) (hi : i < 4) (w : World) :
    (execOp f o).run Try.prog w = .ok (.value (.pointer (some ⟨b, i, none⟩))) w := by
  have hi2 : (i : Int) < 4 := by omega
  unfold execOp
  rw [ho]
  dsimp only
  rw [hx, hy]
  go_simp
theorem run_ldS {f : Operand → Value} {o : Oper} (x : Operand) (ho : o.op = .load 22 x) {a : Addr} {ao : Option Addr} {n c : Nat} (hx : f x = .pointer (some a)) {w : World} (hc : w.cell? a = some (.slice ao n c)) :
    (execOp f o).run Try.prog w = .ok (.value (.slice ao n c)) w := by
  unfold execOp
  rw [ho]
  dsimp only
  rw [hx]
  go_simp
theorem run_ixS {f : Operand → Value} {o : Oper} (x : Operand) (i : Nat) (ho : o.op = .indexAddr 22 x (.const (.int .i64 (i : Int)))) {b n c : Nat} (hx : f x = .slice (some ⟨b, 0, none⟩) n c) (hy : f (.const (.int .i64 (i : Int))) = .int .i64 (i : Int)) (hi : i < n) (w : World) :
    (execOp f o).run Try.prog w = .ok (.value (.pointer (some ⟨b, i, none⟩))) w := by
  unfold execOp
  rw [ho]
  dsimp only
  rw [hx, hy]
  go_simp
theorem wp_stS (w : World) {o : Oper} {a : Act} {K : Act → World → Prop} {Q : Exit → Act → World → Prop} (x y : Operand) (ho : o.op = .store 22 x y) {ad : Addr} {vo : Option Addr} {vn vc : Nat} (hx : a.eval x = .pointer (some ad)) (hy : a.eval y = .slice vo vn vc) {u : Value} (hc : w.cell? ad = some u) (hf : w.frozen? ad = false) (hd : o.dst = none)
    (h : K a (w.setCell ad (.slice vo vn vc))) : WpI Try.prog o a w K Q := by
  refine ⟨?_⟩
  unfold Oper.wp execOp
  rw [ho]
  dsimp only
  rw [hx, hy]
  go_simp
  exact h
theorem wp_oneI (w : World) {o : Oper} {a : Act} {K : Act → World → Prop} {Q : Exit → Act → World → Prop} (x : Operand) (ho : o.op = .buildSlice 22 1 #[(0, x)]) {v : Int} (hx : a.eval x = .int .i64 v)
    (h : K (a.put o.dst (.slice (some ⟨w.heap.size, 0, none⟩) 1 1)) (w.alloc (.cells #[.int .i64 v] 3))) : WpI Try.prog o a w K Q := by
  have e : (execOp a.eval o).run Try.prog w = .ok (.value (.slice (some ⟨w.heap.size, 0, none⟩) 1 1)) (w.alloc (.cells #[.int .i64 v] 3)) := by
    generalize a.eval = f at hx
    unfold execOp
    rw [ho]
    simp only [List.map_toArray, List.map_cons, List.map_nil]
    rw [hx]
    go_simp
  refine ⟨?_⟩
  unfold Oper.wp
  rw [e]
  exact h

/-- Numbers appended to a row of one's own, in any order. -/
theorem wp_joinV (w : World) {o : Oper} {a : Act} {K : Act → World → Prop} {Q : Exit → Act → World → Prop} (s x : Operand)
    (ho : o.op = .call { callee := .builtin .append, args := #[s, x], argTypes := #[22, 22] }) (B : Nat) (hB : B ≤ w.heap.size)
    (ao : Option Addr) (n cap : Nat) (f : Nat → Value) (hs : a.eval s = .slice ao n cap) (hown : w.ownsRow B 3 1 (.slice ao n cap) n (rowV f n))
    (b lv cv : Nat) (g : Nat → Value) (hx : a.eval x = .slice (some ⟨b, 0, none⟩) lv cv) (har : Rd w (some ⟨b, 0, none⟩) lv g) (h1 : ∀ i, i < lv → (g i).oneCell' = true) (hlv : 1 ≤ lv) (hl : (n + lv) * 8 ≤ 140737488355328)
    (h : ∀ ao' c' w', w'.ownsRow B 3 1 (.slice ao' (n + lv) c') (n + lv) (rowV f n ++ rowV g lv) → w.grownBy w' (Value.ownBlock (.slice ao n cap)) → (∀ k, Value.ownBlock (.slice ao' (n + lv) c') = some k → Value.ownBlock (.slice ao n cap) = some k ∨ w.heap.size ≤ k) → Below B w w' →
      K (a.put o.dst (.slice ao' (n + lv) c')) w') : WpI Try.prog o a w K Q := by
  refine ⟨?_⟩
  obtain ⟨i0, hi, hz0, hz1, hz2⟩ := info_parts infoInt
  have hcells : ∀ (j : Nat) (u : Value), (rowV g lv)[j]? = some u → w.cell? ((⟨b, 0, none⟩ : Addr).add j) = some u := by
    obtain ⟨y, e, hy⟩ := har.list (by omega)
    cases e
    exact hy
  rcases hown.2 with ⟨e, h0⟩ | ⟨r, c2, cur, e, hb, hg, hc, hm, hsz, hcur⟩
  · cases e
    obtain ⟨v', w2, hrun, ho2, hgr, _⟩ := run_append_own (P := Try.prog) w w.heap.size 22 o.type 3 i0 (.int .i64 0) 1 8 Try.underlying22 hi hz0 hz1 hz2 rfl (by decide) (.slice none 0 0) 0 [] (World.ownsRow_nil _ _ _ _) ⟨b, 0, none⟩ lv cv (rowV g lv) (rowV_len g lv) hcells (rowV_one g lv h1) (by unfold maxLen; omega) (by omega) (Nat.le_refl _)
    obtain ⟨ao', c', rfl⟩ := owns_slice ho2
    have hh := h ao' c' w2 (own_base ho2 hB) hgr (fun k hk => Or.inr (ho2.lt k hk).1) ((below_grown hgr (by intro k h; cases h)).mono hB)
    unfold Oper.wp
    simp [execOp, ho, resolve, invoke, builtin, hs, hx, hrun, Result.andThen]
    have e0 : 0 + lv = lv := Nat.zero_add lv
    rw [e0] at hh
    exact hh
  · cases e
    by_cases hfit : n + lv ≤ cap
    · obtain ⟨w2, hrun, ho2, hgr⟩ := run_append_fits (P := Try.prog) w B 22 o.type 3 i0 1 Try.underlying22 hi hz1 r n cap (rowV f n) hown ⟨b, 0, none⟩ lv cv (rowV g lv) (rowV_len g lv) hcells (rowV_one g lv h1) hfit
      have hh := h (some ⟨r, 0, none⟩) cap w2 ho2 hgr (fun k hk => Or.inl hk) ⟨hgr.os, hgr.tape, hgr.output, hgr.size, fun k hk => hgr.block k (by omega) (by intro e; cases e; omega)⟩
      unfold Oper.wp
      simp [execOp, ho, resolve, invoke, builtin, hs, hx, hrun, Result.andThen]
      exact hh
    · obtain ⟨v', w2, hrun, ho2, hgr⟩ := run_append_arg_grows (P := Try.prog) w 22 o.type 3 i0 (.int .i64 0) 1 8 Try.underlying22 hi hz0 hz1 hz2 rfl (by decide) ⟨r, 0, none⟩ n cap (rowV f n) (rowV_len f n) (fun j u hj => hown.cells (g := r) rfl j u hj) ⟨b, 0, none⟩ lv cv (rowV g lv) (rowV_len g lv) hcells (by omega) (by unfold maxLen; omega) (by omega)
      obtain ⟨ao', c', rfl⟩ := owns_slice ho2
      have hh := h ao' c' w2 (own_base ho2 hB) ⟨hgr.os, hgr.tape, hgr.output, hgr.size, fun k hk _ => hgr.block k hk (by simp)⟩ (fun k hk => Or.inr (ho2.lt k hk).1) ⟨hgr.os, hgr.tape, hgr.output, hgr.size, fun k hk => hgr.block k (by omega) (by simp)⟩
      unfold Oper.wp
      simp [execOp, ho, resolve, invoke, builtin, hs, hx, hrun, Result.andThen]
      exact hh

end Go.Proofs.Ytomlpcbccfmejaa
