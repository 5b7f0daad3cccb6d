/- An append of a list that was handed in to nothing. -/
import Derived.Test.YtblglojbghmphaaOpenRow
namespace Go.Proofs.Ytblglojbghmphaa
open Go.RowKit

theorem wpList_clone (w : World) {ops : Array Oper} {rest : List Oper} {o : Oper} {a : Act} {Q : Exit → Act → World → Prop} (hgd : o.guard = none) (s x : Operand)
    (ho : o.op = .call { callee := .builtin .append, args := #[s, x], argTypes := #[35, 35] }) (hs : a.eval s = .slice none 0 0)
    (vo : Option Addr) (lv cv : Nat) (f : Nat → Int) (hx : a.eval x = .slice vo lv cv) (har : ArgS w vo lv cv f)
    (h : ∀ ao' cap' w', Rds w' ao' lv f → Below w.heap.size w w' → wpList Try.prog ops Q rest (a.put o.dst (.slice ao' lv cap')) w') : wpList Try.prog ops Q (o :: rest) a w := by
  obtain ⟨i0, hi, hz0, hz1, hz2⟩ := info_parts infoInt
  obtain ⟨ha, hl, hf⟩ := har
  rcases ha with ⟨rfl, rfl, rfl⟩ | ⟨y, rfl, hc⟩
  · exact wpList_append_own_none hgd s x 35 ho w.heap.size 3 i0 1 Try.underlying35 hi (.slice none 0 0) 0 [] hs (World.ownsRow_nil _ _ _ _) hx (h none 0 w (fun h => absurd h (by omega)) (Below.refl _ _))
  · refine wpList_append_own w hgd s x 35 ho w.heap.size 3 i0 (.int .i64 0) 1 8 Try.underlying35 hi hz0 hz1 hz2 rfl (by decide) (.slice none 0 0) 0 [] hs (World.ownsRow_nil _ _ _ _) y lv cv (rowL f lv) hx (rowL_len f lv) ?_ (rowL_one f lv) (by unfold maxLen; omega) (by omega) (Nat.le_refl _) ?_
    · intro j u hj
      rcases Nat.lt_or_ge j lv with h2 | h2
      · rw [rowL_at f h2] at hj; cases hj
        exact hc j h2
      · unfold rowL at hj; rw [List.getElem?_map, List.getElem?_eq_none (by simpa using h2)] at hj; cases hj
    · intro v' w2 hown hgr hnil
      rw [Nat.zero_add, List.nil_append] at hown
      have hb2 : Below w.heap.size w w2 := below_grown hgr (by intro k h; cases h)
      rcases Nat.eq_zero_or_pos lv with h0 | h0
      · subst h0
        rcases hown.2 with ⟨rfl, _⟩ | ⟨g, c, cur, rfl, _⟩
        · exact h none 0 w2 (fun h => absurd h (by omega)) hb2
        · exact h _ c w2 (fun h => absurd h (by omega)) hb2
      · obtain ⟨r, c, rfl, hr, hn⟩ := Nh.of_owns h0 hown (fun i hi => rowL_at f hi)
        exact h _ c w2 hn.rds hb2

theorem wp_clone (w : World) {o : Oper} {a : Act} {K : Act → World → Prop} {Q : Exit → Act → World → Prop} (s x : Operand)
    (ho : o.op = .call { callee := .builtin .append, args := #[s, x], argTypes := #[35, 35] }) (hs : a.eval s = .slice none 0 0)
    (vo : Option Addr) (lv cv : Nat) (f : Nat → Int) (hx : a.eval x = .slice vo lv cv) (har : ArgS w vo lv cv f)
    (h : ∀ ao' cap' w', Rds w' ao' lv f → Below w.heap.size w w' → K (a.put o.dst (.slice ao' lv cap')) w') : o.wp Try.prog a w K Q := by
  obtain ⟨i0, hi, hz0, hz1, hz2⟩ := info_parts infoInt
  obtain ⟨ha, hl, hf⟩ := har
  rcases ha with ⟨rfl, rfl, rfl⟩ | ⟨y, rfl, hc⟩
  · have hrun := run_append_owned_none (P := Try.prog) (w := w) w.heap.size 35 o.type 3 i0 1 Try.underlying35 hi (.slice none 0 0) 0 [] (World.ownsRow_nil _ _ _ _)
    have hh := h none 0 w (fun h => absurd h (by omega)) (Below.refl _ _)
    unfold Oper.wp execOp
    simp only [ho, resolve, invoke, builtin, Sem.run_bind, Sem.run_pure, Result.andThen_ok, List.map_toArray, List.map_cons, List.map_nil, hs, hx, hrun]
    exact hh
  · refine wp_append_own (P := Try.prog) w s x 35 ho w.heap.size 3 i0 (.int .i64 0) 1 8 Try.underlying35 hi hz0 hz1 hz2 rfl (by decide) (.slice none 0 0) 0 [] hs (World.ownsRow_nil _ _ _ _) y lv cv (rowL f lv) hx (rowL_len f lv) ?_ (rowL_one f lv) (by unfold maxLen; omega) (by omega) (Nat.le_refl _) ?_
    · intro j u hj
      rcases Nat.lt_or_ge j lv with h2 | h2
      · rw [rowL_at f h2] at hj; cases hj
        exact hc j h2
      · unfold rowL at hj; rw [List.getElem?_map, List.getElem?_eq_none (by simpa using h2)] at hj; cases hj
    · intro v' w2 hown hgr hnil
      rw [Nat.zero_add, List.nil_append] at hown
      have hb2 : Below w.heap.size w w2 := below_grown hgr (by intro k h; cases h)
      rcases Nat.eq_zero_or_pos lv with h0 | h0
      · subst h0
        rcases hown.2 with ⟨rfl, _⟩ | ⟨g, c, cur, rfl, _⟩
        · exact h none 0 w2 (fun h => absurd h (by omega)) hb2
        · exact h _ c w2 (fun h => absurd h (by omega)) hb2
      · obtain ⟨r, c, rfl, hr, hn⟩ := Nh.of_owns h0 hown (fun i hi => rowL_at f hi)
        exact h _ c w2 hn.rds hb2

/-- A slice cut short, and what is behind the cut. -/
theorem ArgS.head {w : World} {ao : Option Addr} {len cap : Nat} {f : Nat → Int} (h : ArgS w ao len cap f) {k : Nat} (hk : k ≤ len) : ArgS w ao k cap f := by
  obtain ⟨ha, hl, hf⟩ := h
  refine ⟨?_, by omega, hf⟩
  rcases ha with ⟨h1, h2, h3⟩ | ⟨x, h1, hc⟩
  · exact Or.inl ⟨h1, by omega, h3⟩
  · exact Or.inr ⟨x, h1, fun i hi => hc i (by omega)⟩

end Go.Proofs.Ytblglojbghmphaa
