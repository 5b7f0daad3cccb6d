/- An append of a list that was handed in to nothing. -/
import Derived.Test.YtnfejfdekedmhabMatOwn
namespace Go.Proofs.Ytnfejfdekedmhab
open Go.RowKit

theorem wpList_clone (w : World) {ops : Array Oper} {rest : List Oper} {o : Oper} {a : Act} {Q : Exit → Act → World → Prop} (hgd : o.guard = none) (s x : Operand)
    (ho : o.op = .call { callee := .builtin .append, args := #[s, x], argTypes := #[22, 22] }) (hs : a.eval s = .slice none 0 0)
    (vo : Option Addr) (lv cv : Nat) (f : Nat → Int) (hx : a.eval x = .slice vo lv cv) (har : ArgS w vo lv cv f)
    (h : ∀ ao' cap' w', Rds w' ao' lv f → Below w.heap.size w w' → wpList Try.prog ops Q rest (a.put o.dst (.slice ao' lv cap')) w') : wpList Try.prog ops Q (o :: rest) a w := by
  obtain ⟨i0, hi, hz0, hz1, hz2⟩ := info_parts infoInt
  obtain ⟨ha, hl, hf⟩ := har
  rcases ha with ⟨rfl, rfl, rfl⟩ | ⟨y, rfl, hc⟩
  · exact wpList_append_own_none hgd s x 22 ho w.heap.size 3 i0 1 Try.underlying22 hi (.slice none 0 0) 0 [] hs (World.ownsRow_nil _ _ _ _) hx (h none 0 w (fun h => absurd h (by omega)) (Below.refl _ _))
  · refine wpList_append_own w hgd s x 22 ho w.heap.size 3 i0 (.int .i64 0) 1 8 Try.underlying22 hi hz0 hz1 hz2 rfl (by decide) (.slice none 0 0) 0 [] hs (World.ownsRow_nil _ _ _ _) y lv cv (rowL f lv) hx (rowL_len f lv) ?_ (rowL_one f lv) (by unfold maxLen; omega) (by omega) (Nat.le_refl _) ?_
    · intro j u hj
      rcases Nat.lt_or_ge j lv with h2 | h2
      · rw [rowL_at f h2] at hj; cases hj
        exact hc j h2
      · unfold rowL at hj; rw [List.getElem?_map, List.getElem?_eq_none (by simpa using h2)] at hj; cases hj
    · intro v' w2 hown hgr hnil
      rw [Nat.zero_add, List.nil_append] at hown
      have hb2 : Below w.heap.size w w2 := below_grown hgr (by intro k h; cases h)
      rcases Nat.eq_zero_or_pos lv with h0 | h0
      · subst h0
        rcases hown.2 with ⟨rfl, _⟩ | ⟨g, c, cur, rfl, _⟩
        · exact h none 0 w2 (fun h => absurd h (by omega)) hb2
        · exact h _ c w2 (fun h => absurd h (by omega)) hb2
      · obtain ⟨r, c, rfl, hr, hn⟩ := Nh.of_owns h0 hown (fun i hi => rowL_at f hi)
        exact h _ c w2 hn.rds hb2

end Go.Proofs.Ytnfejfdekedmhab
