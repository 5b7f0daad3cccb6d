/- Rows of numbers in memory, as rows of values. -/
import Derived.Test.YthjeedlhlkggkabRowPlain
import Derived.Test.YthjeedlhlkggkabByteMem
namespace Go.Proofs.Ythjeedlhlkggkab
open Go.RowKit

/-- Numbers as values. -/
def iF (f : Nat → Int) (i : Nat) : Value := .int .i64 (f i)
theorem iF_one (f : Nat → Int) (i : Nat) : (iF f i).oneCell' = true := rfl

theorem own_base {t : TypeId} {B C : Nat} {w : World} {v : Value} {n : Nat} {xs : List Value} (h : w.ownsRow B t 1 v n xs) (e : C ≤ B) : w.ownsRow C t 1 v n xs := by
  refine ⟨h.1, ?_⟩
  rcases h.2 with hn | ⟨g, cap, cur, rfl, hb, rest⟩
  · exact .inl hn
  · exact .inr ⟨g, cap, cur, rfl, Nat.le_trans e hb, rest⟩

theorem own_keptz {t : TypeId} {B z : Nat} {w w' : World} {v : Value} {n : Nat} {xs : List Value} (h : w.ownsRow B t 1 v n xs) (k : Kept z w w') (hz : z < B) : w'.ownsRow B t 1 v n xs := by
  refine ⟨h.1, ?_⟩
  rcases h.2 with hn | ⟨g, cap, cur, rfl, hb, hgg, rest⟩
  · exact .inl hn
  · exact .inr ⟨g, cap, cur, rfl, hb, (k.block g (lt_of_block hgg) (by omega)).trans hgg, rest⟩
theorem rowV_snoc {g u : Nat → Value} {i : Nat} (h : g i = u 0) : rowV g i ++ rowV u 1 = rowV g (i + 1) := by
  rw [rowV_append]
  refine rowV_congr (fun j hj => ?_)
  by_cases c : j < i
  · rw [if_pos c]
  · rw [if_neg c]
    have : j = i := by omega
    subst this
    rw [Nat.sub_self, h]

/-- Numbers appended to a row of one's own. -/
theorem wp_joinI (w : World) {o : Oper} {a : Act} {K : Act → World → Prop} {Q : Exit → Act → World → Prop} (s x : Operand)
    (ho : o.op = .call { callee := .builtin .append, args := #[s, x], argTypes := #[63, 63] }) (B : Nat) (hB : B ≤ w.heap.size)
    (v : Value) (n : Nat) (xs : List Value) (hs : a.eval s = v) (hown : w.ownsRow B 3 1 v n xs)
    (vo : Option Addr) (lv cv : Nat) (f : Nat → Value) (hx : a.eval x = .slice vo lv cv) (har : Sr w vo lv cv f) (h1 : ∀ i, i < lv → (f i).oneCell' = true) (hl : (n + lv) * 8 ≤ 140737488355328)
    (h : ∀ v' w', w'.ownsRow B 3 1 v' (n + lv) (xs ++ rowV f lv) → Below B w w' → K (a.put o.dst v') w') : o.wp Try.prog a w K Q := by
  obtain ⟨i0, hi, hz0, hz1, hz2⟩ := info_parts infoInt
  rcases har with ⟨rfl, rfl, rfl⟩ | ⟨y, rfl, hc⟩
  · have hrun := run_append_owned_none (P := Try.prog) (w := w) B 63 o.type 3 i0 1 Try.underlying63 hi v n xs hown
    have hh := h v w (by simpa [rowV] using hown) (Below.refl _ _)
    unfold Oper.wp execOp
    simp only [ho, resolve, invoke, builtin, Sem.run_bind, Sem.run_pure, Result.andThen_ok, List.map_toArray, List.map_cons, List.map_nil, hs, hx, hrun]
    exact hh
  · refine wp_append_own (P := Try.prog) w s x 63 ho B 3 i0 (.int .i64 0) 1 8 Try.underlying63 hi hz0 hz1 hz2 rfl (by decide) v n xs hs hown y lv cv (rowV f lv) hx (rowV_len f lv) ?_ (rowV_one f lv h1) (by unfold maxLen; omega) (by omega) hB ?_
    · intro j u hj
      rcases Nat.lt_or_ge j lv with h2 | h2
      · rw [rowV_at f h2] at hj; cases hj
        exact hc j h2
      · rw [rowV_none f h2] at hj; cases hj
    · intro v' w2 ho2 hgr hnil
      exact h v' w2 ho2 (own_below hown hgr (Below.refl _ _) hB)
theorem wpList_joinI (w : World) {ops : Array Oper} {rest : List Oper} {o : Oper} {a : Act} {Q : Exit → Act → World → Prop} (hgd : o.guard = none) (s x : Operand)
    (ho : o.op = .call { callee := .builtin .append, args := #[s, x], argTypes := #[63, 63] }) (B : Nat) (hB : B ≤ w.heap.size)
    (v : Value) (n : Nat) (xs : List Value) (hs : a.eval s = v) (hown : w.ownsRow B 3 1 v n xs)
    (vo : Option Addr) (lv cv : Nat) (f : Nat → Value) (hx : a.eval x = .slice vo lv cv) (har : Sr w vo lv cv f) (h1 : ∀ i, i < lv → (f i).oneCell' = true) (hl : (n + lv) * 8 ≤ 140737488355328)
    (h : ∀ v' w', w'.ownsRow B 3 1 v' (n + lv) (xs ++ rowV f lv) → Below B w w' → wpList Try.prog ops Q rest (a.put o.dst v') w') : wpList Try.prog ops Q (o :: rest) a w :=
  wpList_plain hgd fun _ hK => wp_joinI w s x ho B hB v n xs hs hown vo lv cv f hx har h1 hl fun v' w' h2 h3 => hK _ _ (h v' w' h2 h3)

end Go.Proofs.Ythjeedlhlkggkab
