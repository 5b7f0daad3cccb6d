/- Numbers appended to a row of one's own, with what is told of its block. -/
import Derived.Test.YtomlpcbccfmejaaIntMem
import Derived.Test.YtomlpcbccfmejaaOpenRow
import Derived.ArgAppend
namespace Go.Proofs.Ytomlpcbccfmejaa
open Go.RowKit

theorem own_grown {t : TypeId} {B : Nat} {w w' : World} {v : Value} {n : Nat} {xs : List Value} {r : Option Nat} (h : w.ownsRow B t 1 v n xs) (k : w.grownBy w' r) (hr : ∀ b, v.ownBlock = some b → r ≠ some b) : w'.ownsRow B t 1 v n xs := by
  refine ⟨h.1, ?_⟩
  rcases h.2 with hn | ⟨g, cap, cur, rfl, hb, hgg, rest⟩
  · exact .inl hn
  · exact .inr ⟨g, cap, cur, rfl, hb, (k.block g (lt_of_block hgg) (fun e => hr g rfl e.symm)).trans hgg, rest⟩
/-- Two rows that share no block. -/
def Apart (u v : Value) : Prop := ∀ k, u.ownBlock = some k → v.ownBlock = some k → False
theorem wpList_joinV (w : World) {ops : Array Oper} {rest : List Oper} {o : Oper} {a : Act} {Q : Exit → Act → World → Prop} (hgd : o.guard = none) (s x : Operand)
    (ho : o.op = .call { callee := .builtin .append, args := #[s, x], argTypes := #[22, 22] }) (B : Nat) (hB : B ≤ w.heap.size)
    (ao : Option Addr) (n cap : Nat) (f : Nat → Value) (hs : a.eval s = .slice ao n cap) (hown : w.ownsRow B 3 1 (.slice ao n cap) n (rowV f n))
    (b lv cv : Nat) (g : Nat → Value) (hx : a.eval x = .slice (some ⟨b, 0, none⟩) lv cv) (har : Rd w (some ⟨b, 0, none⟩) lv g) (h1 : ∀ i, i < lv → (g i).oneCell' = true) (hlv : 1 ≤ lv) (hl : (n + lv) * 8 ≤ 140737488355328)
    (h : ∀ ao' c' w', w'.ownsRow B 3 1 (.slice ao' (n + lv) c') (n + lv) (rowV f n ++ rowV g lv) → w.grownBy w' (Value.ownBlock (.slice ao n cap)) → (∀ k, Value.ownBlock (.slice ao' (n + lv) c') = some k → Value.ownBlock (.slice ao n cap) = some k ∨ w.heap.size ≤ k) → Below B w w' →
      wpList Try.prog ops Q rest (a.put o.dst (.slice ao' (n + lv) c')) w') : wpList Try.prog ops Q (o :: rest) a w := by
  obtain ⟨i0, hi, hz0, hz1, hz2⟩ := info_parts infoInt
  have hcells : ∀ (j : Nat) (u : Value), (rowV g lv)[j]? = some u → w.cell? ((⟨b, 0, none⟩ : Addr).add j) = some u := by
    obtain ⟨y, e, hy⟩ := har.list (by omega)
    cases e
    exact hy
  rcases hown.2 with ⟨e, h0⟩ | ⟨r, c2, cur, e, hb, hg, hc, hm, hsz, hcur⟩
  · cases e
    refine wpList_append_own w hgd s x 22 ho w.heap.size 3 i0 (.int .i64 0) 1 8 Try.underlying22 hi hz0 hz1 hz2 rfl (by decide) (.slice none 0 0) 0 [] hs (World.ownsRow_nil _ _ _ _) ⟨b, 0, none⟩ lv cv (rowV g lv) hx (rowV_len g lv) hcells (rowV_one g lv h1) (by unfold maxLen; omega) (by omega) (Nat.le_refl _) ?_
    intro v' w2 ho2 hgr _
    obtain ⟨ao', c', rfl⟩ := owns_slice ho2
    exact h ao' c' w2 (own_base ho2 hB) hgr (fun k hk => Or.inr (ho2.lt k hk).1) ((below_grown hgr (by intro k h; cases h)).mono hB)
  · cases e
    by_cases hfit : n + lv ≤ cap
    · refine wpList_append_fits w hgd s x 22 ho B 3 i0 1 Try.underlying22 hi hz1 r n cap (rowV f n) hs hown ⟨b, 0, none⟩ lv cv (rowV g lv) hx (rowV_len g lv) hcells (rowV_one g lv h1) hfit ?_
      intro w2 ho2 hgr
      exact h (some ⟨r, 0, none⟩) cap w2 ho2 hgr (fun k hk => Or.inl hk) ⟨hgr.os, hgr.tape, hgr.output, hgr.size, fun k hk => hgr.block k (by omega) (by intro e; cases e; omega)⟩
    · refine wpList_append_grows w hgd s x 22 ho 3 i0 (.int .i64 0) 1 8 Try.underlying22 hi hz0 hz1 hz2 rfl (by decide) (some ⟨r, 0, none⟩) n cap (rowV f n) hs (fun h => by cases h) (rowV_len f n) (fun b' hb' j u hj => ?_) ⟨b, 0, none⟩ lv cv (rowV g lv) hx (rowV_len g lv) hcells (rowV_one g lv h1) (by omega) (by unfold maxLen; omega) (by omega) ?_
      · cases hb'
        exact hown.cells (g := r) rfl j u hj
      intro v' w2 ho2 hgr
      obtain ⟨ao', c', rfl⟩ := owns_slice ho2
      exact h ao' c' w2 (own_base ho2 hB) ⟨hgr.os, hgr.tape, hgr.output, hgr.size, fun k hk _ => hgr.block k hk (by simp)⟩ (fun k hk => Or.inr (ho2.lt k hk).1) ⟨hgr.os, hgr.tape, hgr.output, hgr.size, fun k hk => hgr.block k (by omega) (by simp)⟩

end Go.Proofs.Ytomlpcbccfmejaa
