/- Bytes appended to a row whose block is known to lie between two others. -/
import Derived.Test.YtnbpkidjojgghaaScribble
import Derived.Test.YtnbpkidjojgghaaIntMem
namespace Go.Proofs.Ytnbpkidjojgghaa
open Go.RowKit

theorem own_ki {t : TypeId} {B B' U' : Nat} {w w' : World} {v : Value} {n : Nat} {xs : List Value} (h : w.ownsRow B t 1 v n xs) (k : KI B' U' w w') (hU : U' ≤ B) : w'.ownsRow B t 1 v n xs := by
  refine ⟨h.1, ?_⟩
  rcases h.2 with hn | ⟨g, cap, cur, rfl, hb, hgg, rest⟩
  · exact .inl hn
  · exact .inr ⟨g, cap, cur, rfl, hb, (k.block g (lt_of_block hgg) (Or.inr (by omega))).trans hgg, rest⟩
theorem Vh.ki {t : TypeId} {B U : Nat} {w w' : World} {b N cap : Nat} {g : Nat → Value} (h : Vh t w b N cap g) (k : KI B U w w') (hb : b < B ∨ U ≤ b) : Vh t w' b N cap g := h.same (k.block b h.lt hb)
/-- Where an owned row's block lies. -/
def InU (U : Nat) (v : Value) : Prop := ∀ k, v.ownBlock = some k → k < U
theorem inU_of {t : TypeId} {B n : Nat} {w : World} {v : Value} {xs : List Value} (h : w.ownsRow B t 1 v n xs) : InU w.heap.size v := fun k hk => (h.lt k hk).2
theorem inU_at {U r n c : Nat} (h : InU U (.slice (some ⟨r, 0, none⟩) n c)) : r < U := h r rfl
/-- An owned row of numbers as a result. -/
theorem res_of_owns {w : World} {B U : Nat} {ao : Option Addr} {l c : Nat} {F : Nat → Int} (h : w.ownsRow B 3 1 (.slice ao l c) l (rowV (iF F) l)) (hU : InU U (.slice ao l c)) (hl : l ≤ 36) : ResO w B U ao l c := by
  rcases h.2 with ⟨e, h0⟩ | ⟨g, cap, cur, e, hb, hg, hc, hm, hsz, hcur⟩
  · cases e
    exact Or.inl ⟨rfl, rfl, rfl⟩
  · cases e
    refine Or.inr ⟨g, F, rfl, hb, inU_at hU, ⟨cur, hg, by omega, hc, hm, fun i hi => ?_⟩, hl⟩
    have := rowV_at (iF F) hi
    rw [← hcur, List.getElem?_take, if_pos (by omega), Array.getElem?_toList] at this
    exact this
/-- The first cell of an owned row. -/
theorem own_firstB {w : World} {base n : Nat} {v : Value} {xs : List Value} (hn : 1 ≤ n) (h : w.ownsRow base 5 1 v n xs) : ∃ g c cv, v = .slice (some ⟨g, 0, none⟩) n c ∧ base ≤ g ∧ g < w.heap.size ∧ w.cell? ⟨g, 0, none⟩ = some cv ∧ w.frozen? ⟨g, 0, none⟩ = false := by
  obtain ⟨hl, h1⟩ := h
  rcases h1 with ⟨rfl, rfl⟩ | ⟨g, cap, cur, rfl, hg, hh, hc, hm, hsz, hcur⟩
  · omega
  · have : 0 < cur.size := by omega
    exact ⟨g, cap, cur[0], rfl, hg, lt_of_block hh, by unfold World.cell?; rw [hh]; simp [this], by unfold World.frozen?; rw [hh]; rfl⟩

theorem wpList_joinU (w : World) {ops : Array Oper} {rest : List Oper} {o : Oper} {a : Act} {Q : Exit → Act → World → Prop} (hgd : o.guard = none) (s x : Operand)
    (ho : o.op = .call { callee := .builtin .append, args := #[s, x], argTypes := #[25, 25] }) (B U : Nat) (hB : B ≤ w.heap.size)
    (ao : Option Addr) (n cap : Nat) (f : Nat → Value) (hs : a.eval s = .slice ao n cap) (hown : w.ownsRow B 5 1 (.slice ao n cap) n (rowV f n)) (hU : InU U (.slice ao n cap))
    (b lv cv : Nat) (g : Nat → Value) (hx : a.eval x = .slice (some ⟨b, 0, none⟩) lv cv) (har : Rd w (some ⟨b, 0, none⟩) lv g) (h1 : ∀ i, i < lv → (g i).oneCell' = true) (hlv : 1 ≤ lv) (hl : n + lv ≤ 140737488355328)
    (h : ∀ r c u w', w'.cell? ⟨r, 0, none⟩ = some u → w'.frozen? ⟨r, 0, none⟩ = false → B ≤ r → (r < U ∨ w.heap.size ≤ r) → KI B U w w' → wpList Try.prog ops Q rest (a.put o.dst (.slice (some ⟨r, 0, none⟩) (n + lv) c)) w') : wpList Try.prog ops Q (o :: rest) a w := by
  obtain ⟨i0, hi, hz0, hz1, hz2⟩ := info_parts infoByte
  have hcells : ∀ (j : Nat) (u : Value), (rowV g lv)[j]? = some u → w.cell? ((⟨b, 0, none⟩ : Addr).add j) = some u := by
    obtain ⟨y, e, hy⟩ := har.list (by omega)
    cases e
    exact hy
  rcases hown.2 with ⟨e, h0⟩ | ⟨r, c2, cur, e, hb, hg, hc, hm, hsz, hcur⟩
  · cases e
    refine wpList_append_own w hgd s x 25 ho w.heap.size 5 i0 (.int .u8 0) 1 1 Try.underlying25 hi hz0 hz1 hz2 rfl (by decide) (.slice none 0 0) 0 [] hs (World.ownsRow_nil _ _ _ _) ⟨b, 0, none⟩ lv cv (rowV g lv) hx (rowV_len g lv) hcells (rowV_one g lv h1) (by unfold maxLen; omega) (by omega) (Nat.le_refl _) ?_
    intro v' w2 ho2 hgr _
    obtain ⟨r, c, u, rfl, hr1, _, hc0, hf0⟩ := own_firstB (by omega) ho2
    exact h r c u w2 hc0 hf0 (by omega) (Or.inr hr1) (KI.of_below (below_grown hgr (by intro k h; cases h)))
  · cases e
    by_cases hfit : n + lv ≤ cap
    · refine wpList_append_fits w hgd s x 25 ho B 5 i0 1 Try.underlying25 hi hz1 r n cap (rowV f n) hs hown ⟨b, 0, none⟩ lv cv (rowV g lv) hx (rowV_len g lv) hcells (rowV_one g lv h1) hfit ?_
      intro w2 ho2 hgr
      obtain ⟨r', c', u, e, hr1, _, hc0, hf0⟩ := own_firstB (by omega) ho2
      cases e
      have hrU := inU_at hU
      exact h r cap u w2 hc0 hf0 hb (Or.inl hrU) ⟨hgr.os, hgr.tape, hgr.output, hgr.size, fun k hk hh => hgr.block k hk (by intro e; cases e; omega)⟩
    · refine wpList_append_grows w hgd s x 25 ho 5 i0 (.int .u8 0) 1 1 Try.underlying25 hi hz0 hz1 hz2 rfl (by decide) (some ⟨r, 0, none⟩) n cap (rowV f n) hs (fun h => by cases h) (rowV_len f n) (fun b' hb' j u hj => ?_) ⟨b, 0, none⟩ lv cv (rowV g lv) hx (rowV_len g lv) hcells (rowV_one g lv h1) (by omega) (by unfold maxLen; omega) (by omega) ?_
      · cases hb'
        have hj' : j < n := by
          rcases Nat.lt_or_ge j n with h2 | h2
          · exact h2
          · rw [rowV_none f h2] at hj; cases hj
        exact hown.cells (g := r) rfl j u hj
      intro v' w2 ho2 hgr
      obtain ⟨r', c', u, rfl, hr1, _, hc0, hf0⟩ := own_firstB (by omega) ho2
      exact h r' c' u w2 hc0 hf0 (by omega) (Or.inr hr1) ⟨hgr.os, hgr.tape, hgr.output, hgr.size, fun k hk _ => hgr.block k hk (by simp)⟩

end Go.Proofs.Ytnbpkidjojgghaa
