/- Package bus: parted. -/
import Derived.Test.YthjeedlhlkggkabBusCpy
namespace Go.Proofs.Ythjeedlhlkggkab
open Go.RowKit

/-- One parcel appended to a row, with what is told of its block. -/
theorem wpList_joinW (w : World) {ops : Array Oper} {rest : List Oper} {o : Oper} {a : Act} {Q : Exit → Act → World → Prop} (hgd : o.guard = none) (s x : Operand)
    (ho : o.op = .call { callee := .builtin .append, args := #[s, x], argTypes := #[23, 23] }) (B : Nat) (hB : B ≤ w.heap.size)
    (v : Value) (L : List Lp) (hs : a.eval s = v) (hown : RowP w B v L) (b : Nat) (c : Lp) (hx : a.eval x = .slice (some ⟨b, 0, none⟩) 1 1) (hc : PcAt w b 0 c.p (lpV c)) (hl : L.length ≤ 2513169434843)
    (h : ∀ v' w', RowP w' B v' (L ++ [c]) → w.grownBy w' v.ownBlock → (∀ k, v'.ownBlock = some k → v.ownBlock = some k ∨ w.heap.size ≤ k) → Below B w w' → wpList Try.prog ops Q rest (a.put o.dst v') w') : wpList Try.prog ops Q (o :: rest) a w := by
  obtain ⟨i0, hi, hz0, hz1, hz2⟩ := info_parts infoPc
  have hcells : ∀ (j : Nat) (u : Value), (lpL [c])[j]? = some u → w.cell? ((⟨b, 0, none⟩ : Addr).add j) = some u := by
    intro j u hj
    rw [Addr.add_lit, Nat.zero_add]
    obtain ⟨p0, p1, p2, p3, p4⟩ := hc
    match j with
    | 0 => simp [lpL, lpC] at hj; subst hj; exact p0
    | 1 => simp [lpL, lpC] at hj; subst hj; exact p1
    | 2 => simp [lpL, lpC] at hj; subst hj; exact p2
    | 3 => simp [lpL, lpC] at hj; subst hj; exact p3
    | 4 => simp [lpL, lpC] at hj; subst hj; exact p4
    | j + 5 => simp [lpL, lpC] at hj
  have hcat : ∀ {B' : Nat} {v' : Value} {w2 : World}, w2.ownsRow B' 32 5 v' (L.length + 1) (lpL L ++ lpL [c]) → RowP w2 B' v' (L ++ [c]) := fun q => by unfold RowP; rw [List.length_append, lpL_append]; exact q
  rcases hown.2 with ⟨rfl, h0⟩ | ⟨r, cap, cur, rfl, hb, hg, hcc, hm, hsz, hcur⟩
  · have eL : L = [] := List.length_eq_zero_iff.1 h0
    subst eL
    refine wpList_append_own w hgd s x 23 ho w.heap.size 32 i0 (.agg #[.int .i64 0, .int .i64 0, .int .i64 0, .int .i64 0, .slice none 0 0]) 5 56 Try.underlying23 hi hz0 hz1 hz2 rfl (by decide) (.slice none 0 0) 0 [] hs (World.ownsRow_nil _ _ _ _) ⟨b, 0, none⟩ 1 1 (lpL [c]) hx rfl hcells lpL_one (by unfold maxLen; omega) (by omega) (Nat.le_refl _) ?_
    intro v' w2 ho2 hgr _
    exact h v' w2 (hcat (ownS_base ho2 hB)) hgr (fun k hk => Or.inr (ho2.lt k hk).1) ⟨hgr.os, hgr.tape, hgr.output, hgr.size, fun k hk => hgr.block k (by omega) (fun e => by cases e)⟩
  · by_cases hfit : L.length + 1 ≤ cap
    · refine wpList_append_fits w hgd s x 23 ho B 32 i0 5 Try.underlying23 hi hz1 r L.length cap (lpL L) hs hown ⟨b, 0, none⟩ 1 1 (lpL [c]) hx rfl hcells lpL_one hfit ?_
      intro w2 ho2 hgr
      exact h (.slice (some ⟨r, 0, none⟩) (L.length + 1) cap) w2 (hcat ho2) hgr (fun k hk => Or.inl hk) ⟨hgr.os, hgr.tape, hgr.output, hgr.size, fun k hk => hgr.block k (by omega) (by intro e; cases e; omega)⟩
    · refine wpList_append_grows w hgd s x 23 ho 32 i0 (.agg #[.int .i64 0, .int .i64 0, .int .i64 0, .int .i64 0, .slice none 0 0]) 5 56 Try.underlying23 hi hz0 hz1 hz2 rfl (by decide) (some ⟨r, 0, none⟩) L.length cap (lpL L) hs (fun h => by cases h) (lpL_len L) (fun b' hb' j u hj => ?_) ⟨b, 0, none⟩ 1 1 (lpL [c]) hx rfl hcells lpL_one (by omega) (by unfold maxLen; omega) (by omega) ?_
      · cases hb'
        exact hown.cells (g := r) rfl j u hj
      intro v' w2 ho2 hgr
      exact h v' w2 (hcat (ownS_base ho2 hB)) ⟨hgr.os, hgr.tape, hgr.output, hgr.size, fun k hk _ => hgr.block k hk (by simp)⟩ (fun k hk => Or.inr (ho2.lt k hk).1) ⟨hgr.os, hgr.tape, hgr.output, hgr.size, fun k hk => hgr.block k (by omega) (by simp)⟩

/-- What lies in memory while a queue is parted. -/
def PtI (w : World) (vC : Value) (C : List Lp) (vW : Value) (X : List Lp) (W : World) : Prop :=
  RowP W w.heap.size vC C ∧ RowP W w.heap.size vW X ∧ (∀ k, vC.ownBlock = some k → vW.ownBlock = some k → False) ∧ Below w.heap.size w W
section
variable {w W W' : World} {vC vW v' : Value} {C X : List Lp} {c : Lp}
theorem PtI.below (h : PtI w vC C vW X W) (k : Below W.heap.size W W') : PtI w vC C vW X W' := ⟨ownS_below h.1 k, ownS_below h.2.1 k, h.2.2.1, h.2.2.2.trans (k.mono h.2.2.2.size)⟩
theorem PtI.come (h : PtI w vC C vW X W) (r : RowP W' w.heap.size v' (C ++ [c])) (gr : W.grownBy W' vC.ownBlock) (hb : ∀ k, v'.ownBlock = some k → vC.ownBlock = some k ∨ W.heap.size ≤ k) (k : Below w.heap.size W W') : PtI w v' (C ++ [c]) vW X W' :=
  ⟨r, ownS_grown h.2.1 gr (fun b hb e => h.2.2.1 b e hb), fun i h1 h2 => by
    rcases hb i h1 with e | e
    · exact h.2.2.1 i e h2
    · have := (h.2.1.lt i h2).2; omega, h.2.2.2.trans k⟩
theorem PtI.swap (h : PtI w vC C vW X W) : PtI w vW X vC C W := ⟨h.2.1, h.1, fun k h1 h2 => h.2.2.1 k h2 h1, h.2.2.2⟩
end
set_option maxHeartbeats 2000000 in
theorem busParted_any (B : Nat) (ao : Option Addr) (cap : Nat) (M : List Lp) (t : Int) (w : World) (hr : RowP w B (.slice ao M.length cap) M) (hN : M.length ≤ 2513169434843) :
    Calls Try.prog 24 #[.slice ao M.length cap, .int .i64 t] w fun e w' => ∃ vC vW, e = .returned (.tuple #[vC, vW]) ∧ PtI w vC (M.filter fun c => dueP t c.p) vW (M.filter fun c => !dueP t c.p) w' := by
  have HR := hide hr
  clear hr
  go_enter Try.func24, Try.ntmps24
  go_wp2_with fail
  go_loopg [4, 5, 10] M.length (fun r vC vW is wr => ∃ i : Nat, i ≤ M.length ∧ M.length - i ≤ r ∧ is = .int .i64 (i : Int) ∧ Hid (PtI w vC ((M.take i).filter fun c => dueP t c.p) vW ((M.take i).filter fun c => !dueP t c.p) wr))
  case atStart => exact ⟨0, Nat.zero_le _, by omega, rfl, hide ⟨World.ownsRow_nil _ _ _ _, World.ownsRow_nil _ _ _ _, fun k h => by (cases h), Below.refl _ _⟩⟩
  case round =>
    obtain ⟨i, hi, hr, rfl, HI⟩ := hrel
    by_cases hin : i < M.length
    · have hinz : (i : Int) < (M.length : Int) := by omega
      have hc := List.getElem?_eq_getElem hin
      obtain ⟨c, ec⟩ : ∃ c, c = M[i] := ⟨_, rfl⟩
      rw [← ec] at hc
      obtain ⟨g, rfl⟩ := own_some (unhide HR) (by omega)
      have hq := ((unhide HR).at hc).below (show Below w.heap.size w wr from (unhide HI).2.2.2)
      obtain ⟨p0, p1, p2, p3, p4⟩ := hq
      simp only [Nat.zero_add] at p0 p1 p2 p3 p4
      have TK1 := hide (show (M.take (i + 1)).filter (fun c => dueP t c.p) = (M.take i).filter (fun c => dueP t c.p) ++ [c].filter (fun c => dueP t c.p) by rw [List.take_add_one, hc, ← List.filter_append]; rfl)
      have TK2 := hide (show (M.take (i + 1)).filter (fun c => !dueP t c.p) = (M.take i).filter (fun c => !dueP t c.p) ++ [c].filter (fun c => !dueP t c.p) by rw [List.take_add_one, hc, ← List.filter_append]; rfl)
      have hl1 : ((M.take i).filter (fun c => dueP t c.p)).length ≤ 2513169434843 := Nat.le_trans (List.length_filter_le ..) (by rw [List.length_take]; omega)
      have hl2 : ((M.take i).filter (fun c => !dueP t c.p)).length ≤ 2513169434843 := Nat.le_trans (List.length_filter_le ..) (by rw [List.length_take]; omega)
      obtain ⟨X1, eX1⟩ : ∃ X, X = (M.take i).filter (fun c => dueP t c.p) := ⟨_, rfl⟩
      obtain ⟨X2, eX2⟩ : ∃ X, X = (M.take i).filter (fun c => !dueP t c.p) := ⟨_, rfl⟩
      rw [← eX1, ← eX2] at HI
      rw [← eX1] at TK1 hl1
      rw [← eX2] at TK2 hl2
      clear eX1 eX2
      obtain ⟨⟨fr, tt, du, se, ds⟩, ba, bc⟩ := c
      unfold lpV at p4
      dsimp only at p0 p1 p2 p3 p4
      obtain ⟨w2, e2, m2, k2, s2⟩ := pv_alloc wr ⟨fr, tt, du, se, ds⟩ (.slice ba ds.length bc)
      dsimp only at e2
      obtain ⟨w3, e3, m3, k3, s3⟩ := pv_alloc w2 ⟨fr, tt, du, se, ds⟩ (.slice ba ds.length bc)
      dsimp only at e3
      have H3 := hide (((unhide HI).below k2).below k3)
      have P3 := hide m3.pc
      obtain ⟨d0, d1, d2, d3, d4⟩ := m2.pc
      dsimp only at d0 d1 d2 d3
      rw [e2] at d0 d1 d2 d3 d4
      have E3 := hide (show w3 = (wr.alloc (.cells #[.int .i64 fr, .int .i64 tt, .int .i64 du, .int .i64 se, .slice ba ds.length bc] 32)).alloc (.cells #[.int .i64 fr, .int .i64 tt, .int .i64 du, .int .i64 se, .slice ba ds.length bc] 32) by rw [e3, e2])
      have S2 := hide s2; have SZ3 := hide (show w3.heap.size = wr.heap.size + 1 + 1 by omega)
      clear e2 e3 m2 m3 k2 k3 s2 s3 hc ec HI
      by_cases hd : du ≤ t
      · have F1 := hide (show [(⟨⟨fr, tt, du, se, ds⟩, ba, bc⟩ : Lp)].filter (fun c => dueP t c.p) = [⟨⟨fr, tt, du, se, ds⟩, ba, bc⟩] by simp [dueP, hd])
        have F2 := hide (show [(⟨⟨fr, tt, du, se, ds⟩, ba, bc⟩ : Lp)].filter (fun c => !dueP t c.p) = [] by simp [dueP, hd])
        go_wp2_with (at_builtin; refine wpList_joinW _ rfl _ _ rfl w.heap.size (by rw [← unhide E3]; exact (unhide H3).2.2.2.size) _ X1 rfl (by rw [← unhide E3]; exact (unhide H3).1) (wr.heap.size + 1) ⟨⟨fr, tt, du, se, ds⟩, ba, bc⟩ rfl (by rw [← unhide E3, ← unhide S2]; exact unhide P3) hl1 ?_)
        intro v6 w6 o6 g6 b6 k6
        have g7 : w3.grownBy w6 u4.ownBlock := by rw [unhide E3]; exact g6
        have k7 : Below w.heap.size w3 w6 := by rw [unhide E3]; exact k6
        have b7 : ∀ k, v6.ownBlock = some k → u4.ownBlock = some k ∨ w3.heap.size ≤ k := fun k hk => by
          rcases b6 k hk with e | e
          · exact Or.inl e
          · refine Or.inr ?_
            rw [unhide SZ3]
            simpa using e
        have H6 := hide ((unhide H3).come o6 g7 b7 k7)
        clear g7 b7 k7
        clear o6 g6 b6 k6 d0 d1 d2 d3 d4
        go_wp2_with fail
        go_roundg (M.length - (i + 1))
        case measure => omega
        case rel => exact ⟨i + 1, by omega, by omega, by go_num, hide (by rw [unhide TK1, unhide TK2, unhide F1, unhide F2, List.append_nil]; exact unhide H6)⟩
      · have F1 := hide (show [(⟨⟨fr, tt, du, se, ds⟩, ba, bc⟩ : Lp)].filter (fun c => dueP t c.p) = [] by simp [dueP, hd])
        have F2 := hide (show [(⟨⟨fr, tt, du, se, ds⟩, ba, bc⟩ : Lp)].filter (fun c => !dueP t c.p) = [⟨⟨fr, tt, du, se, ds⟩, ba, bc⟩] by simp [dueP, hd])
        go_wp2_with (at_builtin; refine wpList_joinW _ rfl _ _ rfl w.heap.size (by rw [← unhide E3]; exact (unhide H3).2.2.2.size) _ X2 rfl (by rw [← unhide E3]; exact (unhide H3).2.1) (wr.heap.size + 1) ⟨⟨fr, tt, du, se, ds⟩, ba, bc⟩ rfl (by rw [← unhide E3, ← unhide S2]; exact unhide P3) hl2 ?_)
        intro v6 w6 o6 g6 b6 k6
        have g7 : w3.grownBy w6 u5.ownBlock := by rw [unhide E3]; exact g6
        have k7 : Below w.heap.size w3 w6 := by rw [unhide E3]; exact k6
        have b7 : ∀ k, v6.ownBlock = some k → u5.ownBlock = some k ∨ w3.heap.size ≤ k := fun k hk => by
          rcases b6 k hk with e | e
          · exact Or.inl e
          · refine Or.inr ?_
            rw [unhide SZ3]
            simpa using e
        have H6 := hide ((unhide H3).swap.come o6 g7 b7 k7).swap
        clear g7 b7 k7
        clear o6 g6 b6 k6 d0 d1 d2 d3 d4
        go_wp2_with fail
        go_roundg (M.length - (i + 1))
        case measure => omega
        case rel => exact ⟨i + 1, by omega, by omega, by go_num, hide (by rw [unhide TK1, unhide TK2, unhide F1, unhide F2, List.append_nil]; exact unhide H6)⟩
    · have hinz : ¬ (i : Int) < (M.length : Int) := by omega
      have H9 : Hid (PtI w u4 (M.filter fun c => dueP t c.p) u5 (M.filter fun c => !dueP t c.p) wr) := hide (by have := unhide HI; rw [List.take_of_length_le (by omega)] at this; exact this)
      clear HI
      go_wp2_with fail
      refine bodyPost_ret (v := .tuple #[u4, u5]) (by simp [results, Try.results24, go_sem]) rfl ⟨u4, u5, rfl, unhide H9⟩

end Go.Proofs.Ythjeedlhlkggkab
