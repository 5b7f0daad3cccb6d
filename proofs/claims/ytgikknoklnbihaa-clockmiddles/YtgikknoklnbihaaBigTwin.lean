/- Contracts of the reference's whole numbers of any size: twin, Set. -/
import Derived.Test.YtgikknoklnbihaaBigShift
import Derived.Laws.AppendOwnNone
namespace Go.Proofs.Ytgikknoklnbihaa
open Go.RowKit

/-- What an append to nothing owns is a slice of words. -/
theorem sl_of_owns {w : World} {base n : Nat} {v : Value} {f : Nat → Int} {xs : List Value} (h : w.ownsRow base 66 1 v n xs) (hx : ∀ i, i < n → xs[i]? = some (.int .u32 (f i))) : Sl w v n f := by
  have h0 := h
  obtain ⟨hl, h1⟩ := h
  rcases h1 with ⟨rfl, rfl⟩ | ⟨g, cap, cur, rfl, hg, hh, hc, hm, hsz, hcur⟩
  · exact Or.inl ⟨rfl, rfl⟩
  · exact Or.inr ⟨g, cap, rfl, hc, hm, lt_of_block hh, fun i hi => by rw [h0.cellAt i (by omega)]; exact hx i hi⟩
theorem below_of_grown {w w' : World} (h : w.grownBy w' none) : Below w.heap.size w w' := ⟨h.os, h.tape, h.output, h.size, fun k hk => h.block k hk (by simp)⟩

set_option maxHeartbeats 400000 in
theorem twin_words (va : Value) (n : Nat) (f : Nat → Int) (hn : n ≤ 100000) (w : World) (ha : Sl w va n f) :
    Calls Try.prog 66 #[va] w fun e w' => ∃ v : Value, e = .returned v ∧ Sl w' v n f ∧ Below w.heap.size w w' := by
  obtain ⟨i0, hi, hz0, hz1, hz2⟩ := info_parts Try.infoU32
  rcases ha with ⟨rfl, rfl⟩ | ⟨b, cap, rfl, h1, h2, h3, h4⟩
  · go_enter Try.func66, Try.ntmps66
    go_wp2_with (at_builtin; refine wpList_append_own_none rfl _ _ 53 rfl w.heap.size 66 i0 1 Try.underlying53 hi (.slice none 0 0) 0 [] rfl (World.ownsRow_nil _ _ _ _) rfl ?_)
    go_ret
    exact ⟨_, rfl, Or.inl ⟨rfl, rfl⟩, Below.refl _ _⟩
  · have HR := hide h4
    have hnews : ∀ (j : Nat) (u : Value), ((List.range n).map (fun i => Value.int .u32 (f i)))[j]? = some u → w.cell? ((⟨b, 0, none⟩ : Addr).add j) = some u := by
      intro j u hj
      rw [List.getElem?_map] at hj
      rcases Nat.lt_or_ge j n with h | h
      · rw [List.getElem?_range h] at hj
        have := h4 j h
        simp at hj
        subst hj
        have e : (⟨b, 0, none⟩ : Addr).add j = ⟨b, j, none⟩ := by unfold Addr.add; by_cases hj0 : j = 0 <;> simp [hj0]
        rw [e]; exact this
      · rw [List.getElem?_eq_none (by simpa using h)] at hj
        cases hj
    have h1c : ∀ u ∈ (List.range n).map (fun i => Value.int .u32 (f i)), u.oneCell' = true := by
      intro u hu
      obtain ⟨i, _, rfl⟩ := List.mem_map.1 hu
      rfl
    have hx : ∀ i, i < n → ((List.range n).map (fun i => Value.int .u32 (f i)))[i]? = some (.int .u32 (f i)) := by
      intro i hi
      rw [List.getElem?_map, List.getElem?_range hi]; rfl
    have HX := hide hx; have H1C := hide h1c; have HNW := hide hnews
    have hlen : Hid (((List.range n).map (fun i => Value.int .u32 (f i))).length = n * 1) := by show _ = _; simp
    clear h4 hnews h1c hx
    generalize (List.range n).map (fun i => Value.int .u32 (f i)) = news at *
    go_enter Try.func66, Try.ntmps66
    go_wp2_with (at_builtin; refine wpList_append_own _ rfl _ _ 53 rfl w.heap.size 66 i0 (.int .u32 0) 1 4 Try.underlying53 hi hz0 hz1 hz2 rfl (by decide) (.slice none 0 0) 0 [] rfl (World.ownsRow_nil _ _ _ _) ⟨b, 0, none⟩ n cap news rfl (unhide hlen) (unhide HNW) (unhide H1C) (by unfold maxLen; omega) (by omega) (Nat.le_refl _) ?_)
    intro v' w1 hown hgr hnil
    have F := hide (show Sl w1 v' n f ∧ Below w.heap.size w w1 from by
      exact ⟨sl_of_owns hown (unhide HX), below_of_grown hgr⟩)
    clear hown hgr hnil
    go_wp2_with fail
    go_ret
    exact ⟨_, rfl, unhide F⟩

set_option maxHeartbeats 1000000 in
theorem set_any (z bx : Nat) (x : Int) (s0 : Bool) (v0 : Value) (w : World) (hz : IntAt w z (.bool s0) v0) (hx : Num w bx x) (dx : Bd x) :
    Calls Try.prog 50 #[.pointer (some ⟨z, 0, none⟩), .pointer (some ⟨bx, 0, none⟩)] w fun e w' =>
      e = .returned (.pointer (some ⟨z, 0, none⟩)) ∧ Num w' z x ∧ Kept z w w' := by
  obtain ⟨xn, xv, n, fa, hx1, hx2, hx3, hx4, hx5, hx6⟩ := hx
  have hn : n ≤ 100 := by
    unfold Bd at dx
    rw [hx5, absZ_sgn (val_bd hx3).1] at dx
    exact len_le hx3 hx4 dx
  have c1 := hx1.cell0; have c2 := hx1.cell1
  have HX2 := hide hx2; have HX3 := hide hx3; have HX4 := hide hx4
  have E := hide hx5
  have HZ := hide hz
  obtain ⟨ao, capa, rfl, -, -, -⟩ := hx2.view
  clear hx1 hx2 hx3 hx4 hx5 hx6 hz dx
  go_enter Try.func50, Try.ntmps50
  go_wp2_with fail
  refine region_by (S := One bx (.bool xn) (.slice ao n capa))
    [(0, false), (1, false), (2, false), (3, false), (4, false), (5, false), (6, false), (7, false), (8, false), (9, true), (10, true), (11, true)] [10, 11] (by kernel_rfl) (by kernel_rfl) ?_
  have hS : One bx (.bool xn) (.slice ao n capa) w.drew := ⟨c1, c2⟩
  clear c1 c2
  iterate 9
    refine seq_read (v := ?_) rfl (fun _ _ _ h => h) (by rfl) hS ?_ ?_
    rotate_left 1
    · intro wx hwx
      obtain ⟨k1, k2⟩ := hwx
      go_simp <;> exact rfl
    go_frame
  refine seq_do rfl (fun K hK => ?_)
  go_simp
  refine (twin_words _ n fa (by omega) _ (by exact unhide HX2)).mono ?_
  rintro e w1 ⟨v, rfl, h2, h6⟩
  have H2 := hide h2; have H6 := hide h6
  obtain ⟨vo, cap, rfl, -, -, -⟩ := h2.view
  have hS1 := hS.below h6
  refine hK _ _ (fun _ => hS1) ?_
  clear hS hK K h2 h6 hS1
  refine seq_do rfl (fun K hK => ?_)
  go_simp
  refine (give_any z _ _ _ _ _ _ _ (IntAt.below (w := w.drew) (unhide HZ) (unhide H6))).mono ?_
  rintro e w2 ⟨rfl, g1, g2⟩
  refine hK _ _ (fun h => by cases h) ?_
  have F := hide (show Num w2 z x ∧ Kept z w w2 from by
    have hsl := (unhide H2).other g2 (IntAt.below (w := w.drew) (unhide HZ) (unhide H6))
    have hnum := num_of_give g1 hsl (unhide HX3) (unhide HX4)
    rw [← unhide E] at hnum
    exact ⟨hnum, (Kept.of_below (show Below w.heap.size w w1 from ((Drw.refl w).drew.below _).trans (unhide H6))).trans g2 (Or.inl rfl)⟩)
  clear g1 g2 hK K
  refine seq_do rfl (fun K hK => ?_)
  go_simp
  refine hK _ _ (fun h => by cases h) ?_
  clear hK K
  refine seq_end ?_
  go_wp2_with fail
  go_ret
  exact ⟨rfl, (unhide F).1, (unhide F).2⟩

end Go.Proofs.Ytgikknoklnbihaa
