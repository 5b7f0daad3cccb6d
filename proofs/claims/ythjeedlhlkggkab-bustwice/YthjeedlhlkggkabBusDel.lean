/- slices.Delete of one parcel. -/
import Derived.Test.YthjeedlhlkggkabBusFnd
import Derived.Laws.IdiomCopy
namespace Go.Proofs.Ythjeedlhlkggkab
open Go.RowKit

theorem run_midP {f : Operand → Value} {o : Oper} (x y z : Operand) (ho : o.op = .slice 23 x (some y) (some z) none) {g n c m h : Nat} (hx : f x = .slice (some ⟨g, 0, none⟩) n c) (hy : f y = .int .i64 ((m : Nat) : Int)) (hz : f z = .int .i64 ((h : Nat) : Int)) (h1 : m < h) (h2 : h ≤ m + 1) (h3 : h ≤ c) (w : World) :
    (execOp f o).run Try.prog w = .ok (.value (.slice (some ⟨g, m * 5, none⟩) 1 (c - m))) w := by
  have q1 : (m : Int) ≤ (h : Int) := by omega
  have q2 : (h : Int) ≤ (c : Int) := by omega
  have q3 : h - m = 1 := by omega
  have q4 : ¬ m = c := by omega
  unfold execOp
  rw [ho]
  dsimp only
  rw [hx]
  go_simp
  intro e; omega
theorem run_lenD {f : Operand → Value} {o : Oper} (x : Operand) (ho : o.op = .call { callee := .builtin .len, args := #[x], argTypes := #[23] }) {ao : Option Addr} {n c : Nat} (hx : f x = .slice ao n c) (w : World) : (execOp f o).run Try.prog w = .ok (.value (.int .i64 ((n : Nat) : Int))) w := by
  unfold execOp
  rw [ho]
  dsimp only
  go_simp
def zP : List Value := [.int .i64 0, .int .i64 0, .int .i64 0, .int .i64 0, .slice none 0 0]
theorem take_sets (cur : Array Value) (o m : Nat) (v0 v1 v2 v3 v4 : Value) (h : m ≤ o) : (((((cur.setIfInBounds o v0).setIfInBounds (o + 1) v1).setIfInBounds (o + 2) v2).setIfInBounds (o + 3) v3).setIfInBounds (o + 4) v4).toList.take m = cur.toList.take m := by
  refine List.ext_getElem? fun j => ?_
  by_cases hj : j < m
  · rw [List.getElem?_take_of_lt hj, List.getElem?_take_of_lt hj, Array.getElem?_toList, Array.getElem?_toList]
    simp only [Array.getElem?_setIfInBounds]
    rw [if_neg (by omega), if_neg (by omega), if_neg (by omega), if_neg (by omega), if_neg (by omega)]
  · rw [List.getElem?_take_eq_none (by omega), List.getElem?_take_eq_none (by omega)]
theorem wp_clearP (w : World) {o : Oper} {a : Act} {K : Act → World → Prop} {Q : Exit → Act → World → Prop} (x : Operand) (ho : o.op = .call { callee := .builtin .clear, args := #[x], argTypes := #[23] }) {g cap n m c B : Nat} {M : List Lp} (hx : a.eval x = .slice (some ⟨g, m * 5, none⟩) 1 c) (hR : RowP w B (.slice (some ⟨g, 0, none⟩) n cap) M) (hn : n = M.length) (hm : M.length ≤ m) (hm2 : m < cap) (_hd : o.dst = none)
    (h : ∀ w', RowP w' B (.slice (some ⟨g, 0, none⟩) n cap) M → Kept g w w' → K a w') : WpI Try.prog o a w K Q := by
  subst hn
  rcases hR.2 with ⟨e, _⟩ | ⟨g', c', cur, e, hb, hg, h1, h2, h3, h4⟩
  · cases e
  · cases e
    have g0 := heap_setCell_same w g (m * 5) _ _ (.int .i64 0) hg
    have g1 := heap_setCell_same _ g (m * 5 + 1) _ _ (.int .i64 0) g0
    have g2 := heap_setCell_same _ g (m * 5 + 2) _ _ (.int .i64 0) g1
    have g3 := heap_setCell_same _ g (m * 5 + 3) _ _ (.int .i64 0) g2
    have g4 := heap_setCell_same _ g (m * 5 + 4) _ _ (.slice none 0 0) g3
    have hh := h _ ⟨lpL_len _, Or.inr ⟨g, cap, _, rfl, hb, g4, h1, h2, by simp [h3], by rw [take_sets _ _ _ _ _ _ _ _ (by omega)]; exact h4⟩⟩ (((((kept_set w g (m * 5) _).trans (kept_set _ g (m * 5 + 1) _) (Or.inl rfl)).trans (kept_set _ g (m * 5 + 2) _) (Or.inl rfl)).trans (kept_set _ g (m * 5 + 3) _) (Or.inl rfl)).trans (kept_set _ g (m * 5 + 4) _) (Or.inl rfl))
    have hcell : ∀ j, j < 5 → (w.cell? ⟨g, m * 5 + (j + 0), none⟩).isSome = true := fun j hj => by
      unfold World.cell?
      rw [hg]
      have : m * 5 + j < cur.size := by omega
      simp [this]
    have hfree : ∀ j, j < 5 → w.frozen? ⟨g, m * 5 + (j + 0), none⟩ = false := fun j hj => by simp [World.frozen?, hg]
    have hst := run_storeCells_cells (P := Try.prog) g (m * 5) zP 0 w (fun j hj => by simpa using hcell j hj) (fun j hj => by simpa using hfree j hj) (by intro v hv; simp only [zP, List.mem_cons, List.not_mem_nil, or_false] at hv; rcases hv with rfl | rfl | rfl | rfl | rfl <;> rfl)
    have hc : (Builtin.clear_ #[23] o.type #[.slice (some ⟨g, m * 5, none⟩) 1 c]).run Try.prog w = .ok (.tuple #[]) (w.setCells g (m * 5) zP) := by
      have hz : (Builtin.zeroCells #[Value.int .i64 0, Value.int .i64 0, Value.int .i64 0, Value.int .i64 0, Value.slice none 0 0] 1).toList = zP := by kernel_rfl
      simp only [Nat.add_zero] at hst
      simp [Builtin.clear_, go_sem, hz, hst]
    refine ⟨?_⟩
    unfold Oper.wp execOp
    rw [ho]
    simp only [resolve, invoke, Sem.run_bind, List.map_toArray, List.map_cons, List.map_nil, hx]
    go_simp
    exact hh

set_option maxHeartbeats 2000000 in
theorem delete_any (B g cap i : Nat) (M : List Lp) (w : World) (hr : RowP w B (.slice (some ⟨g, 0, none⟩) M.length cap) M) (hi : i < M.length) (hN : M.length ≤ 2513169434843) :
    Calls Try.prog 21 #[.slice (some ⟨g, 0, none⟩) M.length cap, .int .i64 (i : Nat), .int .i64 (i + 1 : Nat)] w fun e w' => e = .returned (.slice (some ⟨g, 0, none⟩) (M.length - 1) cap) ∧ RowP w' B (.slice (some ⟨g, 0, none⟩) (M.length - 1) cap) (M.eraseIdx i) ∧ Kept g w w' := by
  have hcap : M.length ≤ cap := by
    obtain ⟨_, c2, e, hl⟩ := ownS_slice hr
    cases e
    exact hl
  have HR := hide hr
  clear hr
  have z1 : (i : Int) + 1 ≤ (M.length : Int) := by omega
  have z2 : (M.length : Int) ≤ (cap : Int) := by omega
  have z3 : ¬ (i : Int) = ((i + 1 : Nat) : Int) := by omega
  have z3b : ((i : Int) == ((i + 1 : Nat) : Int)) = false := beq_eq_false_iff_ne.2 z3
  have z4 : (i : Int) ≤ ((i + 1 : Nat) : Int) := by omega
  have z5 : ((i + 1 : Nat) : Int) ≤ (M.length : Int) := by omega
  obtain ⟨j, hj1, hj2⟩ : ∃ j : Nat, j ≤ i + 1 ∧ i + 1 ≤ j := ⟨i + 1, Nat.le_refl _, Nat.le_refl _⟩
  rw [show i + 1 = j by omega] at z3 z3b z4 z5 ⊢
  go_enter Try.func21, Try.ntmps21
  go_upto_region 5 with fail
  refine wp_leaves (fun a0 a' w' => RowP w' B (.slice (some ⟨g, 0, none⟩) (M.length - 1) cap) (M.eraseIdx i) ∧ Kept g w w' ∧ a' = ((((((((a0.put (some 20) (.slice (some ⟨g, 0, none⟩) M.length cap)).put (some 21) (.int .i64 (i : Nat))).put (some 22) (.slice (some ⟨g, 0, none⟩) i cap)).put (some 23) (.slice (some ⟨g, 0, none⟩) M.length cap)).put (some 24) (.int .i64 (i + 1 : Nat))).put (some 25) (.slice (some (lowA g 0 (i + 1) cap)) (M.length - (i + 1)) (cap - (i + 1)))).put (some 26) (.slice (some ⟨g, 0, none⟩) (M.length - 1) cap)).put (some 0) (.slice (some ⟨g, 0, none⟩) (M.length - 1) cap))) ?reg ?rest
  case reg =>
    intro A eA
    have b0 : A.eval (.tmp 0) = .slice (some ⟨g, 0, none⟩) M.length cap := by rw [eA]; rfl
    have b1 : A.eval (.tmp 1) = .int .i64 (i : Nat) := by rw [eA]; rfl
    have b2 : A.eval (.tmp 2) = .int .i64 (i + 1 : Nat) := by rw [eA, show i + 1 = j by omega]; rfl
    have hs : 33 ≤ A.tmps.size := by rw [eA]; exact of_decide_eq_true rfl
    clear eA
    have hR : RowP w.drew B (.slice (some ⟨g, 0, none⟩) M.length cap) M := unhide HR
    refine region_I (S := fun _ => True) (.rd 0 (.rd 1 (.rd 2 (.rd 3 (.rd 4 (.rd 5 (.go 6 (.rd 7 .fin)))))))) [] (by kernel_rfl) (by kernel_rfl) ?_
    refine sI_read (v := (.slice (some ⟨g, 0, none⟩) M.length cap)) rfl (fun _ _ _ h => absurd h.1 (fun e => nomatch e)) (wanted_rd rfl) trivial (fun wx _ => run_move (.tmp 0) rfl b0 wx) ?_
    show SeqI _ _ _ _ _ _ (Act.put _ (some 20) _) _
    refine sI_read (v := (.int .i64 (i : Nat))) rfl (fun _ _ _ h => absurd h.1 (fun e => nomatch e)) (wanted_rd rfl) trivial (fun wx _ => run_move (.tmp 1) rfl ((ev_other _ _ (by decide)).trans b1) wx) ?_
    show SeqI _ _ _ _ _ _ (Act.put _ (some 21) _) _
    refine sI_read (v := (.slice (some ⟨g, 0, none⟩) i cap)) rfl (fun _ _ _ h => absurd h.1 (fun e => nomatch e)) (wanted_rd rfl) trivial (fun wx _ => run_topP (.tmp 20) (.tmp 21) rfl ((ev_other _ _ (by decide)).trans (ev_same _ _ _ (by omega))) (ev_same _ _ _ (by simp only [sz_put]; omega)) (by omega) (by omega) wx) ?_
    show SeqI _ _ _ _ _ _ (Act.put _ (some 22) _) _
    refine sI_read (v := (.slice (some ⟨g, 0, none⟩) M.length cap)) rfl (fun _ _ _ h => absurd h.1 (fun e => nomatch e)) (wanted_rd rfl) trivial (fun wx _ => run_move (.tmp 0) rfl ((ev_other _ _ (by decide)).trans ((ev_other _ _ (by decide)).trans ((ev_other _ _ (by decide)).trans b0))) wx) ?_
    show SeqI _ _ _ _ _ _ (Act.put _ (some 23) _) _
    refine sI_read (v := (.int .i64 (i + 1 : Nat))) rfl (fun _ _ _ h => absurd h.1 (fun e => nomatch e)) (wanted_rd rfl) trivial (fun wx _ => run_move (.tmp 2) rfl ((ev_other _ _ (by decide)).trans ((ev_other _ _ (by decide)).trans ((ev_other _ _ (by decide)).trans ((ev_other _ _ (by decide)).trans b2)))) wx) ?_
    show SeqI _ _ _ _ _ _ (Act.put _ (some 24) _) _
    refine sI_read (v := (.slice (some (lowA g 0 (i + 1) cap)) (M.length - (i + 1)) (cap - (i + 1)))) rfl (fun _ _ _ h => absurd h.1 (fun e => nomatch e)) (wanted_rd rfl) trivial (fun wx _ => run_lowP (.tmp 23) (.tmp 24) rfl ((ev_other _ _ (by decide)).trans (ev_same _ _ _ (by simp only [sz_put]; omega))) (ev_same _ _ _ (by simp only [sz_put]; omega)) (by omega) (by omega) wx) ?_
    show SeqI _ _ _ _ _ _ (Act.put _ (some 25) _) _
    refine sI_do rfl (wanted_rd rfl) (fun K hK => ?_)
    refine ⟨wp_cutP _ (.tmp 22) (.tmp 25) rfl B g cap i M (by omega) (by omega) ((ev_other _ _ (by decide)).trans ((ev_other _ _ (by decide)).trans ((ev_other _ _ (by decide)).trans (ev_same _ _ _ (by simp only [sz_put]; omega))))) (ev_same _ _ _ (by simp only [sz_put]; omega)) hR ?_⟩
    intro wy r6 g6
    refine hK _ _ (fun _ => trivial) ?_
    clear hK K
    show SeqI _ _ _ _ _ _ (Act.put _ (some 26) _) _
    refine sI_read (v := (.slice (some ⟨g, 0, none⟩) (M.length - 1) cap)) rfl (fun _ _ _ h => absurd h.1 (fun e => nomatch e)) (wanted_rd rfl) trivial (fun wx _ => run_assign (.tmp 26) rfl (ev_same _ _ _ (by simp only [sz_put]; omega)) wx) ?_
    show SeqI _ _ _ _ _ _ (Act.put _ (some 0) _) _
    exact sI_end ⟨rfl, r6, ⟨g6.os, g6.tape, g6.output, g6.size, fun k hk hn => g6.block k hk (fun e => by cases e; exact hn rfl)⟩, rfl⟩
  case rest =>
    rintro a' w6 ⟨r6, k6, rfl⟩
    have R6 := hide r6; have K6 := hide k6
    clear r6 k6
    go_frame
    go_upto_region 6 with fail
    refine wp_leaves (fun a0 a' w' => RowP w' B (.slice (some ⟨g, 0, none⟩) (M.length - 1) cap) (M.eraseIdx i) ∧ Kept g w6 w' ∧ a' = (((((a0.put (some 27) (.slice (some ⟨g, 0, none⟩) (M.length - 1) cap)).put (some 28) (.slice (some ⟨g, 0, none⟩) (M.length - 1) cap)).put (some 29) (.int .i64 ((M.length - 1 : Nat) : Int))).put (some 30) (.int .i64 ((M.length : Nat) : Int))).put (some 31) (.slice (some ⟨g, (M.length - 1) * 5, none⟩) 1 (cap - (M.length - 1))))) ?reg ?rest
    case reg =>
      intro A eA
      have b0 : A.eval (.tmp 0) = .slice (some ⟨g, 0, none⟩) (M.length - 1) cap := by rw [eA]; rfl
      have b7 : A.eval (.tmp 7) = .int .i64 ((M.length : Nat) : Int) := by rw [eA]; rfl
      have hs : 33 ≤ A.tmps.size := by rw [eA]; exact of_decide_eq_true rfl
      clear eA
      have hR := unhide R6
      have el : (M.eraseIdx i).length = M.length - 1 := List.length_eraseIdx_of_lt hi
      refine region_L ?_
      refine l_mv (v := (.slice (some ⟨g, 0, none⟩) (M.length - 1) cap)) (wanted_rd rfl) (run_move (.tmp 0) rfl b0 _) ?_
      show LstI _ _ _ _ (Act.put _ (some 27) _) _
      refine l_mv (v := (.slice (some ⟨g, 0, none⟩) (M.length - 1) cap)) (wanted_rd rfl) (run_move (.tmp 0) rfl ((ev_other _ _ (by decide)).trans b0) _) ?_
      show LstI _ _ _ _ (Act.put _ (some 28) _) _
      refine l_mv (v := (.int .i64 ((M.length - 1 : Nat) : Int))) (wanted_rd rfl) (run_lenD (.tmp 28) rfl (ev_same _ _ _ (by simp only [sz_put]; omega)) _) ?_
      show LstI _ _ _ _ (Act.put _ (some 29) _) _
      refine l_mv (v := (.int .i64 ((M.length : Nat) : Int))) (wanted_rd rfl) (run_move (.tmp 7) rfl ((ev_other _ _ (by decide)).trans ((ev_other _ _ (by decide)).trans ((ev_other _ _ (by decide)).trans b7))) _) ?_
      show LstI _ _ _ _ (Act.put _ (some 30) _) _
      refine l_mv (v := (.slice (some ⟨g, (M.length - 1) * 5, none⟩) 1 (cap - (M.length - 1)))) (wanted_rd rfl) (run_midP (.tmp 27) (.tmp 29) (.tmp 30) rfl ((ev_other _ _ (by decide)).trans ((ev_other _ _ (by decide)).trans ((ev_other _ _ (by decide)).trans (ev_same _ _ _ (by omega))))) ((ev_other _ _ (by decide)).trans (ev_same _ _ _ (by simp only [sz_put]; omega))) (ev_same _ _ _ (by simp only [sz_put]; omega)) (by omega) (by omega) (by omega) _) ?_
      show LstI _ _ _ _ (Act.put _ (some 31) _) _
      refine l_do (wanted_rd rfl) (fun K hK => ?_)
      refine wp_clearP _ (.tmp 31) rfl (ev_same _ _ _ (by simp only [sz_put]; omega)) hR el.symm (by omega) (by omega) rfl ?_
      intro w8 r8 k8
      refine hK _ _ ?_
      clear hK K
      exact l_end ⟨rfl, r8, k8, rfl⟩
    case rest =>
      rintro a' w7 ⟨r7, k7, rfl⟩
      have R7 := hide r7; have K7 := hide ((unhide K6).trans k7 (Or.inl rfl))
      clear r7 k7
      go_frame
      go_wp2_with fail
      go_ret
      exact ⟨rfl, unhide R7, unhide K7⟩

end Go.Proofs.Ythjeedlhlkggkab
