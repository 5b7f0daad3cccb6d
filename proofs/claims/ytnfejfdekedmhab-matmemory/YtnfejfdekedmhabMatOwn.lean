/- Contracts: own and same of the statements' packages. -/
import Derived.Test.YtnfejfdekedmhabOpenMat
import Derived.Test.YtnfejfdekedmhabMatFaceT
import Derived.Laws.AppendOwnNone
namespace Go.Proofs.Ytnfejfdekedmhab
open Go.RowKit

theorem MbAt.put1 {w : World} {b : Nat} {N : Int} {v : Value} (h : MbAt w b N v) (u : Value) :
    ∃ w', w' = w.setCell ⟨b, 1, none⟩ u ∧ MbAt w' b N u ∧ Kept b w w' := by
  refine ⟨_, rfl, ?_, kept_set w b 1 _⟩
  unfold MbAt at h ⊢
  exact heap_setCell_same w b 1 _ _ u h
theorem mb_alloc (w : World) (N : Int) (v : Value) : ∃ w1, w1 = w.alloc (.cells #[.int .i64 N, v] 24) ∧ MbAt w1 w.heap.size N v ∧ Below w.heap.size w w1 ∧ w1.heap.size = w.heap.size + 1 :=
  ⟨_, rfl, MbAt.new w N v, al_below w _, al_size w _⟩

set_option maxHeartbeats 1000000 in
theorem ownK_any (N : Int) (ao : Option Addr) (len cap : Nat) (f : Nat → Int) (w : World) (ha : ArgS w ao len cap f) :
    Calls Try.prog 19 #[.agg #[.int .i64 N, .slice ao len cap]] w fun e w' =>
      ∃ (ao' : Option Addr) (cap' : Nat), e = .returned (.agg #[.int .i64 N, .slice ao' len cap']) ∧ Rds w' ao' len f ∧ Below w.heap.size w w' := by
  obtain ⟨i0, hi, hz0, hz1, hz2⟩ := info_parts infoInt
  obtain ⟨ha, hl, hf⟩ := ha
  obtain ⟨w1, e1, m0, m1, k1, s1⟩ := mat_two w N (.slice ao len cap)
  have c1 := m0.cell1
  have E1 := hide e1; have M0 := hide m0; have M1 := hide m1; have K1 := hide k1; have S1 := hide s1
  clear e1 m0 m1 k1 s1 hf
  rcases ha with ⟨rfl, rfl, rfl⟩ | ⟨x, rfl, hc⟩
  · clear c1
    go_enter Try.func19, Try.ntmps19
    go_wp2_with fail
    refine bodyPost_ret (v := .agg #[.int .i64 N, .slice none 0 0]) (by simp [results, Try.results19, go_sem]) rfl ⟨none, 0, rfl, fun h => absurd h (by omega), ?_⟩
    exact ((Below.refl _ _).alloc (Nat.le_refl _) _).alloc (by rw [al_size]; omega) _
  · have HC := hide (show ∀ (j : Nat) (u : Value), (rowL f len)[j]? = some u → w1.cell? (x.add j) = some u from by
      intro j u hj
      rcases Nat.lt_or_ge j len with h2 | h2
      · rw [rowL_at f h2] at hj; cases hj
        exact at_below (hc j h2) (unhide K1)
      · unfold rowL at hj; rw [List.getElem?_map, List.getElem?_eq_none (by simpa using h2)] at hj; cases hj)
    have H1 := hide (rowL_one f len); have HN := hide (rowL_len f len)
    have HX := hide (fun i (hi : i < len) => rowL_at f hi)
    clear hc
    generalize rowL f len = news at *
    clear c1
    go_enter Try.func19, Try.ntmps19
    go_wp2_with (at_builtin; refine wpList_append_own _ rfl _ _ 22 rfl w1.heap.size 3 i0 (.int .i64 0) 1 8 Try.underlying22 hi hz0 hz1 hz2 rfl (by decide) (.slice none 0 0) 0 [] rfl (World.ownsRow_nil _ _ _ _) x len cap news rfl (unhide HN) (by rw [← unhide E1]; exact unhide HC) (unhide H1) (by unfold maxLen; omega) (by omega) (by rw [← unhide E1]; exact Nat.le_refl _) ?_)
    intro v' w2 hown hgr hnil
    rw [← unhide E1] at hgr
    have hb2 : Below w1.heap.size w1 w2 := below_grown hgr (by intro k h; cases h)
    obtain ⟨ao', cap', rfl, hrd⟩ : ∃ ao' cap', v' = .slice ao' len cap' ∧ ((len = 0) ∨ ∃ r, ao' = some ⟨r, 0, none⟩ ∧ w1.heap.size ≤ r ∧ Nh w2 r len cap' f) := by
      rcases Nat.eq_zero_or_pos len with h0 | h0
      · subst h0
        rcases hown.2 with ⟨rfl, _⟩ | ⟨g, c, cur, rfl, _⟩
        · exact ⟨none, 0, rfl, Or.inl rfl⟩
        · exact ⟨_, c, rfl, Or.inl rfl⟩
      · obtain ⟨r, c, rfl, hr, hn⟩ := Nh.of_owns h0 hown (unhide HX)
        exact ⟨_, c, rfl, Or.inr ⟨r, rfl, hr, hn⟩⟩
    have m2 := (unhide M0).below hb2
    have n1 := (unhide M1).below hb2
    have d0 := m2.cell0; have d1 := m2.cell1; have f2 := m2.free 1; have g0 := n1.free 0; have g1 := n1.free 1; have q0 := n1.cell0; have q1 := n1.cell1
    have M2 := hide m2; have N1 := hide n1; have HRD := hide hrd
    have K2 := hide (show Below w.heap.size w w2 from (unhide K1).trans (Below.le hb2 (unhide K1).size))
    clear hown hgr hnil hb2 m2 n1 hrd
    go_wp2_with fail
    obtain ⟨w3, e3, m3, k3⟩ := (unhide M2).put1 (.slice ao' len cap')
    rw [← e3]
    obtain ⟨w4, e4, m4, k4⟩ := ((unhide N1).kept k3 (by omega)).put N (.slice ao' len cap')
    rw [← e4]
    have K3 := hide (below_of_kept (unhide K2) k3 (Nat.le_refl _) (unhide K2).size); have K3' := hide k3
    have p0 := m4.cell0; have p1 := m4.cell1
    have F := hide (show Rds w4 ao' len f ∧ Below w.heap.size w w4 from by
      refine ⟨?_, below_of_kept (unhide K3) k4 (by omega) (unhide K3).size⟩
      intro h0
      rcases unhide HRD with h | ⟨r, rfl, hr, hn⟩
      · omega
      · have hs := unhide S1
        exact ((hn.kept (unhide K3') (by omega)).kept k4 (by omega)).rds h0)
    clear e3 m3 k3 d0 d1 f2 e4 m4 k4 g0 g1 q0 q1
    go_wp2_with fail
    refine bodyPost_ret (v := .agg #[.int .i64 N, .slice ao' len cap']) (by simp [results, Try.results19, go_sem, p0, p1]) rfl ⟨ao', cap', rfl, (unhide F).1, (unhide F).2⟩

set_option maxHeartbeats 1000000 in
theorem same_yes (ao bo : Option Addr) (l ca cb : Nat) (f g : Nat → Int) (w : World) (hl : l ≤ 1000) (ha : Rds w ao l f) (hb : Rds w bo l g) (he : ∀ i, i < l → f i = g i) :
    Calls Try.prog 18 #[.slice ao l ca, .slice bo l cb] w fun e w' => e = .returned (.bool true) ∧ Below w.heap.size w w' := by
  have tl : ((l : Int) != (l : Int)) = false := by simp
  have HA := hide ha; have HB := hide hb; have HE := hide he
  clear ha hb he
  go_enter Try.func18, Try.ntmps18
  go_wp2_with fail
  go_loopw [5] (fun is wr => ∃ i : Nat, is = .int .i64 i ∧ i ≤ l ∧ Below w.heap.size w wr)
    (fun is _ => l - (intOf is).toNat)
  case atStart => exact ⟨0, rfl, Nat.zero_le _, Below.refl _ _⟩
  case round =>
    obtain ⟨i, rfl, hi, hK⟩ := hrel
    by_cases hin : i < l
    · obtain ⟨b, o, rfl, hc⟩ := unhide HA (by omega)
      obtain ⟨b2, o2, rfl, hc2⟩ := unhide HB (by omega)
      have c1 := at_below (hc i hin) hK
      have c2 := at_below (hc2 i hin) hK
      rw [unhide HE i hin] at c1
      have tg : ((g i) != (g i)) = false := by simp
      have HK := hide hK
      clear hK hc hc2
      go_wp2_with fail
      go_region
      go_wp2_with fail
      go_roundw
      case rel => exact ⟨i + 1, by go_num, by omega, below_drew (unhide HK)⟩
      case measure => simp [intOf] <;> omega
    · have hin2 : i = l := by omega
      subst hin2
      have HK := hide hK
      clear hK
      go_wp2_with fail
      go_ret
      exact ⟨rfl, unhide HK⟩

end Go.Proofs.Ytnfejfdekedmhab
