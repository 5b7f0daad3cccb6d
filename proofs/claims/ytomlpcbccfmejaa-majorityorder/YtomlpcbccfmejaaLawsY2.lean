/- The walk of MajorityOrder, whatever Majority is made of. -/
import Derived.Test.YtomlpcbccfmejaaAgrOK
import Derived.Test.YtomlpcbccfmejaaOpenRow
import Derived.Test.YtomlpcbccfmejaaSpot
import Derived.Test.YtomlpcbccfmejaaFrames
namespace Go.Proofs.Ytomlpcbccfmejaa
open Go.RowKit

theorem run_topX {f : Operand → Value} {o : Oper} (x y : Operand) (ho : o.op = .slice 22 x none (some y) none) {a : Addr} {n c m : Nat} (hx : f x = .slice (some a) n c) (hy : f y = .int .i64 (m : Nat)) (h1 : m ≤ n) (h2 : n ≤ c) (w : World) :
    (execOp f o).run Try.prog w = .ok (.value (.slice (some a) m c)) w := by
  have hm : (m : Int) ≤ (c : Int) := by omega
  unfold execOp
  rw [ho]
  dsimp only
  rw [hx]
  go_simp
theorem run_lowX {f : Operand → Value} {o : Oper} (x y : Operand) (ho : o.op = .slice 22 x (some y) none none) {b off n c m : Nat} (hx : f x = .slice (some ⟨b, off, none⟩) n c) (hy : f y = .int .i64 (m : Nat)) (h1 : m ≤ n) (h3 : m < c) (w : World) :
    (execOp f o).run Try.prog w = .ok (.value (.slice (some ⟨b, off + m, none⟩) (n - m) (c - m))) w := by
  unfold execOp
  rw [ho]
  dsimp only
  rw [hx]
  go_simp
  intro h; omega
theorem wp_callX (w : World) {P : Program} {Q : Exit → Act → World → Prop} {o : Oper} {a : Act} {K : Act → World → Prop} (n : Nat) (x y : Operand) (T : Array TypeId) (ho : o.op = .call { callee := .value (.func n), args := #[x, y], argTypes := T }) {v u : Value} (hx : a.eval x = v) (hy : a.eval y = u) (hf : (callFunc n #[v, u]).run P w = .ok (.enter n #[v, u]) w) {R : Ending → World → Prop} (hc : Calls P n #[v, u] w R)
    (h : ∀ e w', R e w' → ∃ r, e = .returned r ∧ K (a.put o.dst r) w') : WpI P o a w K Q := wp_call2 w n x y T ho hx hy hf hc h
theorem enter_maj (v u : Value) (w : World) : (callFunc 9 #[v, u]).run Try.prog w = .ok (.enter 9 #[v, u]) w := by go_simp
theorem fives_maj {m : Int} (h : IsMaj (fun _ => 5) 1 0 m) : m = 5 := maj_one h (Or.inl (by decide))
theorem sr_uno (w : World) (x : Int) : Sr (w.alloc (.cells #[.int .i64 x] 3)) (some ⟨w.heap.size, 0, none⟩) 1 1 (iF (fun _ => x)) := by
  have V := Vh.new w 3 #[.int .i64 x] (iF (fun _ => x)) (by show 1 ≤ maxLen; decide) (fun i hi => by
    have : i = 0 := by simp at hi; omega
    subst this; rfl)
  exact Or.inr ⟨_, rfl, fun i hi => by rw [Addr.add_lit, Nat.zero_add]; exact V.cell hi⟩
/-- A list that is turned round at k. -/
def rtF (f : Nat → Int) (n k : Nat) (i : Nat) : Int := if i < n - k then f (k + i) else f (i - (n - k))
theorem rt_row (f : Nat → Int) (n k : Nat) (hk : k ≤ n) : rowV (iF (fun i => f (k + i))) (n - k) ++ rowV (iF f) k = rowV (iF (rtF f n k)) n := by
  rw [rowV_append, show n - k + k = n by omega]
  refine rowV_congr (fun i hi => ?_)
  unfold iF rtF
  split <;> rfl
theorem rt_maj {f : Nat → Int} {n k : Nat} {other m : Int} (hk : k ≤ n) (h : IsMaj f n other m) : IsMaj (rtF f n k) n other m := by
  have e : IsMaj f (k + (n - k)) other m := by rw [show k + (n - k) = n by omega]; exact h
  have := maj_round (g := rtF f n k) (fun i hi => by unfold rtF; rw [if_pos hi]) (fun i hi => by unfold rtF; rw [if_neg (by omega), Nat.add_sub_cancel_left]) e
  rw [show n - k + k = n by omega] at this
  exact this

set_option maxRecDepth 100000 in
set_option maxHeartbeats 4000000 in
theorem majorityOrder_by (hMj : MjOK 9) {w : World} (ao : Option Addr) (n cap : Nat) (f : Nat → Int) (other at_ : Int) (ar : ArgS w ao n cap f) (rc : n ≤ cap) (ro : R64 other) (_ra : R64 at_) :
    Calls Try.prog 6 #[.slice ao n cap, .int .i64 other, .int .i64 at_] w fun e w' => e = .returned (.bool true) ∧ Below w.heap.size w w' := by
  obtain ⟨hs, hl, hf⟩ := ar
  have HS := hide (show Sr w ao n cap (iF f) from hs); have HF := hide hf; have HM := hide hMj; have RO := hide ro
  clear hs hf hMj ro
  go_enter Try.func6, Try.ntmps6
  go_wp2_with (at_builtin; refine wpList_joinI _ rfl _ _ rfl w.heap.size (Nat.le_refl _) (.slice none 0 0) 0 [] rfl (World.ownsRow_nil _ _ _ _) ao n cap (iF f) rfl (unhide HS) (fun i _ => rfl) (by omega) ?_)
  intro v1 w1 o1 k1
  try rw [Nat.zero_add] at o1
  try rw [List.nil_append] at o1
  obtain ⟨a1, c1, rfl, s1, n1⟩ := owns_sr o1
  have S1 := hide s1; have N1 := hide n1; have K1 := hide k1
  clear o1 s1 n1 k1
  go_wp2_with fail
  refine (unhide HM a1 n c1 f other _ (unhide HF) (unhide RO) hl (unhide N1) (unhide S1)).mono ?_
  rintro e w2 ⟨m, hm, rfl, k2⟩
  have K2 := hide (show Below w.heap.size w w2 from (unhide K1).trans (k2.mono (unhide K1).size)); have MM := hide hm
  clear k2 S1 N1 K1 hm
  by_cases h0 : n = 0
  · subst h0
    have em : m = other := by
      rcases unhide MM with h | ⟨_, h⟩
      · have : ce f 0 m = 0 := rfl
        omega
      · exact h
    subst em
    have S4 := hide (sr_uno w2 5); have K4 := hide ((unhide K2).trans ((al_below w2 (.cells #[.int .i64 5] 3)).mono (unhide K2).size))
    have tm : (m == m) = true := by simp
    go_wp2_with fail
    refine (unhide HM (some ⟨w2.heap.size, 0, none⟩) 1 1 (fun _ => 5) 0 _ (fun _ => by unfold R64; omega) R64_nought (by omega) (by omega) (unhide S4)).mono ?_
    rintro e w5 ⟨m5, hm5, rfl, k5⟩
    have e5 := fives_maj hm5
    subst e5
    have K5 := hide ((unhide K4).trans (k5.mono (unhide K4).size))
    clear hm5 k5
    go_wp2_with fail
    go_ret
    exact ⟨rfl, unhide K5⟩
  · have t0 : ((n : Int) == 0) = false := by simp; omega
    obtain ⟨b, o, rfl, hc⟩ := (unhide HS).rd (by omega)
    have HC := hide hc
    clear hc
    go_wp2_with fail
    refine (spotS_any at_ (n : Int) (by omega) (by omega) _).mono ?_
    rintro e w3 ⟨k, hk, rfl, rfl⟩
    have hk1 : k < n := by omega
    have hk2 : k < cap := by omega
    go_wp2_with fail
    refine wp_leaves (fun a0 a' w' => ∃ (va : Value) (a5 : Option Addr) (c5 : Nat), Below w.heap.size w w' ∧ a' = (((((((((((a0.put (some 29) (.slice (some ⟨b, o, none⟩) n cap)).put (some 30) (.int .i64 (k : Nat))).put (some 31) (.slice (some ⟨b, o + k, none⟩) (n - k) (cap - k))).put (some 33) (.slice (some ⟨b, o, none⟩) n cap)).put (some 34) (.int .i64 (k : Nat))).put (some 35) (.slice (some ⟨b, o, none⟩) k cap)).put (some 37) (.int .i64 other)).put (some 32) va).put (some 36) (.slice a5 n c5)).put (some 38) (.int .i64 m)).put (some 9) (.int .i64 m))) ?reg ?rest
    case reg =>
      intro A eA
      have b0 : A.eval (.tmp 0) = .slice (some ⟨b, o, none⟩) n cap := by rw [eA]; rfl
      have b1 : A.eval (.tmp 1) = .int .i64 other := by rw [eA]; rfl
      have b8 : A.eval (.tmp 8) = .int .i64 (k : Nat) := by rw [eA]; rfl
      have hz : 47 ≤ A.tmps.size := by rw [eA]; exact of_decide_eq_true rfl
      clear eA
      refine region_I (S := fun _ => True) (.rd 0 (.rd 1 (.rd 2 (.rd 4 (.rd 5 (.rd 6 (.rd 8 (.go 3 (.go 7 (.go 9 (.rd 10 .fin))))))))))) [] (by kernel_rfl) (by kernel_rfl) ?_
      refine sI_read (v := (.slice (some ⟨b, o, none⟩) n cap)) rfl (fun _ _ _ h => absurd h.1 (fun e => nomatch e)) (wanted_rd rfl) trivial (fun wx _ => run_move (.tmp 0) rfl b0 wx) ?_
      show SeqI _ _ _ _ _ _ (Act.put _ (some 29) _) _
      refine sI_read (v := (.int .i64 (k : Nat))) rfl (fun _ _ _ h => absurd h.1 (fun e => nomatch e)) (wanted_rd rfl) trivial (fun wx _ => run_move (.tmp 8) rfl ((ev_other _ _ (by decide)).trans b8) wx) ?_
      show SeqI _ _ _ _ _ _ (Act.put _ (some 30) _) _
      refine sI_read (v := (.slice (some ⟨b, o + k, none⟩) (n - k) (cap - k))) rfl (fun _ _ _ h => absurd h.1 (fun e => nomatch e)) (wanted_rd rfl) trivial (fun wx _ => run_lowX (.tmp 29) (.tmp 30) rfl ((ev_other _ _ (by decide)).trans (ev_same _ _ _ (by omega))) (ev_same _ _ _ (by simp only [sz_put]; omega)) (by omega) hk2 wx) ?_
      show SeqI _ _ _ _ _ _ (Act.put _ (some 31) _) _
      refine sI_read (v := (.slice (some ⟨b, o, none⟩) n cap)) rfl (fun _ _ _ h => absurd h.1 (fun e => nomatch e)) (wanted_rd rfl) trivial (fun wx _ => run_move (.tmp 0) rfl ((ev_other _ _ (by decide)).trans ((ev_other _ _ (by decide)).trans ((ev_other _ _ (by decide)).trans b0))) wx) ?_
      show SeqI _ _ _ _ _ _ (Act.put _ (some 33) _) _
      refine sI_read (v := (.int .i64 (k : Nat))) rfl (fun _ _ _ h => absurd h.1 (fun e => nomatch e)) (wanted_rd rfl) trivial (fun wx _ => run_move (.tmp 8) rfl ((ev_other _ _ (by decide)).trans ((ev_other _ _ (by decide)).trans ((ev_other _ _ (by decide)).trans ((ev_other _ _ (by decide)).trans b8)))) wx) ?_
      show SeqI _ _ _ _ _ _ (Act.put _ (some 34) _) _
      refine sI_read (v := (.slice (some ⟨b, o, none⟩) k cap)) rfl (fun _ _ _ h => absurd h.1 (fun e => nomatch e)) (wanted_rd rfl) trivial (fun wx _ => run_topX (.tmp 33) (.tmp 34) rfl ((ev_other _ _ (by decide)).trans (ev_same _ _ _ (by simp only [sz_put]; omega))) (ev_same _ _ _ (by simp only [sz_put]; omega)) (by omega) rc wx) ?_
      show SeqI _ _ _ _ _ _ (Act.put _ (some 35) _) _
      refine sI_read (v := (.int .i64 other)) rfl (fun _ _ _ h => absurd h.1 (fun e => nomatch e)) (wanted_rd rfl) trivial (fun wx _ => run_move (.tmp 1) rfl ((ev_other _ _ (by decide)).trans ((ev_other _ _ (by decide)).trans ((ev_other _ _ (by decide)).trans ((ev_other _ _ (by decide)).trans ((ev_other _ _ (by decide)).trans ((ev_other _ _ (by decide)).trans b1)))))) wx) ?_
      show SeqI _ _ _ _ _ _ (Act.put _ (some 37) _) _
      refine sI_do rfl (wanted_rd rfl) (fun K hK => ?_)
      refine ⟨wp_joinI _ (.const (.slice none 0 0)) (.tmp 31) rfl w.heap.size (unhide K2).size (.slice none 0 0) 0 [] rfl (World.ownsRow_nil _ _ _ _) (some ⟨b, o + k, none⟩) (n - k) (cap - k) (iF (fun i => f (k + i))) ((ev_other _ _ (by decide)).trans ((ev_other _ _ (by decide)).trans ((ev_other _ _ (by decide)).trans ((ev_other _ _ (by decide)).trans (ev_same _ _ _ (by simp only [sz_put]; omega)))))) (Or.inr ⟨_, rfl, fun i hi => by
        have h := at_below (w' := w3.drew) (unhide HC (k + i) (by omega)) (below_drew (unhide K2))
        rw [Addr.add_lit, show o + k + i = o + (k + i) by omega]; exact h⟩) (fun i _ => rfl) (by omega) ?_⟩
      intro va w4 o4 k4
      rw [Nat.zero_add, List.nil_append] at o4
      refine hK _ _ (fun _ => trivial) ?_
      clear hK K
      have kk : Below w.heap.size w w4 := (below_drew (unhide K2)).trans k4
      show SeqI _ _ _ _ _ _ (Act.put _ (some 32) _) _
      refine sI_do rfl (wanted_rd rfl) (fun K hK => ?_)
      refine ⟨wp_joinI _ (.tmp 32) (.tmp 35) rfl w.heap.size kk.size va (n - k) (rowV (iF (fun i => f (k + i))) (n - k)) (ev_same _ _ _ (by simp only [sz_put]; omega)) o4 (some ⟨b, o, none⟩) k cap (iF f) ((ev_other _ _ (by decide)).trans ((ev_other _ _ (by decide)).trans (ev_same _ _ _ (by simp only [sz_put]; omega)))) (Or.inr ⟨_, rfl, fun i hi => by
        have h := at_below (w' := w4) (unhide HC i (by omega)) kk
        rw [Addr.add_lit]; exact h⟩) (fun i _ => rfl) (by omega) ?_⟩
      intro vb w5 o5 k5
      rw [rt_row f n k (by omega), show n - k + k = n by omega] at o5
      obtain ⟨a5, c5, rfl, s5, n5⟩ := owns_sr o5
      refine hK _ _ (fun _ => trivial) ?_
      clear hK K
      have kl : Below w.heap.size w w5 := kk.trans k5
      show SeqI _ _ _ _ _ _ (Act.put _ (some 36) _) _
      refine sI_do rfl (wanted_rd rfl) (fun K hK => ?_)
      refine wp_callX _ 9 (.tmp 36) (.tmp 37) #[22, 3] rfl (ev_same _ _ _ (by simp only [sz_put]; omega)) ((ev_other _ _ (by decide)).trans ((ev_other _ _ (by decide)).trans (ev_same _ _ _ (by simp only [sz_put]; omega)))) (enter_maj _ _ _) (unhide HM a5 n c5 (rtF f n k) other _ (fun i => by unfold rtF; split <;> exact unhide HF _) (unhide RO) hl n5 s5) ?_
      rintro e w6 ⟨m', hm', rfl, k6⟩
      obtain rfl := maj_one (rt_maj (k := k) (by omega) (unhide MM)) hm'
      refine ⟨_, rfl, hK _ _ (fun _ => trivial) ?_⟩
      clear hK K
      show SeqI _ _ _ _ _ _ (Act.put _ (some 38) _) _
      refine sI_read (v := (.int .i64 m)) rfl (fun _ _ _ h => absurd h.1 (fun e => nomatch e)) (wanted_rd rfl) trivial (fun wx _ => run_assign (.tmp 38) rfl (ev_same _ _ _ (by simp only [sz_put]; omega)) wx) ?_
      show SeqI _ _ _ _ _ _ (Act.put _ (some 9) _) _
      refine sI_end ?_
      exact ⟨rfl, va, a5, c5, kl.trans (k6.mono kl.size), rfl⟩
    case rest =>
      rintro a' w6 ⟨va, a5, c5, k6, rfl⟩
      have S4 := hide (sr_uno w6 5); have K4 := hide (k6.trans ((al_below w6 (.cells #[.int .i64 5] 3)).mono k6.size))
      have tm : (m == m) = true := by simp
      clear k6
      go_frame
      go_wp2_with fail
      refine (unhide HM (some ⟨w6.heap.size, 0, none⟩) 1 1 (fun _ => 5) 0 _ (fun _ => by unfold R64; omega) R64_nought (by omega) (by omega) (unhide S4)).mono ?_
      rintro e w7 ⟨m5, hm5, rfl, k7⟩
      have e5 := fives_maj hm5
      subst e5
      have K7 := hide ((unhide K4).trans (k7.mono (unhide K4).size))
      clear hm5 k7
      go_wp2_with fail
      go_ret
      exact ⟨rfl, unhide K7⟩

end Go.Proofs.Ytomlpcbccfmejaa
