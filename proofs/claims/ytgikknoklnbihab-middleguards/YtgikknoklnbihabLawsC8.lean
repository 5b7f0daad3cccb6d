/- The walk of MiddleGuards, whatever Middle is made of. -/
import Derived.Test.YtgikknoklnbihabClkTell
import Derived.Test.YtgikknoklnbihabFrames
import Derived.Laws.Cover1
namespace Go.Proofs.Ytgikknoklnbihab
open Go.RowKit

theorem run_topI {f : Operand → Value} {o : Oper} (x y : Operand) (ho : o.op = .slice 22 x none (some y) none) {ao : Option Addr} {n c m : Nat} (hx : f x = .slice ao n c) (hy : f y = .int .i64 (m : Nat)) (h1 : m ≤ n) (h2 : n ≤ c) (h3 : ao = none → c = 0) (w : World) :
    (execOp f o).run Try.prog w = .ok (.value (.slice ao m c)) w := by
  unfold execOp
  rw [ho]
  dsimp only
  rw [hx]
  cases ao with
  | none =>
    have hc := h3 rfl
    subst hc
    have hm : m = 0 := by omega
    subst hm
    go_simp
  | some a =>
    have hm : (m : Int) ≤ (c : Int) := by omega
    go_simp

/-- The lies ahead, the others behind. -/
def gdF (g f : Nat → Int) (k : Nat) (i : Nat) : Int := if i < k then g i else f (i - k)
theorem gd_row (g f : Nat → Int) (k n : Nat) : rowV (iF g) k ++ rowV (iF f) n = rowV (iF (gdF g f k)) (k + n) := by
  rw [rowV_append]
  refine rowV_congr (fun i hi => ?_)
  unfold iF gdF
  split <;> rfl

set_option maxRecDepth 100000 in
set_option maxHeartbeats 4000000 in
theorem middleGuards_by (hMd : MdOK 10) {w : World} (ao : Option Addr) (len cap : Nat) (f : Nat → Int) (bo : Option Addr) (ll cb : Nat) (g : Nat → Int) (ar : ArgS w ao len cap f) (rc : len ≤ cap) (br : ArgS w bo ll cb g) (rd : ll ≤ cb) :
    Calls Try.prog 3 #[.slice ao len cap, .slice bo ll cb] w fun e w' => e = .returned (.bool true) ∧ Below w.heap.size w w' := by
  obtain ⟨hs, hl, hf⟩ := ar
  obtain ⟨bs, bl, bg⟩ := br
  have HS := hide (show Sr w ao len cap (iF f) from hs); have BS := hide (show Sr w bo ll cb (iF g) from bs); have HF := hide hf; have BG := hide bg; have HM := hide hMd
  clear hs bs hf bg hMd
  obtain ⟨N, eN⟩ : ∃ N, N = min len 40 := ⟨_, rfl⟩
  have N1 : N ≤ len := by omega
  have N2 : N ≤ 40 := by omega
  have mn2 : ∀ w, (Builtin.min_ #[3, 3] 3 #[.int .i64 (len : Int), .int .i64 40]).run Try.prog w = .ok (.int .i64 (N : Int)) w := fun w => by
    rw [run_min_int2]
    congr 2
    split <;> omega
  have mn2 := mn2 w
  have td : ((N : Int)).tdiv 2 = ((N / 2 : Nat) : Int) := rfl
  obtain ⟨H, eH⟩ : ∃ H : Nat, N / 2 = H := ⟨_, rfl⟩
  rw [eH] at td
  obtain ⟨K, eK⟩ : ∃ K : Int, K = min (ll : Int) (min ((H : Int) - 1) 19) := ⟨_, rfl⟩
  have K1 : K ≤ ll := by omega
  have K2 : K ≤ (H : Int) - 1 := by omega
  have K3 : -1 ≤ K := by omega
  have K4 : K ≤ 19 := by omega
  have mn3 : (Builtin.min_ #[3, 3, 3] 3 #[.int .i64 (ll : Int), .int .i64 ((H : Int) - 1), .int .i64 19]).run Try.prog w = .ok (.int .i64 K) w := by
    rw [run_min_int3]
    congr 2
    split <;> split <;> omega
  clear eN eK
  by_cases h1 : N < 1
  · have h1' : (N : Int) < 1 := by omega
    go_enter Try.func3, Try.ntmps3
    go_wp2_with fail
    refine (middles_ok (unhide HM) _).mono ?_
    rintro e w2 ⟨rfl, k2⟩
    have KK := hide k2
    clear k2
    go_wp2_with fail
    go_ret
    exact ⟨rfl, unhide KK⟩
  · by_cases h2 : K < 0
    · go_enter Try.func3, Try.ntmps3
      go_wp2_with fail
      refine (middles_ok (unhide HM) _).mono ?_
      rintro e w2 ⟨rfl, k2⟩
      have KK := hide k2
      clear k2
      go_wp2_with fail
      go_ret
      exact ⟨rfl, unhide KK⟩
    · obtain ⟨k, ek⟩ : ∃ k : Nat, K = (k : Int) := ⟨K.toNat, by omega⟩
      subst ek
      by_cases h3 : N + k ≤ 3 * k
      · exfalso; omega
      · have h3' : ¬ (N : Int) + (k : Int) ≤ 3 * (k : Int) := by omega
        have hk : k ≤ ll := by omega
        obtain ⟨b, o, rfl, hc⟩ := (unhide HS).rd (by omega)
        have HC := hide hc
        have bn : bo = none → cb = 0 := by
          rcases unhide BS with ⟨_, _, h⟩ | ⟨x, h, _⟩
          · exact fun _ => h
          · intro e; rw [h] at e; cases e
        clear hc
        go_enter Try.func3, Try.ntmps3
        go_wp2_with fail
        clear mn2 mn3 td
        refine wp_leaves (fun a0 a' w' => ∃ (va : Value) (a5 : Option Addr) (c5 : Nat), (w'.ownsRow w.heap.size 3 1 (.slice a5 (k + N) c5) (k + N) (rowV (iF (gdF g f k)) (k + N)) ∧ Below w.heap.size w w') ∧ a' = (((((((((a0.put (some 38) (.slice bo ll cb)).put (some 39) (.int .i64 (k : Nat))).put (some 40) (.slice bo k cb)).put (some 42) (.slice (some ⟨b, o, none⟩) len cap)).put (some 43) (.int .i64 (N : Nat))).put (some 44) (.slice (some ⟨b, o, none⟩) N cap)).put (some 41) va).put (some 45) (.slice a5 (k + N) c5)).put (some 7) (.slice a5 (k + N) c5))) ?reg ?rest
        case reg =>
          intro A eA
          have b0 : A.eval (.tmp 0) = .slice (some ⟨b, o, none⟩) len cap := by rw [eA]; rfl
          have b1 : A.eval (.tmp 1) = .slice bo ll cb := by rw [eA]; rfl
          have b5 : A.eval (.tmp 5) = .int .i64 (N : Nat) := by rw [eA]; rfl
          have b6 : A.eval (.tmp 6) = .int .i64 (k : Nat) := by rw [eA]; rfl
          have hz : 87 ≤ A.tmps.size := by rw [eA]; exact of_decide_eq_true rfl
          clear eA
          refine region_I (S := fun _ => True) (.rd 0 (.rd 1 (.rd 2 (.rd 4 (.rd 5 (.rd 6 (.go 3 (.go 7 (.rd 8 .fin))))))))) [] (by kernel_rfl) (by kernel_rfl) ?_
          refine sI_read (v := (.slice bo ll cb)) rfl (fun _ _ _ h => absurd h.1 (fun e => nomatch e)) (wanted_rd rfl) trivial (fun wx _ => run_move (.tmp 1) rfl b1 wx) ?_
          show SeqI _ _ _ _ _ _ (Act.put _ (some 38) _) _
          refine sI_read (v := (.int .i64 (k : Nat))) rfl (fun _ _ _ h => absurd h.1 (fun e => nomatch e)) (wanted_rd rfl) trivial (fun wx _ => run_move (.tmp 6) rfl ((ev_other _ _ (by decide)).trans b6) wx) ?_
          show SeqI _ _ _ _ _ _ (Act.put _ (some 39) _) _
          refine sI_read (v := (.slice bo k cb)) rfl (fun _ _ _ h => absurd h.1 (fun e => nomatch e)) (wanted_rd rfl) trivial (fun wx _ => run_topI (.tmp 38) (.tmp 39) rfl ((ev_other _ _ (by decide)).trans (ev_same _ _ _ (by omega))) (ev_same _ _ _ (by simp only [sz_put]; omega)) hk rd bn wx) ?_
          show SeqI _ _ _ _ _ _ (Act.put _ (some 40) _) _
          refine sI_read (v := (.slice (some ⟨b, o, none⟩) len cap)) rfl (fun _ _ _ h => absurd h.1 (fun e => nomatch e)) (wanted_rd rfl) trivial (fun wx _ => run_move (.tmp 0) rfl ((ev_other _ _ (by decide)).trans ((ev_other _ _ (by decide)).trans ((ev_other _ _ (by decide)).trans b0))) wx) ?_
          show SeqI _ _ _ _ _ _ (Act.put _ (some 42) _) _
          refine sI_read (v := (.int .i64 (N : Nat))) rfl (fun _ _ _ h => absurd h.1 (fun e => nomatch e)) (wanted_rd rfl) trivial (fun wx _ => run_move (.tmp 5) rfl ((ev_other _ _ (by decide)).trans ((ev_other _ _ (by decide)).trans ((ev_other _ _ (by decide)).trans ((ev_other _ _ (by decide)).trans b5)))) wx) ?_
          show SeqI _ _ _ _ _ _ (Act.put _ (some 43) _) _
          refine sI_read (v := (.slice (some ⟨b, o, none⟩) N cap)) rfl (fun _ _ _ h => absurd h.1 (fun e => nomatch e)) (wanted_rd rfl) trivial (fun wx _ => run_topI (.tmp 42) (.tmp 43) rfl ((ev_other _ _ (by decide)).trans (ev_same _ _ _ (by simp only [sz_put]; omega))) (ev_same _ _ _ (by simp only [sz_put]; omega)) N1 rc (fun h => by cases h) wx) ?_
          show SeqI _ _ _ _ _ _ (Act.put _ (some 44) _) _
          refine sI_do rfl (wanted_rd rfl) (fun K hK => ?_)
          refine ⟨wp_joinI _ (.const (.slice none 0 0)) (.tmp 40) rfl w.heap.size (Nat.le_refl _) (.slice none 0 0) 0 [] rfl (World.ownsRow_nil _ _ _ _) bo k cb (iF g) ((ev_other _ _ (by decide)).trans ((ev_other _ _ (by decide)).trans ((ev_other _ _ (by decide)).trans (ev_same _ _ _ (by simp only [sz_put]; omega))))) (((unhide BS).less hk).below (below_drew (Below.refl _ _))) (fun i _ => rfl) (by omega) ?_⟩
          intro va w4 o4 k4
          rw [Nat.zero_add, List.nil_append] at o4
          refine hK _ _ (fun _ => trivial) ?_
          clear hK K
          have kk : Below w.heap.size w w4 := (below_drew (Below.refl _ _)).trans k4
          show SeqI _ _ _ _ _ _ (Act.put _ (some 41) _) _
          refine sI_do rfl (wanted_rd rfl) (fun K hK => ?_)
          refine ⟨wp_joinI _ (.tmp 41) (.tmp 44) rfl w.heap.size kk.size va k (rowV (iF g) k) (ev_same _ _ _ (by simp only [sz_put]; omega)) o4 (some ⟨b, o, none⟩) N cap (iF f) ((ev_other _ _ (by decide)).trans (ev_same _ _ _ (by simp only [sz_put]; omega))) (((unhide HS).less N1).below kk) (fun i _ => rfl) (by omega) ?_⟩
          intro vb w5 o5 k5
          rw [gd_row] at o5
          obtain ⟨a5, c5, rfl⟩ := owns_slice o5
          refine hK _ _ (fun _ => trivial) ?_
          clear hK K
          show SeqI _ _ _ _ _ _ (Act.put _ (some 45) _) _
          refine sI_read (v := (.slice a5 (k + N) c5)) rfl (fun _ _ _ h => absurd h.1 (fun e => nomatch e)) (wanted_rd rfl) trivial (fun wx _ => run_assign (.tmp 45) rfl (ev_same _ _ _ (by simp only [sz_put]; omega)) wx) ?_
          show SeqI _ _ _ _ _ _ (Act.put _ (some 7) _) _
          refine sI_end ?_
          exact ⟨rfl, va, a5, c5, ⟨o5, kk.trans k5⟩, rfl⟩
        case rest =>
          rintro a' w5 ⟨va, a5, c5, ⟨o5, k5⟩, rfl⟩
          obtain ⟨_, _, e5, s5, n5⟩ := owns_sr o5
          cases e5
          have S5 := hide s5; have M5 := hide n5; have K5 := hide k5
          clear o5 s5 n5 k5
          go_frame
          go_wp2_with fail
          refine (md_at (unhide HM) a5 (k + N) c5 (gdF g f k) _ (fun i => by unfold gdF; split; exact unhide BG _; exact unhide HF _) (by omega) (by omega) (unhide M5) (unhide S5)).mono ?_
          rintro e w6 ⟨m, hm, rfl, k6⟩
          have MM := hide hm; have K6 := hide (show Below w.heap.size w w6 from (unhide K5).trans (k6.mono (unhide K5).size))
          have H6 := hide (show ∀ i, i < N → w6.drew.cell? ⟨b, o + i, none⟩ = some (.int .i64 (f i)) from fun i hi => at_below (w' := w6.drew) (unhide HC i (by omega)) (below_drew (unhide K6)))
          have cz : w6.drew.cell? ⟨b, o, none⟩ = some (.int .i64 (f 0)) := unhide H6 0 (by omega)
          clear hm k6 S5 M5 K5
          go_wp2_with fail
          go_region
          clear cz
          go_wp2_with fail
          go_loopw [10, 11, 13, 61] (fun ls hs _ is wr => w6.drew = wr ∧ ∃ (i : Nat) (lo hi : Int), is = .int .i64 i ∧ i ≤ N ∧ ls = .int .i64 lo ∧ hs = .int .i64 hi ∧ ∀ j, j < i → lo ≤ f j ∧ f j ≤ hi) (fun _ _ _ is _ => N - (intOf is).toNat)
          case atStart => exact ⟨rfl, 0, f 0, f 0, rfl, Nat.zero_le _, rfl, rfl, fun j hj => absurd hj (by omega)⟩
          case round =>
            obtain ⟨rfl, i, lo, hi, rfl, hin, rfl, rfl, hb⟩ := hrel
            have HB := hide hb
            clear hb
            by_cases h4 : i < N
            · have ci := unhide H6 i h4
              obtain ⟨v, ev⟩ : ∃ v, f i = v := ⟨_, rfl⟩
              have EV := hide ev
              rw [ev] at ci
              clear ev
              go_wp2_with fail
              refine ⟨⟨trivial, i + 1, (if v < lo then v else lo), (if hi < v then v else hi), by go_num, by omega, rfl, rfl, fun j hj => ?_⟩, by simp [intOf] <;> omega⟩
              by_cases e : j = i
              · subst e
                rw [unhide EV]
                constructor
                · split <;> omega
                · split <;> omega
              · have := unhide HB j (by omega)
                constructor
                · split <;> omega
                · split <;> omega
            · have e9 : i = N := by omega
              subst e9
              have W := hide (mid_guards (k := k) (n := i) (unhide MM) (by omega) (fun j hj => by unfold gdF; rw [if_neg (by omega), Nat.add_sub_cancel_left]; exact unhide HB j hj))
              go_wp2_with fail
              refine (middles_ok (unhide HM) _).mono ?_
              rintro e w7 ⟨rfl, k7⟩
              have K7 := hide (show Below w.heap.size w w7 from (below_drew (unhide K6)).trans (k7.mono (unhide K6).size))
              have d1 := (unhide W).1; have d2 := (unhide W).2
              clear k7
              go_wp2_with fail
              go_ret
              exact ⟨rfl, unhide K7⟩

end Go.Proofs.Ytgikknoklnbihab
