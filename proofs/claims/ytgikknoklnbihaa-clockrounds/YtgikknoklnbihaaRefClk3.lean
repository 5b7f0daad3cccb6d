/- Contracts of the reference: ClockRound. -/
import Derived.Test.YtgikknoklnbihaaRefClk2
import Derived.Test.YtgikknoklnbihaaFourMem
namespace Go.Proofs.Ytgikknoklnbihaa
open Go.RowKit

set_option maxRecDepth 100000 in
set_option maxHeartbeats 4000000 in
theorem refRound_ok : RnOK 14 := by
  intro f l bad w hf hl hbad
  obtain ⟨w1, e1, mA, mL, mR, k1, s1⟩ := f4_three w f l
  have E1 := hide e1; have MA := hide mA; have ML := hide mL; have MR := hide mR; have K1 := hide k1; have S1 := hide s1; have HF := hide hf; have HL := hide hl
  clear e1 mA mL mR k1 s1 hf hl
  unfold fourV
  go_enter Try.func14, Try.ntmps14
  go_wp2_with fail
  rw [← unhide E1]
  go_loopw [8, 13] (fun _ is wr => w1 = wr ∧ ∃ i : Nat, is = .int .i64 i ∧ i ≤ 4 ∧ ∀ j, j < i → ¬ (f j < -1099511627776 ∨ 1099511627776 < f j ∨ l j < -1099511627776 ∨ 1099511627776 < l j)) (fun _ is _ => 4 - (intOf is).toNat)
  case atStart => exact ⟨rfl, 0, rfl, by omega, fun j hj => absurd hj (by omega)⟩
  case round =>
    obtain ⟨rfl, i, rfl, hi, hno⟩ := hrel
    have NO := hide hno
    clear hno
    by_cases hin : i < 4
    · have hin' : (i : Int) < 4 := by omega
      have ca := (unhide MA).cell hin; have cb := (unhide ML).cell hin
      by_cases hb : f i < -1099511627776 ∨ 1099511627776 < f i ∨ l i < -1099511627776 ∨ 1099511627776 < l i
      · have BD := hide (show rnBad f l from ⟨i, hin, hb⟩)
        have a0 := (unhide MR).cell (show 0 < 4 by omega); have a1 := (unhide MR).cell (show 1 < 4 by omega); have a2 := (unhide MR).cell (show 2 < 4 by omega); have a3 := (unhide MR).cell (show 3 < 4 by omega)
        have f0 := (unhide MR).free 0; have f1 := (unhide MR).free 1; have f2 := (unhide MR).free 2; have f3 := (unhide MR).free 3
        obtain ⟨w2, e2, m2, k2⟩ := (unhide MR).put (fun _ => 0)
        have p0 := m2.cell (show 0 < 4 by omega); have p1 := m2.cell (show 1 < 4 by omega); have p2 := m2.cell (show 2 < 4 by omega); have p3 := m2.cell (show 3 < 4 by omega)
        have E2 := hide e2; have K2 := hide (below_of_kept (unhide K1) k2 (by omega) (unhide K1).size)
        clear e2 m2 k2
        obtain ⟨u, eu⟩ : ∃ u, f i = u := ⟨_, rfl⟩
        obtain ⟨v, ev⟩ : ∃ v, l i = v := ⟨_, rfl⟩
        rw [eu, ev] at hb
        rw [eu] at ca
        rw [ev] at cb
        clear eu ev
        by_cases h1 : u < -1099511627776
        · clear hb
          go_wp2_with fail
          rw [← unhide E2]
          refine bodyPost_ret (v := .tuple #[.agg #[.int .i64 0, .int .i64 0, .int .i64 0, .int .i64 0], .int .i64 3]) (by simp [results, Try.results14, go_sem, p0, p1, p2, p3]) rfl ⟨fun _ => 0, 3, Or.inl ⟨unhide BD, rfl, fun _ _ => rfl⟩, rfl, unhide K2⟩
        · by_cases h2 : 1099511627776 < u
          · clear hb
            go_wp2_with fail
            rw [← unhide E2]
            refine bodyPost_ret (v := .tuple #[.agg #[.int .i64 0, .int .i64 0, .int .i64 0, .int .i64 0], .int .i64 3]) (by simp [results, Try.results14, go_sem, p0, p1, p2, p3]) rfl ⟨fun _ => 0, 3, Or.inl ⟨unhide BD, rfl, fun _ _ => rfl⟩, rfl, unhide K2⟩
          · by_cases h3 : v < -1099511627776
            · clear hb
              go_wp2_with fail
              rw [← unhide E2]
              refine bodyPost_ret (v := .tuple #[.agg #[.int .i64 0, .int .i64 0, .int .i64 0, .int .i64 0], .int .i64 3]) (by simp [results, Try.results14, go_sem, p0, p1, p2, p3]) rfl ⟨fun _ => 0, 3, Or.inl ⟨unhide BD, rfl, fun _ _ => rfl⟩, rfl, unhide K2⟩
            · have h4 : 1099511627776 < v := by omega
              clear hb
              go_wp2_with fail
              rw [← unhide E2]
              refine bodyPost_ret (v := .tuple #[.agg #[.int .i64 0, .int .i64 0, .int .i64 0, .int .i64 0], .int .i64 3]) (by simp [results, Try.results14, go_sem, p0, p1, p2, p3]) rfl ⟨fun _ => 0, 3, Or.inl ⟨unhide BD, rfl, fun _ _ => rfl⟩, rfl, unhide K2⟩
      · have HB := hide hb
        obtain ⟨u, eu⟩ : ∃ u, f i = u := ⟨_, rfl⟩
        obtain ⟨v, ev⟩ : ∃ v, l i = v := ⟨_, rfl⟩
        rw [eu, ev] at hb
        rw [eu] at ca
        rw [ev] at cb
        have h1 : ¬ u < -1099511627776 := by omega
        have h2 : ¬ 1099511627776 < u := by omega
        have h3 : ¬ v < -1099511627776 := by omega
        have h4 : ¬ 1099511627776 < v := by omega
        clear hb eu ev
        go_wp2_with fail
        go_roundw
        case rel => exact ⟨trivial, i + 1, by go_num, by omega, fun j hj => by
          by_cases e : j = i
          · subst e; exact unhide HB
          · exact unhide NO j (by omega)⟩
        case measure => simp [intOf] <;> omega
    · have e9 : i = 4 := by omega
      subst e9
      rw [show ((4 : Nat) : Int) = 4 from rfl]
      have GD := hide (show ¬ rnBad f l from fun ⟨i, hi, h⟩ => unhide NO i hi h)
      obtain ⟨w2, e2, m2, k2, s2⟩ := f4_alloc w1 (fun _ => 0)
      have E2 := hide e2; have B2 := hide ((unhide MA).below k2); have C2 := hide ((unhide ML).below k2); have D2 := hide ((unhide MR).below k2); have O2 := hide m2; have K2 := hide (show Below w.heap.size w w2 from (unhide K1).trans (k2.mono (unhide K1).size)); have S2 := hide (show w2.heap.size = w.heap.size + 4 by have := unhide S1; omega)
      have Q1 := hide (show w1.heap.size = w.heap.size + 3 by have := unhide S1; omega)
      clear e2 m2 k2 s2 NO MA ML MR K1
      go_wp2_with fail
      rw [← unhide E2]
      obtain ⟨P, eP⟩ : ∃ P, w1.heap.size = P := ⟨_, rfl⟩
      rw [eP] at O2 Q1 ⊢
      clear eP E2
      go_loopw [10, 11, 12, 40] (fun _ _ _ is wr => ∃ (i : Nat) (x : Nat → Int), is = .int .i64 i ∧ i ≤ 4 ∧ F4 wr P x ∧ (∀ j : Nat, j < i → ((j : Int) = bad → x j = f j) ∧ ((j : Int) ≠ bad → IsMid (rdF f l bad j) 4 (x j))) ∧ F4 wr w.heap.size f ∧ F4 wr (w.heap.size + 1) l ∧ F4 wr (w.heap.size + 1 + 1) (fun _ => 0) ∧ w.heap.size + 4 ≤ wr.heap.size ∧ Below w.heap.size w wr) (fun _ _ _ is _ => 4 - (intOf is).toNat)
      case atStart => exact ⟨0, fun _ => 0, rfl, by omega, unhide O2, fun j hj => absurd hj (by omega), unhide B2, unhide C2, unhide D2, Nat.le_of_eq (unhide S2).symm, unhide K2⟩
      case round =>
        obtain ⟨i, x, rfl, hi, mO, hx, mA, mL, mR, hs, hK⟩ := hrel
        rename World => wr
        have RO := hide mO; have HX := hide hx; have RA := hide mA; have RL := hide mL; have RR := hide mR; have RS := hide hs; have RK := hide hK
        clear mO hx mA mL mR hs hK B2 C2 D2 O2 K2 S2
        by_cases hin : i < 4
        · have hin' : (i : Int) < 4 := by omega
          go_wp2_with fail
          go_loopw [11, 12, 43] (fun ls _ ks wx => ∃ (k c : Nat) (a : Option Addr), ks = .int .i64 k ∧ k ≤ 4 ∧ ls = .slice a k c ∧ wx.ownsRow wr.heap.size 3 1 (.slice a k c) k (rowV (iF (rdF f l bad i)) k) ∧ Below wr.heap.size wr wx) (fun _ _ ks _ => 4 - (intOf ks).toNat)
          case atStart => exact ⟨0, 0, none, rfl, by omega, rfl, World.ownsRow_nil _ _ _ _, Below.refl _ _⟩
          case round =>
            obtain ⟨k, c, a, rfl, hk, rfl, ho, hK2⟩ := hrel
            rename World => wx
            have XO := hide ho; have XK := hide hK2
            clear ho hK2
            by_cases hk4 : k < 4
            · have hk4' : (k : Int) < 4 := by omega
              have ca : wx.cell? ⟨w.heap.size, k, none⟩ = some (.int .i64 (f k)) := ((unhide RA).below (unhide XK)).cell hk4
              have cb : wx.cell? ⟨w.heap.size + 1, i, none⟩ = some (.int .i64 (l i)) := ((unhide RL).below (unhide XK)).cell hin
              obtain ⟨y, ey⟩ : ∃ y, rdF f l bad i k = y := ⟨_, rfl⟩
              have AL := al_below wx (.cells #[.int .i64 y] 3)
              have VL := Vh.new wx 3 #[.int .i64 y] (fun _ => .int .i64 y) (by show 1 ≤ maxLen; decide) (fun i hi => by
                have : i = 0 := by simp at hi; omega
                subst this; rfl)
              have SL := hide (show Sr (wx.alloc (.cells #[.int .i64 y] 3)) (some ⟨wx.heap.size, 0, none⟩) 1 1 (fun _ => .int .i64 y) from Or.inr ⟨_, rfl, fun i hi => by rw [Addr.add_lit, Nat.zero_add]; exact VL.cell hi⟩)
              have kl := (unhide XK).trans (AL.mono (unhide XK).size)
              have OL := hide (own_kept (unhide XO) AL); have ZL := hide kl.size; have KL := hide kl; have EY := hide ey
              clear AL VL kl XO XK
              by_cases hb : (k : Int) = bad
              · have e2 : l i = y := by rw [← ey]; unfold rdF; rw [if_pos hb]
                rw [e2] at cb
                have tb : (((k : Nat) : Int) == bad) = true := by simp [hb]
                clear ey e2 ca hb
                go_wp2_with (at_builtin; refine wpList_joinI _ rfl _ _ rfl wr.heap.size (unhide ZL) _ k (rowV (iF (rdF f l bad i)) k) rfl (unhide OL) (some ⟨wx.heap.size, 0, none⟩) 1 1 (fun _ => .int .i64 y) rfl (unhide SL) (fun i _ => rfl) (by omega) ?_)
                intro v5 w5 o5 k5
                rw [rowV_snoc (show iF (rdF f l bad i) k = _ by unfold iF; rw [unhide EY])] at o5
                obtain ⟨a5, c5, rfl⟩ := owns_slice o5
                have O5 := hide o5; have K5 := hide ((unhide KL).trans k5)
                clear o5 k5 cb OL ZL KL SL
                go_wp2_with fail
                go_roundw
                case rel => exact ⟨k + 1, c5, a5, by go_num, by omega, rfl, unhide O5, unhide K5⟩
                case measure => simp [intOf] <;> omega
              · have e2 : f k = y := by rw [← ey]; unfold rdF; rw [if_neg hb]
                rw [e2] at ca
                have tb : (((k : Nat) : Int) == bad) = false := by simp [hb]
                clear ey e2 cb hb
                go_wp2_with (at_builtin; refine wpList_joinI _ rfl _ _ rfl wr.heap.size (unhide ZL) _ k (rowV (iF (rdF f l bad i)) k) rfl (unhide OL) (some ⟨wx.heap.size, 0, none⟩) 1 1 (fun _ => .int .i64 y) rfl (unhide SL) (fun i _ => rfl) (by omega) ?_)
                intro v5 w5 o5 k5
                rw [rowV_snoc (show iF (rdF f l bad i) k = _ by unfold iF; rw [unhide EY])] at o5
                obtain ⟨a5, c5, rfl⟩ := owns_slice o5
                have O5 := hide o5; have K5 := hide ((unhide KL).trans k5)
                clear o5 k5 ca OL ZL KL SL
                go_wp2_with fail
                go_roundw
                case rel => exact ⟨k + 1, c5, a5, by go_num, by omega, rfl, unhide O5, unhide K5⟩
                case measure => simp [intOf] <;> omega
            · have e8 : k = 4 := by omega
              subst e8
              have RV := hide (show ∀ j, R64 (rdF f l bad i j) from fun j => by unfold rdF; split; exact unhide HL i; exact unhide HF j)
              obtain ⟨_, _, e5, s5, _⟩ := owns_sr (unhide XO)
              cases e5
              have X5 := hide s5.rd
              clear s5
              go_wp2_with fail
              refine (refMiddle_good a 4 c (rdF f l bad i) _ (by omega) (by omega) (unhide RV) (unhide X5)).mono ?_
              rintro e w6 ⟨m, hm, rfl, k6⟩
              have kk := (unhide XK).trans (k6.mono (unhide XK).size)
              have o6 := (unhide RO).below kk
              have co := o6.cell hin; have fo := o6.free i
              have a6 := (unhide RA).below kk
              have ca := a6.cell hin
              have o7 := o6.set i m
              have q1 := unhide Q1
              have A7 := hide (a6.kept (kept_set w6 P i (.int .i64 m)) (by omega)); have L7 := hide (((unhide RL).below kk).kept (kept_set w6 P i (.int .i64 m)) (by omega)); have R7 := hide (((unhide RR).below kk).kept (kept_set w6 P i (.int .i64 m)) (by omega))
              have kw := (unhide RK).trans (kk.mono (unhide RK).size)
              have K7 := hide (below_of_kept kw (kept_set w6 P i (.int .i64 m)) (by omega) kw.size)
              have S7 := hide (show w.heap.size + 4 ≤ (w6.setCell ⟨P, i, none⟩ (.int .i64 m)).heap.size by have := unhide RS; have := kk.size; have := (kept_set w6 P i (.int .i64 m)).size; omega)
              have O7 := hide o7; have HM := hide hm
              by_cases hb : (i : Int) = bad
              · have tb : (((i : Nat) : Int) == bad) = true := by simp [hb]
                have o8 := o7.set i (f i)
                have c7 := o7.cell hin; have f7 := o7.free i; have ca7 := (unhide A7).cell hin
                have A8 := hide ((unhide A7).kept (kept_set _ P i (.int .i64 (f i))) (by omega)); have L8 := hide ((unhide L7).kept (kept_set _ P i (.int .i64 (f i))) (by omega)); have R8 := hide ((unhide R7).kept (kept_set _ P i (.int .i64 (f i))) (by omega))
                have K8 := hide (below_of_kept (unhide K7) (kept_set _ P i (.int .i64 (f i))) (by omega) (unhide K7).size)
                have S8 := hide (Nat.le_trans (unhide S7) (kept_set (w6.setCell ⟨P, i, none⟩ (.int .i64 m)) P i (.int .i64 (f i))).size)
                have O8 := hide o8; have HBD := hide hb
                clear hm k6 kk o6 a6 o7 kw o8 q1 hb A7 L7 R7 K7 S7 O7 RO RA RL RR RS RK XO XK X5 ca
                go_wp2_with fail
                go_roundw
                case rel =>
                  refine ⟨i + 1, _, by go_num, by omega, unhide O8, fun j hj => ?_, unhide A8, unhide L8, unhide R8, unhide S8, unhide K8⟩
                  by_cases e : j = i
                  · subst e
                    refine ⟨fun _ => ?_, fun h => absurd (unhide HBD) h⟩
                    show (if j = j then f j else _) = f j
                    rw [if_pos rfl]
                  · show (_ → (if j = i then f i else (if j = i then m else x j)) = f j) ∧ (_ → IsMid _ 4 (if j = i then f i else (if j = i then m else x j)))
                    rw [if_neg e, if_neg e]
                    exact unhide HX j (by omega)
                case measure => simp [intOf] <;> omega
              · have tb : (((i : Nat) : Int) == bad) = false := by simp [hb]
                have HBD := hide hb
                clear hm k6 kk o6 a6 o7 kw q1 hb RO RA RL RR RS RK XO XK X5 ca
                go_wp2_with fail
                go_roundw
                case rel =>
                  refine ⟨i + 1, _, by go_num, by omega, unhide O7, fun j hj => ?_, unhide A7, unhide L7, unhide R7, unhide S7, unhide K7⟩
                  by_cases e : j = i
                  · subst e
                    refine ⟨fun h => absurd h (unhide HBD), fun _ => ?_⟩
                    show IsMid _ 4 (if j = j then m else _)
                    rw [if_pos rfl]; exact unhide HM
                  · show (_ → (if j = i then m else x j) = f j) ∧ (_ → IsMid _ 4 (if j = i then m else x j))
                    rw [if_neg e]
                    exact unhide HX j (by omega)
                case measure => simp [intOf] <;> omega
        · have e9 : i = 4 := by omega
          subst e9
          have c0 := (unhide RO).cell (show 0 < 4 by omega); have c1 := (unhide RO).cell (show 1 < 4 by omega); have c2 := (unhide RO).cell (show 2 < 4 by omega); have c3 := (unhide RO).cell (show 3 < 4 by omega)
          have a0 := (unhide RR).cell (show 0 < 4 by omega); have a1 := (unhide RR).cell (show 1 < 4 by omega); have a2 := (unhide RR).cell (show 2 < 4 by omega); have a3 := (unhide RR).cell (show 3 < 4 by omega)
          have f0 := (unhide RR).free 0; have f1 := (unhide RR).free 1; have f2 := (unhide RR).free 2; have f3 := (unhide RR).free 3
          obtain ⟨w5, e5, m5, k5⟩ := (unhide RR).put x
          have p0 := m5.cell (show 0 < 4 by omega); have p1 := m5.cell (show 1 < 4 by omega); have p2 := m5.cell (show 2 < 4 by omega); have p3 := m5.cell (show 3 < 4 by omega)
          have E5 := hide e5; have K5 := hide (below_of_kept (unhide RK) k5 (by omega) (unhide RK).size)
          clear e5 m5 k5
          go_wp2_with fail
          rw [← unhide E5]
          clear c0 c1 c2 c3 a0 a1 a2 a3 f0 f1 f2 f3
          refine bodyPost_ret (v := .tuple #[.agg #[.int .i64 (x 0), .int .i64 (x 1), .int .i64 (x 2), .int .i64 (x 3)], .int .i64 0]) (by simp [results, Try.results14, go_sem, p0, p1, p2, p3]) rfl ⟨x, 0, Or.inr ⟨unhide GD, rfl, unhide HX⟩, rfl, unhide K5⟩

end Go.Proofs.Ytgikknoklnbihaa
