/- The walks of ClockLocals, ClockMiddles, ClockRounds, ClockSpreads, whatever package clock is made of. -/
import Derived.Test.YtgikknoklnbihaaRefClk3
import Derived.Test.YtgikknoklnbihaaRefClk4
import Derived.Test.YtgikknoklnbihaaOpenRow
import Derived.Laws.StructEq
namespace Go.Proofs.Ytgikknoklnbihaa
open Go.RowKit

set_option maxHeartbeats 2000000 in
theorem clockLocals_by (hLc : LcOK 9) {w : World} (O R t : Int) (rO : R64 O) (rR : R64 R) (rt : R64 t) :
    Calls Try.prog 3 #[ckV O R, .int .i64 t] w fun e w' => e = .returned (.bool true) ∧ Below w.heap.size w w' := by
  obtain ⟨w1, e1, c0, c1, k1⟩ := ck_alloc w O R
  have E1 := hide e1; have K1 := hide k1; have C0 := hide c0; have C1 := hide c1; have HL := hide hLc; have RO := hide rO; have RR := hide rR; have RT := hide rt
  clear e1 k1 hLc rO rR rt
  unfold ckV
  go_enter Try.func3, Try.ntmps3
  go_wp2_with fail
  rw [← unhide E1]
  go_wp2_with fail
  refine (unhide HL O R t _ (unhide RO) (unhide RR) (unhide RT)).mono ?_
  rintro e w2 ⟨rfl, k2⟩
  clear c0 c1
  have c0 := at_below (unhide C0) k2; have c1 := at_below (unhide C1) k2
  have K2 := hide (show Below w.heap.size w w2 from (unhide K1).trans (k2.mono (unhide K1).size))
  clear k2
  go_wp2_with fail
  refine (refLocal_ok O R t _ (unhide RO) (unhide RR) (unhide RT)).mono ?_
  rintro e w3 ⟨rfl, k3⟩
  have K3 := hide (show Below w.heap.size w w3 from (unhide K2).trans (k3.mono (unhide K2).size))
  clear k3 c0 c1
  go_wp2_with fail
  refine (unhide HL 1 0 1 _ (by unfold R64; omega) (by unfold R64; omega) (by unfold R64; omega)).mono ?_
  rintro e w4 ⟨rfl, k4⟩
  rw [show lcV 1 0 1 = 2 by decide, show lcE 1 0 1 = 0 by decide]
  have K4 := hide (show Below w.heap.size w w4 from (unhide K3).trans (k4.mono (unhide K3).size))
  obtain ⟨x, ex⟩ : ∃ x, lcV O R t = x := ⟨_, rfl⟩
  obtain ⟨y, ey⟩ : ∃ y, lcE O R t = y := ⟨_, rfl⟩
  rw [ex, ey]
  have tx : (x == x) = true := by simp
  have ty : (y == y) = true := by simp
  clear k4 ex ey
  go_wp2_with fail
  go_ret
  exact ⟨rfl, unhide K4⟩

theorem five_mid : ∀ m, IsMid (fun _ => 5) 1 m → m = 5 := by
  intro m h
  have := mid_within (lo := 5) (hi := 5) h (fun i _ => ⟨by omega, by omega⟩)
  omega

set_option maxHeartbeats 2000000 in
theorem clockMiddles_by (hMd : MdOK 11) {w : World} (ao : Option Addr) (n cap : Nat) (f : Nat → Int) (ar : ArgS w ao n cap f) (rc : n ≤ cap) :
    Calls Try.prog 4 #[.slice ao n cap] w fun e w' => e = .returned (.bool true) ∧ Below w.heap.size w w' := by
  obtain ⟨hs, hl, hf⟩ := ar
  have HS := hide (show Sr w ao n cap (iF f) from hs); have HF := hide hf; have HM := hide hMd
  clear hs hf hMd
  go_enter Try.func4, Try.ntmps4
  go_wp2_with (at_builtin; refine wpList_joinI _ rfl _ _ rfl w.heap.size (Nat.le_refl _) (.slice none 0 0) 0 [] rfl (World.ownsRow_nil _ _ _ _) ao n cap (iF f) rfl (unhide HS) (fun i _ => rfl) (by omega) ?_)
  intro v1 w1 o1 k1
  try rw [Nat.zero_add] at o1
  try rw [List.nil_append] at o1
  obtain ⟨a1, c1, rfl, s1, n1⟩ := owns_sr o1
  have S1 := hide s1; have N1 := hide n1; have K1 := hide k1
  clear o1 s1 n1 k1
  go_wp2_with fail
  refine (unhide HM a1 n c1 f _ (unhide HF) hl (unhide N1) (unhide S1)).mono ?_
  rintro e w2 ⟨m, E, hm, rfl, k2⟩
  have M2 := hide hm; have K2 := hide (show Below w.heap.size w w2 from (unhide K1).trans (k2.mono (unhide K1).size))
  clear hm k2
  go_wp2_with fail
  refine (refMiddle_ok ao n cap f _ (unhide HF) hl rc ((unhide HS).below (unhide K2))).mono ?_
  rintro e w3 ⟨m', E', hm, rfl, k3⟩
  obtain ⟨rfl, rfl⟩ := mdR_one (unhide M2) hm
  have A4 := al_below w3 (.cells #[.int .i64 5] 3)
  have V4 := Vh.new w3 3 #[.int .i64 5] (iF (fun _ => 5)) (by show 1 ≤ maxLen; decide) (fun i hi => by
    have : i = 0 := by simp at hi; omega
    subst this; rfl)
  have S4 := hide (show Sr (w3.alloc (.cells #[.int .i64 5] 3)) (some ⟨w3.heap.size, 0, none⟩) 1 1 (iF (fun _ => 5)) from Or.inr ⟨_, rfl, fun i hi => by rw [Addr.add_lit, Nat.zero_add]; exact V4.cell hi⟩)
  have k3' := (unhide K2).trans (k3.mono (unhide K2).size)
  have K4 := hide (k3'.trans (A4.mono k3'.size))
  clear hm k3 k3' A4 V4
  go_wp2_with fail
  refine (unhide HM (some ⟨w3.heap.size, 0, none⟩) 1 1 (fun _ => 5) _ (fun _ => by unfold R64; omega) (by omega) (by omega) (unhide S4)).mono ?_
  rintro e w5 ⟨m5, E5, hm5, rfl, k5⟩
  have e5 : m5 = 5 := by
    rcases hm5 with ⟨_, _, _, h⟩ | ⟨h, _⟩
    · exact five_mid m5 h
    · omega
  subst e5
  have K5 := hide ((unhide K4).trans (k5.mono (unhide K4).size))
  have tm : (m == m) = true := by simp
  have tE : (E == E) = true := by simp
  clear hm5 k5
  go_wp2_with fail
  go_ret
  exact ⟨rfl, unhide K5⟩

theorem five_rn {l : Nat → Int} {x : Nat → Int} {E : Int} (h : rnR (fun _ => 5) l (-1) x E) (hl : ∀ i, l i = 0) : ∀ i, i < 4 → x i = 5 := by
  intro i hi
  rcases h with ⟨⟨j, hj, h⟩, _⟩ | ⟨_, _, h⟩
  · rw [hl j] at h; dsimp only at h; omega
  · have hm := (h i hi).2 (by omega)
    have := mid_within (lo := 5) (hi := 5) hm (fun k _ => by unfold rdF; rw [if_neg (by omega)]; exact ⟨Int.le_refl _, Int.le_refl _⟩)
    omega
theorem run_eq4 (a b c d : Int) (w : World) : (Op.equalIn 10000 31 (.agg #[.int .i64 a, .int .i64 b, .int .i64 c, .int .i64 d]) (.agg #[.int .i64 a, .int .i64 b, .int .i64 c, .int .i64 d])).run Try.prog w = .ok true w := by
  have u3 := Try.underlying3
  have a3 := Try.isAgg3
  have z3 := Try.sizeOf3
  have ta : (a == a) = true := by simp
  have tb : (b == b) = true := by simp
  have tc : (c == c) = true := by simp
  have td : (d == d) = true := by simp
  rw [show (10000 : Nat) = 9999 + 1 from rfl, Op.equalIn]
  simp only [Sem.run_bind, run_underlying Try.underlying31, Result.andThen_ok]
  simp only [Std.Legacy.Range.forIn_eq_forIn_range', Std.Legacy.Range.size, Nat.sub_zero, Nat.add_sub_cancel, Nat.div_one, List.range'_succ, List.range'_zero, List.forIn_cons, List.forIn_nil]
  go_simp
/-- Alike, all four. -/
theorem four_eq {f g : Nat → Int} (h : ∀ i, i < 4 → f i = g i) : fourV f = fourV g := by unfold fourV; rw [h 0 (by omega), h 1 (by omega), h 2 (by omega), h 3 (by omega)]

set_option maxRecDepth 100000 in
set_option maxHeartbeats 2000000 in
theorem clockRounds_by (hRn : RnOK 13) {w : World} (f : Nat → Int) (bad : Int) (l : Nat → Int) (hf : ∀ i, R64 (f i)) (rb : R64 bad) (hl : ∀ i, R64 (l i)) :
    Calls Try.prog 5 #[fourV f, .int .i64 bad, fourV l] w fun e w' => e = .returned (.bool true) ∧ Below w.heap.size w w' := by
  obtain ⟨u, eu, mu, ku, su⟩ := f4_alloc w f
  obtain ⟨w1, e1, mL, k1, s1⟩ := f4_alloc u l
  have mA := mu.below k1
  rw [su] at mL
  subst eu
  have K1 := hide (show Below w.heap.size w w1 from ku.trans (k1.mono (by omega)))
  have c0 := mA.cell (show 0 < 4 by omega); have c1 := mA.cell (show 1 < 4 by omega); have c2 := mA.cell (show 2 < 4 by omega); have c3 := mA.cell (show 3 < 4 by omega)
  have d0 := mL.cell (show 0 < 4 by omega); have d1 := mL.cell (show 1 < 4 by omega); have d2 := mL.cell (show 2 < 4 by omega); have d3 := mL.cell (show 3 < 4 by omega)
  have E1 := hide e1; have MA := hide mA; have ML := hide mL; have HF := hide hf; have HL := hide hl; have RB := hide rb; have HR := hide hRn
  clear e1 mA mL mu ku su k1 s1 hf hl rb hRn
  unfold fourV
  go_enter Try.func5, Try.ntmps5
  go_wp2_with fail
  rw [← unhide E1]
  go_wp2_with fail
  refine (unhide HR f l bad _ (unhide HF) (unhide HL) (unhide RB)).mono ?_
  rintro e w2 ⟨x, E, hx, rfl, k2⟩
  obtain ⟨w3, e3, m3, k3, s3⟩ := f4_alloc w2 x
  have K2 := (unhide K1).trans (k2.mono (unhide K1).size)
  have K3 := hide (K2.trans (k3.mono K2.size)); have A3 := hide (((unhide MA).below k2).below k3); have L3 := hide (((unhide ML).below k2).below k3); have X3 := hide m3; have HX := hide hx; have E3 := hide e3
  clear c0 c1 c2 c3 d0 d1 d2 d3
  have c0 := (unhide A3).cell (show 0 < 4 by omega); have c1 := (unhide A3).cell (show 1 < 4 by omega); have c2 := (unhide A3).cell (show 2 < 4 by omega); have c3 := (unhide A3).cell (show 3 < 4 by omega)
  have d0 := (unhide L3).cell (show 0 < 4 by omega); have d1 := (unhide L3).cell (show 1 < 4 by omega); have d2 := (unhide L3).cell (show 2 < 4 by omega); have d3 := (unhide L3).cell (show 3 < 4 by omega)
  rw [e3] at c0 c1 c2 c3 d0 d1 d2 d3
  clear e3 m3 k3 s3 k2 K2 hx
  unfold fourV
  go_wp2_with fail
  rw [← unhide E3]
  refine (refRound_ok f l bad _ (unhide HF) (unhide HL) (unhide RB)).mono ?_
  rintro e w4 ⟨x', E', hx', rfl, k4⟩
  obtain ⟨rfl, ex⟩ := rnR_one hx' (unhide HX)
  rw [four_eq ex]
  obtain ⟨w5, e5, m5, k5, s5⟩ := f4_alloc w4 x
  have K4 := (unhide K3).trans (k4.mono (unhide K3).size)
  have K5 := hide (K4.trans (k5.mono K4.size)); have X5 := hide (((unhide X3).below k4).below k5); have Y5 := hide m5; have E5 := hide e5
  clear c0 c1 c2 c3 d0 d1 d2 d3 e5 m5 k5 s5 k4 K4 hx' ex
  unfold fourV
  go_wp2_with fail
  rw [← unhide E5]
  refine (unhide HR (fun _ => 5) (fun _ => 0) (-1) _ (fun _ => by unfold R64; omega) (fun _ => R64_nought) (by unfold R64; omega)).mono ?_
  rintro e w6 ⟨z, E6, hz, rfl, k6⟩
  have hz0 := five_rn hz (fun _ => rfl) 0 (by omega)
  obtain ⟨w7, e7, m7, k7, s7⟩ := f4_alloc w6 z
  have K6 := (unhide K5).trans (k6.mono (unhide K5).size)
  have x7 := ((unhide X5).below k6).below k7; have y7 := ((unhide Y5).below k6).below k7
  have c0 := x7.cell (show 0 < 4 by omega); have c1 := x7.cell (show 1 < 4 by omega); have c2 := x7.cell (show 2 < 4 by omega); have c3 := x7.cell (show 3 < 4 by omega)
  have d0 := y7.cell (show 0 < 4 by omega); have d1 := y7.cell (show 1 < 4 by omega); have d2 := y7.cell (show 2 < 4 by omega); have d3 := y7.cell (show 3 < 4 by omega)
  have g0 := m7.cell (show 0 < 4 by omega)
  rw [hz0] at g0
  rw [e7] at c0 c1 c2 c3 d0 d1 d2 d3 g0
  have K7 := hide (K6.trans (k7.mono K6.size)); have E7 := hide e7
  clear m7 k7 s7 k6 K6 hz x7 y7 e7 hz0
  unfold fourV
  have tE : (E' == E') = true := by simp
  have tq := run_eq4 (x 0) (x 1) (x 2) (x 3) (w6.alloc (.cells #[.int .i64 (z 0), .int .i64 (z 1), .int .i64 (z 2), .int .i64 (z 3)] 31))
  go_wp2_with fail
  rw [← unhide E7]
  go_ret
  exact ⟨rfl, unhide K7⟩

theorem five_sp {s E : Int} (h : spR (fun i => if i = 0 then 5 else 0) (-1) s E) : s = 5 := by
  rcases h with ⟨⟨i, hi, h⟩, _⟩ | ⟨_, _, h1, i, k, hi, hk, _, _, e⟩
  · dsimp only at h; split at h <;> omega
  · have := h1 0 1 (by omega) (by omega) (by omega) (by omega)
    dsimp only at this e
    rw [if_pos rfl, if_neg (by omega)] at this
    split at e <;> split at e <;> omega

set_option maxRecDepth 100000 in
set_option maxHeartbeats 2000000 in
theorem clockSpreads_by (hSp : SpOK 15) {w : World} (f : Nat → Int) (bad : Int) (hf : ∀ i, R64 (f i)) (rb : R64 bad) :
    Calls Try.prog 6 #[fourV f, .int .i64 bad] w fun e w' => e = .returned (.bool true) ∧ Below w.heap.size w w' := by
  obtain ⟨w1, e1, mA, k1, s1⟩ := f4_alloc w f
  have c0 := mA.cell (show 0 < 4 by omega); have c1 := mA.cell (show 1 < 4 by omega); have c2 := mA.cell (show 2 < 4 by omega); have c3 := mA.cell (show 3 < 4 by omega)
  have E1 := hide e1; have K1 := hide k1; have MA := hide mA; have HF := hide hf; have RB := hide rb; have HS := hide hSp
  clear e1 mA k1 s1 hf rb hSp
  unfold fourV
  go_enter Try.func6, Try.ntmps6
  go_wp2_with fail
  rw [← unhide E1]
  go_wp2_with fail
  refine (unhide HS f bad _ (unhide HF) (unhide RB)).mono ?_
  rintro e w2 ⟨x, E, hx, rfl, k2⟩
  clear c0 c1 c2 c3
  have m2 := (unhide MA).below k2
  have c0 := m2.cell (show 0 < 4 by omega); have c1 := m2.cell (show 1 < 4 by omega); have c2 := m2.cell (show 2 < 4 by omega); have c3 := m2.cell (show 3 < 4 by omega)
  have K2 := hide (show Below w.heap.size w w2 from (unhide K1).trans (k2.mono (unhide K1).size)); have HX := hide hx
  clear k2 m2 hx
  go_wp2_with fail
  refine (refSpread_ok f bad _ (unhide HF) (unhide RB)).mono ?_
  rintro e w3 ⟨x', E', hx', rfl, k3⟩
  obtain ⟨rfl, rfl⟩ := spR_one (unhide HX) hx'
  have K3 := hide (show Below w.heap.size w w3 from (unhide K2).trans (k3.mono (unhide K2).size))
  clear k3 hx' c0 c1 c2 c3
  go_wp2_with fail
  refine (unhide HS (fun i => if i = 0 then 5 else 0) (-1) _ (fun i => by show R64 (if i = 0 then 5 else 0); split <;> (unfold R64; omega)) (by unfold R64; omega)).mono ?_
  rintro e w4 ⟨y, E4, hy, rfl, k4⟩
  have e5 := five_sp hy
  subst e5
  have K4 := hide (show Below w.heap.size w w4 from (unhide K3).trans (k4.mono (unhide K3).size))
  have tx : (x == x) = true := by simp
  have tE : (E == E) = true := by simp
  clear k4 hy
  go_wp2_with fail
  go_ret
  exact ⟨rfl, unhide K4⟩

end Go.Proofs.Ytgikknoklnbihaa
