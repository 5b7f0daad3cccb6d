/- The walks of ClockDrifts and MiddleWithin, whatever package clock is made of. -/
import Derived.Test.YtgikknoklnbihaaClkTell
import Derived.Test.YtgikknoklnbihaaRefClk1
namespace Go.Proofs.Ytgikknoklnbihaa
open Go.RowKit

theorem drift {O R t u : Int} (h1 : ¬ lcBad O R t) (h2 : ¬ lcBad O R u) (h : t ≤ u) :
    lcV O R u - lcV O R t - (u - t) ≤ (u - t) * 500 / 1000000 + 1 ∧ -(lcV O R u - lcV O R t - (u - t)) ≤ (u - t) * 500 / 1000000 + 1 ∧ lcV O R t ≤ lcV O R u ∧ -2000000000000 ≤ lcV O R t ∧ lcV O R t ≤ 2000000000000 ∧ -2000000000000 ≤ lcV O R u ∧ lcV O R u ≤ 2000000000000 := by
  have e1 : lcV O R t = t + O + t * R / 1000000 := by unfold lcV; rw [if_neg h1]
  have e2 : lcV O R u = u + O + u * R / 1000000 := by unfold lcV; rw [if_neg h2]
  unfold lcBad at h1 h2
  have p1 : (u - t) * R ≤ (u - t) * 500 := Int.mul_le_mul_of_nonneg_left (by omega) (by omega)
  have p2 : (u - t) * (-500) ≤ (u - t) * R := Int.mul_le_mul_of_nonneg_left (by omega) (by omega)
  have p3 : t * R ≤ t * 500 := Int.mul_le_mul_of_nonneg_left (by omega) (by omega)
  have p4 : t * (-500) ≤ t * R := Int.mul_le_mul_of_nonneg_left (by omega) (by omega)
  have q : u * R = t * R + (u - t) * R := by rw [← Int.add_mul]; congr 1; omega
  rw [e1, e2, q]
  generalize (u - t) * R = D at *
  generalize t * R = P at *
  omega

set_option maxHeartbeats 2000000 in
theorem clockDrifts_by (hLc : LcOK 9) {w : World} (O R t u : Int) (rO : R64 O) (rR : R64 R) (rt : R64 t) (ru : R64 u) :
    Calls Try.prog 7 #[ckV O R, .int .i64 t, .int .i64 u] w fun e w' => e = .returned (.bool true) ∧ Below w.heap.size w w' := by
  obtain ⟨w1, e1, c0, c1, k1⟩ := ck_alloc w O R
  have E1 := hide e1; have K1 := hide k1; have C0 := hide c0; have C1 := hide c1; have HL := hide hLc; have RO := hide rO; have RR := hide rR; have RT := hide rt; have RU := hide ru
  clear e1 k1 hLc rO rR rt ru
  unfold ckV
  go_enter Try.func7, Try.ntmps7
  go_wp2_with fail
  rw [← unhide E1]
  go_wp2_with fail
  refine (unhide HL O R t _ (unhide RO) (unhide RR) (unhide RT)).mono ?_
  rintro e w2 ⟨rfl, k2⟩
  clear c0 c1
  have c0 := at_below (unhide C0) k2; have c1 := at_below (unhide C1) k2
  have K2 := hide (show Below w.heap.size w w2 from (unhide K1).trans (k2.mono (unhide K1).size))
  clear k2
  go_wp2_with fail
  refine (unhide HL O R u _ (unhide RO) (unhide RR) (unhide RU)).mono ?_
  rintro e w3 ⟨rfl, k3⟩
  have K3 := hide (show Below w.heap.size w w3 from (unhide K2).trans (k3.mono (unhide K2).size))
  clear k3 c0 c1
  go_wp2_with fail
  refine (unhide HL 0 0 5 _ (by unfold R64; omega) (by unfold R64; omega) (by unfold R64; omega)).mono ?_
  rintro e w4 ⟨rfl, k4⟩
  rw [show lcV 0 0 5 = 5 by decide, show lcE 0 0 5 = 0 by decide]
  have K4 := hide (show Below w.heap.size w w4 from (unhide K3).trans (k4.mono (unhide K3).size))
  clear k4
  by_cases b1 : lcBad O R t
  · rw [show lcE O R t = 3 by unfold lcE; rw [if_pos b1]]
    generalize lcV O R t = x
    generalize lcV O R u = y
    generalize lcE O R u = z
    clear b1
    go_wp2_with fail
    go_ret
    exact ⟨rfl, unhide K4⟩
  · rw [show lcE O R t = 0 by unfold lcE; rw [if_neg b1]]
    by_cases b2 : lcBad O R u
    · rw [show lcE O R u = 3 by unfold lcE; rw [if_pos b2]]
      generalize lcV O R t = x
      generalize lcV O R u = y
      clear b1 b2
      go_wp2_with fail
      go_ret
      exact ⟨rfl, unhide K4⟩
    · rw [show lcE O R u = 0 by unfold lcE; rw [if_neg b2]]
      by_cases h : u < t
      · generalize lcV O R t = x
        generalize lcV O R u = y
        clear b1 b2
        go_wp2_with fail
        go_ret
        exact ⟨rfl, unhide K4⟩
      · obtain ⟨d1, d2, d3, d4, d5, d6, d7⟩ := drift b1 b2 (by omega)
        unfold lcBad at b1 b2
        have h4 : 0 ≤ t := by omega
        have h5 : u ≤ 1099511627776 := by omega
        have td : ((u - t) * 500).tdiv 1000000 = (u - t) * 500 / 1000000 := Int.tdiv_eq_ediv_of_nonneg (by omega)
        obtain ⟨x, ex⟩ : ∃ x, lcV O R t = x := ⟨_, rfl⟩
        obtain ⟨y, ey⟩ : ∃ y, lcV O R u = y := ⟨_, rfl⟩
        rw [ex, ey] at d1 d2 d3
        rw [ex] at d4 d5
        rw [ey] at d6 d7
        rw [ex, ey]
        obtain ⟨m, em⟩ : ∃ m, (u - t) * 500 / 1000000 = m := ⟨_, rfl⟩
        rw [em] at d1 d2 td
        have m1 : 0 ≤ m := by omega
        have m2 : m ≤ 1000000000 := by omega
        clear b1 b2 ex ey em
        go_wp2_with fail
        go_ret
        exact ⟨rfl, unhide K4⟩

set_option maxRecDepth 100000 in
set_option maxHeartbeats 2000000 in
theorem middleWithin_by (hMd : MdOK 11) {w : World} (ao : Option Addr) (n cap : Nat) (f : Nat → Int) (ar : ArgS w ao n cap f) (_rc : n ≤ cap) :
    Calls Try.prog 8 #[.slice ao n cap] w fun e w' => e = .returned (.bool true) ∧ Below w.heap.size w w' := by
  obtain ⟨hs, hl, hf⟩ := ar
  have HS := hide (show Sr w ao n cap (iF f) from hs); have HF := hide hf; have HM := hide hMd
  clear hs hf hMd
  go_enter Try.func8, Try.ntmps8
  go_wp2_with (at_builtin; refine wpList_joinI _ rfl _ _ rfl w.heap.size (Nat.le_refl _) (.slice none 0 0) 0 [] rfl (World.ownsRow_nil _ _ _ _) ao n cap (iF f) rfl (unhide HS) (fun i _ => rfl) (by omega) ?_)
  intro v1 w1 o1 k1
  try rw [Nat.zero_add] at o1
  try rw [List.nil_append] at o1
  obtain ⟨a1, c1, rfl, s1, n1⟩ := owns_sr o1
  have S1 := hide s1; have N1 := hide n1; have K1 := hide k1
  clear o1 s1 n1 k1
  go_wp2_with fail
  refine (unhide HM a1 n c1 f _ (unhide HF) hl (unhide N1) (unhide S1)).mono ?_
  rintro e w2 ⟨m, E, hm, rfl, k2⟩
  have K2 := hide (show Below w.heap.size w w2 from (unhide K1).trans (k2.mono (unhide K1).size))
  clear k2 S1 N1 K1
  rcases hm with ⟨h1, h2, rfl, hm⟩ | ⟨h1, rfl, rfl⟩
  · obtain ⟨b, o, rfl, hc⟩ := (unhide HS).rd (by omega)
    have HC := hide (show ∀ i, i < n → w2.cell? ⟨b, o + i, none⟩ = some (.int .i64 (f i)) from fun i hi => at_below (hc i hi) (unhide K2))
    have MM := hide hm
    have cz : w2.drew.cell? ⟨b, o, none⟩ = some (.int .i64 (f 0)) := unhide HC 0 (by omega)
    clear hc hm HS
    go_wp2_with fail
    go_region
    clear cz
    go_wp2_with fail
    go_loopw [5, 6, 8, 40] (fun ls hs _ is wr => w2.drew = wr ∧ ∃ (i : Nat) (lo hi : Int), is = .int .i64 i ∧ i ≤ n ∧ ls = .int .i64 lo ∧ hs = .int .i64 hi ∧ ∀ j, j < i → lo ≤ f j ∧ f j ≤ hi) (fun _ _ _ is _ => n - (intOf is).toNat)
    case atStart => exact ⟨rfl, 0, f 0, f 0, rfl, Nat.zero_le _, rfl, rfl, fun j hj => absurd hj (by omega)⟩
    case round =>
      obtain ⟨rfl, i, lo, hi, rfl, hin, rfl, rfl, hb⟩ := hrel
      have HB := hide hb
      clear hb
      by_cases h3 : i < n
      · have ci : w2.drew.cell? ⟨b, o + i, none⟩ = some (.int .i64 (f i)) := unhide HC i h3
        obtain ⟨v, ev⟩ : ∃ v, f i = v := ⟨_, rfl⟩
        have EV := hide ev
        rw [ev] at ci
        clear ev
        go_wp2_with fail
        refine ⟨⟨trivial, i + 1, (if v < lo then v else lo), (if hi < v then v else hi), by go_num, by omega, rfl, rfl, fun j hj => ?_⟩, by simp [intOf] <;> omega⟩
        by_cases e : j = i
        · subst e
          rw [unhide EV]
          constructor
          · split <;> omega
          · split <;> omega
        · have := unhide HB j (by omega)
          constructor
          · split <;> omega
          · split <;> omega
      · have e9 : i = n := by omega
        subst e9
        have W := hide (mid_within (unhide MM) (unhide HB))
        go_wp2_with fail
        refine (middles_ok (unhide HM) _).mono ?_
        rintro e w3 ⟨rfl, k3⟩
        have K3 := hide (show Below w.heap.size w w3 from (below_drew (unhide K2)).trans (k3.mono (unhide K2).size))
        have d1 := (unhide W).1; have d2 := (unhide W).2
        clear k3
        go_wp2_with fail
        go_ret
        exact ⟨rfl, unhide K3⟩
  · by_cases h0 : n = 0
    · subst h0
      go_wp2_with fail
      refine (middles_ok (unhide HM) _).mono ?_
      rintro e w3 ⟨rfl, k3⟩
      have K3 := hide (show Below w.heap.size w w3 from (unhide K2).trans (k3.mono (unhide K2).size))
      clear k3
      go_wp2_with fail
      go_ret
      exact ⟨rfl, unhide K3⟩
    · have h3 : (64 : Int) < (n : Int) := by omega
      have h4 : ((n : Int) == 0) = false := by simp; omega
      clear h1
      go_wp2_with fail
      refine (middles_ok (unhide HM) _).mono ?_
      rintro e w3 ⟨rfl, k3⟩
      have K3 := hide (show Below w.heap.size w w3 from (unhide K2).trans (k3.mono (unhide K2).size))
      clear k3
      go_wp2_with fail
      go_ret
      exact ⟨rfl, unhide K3⟩

end Go.Proofs.Ytgikknoklnbihaa
