/- The walk of RoundHalves, whatever Round and Spread are made of. -/
import Derived.Test.YtgikknoklnbihabClkTell
import Derived.Test.YtgikknoklnbihabFourMem
namespace Go.Proofs.Ytgikknoklnbihab
open Go.RowKit

theorem fives_rn {x : Nat → Int} {E : Int} (h : rnR (fun _ => 5) (fun _ => 0) (-1) x E) : ∀ i, i < 4 → x i = 5 := by
  intro i hi
  rcases h with ⟨⟨j, hj, h⟩, _⟩ | ⟨_, _, h⟩
  · dsimp only at h; omega
  · have hm := (h i hi).2 (by omega)
    have := mid_within (lo := 5) (hi := 5) hm (fun k _ => by unfold rdF; rw [if_neg (by omega)]; exact ⟨Int.le_refl _, Int.le_refl _⟩)
    omega
theorem rn_bounds {f l x : Nat → Int} {bad : Int} (h : rnR f l bad x 0) : (∀ i, i < 4 → -1099511627776 ≤ f i ∧ f i ≤ 1099511627776) ∧ ∀ i, i < 4 → -1099511627776 ≤ x i ∧ x i ≤ 1099511627776 := by
  have h' := h
  rcases h with ⟨_, h, _⟩ | ⟨hb, _, h⟩
  · omega
  · have g : ∀ i, i < 4 → -1099511627776 ≤ f i ∧ f i ≤ 1099511627776 := fun i hi => by
      refine ⟨?_, ?_⟩
      · rcases Int.lt_or_le (f i) (-1099511627776) with c | c
        · exact absurd ⟨i, hi, Or.inl c⟩ hb
        · exact c
      · rcases Int.lt_or_le 1099511627776 (f i) with c | c
        · exact absurd ⟨i, hi, Or.inr (Or.inl c)⟩ hb
        · exact c
    refine ⟨g, fun i hi => ?_⟩
    by_cases c : (i : Int) = bad
    · rw [(h i hi).1 c]; exact g i hi
    · exact round_in h' hi c (fun k hk _ => g k hk)

set_option maxRecDepth 100000 in
set_option maxHeartbeats 4000000 in
theorem roundHalves_by (hRn : RnOK 12) (hSp : SpOK 13) {w : World} (f : Nat → Int) (bad : Int) (l : Nat → Int) (hf : ∀ i, R64 (f i)) (rb : R64 bad) (hl : ∀ i, R64 (l i)) :
    Calls Try.prog 7 #[fourV f, .int .i64 bad, fourV l] w fun e w' => e = .returned (.bool true) ∧ Below w.heap.size w w' := by
  obtain ⟨u, eu, mu, ku, su⟩ := f4_alloc w f
  obtain ⟨w1, e1, mL, k1, s1⟩ := f4_alloc u l
  have mA := mu.below k1
  rw [su] at mL
  subst eu
  have K1 := hide (show Below w.heap.size w w1 from ku.trans (k1.mono (by omega)))
  have c0 := mA.cell (show 0 < 4 by omega); have c1 := mA.cell (show 1 < 4 by omega); have c2 := mA.cell (show 2 < 4 by omega); have c3 := mA.cell (show 3 < 4 by omega)
  have d0 := mL.cell (show 0 < 4 by omega); have d1 := mL.cell (show 1 < 4 by omega); have d2 := mL.cell (show 2 < 4 by omega); have d3 := mL.cell (show 3 < 4 by omega)
  have E1 := hide e1; have MA := hide mA; have HF := hide hf; have HL := hide hl; have RB := hide rb; have HR := hide hRn; have HP := hide hSp
  clear e1 mA mL mu ku su k1 s1 hf hl rb hRn hSp
  unfold fourV
  go_enter Try.func7, Try.ntmps7
  go_wp2_with fail
  rw [← unhide E1]
  go_wp2_with fail
  refine (unhide HR f l bad _ (unhide HF) (unhide HL) (unhide RB)).mono ?_
  rintro e w2 ⟨x, E, hx, rfl, k2⟩
  obtain ⟨w3, e3, m3, k3, s3⟩ := f4_alloc w2 x
  have K2 := (unhide K1).trans (k2.mono (unhide K1).size)
  have K3 := hide (K2.trans (k3.mono K2.size)); have A3 := hide (((unhide MA).below k2).below k3); have X3 := hide m3; have HX := hide hx; have E3 := hide e3
  clear c0 c1 c2 c3 d0 d1 d2 d3 e3 m3 k3 s3 k2 K2 hx
  unfold fourV
  go_wp2_with fail
  rw [← unhide E3]
  refine (unhide HR (fun _ => 5) (fun _ => 0) (-1) _ (fun _ => by unfold R64; omega) (fun _ => R64_nought) (by unfold R64; omega)).mono ?_
  rintro e w4 ⟨z, E4, hz, rfl, k4⟩
  have hz1 := fives_rn hz 1 (by omega)
  obtain ⟨w5, e5, m5, k5, s5⟩ := f4_alloc w4 z
  have K4 := (unhide K3).trans (k4.mono (unhide K3).size)
  have g1 := m5.cell (show 1 < 4 by omega)
  rw [hz1, e5] at g1
  have a5 := ((unhide A3).below k4).below k5
  have K5 := hide (K4.trans (k5.mono K4.size)); have A5 := hide a5; have X5 := hide (((unhide X3).below k4).below k5); have E5 := hide e5
  by_cases hE : E = 0
  · subst hE
    have c0 := a5.cell (show 0 < 4 by omega); have c1 := a5.cell (show 1 < 4 by omega); have c2 := a5.cell (show 2 < 4 by omega); have c3 := a5.cell (show 3 < 4 by omega)
    rw [e5] at c0 c1 c2 c3
    clear e5 m5 k5 s5 k4 K4 hz a5 K3 A3 X3 hz1
    unfold fourV
    go_wp2_with fail
    rw [← unhide E5]
    clear c0 c1 c2 c3 g1
    refine (unhide HP f bad _ (unhide HF) (unhide RB)).mono ?_
    rintro e w6 ⟨a, Ea, ha, rfl, k6⟩
    have x6 := (unhide X5).below k6
    have c0 := x6.cell (show 0 < 4 by omega); have c1 := x6.cell (show 1 < 4 by omega); have c2 := x6.cell (show 2 < 4 by omega); have c3 := x6.cell (show 3 < 4 by omega)
    have A6 := hide ((unhide A5).below k6); have X6 := hide x6; have K6 := hide ((unhide K5).trans (k6.mono (unhide K5).size)); have HA := hide ha
    clear ha k6 x6 A5 X5 K5
    go_wp2_with fail
    clear c0 c1 c2 c3
    have BD := hide (rn_bounds (unhide HX))
    have XF := hide (show ∀ i, R64 ((fun i => if i < 4 then x i else 0) i) from fun i => by
      show R64 (if i < 4 then x i else 0)
      split
      · rename_i h; have := (unhide BD).2 i h; unfold R64; omega
      · unfold R64; omega)
    refine (unhide HP (fun i => if i < 4 then x i else 0) bad _ (unhide XF) (unhide RB)).mono ?_
    rintro e w7 ⟨b, Eb, hb, rfl, k7⟩
    have hEa : Ea = 0 ∧ IsSp f bad a := by
      rcases unhide HA with ⟨⟨i, hi, h⟩, _⟩ | ⟨_, h, h2⟩
      · have := (unhide BD).1 i hi; omega
      · exact ⟨h, h2⟩
    have hEb : Eb = 0 ∧ IsSp x bad b := by
      rcases hb with ⟨⟨i, hi, h⟩, _⟩ | ⟨_, h, h2, i, k, hi, hk, bi, bk, e⟩
      · have := (unhide BD).2 i hi
        dsimp only at h
        rw [if_pos hi] at h
        omega
      · refine ⟨h, fun i k hi hk bi bk => ?_, i, k, hi, hk, bi, bk, ?_⟩
        · have := h2 i k hi hk bi bk
          dsimp only at this
          rw [if_pos hi, if_pos hk] at this
          exact this
        · dsimp only at e
          rw [if_pos hi, if_pos hk] at e
          exact e
    obtain ⟨rfl, ia⟩ := hEa
    obtain ⟨rfl, ib⟩ := hEb
    have half := round_half (unhide HX) ia ib
    have ba : -2199023255552 ≤ a ∧ a ≤ 2199023255552 := by
      obtain ⟨_, i, k, hi, hk, _, _, e⟩ := ia
      have := (unhide BD).1 i hi; have := (unhide BD).1 k hk; omega
    have bb : -2199023255552 ≤ b ∧ b ≤ 2199023255552 := by
      obtain ⟨_, i, k, hi, hk, _, _, e⟩ := ib
      have := (unhide BD).2 i hi; have := (unhide BD).2 k hk; omega
    have A7 := hide ((unhide A6).below k7); have X7 := hide ((unhide X6).below k7); have K7 := hide ((unhide K6).trans (k7.mono (unhide K6).size))
    clear hb k7 ia ib A6 X6 K6 HA
    go_wp2_with fail
    go_loopw [15, 16, 17, 18] (fun is _ _ _ wr => ∃ i : Nat, is = .int .i64 i ∧ i ≤ 4 ∧ F4 wr w.heap.size f ∧ F4 wr w2.heap.size x ∧ Below w.heap.size w wr) (fun is _ _ _ _ => 4 - (intOf is).toNat)
    case atStart => exact ⟨0, rfl, by omega, unhide A7, unhide X7, unhide K7⟩
    case round =>
      obtain ⟨i, rfl, hi, mA, mX, hK⟩ := hrel
      rename World => wr
      have RA := hide mA; have RX := hide mX; have RK := hide hK
      clear mA mX hK A7 X7 K7
      by_cases h4 : i < 4
      · have h4' : (i : Int) < 4 := by omega
        have ca : wr.drew.cell? ⟨w.heap.size, i, none⟩ = some (.int .i64 (f i)) := (unhide RA).cell h4
        have cx : wr.drew.cell? ⟨w2.heap.size, i, none⟩ = some (.int .i64 (x i)) := (unhide RX).cell h4
        by_cases hb : (i : Int) = bad
        · have tb : (((i : Nat) : Int) == bad) = true := by simp [hb]
          have ex : x i = f i := by
            rcases unhide HX with ⟨_, h, _⟩ | ⟨_, _, h⟩
            · omega
            · exact (h i h4).1 hb
          rw [ex] at cx
          have tn : ((f i) != (f i)) = false := by simp
          clear hb ex
          go_wp2_with fail
          go_region
          go_wp2_with fail
          go_roundw
          case rel => exact ⟨i + 1, by go_num, by omega, unhide RA, unhide RX, below_drew (unhide RK)⟩
          case measure => simp [intOf] <;> omega
        · have tb : (((i : Nat) : Int) == bad) = false := by simp [hb]
          have HB := hide hb
          clear hb
          go_wp2_with fail
          go_region
          go_wp2_with fail
          clear ca cx
          go_loopw [16, 17, 18] (fun ls hs ks wx => ∃ (k : Nat) (lo hi : Int), ks = .int .i64 k ∧ k ≤ 4 ∧ ls = .int .i64 lo ∧ hs = .int .i64 hi ∧ (∀ j : Nat, j < k → (j : Int) ≠ bad → lo ≤ f j ∧ f j ≤ hi) ∧ F4 wx w.heap.size f ∧ F4 wx w2.heap.size x ∧ Below w.heap.size w wx) (fun _ _ ks _ => 4 - (intOf ks).toNat)
          case atStart => exact ⟨0, f i, f i, rfl, by omega, rfl, rfl, fun j hj => absurd hj (by omega), unhide RA, unhide RX, below_drew (unhide RK)⟩
          case round =>
            obtain ⟨k, lo, hi2, rfl, hk, rfl, rfl, hr, mA, mX, hK⟩ := hrel
            rename World => wx
            have QA := hide mA; have QX := hide mX; have QK := hide hK; have QR := hide hr
            clear mA mX hK hr
            by_cases hk4 : k < 4
            · have hk4' : (k : Int) < 4 := by omega
              have ca : wx.drew.cell? ⟨w.heap.size, k, none⟩ = some (.int .i64 (f k)) := (unhide QA).cell hk4
              by_cases bk : (k : Int) = bad
              · have tk : (((k : Nat) : Int) != bad) = false := by simp [bk]
                have BK := hide bk
                clear bk ca
                go_wp2_with fail
                go_roundw
                case rel => exact ⟨k + 1, lo, hi2, by go_num, by omega, rfl, rfl, (fun j hj hn => by
                  by_cases e : j = k
                  · subst e; exact absurd (unhide BK) hn
                  · exact unhide QR j (by omega) hn), unhide QA, unhide QX, unhide QK⟩
                case measure => simp [intOf] <;> omega
              · have tk : (((k : Nat) : Int) != bad) = true := by simp [bk]
                clear bk
                go_wp2_with fail
                go_region
                go_wp2_with fail
                refine ⟨⟨k + 1, (if f k < lo then f k else lo), (if hi2 < f k then f k else hi2), by go_num, by omega, rfl, rfl, (fun j hj hn => ?_), unhide QA, unhide QX, below_drew (unhide QK)⟩, by simp [intOf] <;> omega⟩
                by_cases e : j = k
                · subst e
                  constructor
                  · split <;> omega
                  · split <;> omega
                · have := unhide QR j (by omega) hn
                  constructor
                  · split <;> omega
                  · split <;> omega
            · have e8 : k = 4 := by omega
              subst e8
              rw [show ((4 : Nat) : Int) = 4 from rfl]
              have IN := hide (round_in (unhide HX) h4 (unhide HB) (unhide QR))
              have cx := (unhide QX).cell h4
              obtain ⟨y, ey⟩ : ∃ y, x i = y := ⟨_, rfl⟩
              rw [ey] at cx IN
              have n1 : ¬ y < lo := by have := (unhide IN).1; omega
              have n2 : ¬ hi2 < y := by have := (unhide IN).2; omega
              clear ey
              go_wp2_with fail
              go_roundw
              case rel => exact ⟨i + 1, by go_num, by omega, unhide QA, unhide QX, unhide QK⟩
              case measure => simp [intOf] <;> omega
      · have e9 : i = 4 := by omega
        subst e9
        rw [show ((4 : Nat) : Int) = 4 from rfl]
        go_wp2_with fail
        go_ret
        exact ⟨rfl, unhide RK⟩
  · have tE : (E != 0) = true := by simp [hE]
    clear e5 m5 k5 s5 k4 K4 hz a5 K3 A3 X3 hz1
    unfold fourV
    go_wp2_with fail
    rw [← unhide E5]
    go_ret
    exact ⟨rfl, unhide K5⟩

end Go.Proofs.Ytgikknoklnbihab
