/- The walk of VoteCounts, whatever Vote is made of. -/
import Derived.Test.YtkikikapnaoijaaLawsO2
namespace Go.Proofs.Ytkikikapnaoijaa
open Go.RowKit

/-- How many of the first k that are in agree. -/
def ag (v : Nat → Int) (b : Nat → Bool) (X : Int) (k : Nat) : Nat := if 0 < ti b 4 then vk b v X k else 0
theorem ti_in {b : Nat → Bool} {k : Nat} (h : b k = true) : ti b (k + 1) = ti b k + 1 := by show ti b k + (if b k = true then 1 else 0) = _; rw [if_pos h]
theorem ti_out {b : Nat → Bool} {k : Nat} (h : b k = false) : ti b (k + 1) = ti b k := by show ti b k + (if b k = true then 1 else 0) = _; rw [if_neg (by rw [h]; decide)]; rfl
theorem ag_out {v : Nat → Int} {b : Nat → Bool} {X : Int} {k : Nat} (h : b k = false) : ag v b X (k + 1) = ag v b X k := by
  unfold ag
  split
  · show vk b v X k + (if b k = true ∧ v k = X then 1 else 0) = _; rw [if_neg (fun h2 => by rw [h] at h2; exact absurd h2.1 (by decide))]; rfl
  · rfl
theorem ag_yes {v : Nat → Int} {b : Nat → Bool} {X : Int} {k : Nat} (hk : k < 4) (h : b k = true) (ha : vtA v b X k = true) : ag v b X (k + 1) = ag v b X k + 1 := by
  have := of_decide_eq_true ha
  unfold ag
  rw [if_pos (ti_pos hk h), if_pos (ti_pos hk h)]
  show vk b v X k + (if b k = true ∧ v k = X then 1 else 0) = _
  rw [if_pos ⟨h, this.2⟩]
theorem ag_no {v : Nat → Int} {b : Nat → Bool} {X : Int} {k : Nat} (hk : k < 4) (h : b k = true) (ha : vtA v b X k = false) : ag v b X (k + 1) = ag v b X k := by
  have := of_decide_eq_false ha
  unfold ag
  rw [if_pos (ti_pos hk h), if_pos (ti_pos hk h)]
  show vk b v X k + (if b k = true ∧ v k = X then 1 else 0) = _
  rw [if_neg (fun h2 => this ⟨ti_pos hk h, h2.2⟩)]; rfl
theorem ag_le (v : Nat → Int) (b : Nat → Bool) (X : Int) (k : Nat) : ag v b X k ≤ k := by unfold ag; split; exact vk_le _ _ _ _; omega
/-- How many say what the i-th one says. -/
def nk (v : Nat → Int) (b : Nat → Bool) (i k : Nat) : Nat := if b i = true then vk b v (v i) k else 0
theorem nk_le (v : Nat → Int) (b : Nat → Bool) (i k : Nat) : nk v b i k ≤ k := by unfold nk; split; exact vk_le _ _ _ _; omega
theorem nk_yes {v : Nat → Int} {b : Nat → Bool} {i k : Nat} (h1 : b k = true) (h2 : b i = true) (h3 : v k = v i) : nk v b i (k + 1) = nk v b i k + 1 := by
  unfold nk; rw [if_pos h2, if_pos h2]
  show vk b v (v i) k + (if b k = true ∧ v k = v i then 1 else 0) = _
  rw [if_pos ⟨h1, h3⟩]
theorem nk_no {v : Nat → Int} {b : Nat → Bool} {i k : Nat} (h : ¬ (b k = true ∧ b i = true ∧ v k = v i)) : nk v b i (k + 1) = nk v b i k := by
  unfold nk
  split
  · rename_i h2
    show vk b v (v i) k + (if b k = true ∧ v k = v i then 1 else 0) = _
    rw [if_neg (fun h3 => h ⟨h3.1, h2, h3.2⟩)]; rfl
  · rfl
theorem nk_most {v : Nat → Int} {b : Nat → Bool} {X : Int} (h : IsV v b 4 X) {i : Nat} (hi : i < 4) : nk v b i 4 ≤ ag v b X 4 := by
  unfold nk ag
  split
  · rename_i h2
    rw [if_pos (ti_pos hi h2)]
    rcases h with ⟨h0, _⟩ | ⟨m, _, _, _, h4, _⟩
    · have := ti_pos hi h2; omega
    · exact h4 i hi h2
  · omega
theorem vt_end {v : Nat → Int} {b : Nat → Bool} {X : Int} (h : IsV v b 4 X) : vtS v b X = decide (ti b 4 < 2 * ag v b X 4) ∧ (ti b 4 = 0 ∨ 0 < ag v b X 4) := by
  unfold vtS ag
  by_cases c : 0 < ti b 4
  · rw [if_pos c]
    refine ⟨decide_eq_decide.2 ⟨fun h => h.2, fun h => ⟨c, h⟩⟩, Or.inr ?_⟩
    rcases h with ⟨h0, _⟩ | ⟨m, hm, hb, rfl, _⟩
    · omega
    · exact vk_pos hm hb
  · rw [if_neg c]
    exact ⟨decide_eq_decide.2 ⟨fun h => absurd h.1 c, fun h => by omega⟩, Or.inl (by omega)⟩

set_option maxRecDepth 100000 in
set_option maxHeartbeats 4000000 in
theorem voteCounts_by (hV : VtOK 6) (v : Nat → Int) (b : Nat → Bool) {w : World} (rv : ∀ i, R64 (v i)) :
    Calls Try.prog 5 #[fourV v, boolV b] w fun e w' => e = .returned (.bool true) ∧ Below w.heap.size w w' := by
  obtain ⟨w1, e1, mA, mB, k1, s1⟩ := vt_two w v b
  have c0 := mA.cell (show 0 < 4 by omega); have c1 := mA.cell (show 1 < 4 by omega); have c2 := mA.cell (show 2 < 4 by omega); have c3 := mA.cell (show 3 < 4 by omega)
  have b0 := mB.cell (show 0 < 4 by omega); have b1 := mB.cell (show 1 < 4 by omega); have b2 := mB.cell (show 2 < 4 by omega); have b3 := mB.cell (show 3 < 4 by omega)
  have CV := hV v b w1 rv
  unfold fourV boolV at CV
  have E1 := hide e1; have MA := hide mA; have MB := hide mB; have K1 := hide k1
  clear e1 mA mB k1 s1 rv
  unfold fourV boolV
  go_enter Try.func5, Try.ntmps5
  go_wp2_with fail
  rw [← unhide E1]
  go_wp2_with fail
  refine CV.mono ?_
  rintro e w2 ⟨X, r, iX, rfl, o2, k2⟩
  obtain ⟨S, eS⟩ : ∃ S, vtS v b X = S := ⟨_, rfl⟩
  rw [eS]
  obtain ⟨a2, cp, rfl⟩ := owns_slice o2
  obtain ⟨rb, ro, rfl, hc⟩ := owns_rd o2 (by omega)
  obtain ⟨w3, e3, m3, k3, s3⟩ := vd_alloc w2 X S (.slice (some ⟨rb, ro, none⟩) 4 cp)
  have CT := votes_by hV w3
  have E3 := hide e3
  have RC := hide (show ∀ i, i < 4 → w3.cell? ⟨rb, ro + i, none⟩ = some (.bool (vtA v b X i)) from fun i hi => at_below (hc i hi) k3)
  have MA3 := hide (((unhide MA).below k2).below k3); have MB3 := hide (((unhide MB).below k2).below k3); have M3 := hide m3
  have K3 := hide ((unhide K1).trans ((k2.mono (unhide K1).size).trans (k3.mono (Nat.le_trans (unhide K1).size k2.size))))
  have IX := hide iX; have ES := hide eS
  clear iX o2 hc k2 k3 s3 e3 m3 CV c0 c1 c2 c3 b0 b1 b2 b3 eS MA MB
  unfold vdV
  go_wp2_with fail
  rw [← unhide E3]
  refine CT.mono ?_
  rintro e w4 ⟨rfl, k4⟩
  have v1 := ((unhide M3).below k4).cell1; have v2 := ((unhide M3).below k4).cell2
  have RC4 := hide (show ∀ i, i < 4 → w4.cell? ⟨rb, ro + i, none⟩ = some (.bool (vtA v b X i)) from fun i hi => at_below (unhide RC i hi) k4)
  have MA4 := hide ((unhide MA3).below k4); have MB4 := hide ((unhide MB3).below k4); have K4 := hide ((unhide K3).trans (k4.mono (unhide K3).size))
  clear CT k4 RC MA3 MB3 M3
  obtain ⟨q, eq⟩ : ∃ q, w2.heap.size = q := ⟨_, rfl⟩
  rw [eq] at v1 v2 ⊢
  clear eq E1 E3
  go_wp2_with fail
  go_loopw [6, 7, 8] (fun t6 t7 t8 wr => wr = w4 ∧ ∃ k : Nat, k ≤ 4 ∧ t8 = .int .i64 (k : Int) ∧ t6 = .int .i64 ((ti b k : Nat) : Int) ∧ t7 = .int .i64 ((ag v b X k : Nat) : Int)) (fun _ _ q _ => 4 - (intOf q).toNat)
  case atStart => exact ⟨rfl, 0, by omega, rfl, rfl, by unfold ag; split <;> rfl⟩
  case round =>
    obtain ⟨rfl, k, hk, rfl, rfl, rfl⟩ := hrel
    by_cases hin : k < 4
    · have hin' : (k : Int) < 4 := by omega
      have x1 := (unhide MB4).cell hin; have x2 := unhide RC4 k hin
      have lt := ti_le b k; have la := ag_le v b X k
      obtain ⟨T, eT⟩ : ∃ T, ti b k = T := ⟨_, rfl⟩
      obtain ⟨G, eG⟩ : ∃ G, ag v b X k = G := ⟨_, rfl⟩
      rw [eT] at lt ⊢
      rw [eG] at la ⊢
      cases cb : b k
      · have NT := hide (show ti b (k + 1) = T by rw [ti_out cb, eT]); have NG := hide (show ag v b X (k + 1) = G by rw [ag_out cb, eG])
        rw [cb] at x1
        clear cb eT eG
        go_wp2_with fail
        go_roundw
        case rel => exact ⟨trivial, k + 1, by omega, by go_num, by rw [unhide NT], by rw [unhide NG]⟩
        case measure => simp [intOf]; omega
      · cases ca : vtA v b X k
        · have NT := hide (show ti b (k + 1) = T + 1 by rw [ti_in cb, eT]); have NG := hide (show ag v b X (k + 1) = G by rw [ag_no hin cb ca, eG])
          rw [cb] at x1; rw [ca] at x2
          clear cb ca eT eG
          go_wp2_with fail
          go_roundw
          case rel => exact ⟨trivial, k + 1, by omega, by go_num, by rw [unhide NT]; go_num, by rw [unhide NG]⟩
          case measure => simp [intOf]; omega
        · have NT := hide (show ti b (k + 1) = T + 1 by rw [ti_in cb, eT]); have NG := hide (show ag v b X (k + 1) = G + 1 by rw [ag_yes hin cb ca, eG])
          rw [cb] at x1; rw [ca] at x2
          clear cb ca eT eG
          go_wp2_with fail
          go_roundw
          case rel => exact ⟨trivial, k + 1, by omega, by go_num, by rw [unhide NT]; go_num, by rw [unhide NG]; go_num⟩
          case measure => simp [intOf]; omega
    · obtain rfl : k = 4 := by omega
      have lt := ti_le b 4; have la := ag_le v b X 4
      obtain ⟨hs, hz⟩ := vt_end (unhide IX)
      rw [unhide ES] at hs
      have MO := hide (fun (i : Nat) (hi : i < 4) => nk_most (unhide IX) hi)
      obtain ⟨T, eT⟩ : ∃ T, ti b 4 = T := ⟨_, rfl⟩
      obtain ⟨G, eG⟩ : ∃ G, ag v b X 4 = G := ⟨_, rfl⟩
      rw [eT, eG] at hs hz
      rw [eT] at lt ⊢
      rw [eG] at la MO ⊢
      have HS := hide hs; have HZ := hide hz
      clear eT eG hs hz
      rw [show ((4 : Nat) : Int) = 4 from rfl]
      go_wp2_with fail
      go_loopw [9] (fun t9 wq => (∃ i : Nat, i ≤ 4 ∧ t9 = .int .i64 (i : Int)) ∧ ∃ dn, wq = wr.drewN dn) (fun q _ => 4 - (intOf q).toNat)
      case atStart => exact ⟨⟨0, by omega, rfl⟩, 0, rfl⟩
      case round =>
        obtain ⟨⟨i, hi, rfl⟩, dn, rfl⟩ := hrel
        by_cases hin : i < 4
        · have hin' : (i : Int) < 4 := by omega
          go_wp2_with fail
          go_loopw [10, 11] (fun t10 t11 wq => ∃ k : Nat, k ≤ 4 ∧ t11 = .int .i64 (k : Int) ∧ t10 = .int .i64 ((nk v b i k : Nat) : Int) ∧ ∃ dn, wq = wr.drewN dn) (fun _ q _ => 4 - (intOf q).toNat)
          case atStart => exact ⟨0, by omega, rfl, by unfold nk; split <;> rfl, dn, rfl⟩
          case round =>
            obtain ⟨k, hk, rfl, rfl, en, rfl⟩ := hrel
            by_cases hkn : k < 4
            · have hkn' : (k : Int) < 4 := by omega
              have x1 : (wr.drewN en).cell? ⟨w.heap.size + 1, k, none⟩ = some (.bool (b k)) := (unhide MB4).cell hkn
              have x2 : (wr.drewN en).cell? ⟨w.heap.size + 1, i, none⟩ = some (.bool (b i)) := (unhide MB4).cell hin
              have x3 : (wr.drewN en).cell? ⟨w.heap.size, k, none⟩ = some (.int .i64 (v k)) := (unhide MA4).cell hkn
              have x4 : (wr.drewN en).cell? ⟨w.heap.size, i, none⟩ = some (.int .i64 (v i)) := (unhide MA4).cell hin
              have ln := nk_le v b i k
              obtain ⟨N, eN⟩ : ∃ N, nk v b i k = N := ⟨_, rfl⟩
              rw [eN] at ln ⊢
              obtain ⟨wq, eq⟩ : ∃ wq, wr.drewN en = wq := ⟨_, rfl⟩
              rw [eq] at x1 x2 x3 x4 ⊢
              have EQ := hide eq
              clear eq
              cases cb : b k
              · have NN := hide (show nk v b i (k + 1) = N by rw [nk_no (by rw [cb]; exact fun h => absurd h.1 (by decide)), eN])
                rw [cb] at x1
                clear cb eN
                go_wp2_with fail
                go_region
                go_wp2_with fail
                go_roundw
                case rel => exact ⟨k + 1, by omega, by go_num, by rw [unhide NN], en + 1, by rw [← unhide EQ]; rfl⟩
                case measure => simp [intOf]; omega
              · cases ci : b i
                · have NN := hide (show nk v b i (k + 1) = N by rw [nk_no (by rw [ci]; exact fun h => absurd h.2.1 (by decide)), eN])
                  rw [cb] at x1; rw [ci] at x2
                  clear cb ci eN
                  go_wp2_with fail
                  go_region
                  go_wp2_with fail
                  go_roundw
                  case rel => exact ⟨k + 1, by omega, by go_num, by rw [unhide NN], en + 1, by rw [← unhide EQ]; rfl⟩
                  case measure => simp [intOf]; omega
                · by_cases cv : v k = v i
                  · have NN := hide (show nk v b i (k + 1) = N + 1 by rw [nk_yes cb ci cv, eN])
                    have te : (v k == v i) = true := by simp [cv]
                    rw [cb] at x1; rw [ci] at x2
                    obtain ⟨y, ey⟩ : ∃ y, v k = y := ⟨_, rfl⟩
                    obtain ⟨z, ez⟩ : ∃ z, v i = z := ⟨_, rfl⟩
                    rw [ey] at x3 te; rw [ez] at x4 te
                    clear cb ci eN cv ey ez
                    go_wp2_with fail
                    go_region
                    go_wp2_with fail
                    go_roundw
                    case rel => exact ⟨k + 1, by omega, by go_num, by rw [unhide NN]; go_num, en + 1, by rw [← unhide EQ]; rfl⟩
                    case measure => simp [intOf]; omega
                  · have NN := hide (show nk v b i (k + 1) = N by rw [nk_no (fun h => cv h.2.2), eN])
                    have te : (v k == v i) = false := by simp [cv]
                    rw [cb] at x1; rw [ci] at x2
                    obtain ⟨y, ey⟩ : ∃ y, v k = y := ⟨_, rfl⟩
                    obtain ⟨z, ez⟩ : ∃ z, v i = z := ⟨_, rfl⟩
                    rw [ey] at x3 te; rw [ez] at x4 te
                    clear cb ci eN cv ey ez
                    go_wp2_with fail
                    go_region
                    go_wp2_with fail
                    go_roundw
                    case rel => exact ⟨k + 1, by omega, by go_num, by rw [unhide NN], en + 1, by rw [← unhide EQ]; rfl⟩
                    case measure => simp [intOf]; omega
            · obtain rfl : k = 4 := by omega
              have mo := unhide MO i hin
              obtain ⟨N, eN⟩ : ∃ N, nk v b i 4 = N := ⟨_, rfl⟩
              rw [eN] at mo ⊢
              have tm : (N : Int) ≤ (G : Int) := by omega
              clear eN
              go_wp2_with fail
              go_roundw
              case rel => exact ⟨⟨i + 1, by omega, by go_num⟩, en, rfl⟩
              case measure => simp [intOf]; omega
        · obtain rfl : i = 4 := by omega
          have y1 : (wr.drewN dn).cell? ⟨q, 1, none⟩ = some (.bool S) := v1
          have hs := unhide HS
          have KE := hide (show Below w.heap.size w (wr.drewN dn) from (unhide K4).trans ⟨rfl, rfl, rfl, Nat.le_refl _, fun _ _ => rfl⟩)
          obtain ⟨wq, eq⟩ : ∃ wq, wr.drewN dn = wq := ⟨_, rfl⟩
          rw [eq] at y1 KE ⊢
          clear eq v1 v2
          rw [show ((4 : Nat) : Int) = 4 from rfl]
          by_cases cg : T < 2 * G
          · rw [decide_eq_true cg] at hs
            have cg' : decide ((T : Int) < 2 * (G : Int)) = true := decide_eq_true (by omega)
            have cG : decide (0 < G) = true := decide_eq_true (by omega)
            have cG' : decide ((0 : Int) < 2 * (G : Int)) = true := decide_eq_true (by omega)
            subst hs
            by_cases cz : T = 0
            · subst cz
              have tz : (((0 : Nat) : Int) == 0) = true := rfl
              go_wp2_with fail
              go_ret
              exact ⟨rfl, unhide KE⟩
            · have tz : ((T : Int) == 0) = false := by simp; omega
              go_wp2_with fail
              go_ret
              exact ⟨rfl, unhide KE⟩
          · rw [decide_eq_false cg] at hs
            have cg' : decide ((T : Int) < 2 * (G : Int)) = false := decide_eq_false (by omega)
            subst hs
            by_cases cz : T = 0
            · subst cz
              have cG' : decide ((0 : Int) < 2 * (G : Int)) = false := decide_eq_false (by omega)
              have tz : (((0 : Nat) : Int) == 0) = true := rfl
              go_wp2_with fail
              go_ret
              exact ⟨rfl, unhide KE⟩
            · have tz : ((T : Int) == 0) = false := by simp; omega
              have cG : decide (0 < G) = true := decide_eq_true (by have := unhide HZ; omega)
              go_wp2_with fail
              go_ret
              exact ⟨rfl, unhide KE⟩

end Go.Proofs.Ytkikikapnaoijaa
