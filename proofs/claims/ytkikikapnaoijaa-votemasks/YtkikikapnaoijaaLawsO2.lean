/- The walk of VoteMasks, whatever Vote is made of. -/
import Derived.Test.YtkikikapnaoijaaLawsO1
import Derived.Test.YtkikikapnaoijaaSpot
import Derived.Test.YtkikikapnaoijaaOpenFour
namespace Go.Proofs.Ytkikikapnaoijaa
open Go.RowKit

theorem isV_votes {X : Int} (h : IsV (fnF 5 5 5 6) (fun _ => true) 4 X) : X = 5 := by
  have h5 : IsV (fnF 5 5 5 6) (fun _ => true) 4 5 := Or.inr ⟨0, by omega, rfl, rfl, fun i hi _ => by
    have : i = 0 ∨ i = 1 ∨ i = 2 ∨ i = 3 := by omega
    rcases this with rfl | rfl | rfl | rfl <;> decide, fun i hi _ => by omega⟩
  exact isV_one h h5

set_option maxHeartbeats 1000000 in
theorem votes_by (hV : VtOK 6) (w : World) :
    Calls Try.prog 10 #[] w fun e w' => e = .returned (.bool true) ∧ Below w.heap.size w w' := by
  go_enter Try.func10, Try.ntmps10
  go_wp2_with fail
  refine (hV (fnF 5 5 5 6) (fun _ => true) _ (fun i => by unfold fnF R64; split <;> omega)).mono ?_
  rintro e w2 ⟨X, r2, iX, rfl, o2, k2⟩
  obtain rfl := isV_votes iX
  have sX : vtS (fnF 5 5 5 6) (fun _ => true) 5 = true := by decide
  rw [sX]
  obtain ⟨a2, c2, rfl⟩ := owns_slice o2
  obtain ⟨b, o, rfl, hc⟩ := owns_rd o2 (by omega)
  obtain ⟨w3, e3, m3, k3, s3⟩ := vd_alloc w2 5 true (.slice (some ⟨b, o, none⟩) 4 c2)
  have r0 : w3.cell? ⟨b, o, none⟩ = some (.bool true) := at_below (hc 0 (by omega)) k3
  have r3 : w3.cell? ⟨b, o + 3, none⟩ = some (.bool false) := at_below (hc 3 (by omega)) k3
  have c0 := m3.cell0; have c1 := m3.cell1; have c2' := m3.cell2
  have E3 := hide e3; have K3 := hide (k2.trans (k3.mono k2.size))
  clear iX sX o2 hc k2 m3 k3 s3 e3
  rw [unhide E3] at r0 r3
  clear c0 c1 c2'
  unfold vdV
  go_wp2_with fail
  rw [← unhide E3]
  go_ret
  exact ⟨rfl, unhide K3⟩

/-- Three say the same. -/
def mkL (good lie : Int) (j i : Nat) : Int := if i = j then lie else good
def mkB (b : Nat → Bool) (j i : Nat) : Bool := if i = j then b i else true
theorem masks {good lie X : Int} {b : Nat → Bool} {j : Nat} (hj : j < 4) (h : IsV (mkL good lie j) (mkB b j) 4 X) :
    X = good ∧ vtS (mkL good lie j) (mkB b j) X = true ∧ ∀ i, vtA (mkL good lie j) (mkB b j) X i = decide (mkL good lie j i = good) := by
  have hg : 3 ≤ vk (mkB b j) (mkL good lie j) good 4 := by
    have : j = 0 ∨ j = 1 ∨ j = 2 ∨ j = 3 := by omega
    rcases this with rfl | rfl | rfl | rfl <;> simp [vk, mkB, mkL] <;> omega
  have ht : 0 < ti (mkB b j) 4 := Nat.lt_of_lt_of_le (by omega) (Nat.le_trans hg (vk_le_tt _ _ _ _))
  have ht4 := ti_le (mkB b j) 4
  have hX : X = good := by
    rcases h with ⟨h0, _⟩ | ⟨m, hm, hb, rfl, hmax, _⟩
    · omega
    · by_cases e : m = j
      · by_cases el : lie = good
        · subst e; unfold mkL; rw [if_pos rfl, el]
        · exfalso
          obtain ⟨i, hi, hij⟩ : ∃ i, i < 4 ∧ i ≠ j := by
            by_cases h0 : j = 0
            · exact ⟨1, by omega, by omega⟩
            · exact ⟨0, by omega, by omega⟩
          have h1 := hmax i hi (by unfold mkB; rw [if_neg hij])
          have e1 : mkL good lie j i = good := by unfold mkL; rw [if_neg hij]
          have e2 : mkL good lie j m = lie := by unfold mkL; rw [if_pos e]
          rw [e1, e2] at h1
          have h2 : vk (mkB b j) (mkL good lie j) lie 4 ≤ 1 := by
            have hl : ¬ good = lie := fun h => el h.symm
            have : j = 0 ∨ j = 1 ∨ j = 2 ∨ j = 3 := by omega
            rcases this with rfl | rfl | rfl | rfl <;> simp [vk, mkB, mkL, hl] <;> split <;> omega
          omega
      · unfold mkL; rw [if_neg e]
  subst hX
  refine ⟨rfl, ?_, fun i => ?_⟩
  · unfold vtS; rw [decide_eq_true_iff]; omega
  · unfold vtA; rw [decide_eq_decide]; exact ⟨fun h => h.2, fun h => ⟨ht, h⟩⟩

/-- The first k steps of laying out three that say the same. -/
def mkLk (good lie : Int) (j k i : Nat) : Int := if i < k then mkL good lie j i else 0
def mkBk (b : Nat → Bool) (j k i : Nat) : Bool := if i < k then mkB b j i else b i
theorem mkLk_put {good lie x : Int} {j k : Nat} (hx : x = mkL good lie j k) : ∀ i, (if i = k then x else mkLk good lie j k i) = mkLk good lie j (k + 1) i := by
  intro i
  unfold mkLk
  by_cases e : i = k
  · subst e; rw [if_pos rfl, if_pos (by omega), hx]
  · rw [if_neg e]
    by_cases h : i < k
    · rw [if_pos h, if_pos (by omega)]
    · rw [if_neg h, if_neg (by omega)]
theorem mkBk_skip {b : Nat → Bool} {j k : Nat} (hj : k = j) : ∀ i, mkBk b j k i = mkBk b j (k + 1) i := by
  intro i
  unfold mkBk
  by_cases e : i = k
  · subst e; rw [if_neg (by omega), if_pos (by omega)]; unfold mkB; rw [if_pos hj]
  · by_cases h : i < k
    · rw [if_pos h, if_pos (by omega)]
    · rw [if_neg h, if_neg (by omega)]
theorem mkBk_put {b : Nat → Bool} {j k : Nat} (hj : k ≠ j) : ∀ i, (if i = k then true else mkBk b j k i) = mkBk b j (k + 1) i := by
  intro i
  unfold mkBk
  by_cases e : i = k
  · subst e; rw [if_pos rfl, if_pos (by omega)]; unfold mkB; rw [if_neg hj]
  · rw [if_neg e]
    by_cases h : i < k
    · rw [if_pos h, if_pos (by omega)]
    · rw [if_neg h, if_neg (by omega)]
theorem b4_zero (w : World) : ∃ w1, w1 = w.alloc (.cells #[.int .i64 0, .int .i64 0, .int .i64 0, .int .i64 0] 22) ∧ F4 w1 w.heap.size (fun _ => 0) ∧ Below w.heap.size w w1 ∧ w1.heap.size = w.heap.size + 1 := f4_alloc w (fun _ => 0)
/-- What lies in memory between two steps. -/
def MkI (w : World) (good lie : Int) (b : Nat → Bool) (j k : Nat) (wr : World) : Prop :=
  B4 wr w.heap.size (mkBk b j k) ∧ F4 wr (w.heap.size + 1) (mkLk good lie j k) ∧ Below w.heap.size w wr

set_option maxRecDepth 100000 in
set_option maxHeartbeats 2000000 in
theorem voteMasks_by (hV : VtOK 6) (good lie bad : Int) (b : Nat → Bool) {w : World} (rg : R64 good) (rl : R64 lie) (_ : R64 bad) :
    Calls Try.prog 4 #[.int .i64 good, .int .i64 lie, .int .i64 bad, boolV b] w fun e w' => e = .returned (.bool true) ∧ Below w.heap.size w w' := by
  obtain ⟨w1, e1, m1, k1, s1⟩ := b4_alloc w b
  obtain ⟨w2, e2, m2, k2, s2⟩ := b4_zero w1
  have hI : MkI w good lie b 0 0 w2 := ⟨m1.below k2, by rw [s1] at m2; exact m2, k1.trans (k2.mono (by omega))⟩
  have I0 : Hid (∀ j, MkI w good lie b j 0 w2) := hide (fun j => ⟨(m1.below k2).congr (fun i _ => by unfold mkBk; rw [if_neg (by omega)]), by rw [s1] at m2; exact m2.congr (fun i _ => by unfold mkLk; rw [if_neg (by omega)]), k1.trans (k2.mono (by omega))⟩)
  have E1 := hide e1; have E2 := hide e2; have S1 := hide s1
  clear e1 m1 k1 s1 e2 m2 k2 s2 hI
  unfold boolV
  go_enter Try.func4, Try.ntmps4
  go_wp2_with fail
  rw [← unhide E1]
  refine (spotS_any bad 4 (by omega) (by omega) _).mono ?_
  rintro e wx ⟨j, hj, rfl, rfl⟩
  go_wp2_with fail
  rw [← unhide E2, unhide S1]
  have J0 := hide (unhide I0 j)
  clear I0 E1 E2
  go_loopw [10] (fun q wr => ∃ k : Nat, k ≤ 4 ∧ q = .int .i64 (k : Int) ∧ MkI w good lie b j k wr) (fun q _ => 4 - (intOf q).toNat)
  case atStart => exact ⟨0, by omega, rfl, unhide J0⟩
  case round =>
    obtain ⟨k, hk, rfl, hI⟩ := hrel
    rename World => wr
    obtain ⟨h1, h2, h3⟩ := hI
    by_cases hin : k < 4
    · have hin' : (k : Int) < 4 := by omega
      have c2 := h2.cell hin; have f2 := h2.free k
      by_cases c : k = j
      · have tb : ((k : Int) == (j : Int)) = true := by simp [c]
        have F1 := (h2.set k good).set k lie
        obtain ⟨wa, ea⟩ : ∃ wa, wa = (wr.setCell ⟨w.heap.size + 1, k, none⟩ (.int .i64 good)) := ⟨_, rfl⟩
        have ca : wa.cell? ⟨w.heap.size + 1, k, none⟩ = some (.int .i64 good) := by
          rw [ea]; have := (h2.set k good).cell hin; rw [if_pos rfl] at this; exact this
        have fa : wa.frozen? ⟨w.heap.size + 1, k, none⟩ = false := by rw [ea]; exact (h2.set k good).free k
        have ks := (kept_set wr (w.heap.size + 1) k (.int .i64 good)).trans (kept_set _ (w.heap.size + 1) k (.int .i64 lie)) (Or.inl rfl)
        rw [← ea] at F1 ks
        have NI := hide (show MkI w good lie b j (k + 1) (wa.setCell ⟨w.heap.size + 1, k, none⟩ (.int .i64 lie)) from
          ⟨(h1.kept ks (by omega)).congr (fun i _ => mkBk_skip c i), F1.congr (fun i _ => by
            have hh := mkLk_put (good := good) (lie := lie) (x := lie) (j := j) (k := k) (by unfold mkL; rw [if_pos c]) i
            rw [← hh]
            by_cases e : i = k
            · rw [if_pos e, if_pos e]
            · rw [if_neg e, if_neg e, if_neg e]), below_of_kept h3 ks (by omega) h3.size⟩)
        have EA := hide ea
        clear ea F1 ks h1 h2 h3 c
        go_wp2_with fail
        rw [← unhide EA]
        go_wp2_with fail
        obtain ⟨wb, eb⟩ : ∃ wb, wb = (wa.setCell ⟨w.heap.size + 1, k, none⟩ (.int .i64 lie)) := ⟨_, rfl⟩
        rw [← eb] at NI ⊢
        clear eb ca fa c2 f2
        go_wp2_with fail
        go_roundw
        case rel => exact ⟨k + 1, by omega, by go_num, unhide NI⟩
        case measure => simp [intOf]; omega
      · have tb : ((k : Int) == (j : Int)) = false := by simp; omega
        have ks := kept_set wr (w.heap.size + 1) k (.int .i64 good)
        have F1 := h2.set k good
        have B1 := h1.kept ks (by omega)
        obtain ⟨wa, ea⟩ : ∃ wa, wa = (wr.setCell ⟨w.heap.size + 1, k, none⟩ (.int .i64 good)) := ⟨_, rfl⟩
        rw [← ea] at F1 B1 ks
        have cb := B1.cell hin; have fb := B1.free k
        have kt := kept_set wa w.heap.size k (.bool true)
        have NI := hide (show MkI w good lie b j (k + 1) (wa.setCell ⟨w.heap.size, k, none⟩ (.bool true)) from
          ⟨(B1.set k true).congr (fun i _ => mkBk_put c i), (F1.kept kt (by omega)).congr (fun i _ => mkLk_put (by unfold mkL; rw [if_neg c]) i), below_of_kept (below_of_kept h3 ks (by omega) h3.size) kt (by omega) (by have := h3.size; have := ks.size; omega)⟩)
        have EA := hide ea
        rw [ea] at cb fb
        clear ea F1 B1 ks kt h1 h2 h3 c
        go_wp2_with fail
        rw [← unhide EA]
        obtain ⟨wb, eb⟩ : ∃ wb, wb = (wa.setCell ⟨w.heap.size, k, none⟩ (.bool true)) := ⟨_, rfl⟩
        rw [← eb] at NI ⊢
        clear eb cb fb c2 f2
        go_wp2_with fail
        go_roundw
        case rel => exact ⟨k + 1, by omega, by go_num, unhide NI⟩
        case measure => simp [intOf]; omega
    · obtain rfl : k = 4 := by omega
      obtain ⟨L, eL⟩ : ∃ L, L = mkL good lie j := ⟨_, rfl⟩
      obtain ⟨B, eB⟩ : ∃ B, B = mkB b j := ⟨_, rfl⟩
      have mL : F4 wr (w.heap.size + 1) L := h2.congr (fun i hi => by rw [eL]; unfold mkLk; rw [if_pos hi])
      have mB : B4 wr w.heap.size B := h1.congr (fun i hi => by rw [eB]; unfold mkBk; rw [if_pos hi])
      have rL : ∀ i, R64 (L i) := fun i => by rw [eL]; unfold mkL; split <;> assumption
      have c0 := mL.cell (show 0 < 4 by omega); have c1 := mL.cell (show 1 < 4 by omega); have c2 := mL.cell (show 2 < 4 by omega); have c3 := mL.cell (show 3 < 4 by omega)
      have b0 := mB.cell (show 0 < 4 by omega); have b1 := mB.cell (show 1 < 4 by omega); have b2 := mB.cell (show 2 < 4 by omega); have b3 := mB.cell (show 3 < 4 by omega)
      have CV := hV L B wr rL
      unfold fourV boolV at CV
      have ML := hide mL; have H3 := hide h3; have EL := hide eL; have EB := hide eB
      clear eL eB mL mB h1 h2 h3 rL
      go_wp2_with fail
      refine CV.mono ?_
      rintro e w3 ⟨X, r, iX, rfl, o3, k3⟩
      obtain ⟨hX, hS, hA⟩ := masks (j := j) (by omega) (by rw [unhide EL, unhide EB] at iX; exact iX)
      rw [← unhide EL, ← unhide EB] at hS hA
      subst hX
      rw [hS]
      obtain ⟨a3, c3', rfl⟩ := owns_slice o3
      obtain ⟨rb', ro, rfl, hc⟩ := owns_rd o3 (by omega)
      obtain ⟨w4, e4, m4, k4, s4⟩ := vd_alloc w3 X true (.slice (some ⟨rb', ro, none⟩) 4 c3')
      have CT := votes_by hV w4
      have E4 := hide e4
      have RC := hide (show ∀ i, i < 4 → w4.cell? ⟨rb', ro + i, none⟩ = some (.bool (decide (L i = X))) from fun i hi => by
        have := at_below (hc i hi) k4
        unfold tF at this
        rw [hA i] at this
        exact this)
      have ML4 := hide (((unhide ML).below k3).below k4); have M4 := hide m4
      have K4 := hide ((unhide H3).trans ((k3.mono (unhide H3).size).trans (k4.mono (Nat.le_trans (unhide H3).size k3.size))))
      clear iX hS hA o3 hc k3 k4 s4 e4 m4 CV c0 c1 c2 c3 b0 b1 b2 b3
      unfold vdV
      go_wp2_with fail
      rw [← unhide E4]
      refine CT.mono ?_
      rintro e w5 ⟨rfl, k5⟩
      have v0 := ((unhide M4).below k5).cell0; have v1 := ((unhide M4).below k5).cell1; have v2 := ((unhide M4).below k5).cell2
      have RC5 := hide (show ∀ i, i < 4 → w5.cell? ⟨rb', ro + i, none⟩ = some (.bool (decide (L i = X))) from fun i hi => at_below (unhide RC i hi) k5)
      have ML5 := hide ((unhide ML4).below k5); have K5 := hide ((unhide K4).trans (k5.mono (unhide K4).size))
      have tg : (X != X) = false := by simp
      clear CT k5 RC ML4 M4
      obtain ⟨q, eq⟩ : ∃ q, w3.heap.size = q := ⟨_, rfl⟩
      rw [eq] at v0 v1 v2 ⊢
      clear eq
      go_wp2_with fail
      clear v0 v1 tg
      go_loopw [12] (fun q wr => (∃ k : Nat, k ≤ 4 ∧ q = .int .i64 (k : Int)) ∧ ∃ dn, wr = w5.drewN dn) (fun q _ => 4 - (intOf q).toNat)
      case atStart => exact ⟨⟨0, by omega, rfl⟩, 0, rfl⟩
      case round =>
        obtain ⟨⟨k, hk, rfl⟩, dn, rfl⟩ := hrel
        by_cases hin : k < 4
        · have hin' : (k : Int) < 4 := by omega
          have r1 : (w5.drewN dn).cell? ⟨rb', ro + k, none⟩ = some (.bool (decide (L k = X))) := unhide RC5 k hin
          have r2 : (w5.drewN dn).cell? ⟨w.heap.size + 1, k, none⟩ = some (.int .i64 (L k)) := (unhide ML5).cell hin
          have r3 : (w5.drewN dn).cell? ⟨q, 2, none⟩ = some (.slice (some ⟨rb', ro, none⟩) 4 c3') := v2
          obtain ⟨u, eu⟩ : ∃ u, L k = u := ⟨_, rfl⟩
          rw [eu] at r1 r2
          clear eu
          by_cases c : u = X
          · subst c
            have te : (u == u) = true := by simp
            rw [decide_eq_true rfl] at r1
            obtain ⟨wq, eq⟩ : ∃ wq, w5.drewN dn = wq := ⟨_, rfl⟩
            rw [eq] at r1 r2 r3 ⊢
            have EQ := hide eq
            clear eq
            go_wp2_with fail
            go_region
            go_wp2_with fail
            go_roundw
            case rel => exact ⟨⟨k + 1, by omega, by go_num⟩, dn + 1, by rw [← unhide EQ]; rfl⟩
            case measure => simp [intOf]; omega
          · have te : (u == X) = false := by simp [c]
            rw [decide_eq_false c] at r1
            obtain ⟨wq, eq⟩ : ∃ wq, w5.drewN dn = wq := ⟨_, rfl⟩
            rw [eq] at r1 r2 r3 ⊢
            have EQ := hide eq
            clear eq c
            go_wp2_with fail
            go_region
            go_wp2_with fail
            go_roundw
            case rel => exact ⟨⟨k + 1, by omega, by go_num⟩, dn + 1, by rw [← unhide EQ]; rfl⟩
            case measure => simp [intOf]; omega
        · obtain rfl : k = 4 := by omega
          go_wp2_with fail
          go_ret
          exact ⟨rfl, (unhide K5).trans ⟨rfl, rfl, rfl, Nat.le_refl _, fun _ _ => rfl⟩⟩

end Go.Proofs.Ytkikikapnaoijaa
