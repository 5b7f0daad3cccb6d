/- slices.stableCmpFunc and slices.SortStableFunc at parcels. -/
import Derived.Test.YthjeedlhlkggkabStaSym
namespace Go.Proofs.Ythjeedlhlkggkab
open Go.RowKit

theorem insertion_none (v : Value) (w : World) : Calls Try.prog 32 #[v, .int .i64 0, .int .i64 0, (.func (.func 26) #[] #[])] w fun e w' => e = .returned (.tuple #[]) ∧ w' = w := by
  go_enter Try.func32, Try.ntmps32
  go_wp2_with fail
  go_loopg [8] 0 (fun _ s8 wr => s8 = .int .i64 1 ∧ w = wr)
  case atStart => exact ⟨rfl, rfl⟩
  case round =>
    obtain ⟨rfl, rfl⟩ := hrel
    go_wp2_with fail
    go_end0
    exact ⟨rfl, rfl⟩
theorem stable_none (v : Value) (w : World) : Calls Try.prog 29 #[v, .int .i64 0, (.func (.func 26) #[] #[])] w fun e w' => e = .returned (.tuple #[]) ∧ w' = w := by
  have C := insertion_none v w
  go_enter Try.func29, Try.ntmps29
  go_wp2_with fail
  go_loopg [7, 8] 0 (fun _ s7 s8 wr => s7 = .int .i64 0 ∧ s8 = .int .i64 20 ∧ w = wr)
  case atStart => exact ⟨rfl, rfl, rfl⟩
  case round =>
    obtain ⟨rfl, rfl, rfl⟩ := hrel
    go_wp2_with fail
    refine C.mono ?_
    rintro e w2 ⟨rfl, rfl⟩
    clear C
    go_wp2_with fail
    go_loopg [6] 0 (fun _ s6 wr => s6 = .int .i64 20 ∧ w2 = wr)
    case atStart => exact ⟨rfl, rfl⟩
    case round =>
      obtain ⟨rfl, rfl⟩ := hrel
      go_wp2_with fail
      go_end0
      exact ⟨rfl, rfl⟩
set_option maxHeartbeats 4000000 in
set_option maxRecDepth 1000000 in
theorem stable_any (g cap n : Nat) (F : Nat → Lp) (w : World) (h : SoR w g cap n F (fun x => x)) (hn : n ≤ 2513169434843) :
    Calls Try.prog 29 #[.slice (some ⟨g, 0, none⟩) n cap, .int .i64 (n : Int), (.func (.func 26) #[] #[])] w fun e w' => e = .returned (.tuple #[]) ∧ ∃ e : Nat → Nat, Done (TQ fun y => (F y).p) e 0 n ∧ SoR w' g cap n F e ∧ Kept g w w' := by
  have HH := hide h
  clear h
  go_enter Try.func29, Try.ntmps29
  go_wp2_with fail
  go_loopg [7, 8] n (fun r s7 s8 wr => ∃ (a q : Nat) (dk : Nat → Nat), s7 = .int .i64 (a : Int) ∧ s8 = .int .i64 ((a : Int) + 20) ∧ a ≤ n ∧ n - a ≤ r ∧ Hid (a = q * 20) ∧ Hid (Ps1 (TQ fun y => (F y).p) 20 q dk) ∧ Hid (SoR wr g cap n F dk) ∧ Hid (Kept g w wr))
  case atStart => exact ⟨0, 0, fun x => x, rfl, rfl, by omega, by omega, hide rfl, hide (Ps1.start 20), HH, hide (Kept.of_below (Below.refl _ _))⟩
  case round =>
    clear HH
    obtain ⟨a, q, dk, rfl, rfl, han, hr, HA, HP, HS, KS⟩ := hrel
    by_cases hb : a + 20 ≤ n
    · have hbz : (a : Int) + 20 ≤ (n : Int) := by omega
      have hcall := insertion_any g cap n F dk a (a + 20) wr (unhide HS) (by omega) hb hn (fun x y x1 x2 x3 => by rw [(unhide HP).un x (by rw [← unhide HA]; exact x1), (unhide HP).un y (by rw [← unhide HA]; omega)]; exact x2)
      rw [show ((a + 20 : Nat) : Int) = (a : Int) + 20 by omega] at hcall
      go_wp2_with fail
      refine hcall.mono ?_
      rintro e w2 ⟨rfl, e2, y2, t2, m2, k2⟩
      have HP2 : Hid (Ps1 (TQ fun y => (F y).p) 20 (q + 1) e2) := hide (by
        have ea := unhide HA
        rw [ea] at y2 t2
        exact (unhide HP).step y2 t2)
      have HS2 := hide m2
      have KS2 := hide ((unhide KS).trans k2 (Or.inl rfl))
      clear m2 k2 y2 t2 hcall
      go_wp2_with fail
      go_roundg (n - (a + 20))
      case measure => omega
      case rel => exact ⟨a + 20, q + 1, e2, by go_num, by first | rfl | (congr 1; omega), hb, by omega, hide (by have := unhide HA; omega), HP2, HS2, KS2⟩
    · have hbz : ¬ (a : Int) + 20 ≤ (n : Int) := by omega
      have hcall := insertion_any g cap n F dk a n wr (unhide HS) han (Nat.le_refl _) hn (fun x y x1 x2 x3 => by rw [(unhide HP).un x (by rw [← unhide HA]; exact x1), (unhide HP).un y (by rw [← unhide HA]; omega)]; exact x2)
      go_wp2_with fail
      refine hcall.mono ?_
      rintro e w2 ⟨rfl, e2, y2, t2, m2, k2⟩
      have HB : Hid (AllB (TQ fun y => (F y).p) 20 n e2) := hide (by
        have ea := unhide HA
        rw [ea] at y2 t2
        exact (unhide HP).done (by omega) (by omega) y2 t2)
      have HS2 := hide m2
      have KS2 := hide ((unhide KS).trans k2 (Or.inl rfl))
      clear m2 k2 y2 t2 hcall HP HS KS HA
      go_wp2_with fail
      go_loopg [6] n (fun r s6 wr => ∃ (s : Nat) (dk : Nat → Nat), s6 = .int .i64 (s : Int) ∧ 0 < s ∧ s ≤ 2 * n + 20 ∧ n - s ≤ r ∧ Hid (AllB (TQ fun y => (F y).p) s n dk) ∧ Hid (SoR wr g cap n F dk) ∧ Hid (Kept g w wr))
      case atStart => exact ⟨20, e2, rfl, by omega, by omega, by omega, HB, HS2, KS2⟩
      case round =>
        clear HB HS2 KS2
        obtain ⟨s, dk, rfl, hs0, hs1, hr, HB, HS, KS⟩ := hrel
        by_cases hsn : s < n
        · have hsz : (s : Int) < (n : Int) := by omega
          go_wp2_with fail
          go_loopg [7, 8] n (fun r s7 s8 wr => ∃ (a q bb : Nat) (dk : Nat → Nat), s7 = .int .i64 (a : Int) ∧ s8 = .int .i64 (bb : Int) ∧ bb ≤ a + 2 * s ∧ a + 2 * s ≤ bb ∧ a ≤ n ∧ n - a ≤ r ∧ Hid (a = q * (2 * s)) ∧ Hid (Ps2 (TQ fun y => (F y).p) s q n dk) ∧ Hid (SoR wr g cap n F dk) ∧ Hid (Kept g w wr))
          case atStart => exact ⟨0, 0, 2 * s, dk, rfl, by first | rfl | (congr 1; omega), by omega, by omega, by omega, by omega, hide (by omega), hide (Ps2.start (unhide HB)), HS, KS⟩
          case round =>
            clear HB HS KS
            obtain ⟨a, q, bb, dk, rfl, rfl, hb1, hb2, han, hr2, HA, HP, HS, KS⟩ := hrel
            by_cases hbn : bb ≤ n
            · have hbz : (bb : Int) ≤ (n : Int) := by omega
              have hmg : Mg (TQ fun y => (F y).p) dk a (a + s) bb := by
                have ea := unhide HA
                have hl := (unhide HP).left (by omega) hs0
                have hr := (unhide HP).right (by omega)
                rw [← ea] at hl hr
                rw [Nat.min_eq_left (by omega), show a + 2 * s = bb by omega] at hr
                exact hl.mg hr
              have hcall := symMerge_any g cap n F hn n dk a (a + s) bb wr (by omega) (unhide HS) hmg (by omega) (by omega) hbn
              rw [show ((a + s : Nat) : Int) = (a : Int) + (s : Int) by omega] at hcall
              clear hmg
              go_wp2_with fail
              refine hcall.mono ?_
              rintro e w2 ⟨rfl, e2, y2, t2, m2, k2⟩
              have HP2 : Hid (Ps2 (TQ fun y => (F y).p) s (q + 1) n e2) := hide (by
                have ea := unhide HA
                rw [show bb = a + 2 * s by omega, ea] at y2 t2
                exact (unhide HP).step hs0 (by omega) y2 t2)
              have HS2 := hide m2
              have KS2 := hide ((unhide KS).trans k2 (Or.inl rfl))
              clear m2 k2 y2 t2 hcall
              go_wp2_with fail
              go_roundg (n - bb)
              case measure => omega
              case rel => exact ⟨bb, q + 1, bb + 2 * s, e2, rfl, by first | rfl | (congr 1; omega), by omega, by omega, hbn, by omega, hide (by have := unhide HA; rw [Nat.add_mul]; omega), HP2, HS2, KS2⟩
            · have hbz : ¬ (bb : Int) ≤ (n : Int) := by omega
              by_cases hm : a + s < n
              · have hmz : (a : Int) + (s : Int) < (n : Int) := by omega
                have hmg : Mg (TQ fun y => (F y).p) dk a (a + s) n := by
                  have ea := unhide HA
                  have hl := (unhide HP).left (by omega) hs0
                  have hr := (unhide HP).right (by omega)
                  rw [← ea] at hl hr
                  rw [Nat.min_eq_right (by omega)] at hr
                  exact hl.mg hr
                have hcall := symMerge_any g cap n F hn n dk a (a + s) n wr (by omega) (unhide HS) hmg (by omega) hm (Nat.le_refl _)
                rw [show ((a + s : Nat) : Int) = (a : Int) + (s : Int) by omega] at hcall
                clear hmg
                go_wp2_with fail
                refine hcall.mono ?_
                rintro e w2 ⟨rfl, e2, y2, t2, m2, k2⟩
                have HB2 : Hid (AllB (TQ fun y => (F y).p) (2 * s) n e2) := hide (by
                  have ea := unhide HA
                  rw [ea] at y2 t2
                  exact (unhide HP).last hs0 (by omega) (by omega) y2 t2)
                have HS2 := hide m2
                have KS2 := hide ((unhide KS).trans k2 (Or.inl rfl))
                clear m2 k2 y2 t2 hcall
                go_wp2_with fail
                go_roundg (n - 2 * s)
                case measure => omega
                case rel => exact ⟨2 * s, e2, by first | rfl | (congr 1; omega), by omega, by omega, by omega, HB2, HS2, KS2⟩
              · have hmz : ¬ (a : Int) + (s : Int) < (n : Int) := by omega
                have HB2 : Hid (AllB (TQ fun y => (F y).p) (2 * s) n dk) := hide (by
                  have ea := unhide HA
                  exact (unhide HP).done (by omega) (by omega) (by omega))
                go_wp2_with fail
                go_roundg (n - 2 * s)
                case measure => omega
                case rel => exact ⟨2 * s, dk, by first | rfl | (congr 1; omega), by omega, by omega, by omega, HB2, HS, KS⟩
        · have hsz : ¬ (s : Int) < (n : Int) := by omega
          go_wp2_with fail
          go_end0
          exact ⟨rfl, dk, (unhide HB).done (by omega), unhide HS, unhide KS⟩
/-- Sorted where it lies. -/
theorem sortStable_any (w : World) (B : Nat) (v : Value) (L : List Lp) (h : RowP w B v L) (hl : L.length ≤ 2513169434843) :
    Calls Try.prog 25 #[v, (.func (.func 26) #[] #[])] w fun e w' => e = .returned (.tuple #[]) ∧ ∃ L' : List Lp, L'.map Lp.p = srtP (L.map Lp.p) ∧ (∀ c, c ∈ L' → c ∈ L) ∧ L'.length = L.length ∧ RowP w' B v L' ∧ ((v.ownBlock = none ∧ w' = w) ∨ ∃ g, v.ownBlock = some g ∧ Kept g w w') := by
  rcases h.2 with ⟨rfl, h0⟩ | ⟨g, cap, cur, rfl, hb, _⟩
  · have C := stable_none (.slice none 0 0) w
    have eL : L = [] := List.length_eq_zero_iff.1 h0
    subst eL
    have H := hide h
    clear h h0
    go_enter Try.func25, Try.ntmps25
    go_wp2_with fail
    refine C.mono ?_
    rintro e w2 ⟨rfl, rfl⟩
    go_wp2_with fail
    go_end0
    exact ⟨rfl, [], rfl, fun c hc => hc, rfl, unhide H, Or.inl ⟨rfl, rfl⟩⟩
  · have hs := sor_of h
    have C := stable_any g cap L.length (fun i => L.getD i lp0) w hs hl
    obtain ⟨nn, en⟩ : ∃ nn, nn = L.length := ⟨_, rfl⟩
    rw [← en] at C ⊢
    have EN := hide en
    clear h hs en
    have hL := hide hl
    have HB := hide hb
    clear hl hb
    go_enter Try.func25, Try.ntmps25
    go_wp2_with fail
    refine C.mono ?_
    rintro e w2 ⟨rfl, e2, d2, m2, k2⟩
    have D2 := hide d2; have M2 := hide m2; have K2 := hide k2
    clear C d2 m2 k2
    go_wp2_with fail
    go_end0
    have en := unhide EN
    subst en
    have hmap : L.map Lp.p = (List.range L.length).map (fun i => (L.getD i lp0).p) := by
      refine List.ext_getElem? fun i => ?_
      rw [List.getElem?_map, List.getElem?_map]
      by_cases hi : i < L.length
      · rw [List.getElem?_range hi, List.getElem?_eq_getElem hi]
        simp [List.getD_eq_getElem?_getD, hi]
      · rw [List.getElem?_eq_none (by omega), List.getElem?_eq_none (by rw [List.length_range]; omega)]
        rfl
    refine ⟨rfl, (List.range L.length).map (fun i => L.getD (e2 i) lp0), ?_, ?_, by rw [List.length_map, List.length_range], ?_, Or.inr ⟨g, rfl, unhide K2⟩⟩
    · rw [hmap, List.map_map]
      exact done_srt (q := fun i => (L.getD i lp0).p) (unhide D2)
    · intro c hc
      obtain ⟨i, hi, rfl⟩ := List.mem_map.1 hc
      have hlt := ((unhide D2).inn i (by omega) (List.mem_range.1 hi)).2
      rw [List.getD_eq_getElem?_getD, List.getElem?_eq_getElem hlt]
      exact List.getElem_mem hlt
    · have := (unhide M2).row (unhide HB)
      exact this

end Go.Proofs.Ythjeedlhlkggkab
