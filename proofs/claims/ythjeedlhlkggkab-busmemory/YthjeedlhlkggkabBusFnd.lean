/- Package bus: find; slices.IndexFunc with its closure. -/
import Derived.Test.YthjeedlhlkggkabBusCpy
namespace Go.Proofs.Ythjeedlhlkggkab
open Go.RowKit

theorem findOne_any (p : Pc) (pa : Option Addr) (pn pc b : Nat) (s : Int) (w : World) (hb : w.cell? ⟨b, 0, none⟩ = some (.int .i64 s)) :
    Calls Try.prog 28 #[pcV p (.slice pa pn pc), .pointer (some ⟨b, 0, none⟩)] w fun e w' => e = .returned (.bool (decide (p.se = s))) ∧ Below w.heap.size w w' := by
  obtain ⟨w1, e1, m1, k1, z1⟩ := pv_alloc w p (.slice pa pn pc)
  have c1 := at_below hb k1
  obtain ⟨d0, d1, d2, d3, d4⟩ := m1.pc
  rw [e1] at c1 d3
  have E1 := hide e1; have K1 := hide k1
  clear e1 m1 k1 z1 d0 d1 d2 d4
  unfold pcV
  by_cases hs : p.se = s
  · rw [decide_eq_true hs]
    subst hs
    go_enter Try.func28, Try.ntmps28
    go_wp2_with fail
    rw [← unhide E1]
    go_ret
    exact ⟨rfl, unhide K1⟩
  · rw [decide_eq_false hs]
    have hsb : (p.se == s) = false := beq_eq_false_iff_ne.2 hs
    go_enter Try.func28, Try.ntmps28
    go_wp2_with fail
    rw [← unhide E1]
    refine bodyPost_ret (v := .bool false) (by simp [results, Try.results28, go_sem]) rfl ⟨rfl, unhide K1⟩
def fdZ (s : Int) (q : List Pc) : Int := if fsP s q < q.length then (fsP s q : Int) else -1
set_option maxHeartbeats 2000000 in
theorem indexFunc_any (ao : Option Addr) (cap : Nat) (L : List Lp) (s : Int) (b : Nat) (w : World) (hr : QRd w ao L) (hN : L.length ≤ 2513169434843) (hb : w.cell? ⟨b, 0, none⟩ = some (.int .i64 s)) :
    Calls Try.prog 27 #[.slice ao L.length cap, .func (.func 28) #[] #[.pointer (some ⟨b, 0, none⟩)]] w fun e w' => e = .returned (.int .i64 (fdZ s (L.map Lp.p))) ∧ Below w.heap.size w w' := by
  have HR := hide hr; have HB := hide hb
  clear hr hb
  go_enter Try.func27, Try.ntmps27
  go_wp2_with fail
  go_loopg [8] L.length (fun r is wr => ∃ i : Nat, i ≤ L.length ∧ L.length - i ≤ r ∧ is = .int .i64 (i : Int) ∧ Hid (∀ j c, j < i → L[j]? = some c → c.p.se ≠ s) ∧ Hid (Below w.heap.size w wr))
  case atStart => exact ⟨0, Nat.zero_le _, by omega, rfl, hide (fun j c h => absurd h (by omega)), hide (Below.refl _ _)⟩
  case round =>
    obtain ⟨i, hi, hr, rfl, HI, KB⟩ := hrel
    by_cases hin : i < L.length
    · have hinz : (i : Int) < (L.length : Int) := by omega
      have hc := List.getElem?_eq_getElem hin
      obtain ⟨c, ec⟩ : ∃ c, c = L[i] := ⟨_, rfl⟩
      rw [← ec] at hc
      obtain ⟨x, o, rfl, hq⟩ := (unhide HR) (by omega)
      obtain ⟨p0, p1, p2, p3, p4⟩ := (hq i c hc).below (unhide KB)
      have C := findOne_any c.p c.ao c.p.ds.length c.cap b s wr (at_below (unhide HB) (unhide KB))
      have HC := hide hc
      obtain ⟨⟨fr, tt, du, se, ds⟩, ba, bc⟩ := c
      unfold lpV at p4
      unfold pcV at C
      dsimp only at p0 p1 p2 p3 p4 C
      clear hc ec hq
      by_cases hs : se = s
      · rw [decide_eq_true hs] at C
        have FS := hide (show fsP s (L.map Lp.p) = i from fsP_is (fun j p hj hp => by
          rw [List.getElem?_map] at hp
          rw [List.getElem?_eq_getElem (show j < L.length by omega)] at hp
          cases hp
          exact unhide HI j _ hj (List.getElem?_eq_getElem (by omega))) (fun p hp => by
          rw [List.getElem?_map, unhide HC] at hp
          cases hp
          exact hs) (by simp; omega))
        have HS := hide hs
        clear hs
        go_wp2_with fail
        refine C.mono ?_
        rintro e w3 ⟨rfl, k3⟩
        have K3 := hide ((unhide KB).trans (k3.mono (unhide KB).size))
        clear C k3
        go_wp2_with fail
        go_ret
        refine ⟨?_, unhide K3⟩
        unfold fdZ
        rw [unhide FS, if_pos (by simp; omega)]
        rfl
      · rw [decide_eq_false hs] at C
        have HS := hide hs
        clear hs
        go_wp2_with fail
        refine C.mono ?_
        rintro e w3 ⟨rfl, k3⟩
        have K3 := hide ((unhide KB).trans (k3.mono (unhide KB).size))
        clear C k3
        go_wp2_with fail
        go_roundg (L.length - (i + 1))
        case measure => omega
        case rel => exact ⟨i + 1, by omega, by omega, by go_num, hide (fun j c hj hc => by
          by_cases ej : j = i
          · subst ej
            have := Option.some.inj (hc.symm.trans (unhide HC))
            rw [this]; exact unhide HS
          · exact unhide HI j c (by omega) hc), K3⟩
    · have hinz : ¬ (i : Int) < (L.length : Int) := by omega
      have FS := hide (show ¬ fsP s (L.map Lp.p) < (L.map Lp.p).length from fun h => by
        have e2 := fsP_at (List.getElem?_eq_getElem h)
        rw [List.length_map] at h
        rw [List.getElem_map] at e2
        exact unhide HI _ _ (by omega) (List.getElem?_eq_getElem h) e2)
      go_wp2_with fail
      go_ret
      refine ⟨?_, unhide KB⟩
      unfold fdZ
      rw [if_neg (unhide FS)]
      rfl
set_option maxHeartbeats 1000000 in
theorem busFind_any (ao : Option Addr) (cap : Nat) (L : List Lp) (s : Int) (w : World) (hr : QRd w ao L) (hN : L.length ≤ 2513169434843) :
    Calls Try.prog 18 #[.slice ao L.length cap, .int .i64 s] w fun e w' => e = .returned (.int .i64 (fdZ s (L.map Lp.p))) ∧ Below w.heap.size w w' := by
  obtain ⟨w1, e1⟩ : ∃ w1, w1 = w.alloc (.cells #[.int .i64 s] 3) := ⟨_, rfl⟩
  have k1 : Below w.heap.size w w1 := by rw [e1]; exact al_below _ _
  have C := indexFunc_any ao cap L s w.heap.size w1 (hr.below k1) hN (by rw [e1]; simp)
  have E1 := hide e1; have K1 := hide k1
  clear e1 k1 hr
  obtain ⟨z, ez⟩ : ∃ z, z = fdZ s (L.map Lp.p) := ⟨_, rfl⟩
  rw [← ez] at C ⊢
  clear ez
  go_enter Try.func18, Try.ntmps18
  go_wp2_with fail
  rw [← unhide E1]
  refine C.mono ?_
  rintro e w3 ⟨rfl, k3⟩
  have K3 := hide ((unhide K1).trans (k3.mono (unhide K1).size))
  clear C k3
  go_wp2_with fail
  go_ret
  exact ⟨rfl, unhide K3⟩

end Go.Proofs.Ythjeedlhlkggkab
