/- The walk of MatTurnTwice. -/
import Derived.Test.YtnfejfdekedmhabMatStands
namespace Go.Proofs.Ytnfejfdekedmhab
open Go.RowKit

theorem turned_twice {n : Nat} {f g h : Nat → Int} (h1 : Turned n f g) (h2 : Turned n g h) : ∀ i, i < n * n → h i = f i := by
  intro i hi
  obtain ⟨a, c, ha, hc, rfl⟩ := idx_of hi
  rw [h2 a c ha hc, h1 c a hc ha]

set_option maxHeartbeats 4000000 in
theorem matTurnTwice_walk {w : World} (N : Int) (ao : Option Addr) (len cap : Nat) (f : Nat → Int) (_rN : R64 N) (ar : ArgS w ao len cap f) :
    Calls Try.prog 4 #[.agg #[.int .i64 N, .slice ao len cap]] w fun e w' => e = .returned (.bool true) ∧ Below w.heap.size w w' := by
  obtain ⟨w1, e1, m1, k1, s1⟩ := mb_alloc w N (.slice ao len cap)
  have c0 := m1.cell0; have c1 := m1.cell1
  have E1 := hide e1; have M1 := hide m1; have K1 := hide k1; have S1 := hide s1; have AR := hide (ar.below k1); have RF := hide ar.2.2
  clear e1 m1 k1 s1 ar
  cases hg : goodM N len
  · have G := hide hg
    clear hg
    go_enter Try.func4, Try.ntmps4
    go_wp2_with fail
    rw [← unhide E1]
    go_wp2_with fail
    refine (ownK_any N ao len cap f _ (unhide AR)).mono ?_
    rintro e w2 ⟨ao2, cap2, rfl, _, k2⟩
    have M2 := hide ((unhide M1).below k2); have AR2 := hide ((unhide AR).below k2)
    have K2 := hide (show Below w.heap.size w w2 from (unhide K1).trans (Below.le k2 (unhide K1).size))
    have S2 := hide (show w1.heap.size ≤ w2.heap.size from k2.size)
    clear k2 c0 c1
    go_wp2_with fail
    refine (turn_bad N ao2 len cap2 _ (unhide G)).mono ?_
    rintro e w3 ⟨rfl, k3⟩
    have M3 := (unhide M2).below k3; have AR3 := (unhide AR2).below k3
    have K3 := (unhide K2).trans (Below.le k3 (unhide K2).size)
    obtain ⟨w4, e4, m4, k4, s4⟩ := mb_alloc w3 0 (.slice none 0 0)
    have E4 := hide e4; have MA := hide (M3.below k4); have MT := hide m4; have AR4 := hide (AR3.below k4); have K4 := hide (K3.trans (Below.le k4 K3.size))
    clear k3 M3 AR3 K3 e4 m4 k4 s4
    go_wp2_with fail
    rw [← unhide E4]
    refine (stands_any _).mono ?_
    rintro e w5 ⟨rfl, k5⟩
    have MA5 := (unhide MA).below k5; have MT5 := hide ((unhide MT).below k5); have AR5 := hide ((unhide AR4).below k5); have K5 := hide ((unhide K4).trans (Below.le k5 (unhide K4).size))
    have c0 := MA5.cell0; have c1 := MA5.cell1
    clear k5 MA5
    go_wp2_with fail
    refine (ownK_any N ao len cap f _ (unhide AR5)).mono ?_
    rintro e w6 ⟨ao6, cap6, rfl, _, k6⟩
    have MT6 := hide ((unhide MT5).below k6); have K6 := hide ((unhide K5).trans (Below.le k6 (unhide K5).size))
    clear k6 c0 c1
    go_wp2_with fail
    refine (good_any N ao6 len cap6 _).mono ?_
    rintro e w7 ⟨rfl, k7⟩
    rw [unhide G]
    have MT7 := (unhide MT6).below k7; have K7 := hide ((unhide K6).trans (Below.le k7 (unhide K6).size))
    have c0 := MT7.cell0; have c1 := MT7.cell1
    clear k7 MT7
    go_wp2_with fail
    go_ret
    exact ⟨rfl, unhide K7⟩
  · obtain ⟨n, rfl, h1, h6, rfl⟩ := goodM_of hg
    have H1 := hide h1; have H6 := hide h6
    have h36 := hide (sq_le h6)
    clear hg h1 h6
    go_enter Try.func4, Try.ntmps4
    go_wp2_with fail
    rw [← unhide E1]
    go_wp2_with fail
    refine (ownK_any (n : Int) ao (n * n) cap f _ (unhide AR)).mono ?_
    rintro e w2 ⟨ao2, cap2, rfl, rd2, k2⟩
    have M2 := hide ((unhide M1).below k2); have AR2 := hide ((unhide AR).below k2); have RD2 := hide rd2
    have K2 := hide (show Below w.heap.size w w2 from (unhide K1).trans (Below.le k2 (unhide K1).size))
    clear k2 c0 c1 rd2
    go_wp2_with fail
    refine (turn_good n ao2 cap2 f _ (unhide H1) (unhide H6) (unhide RF) (unhide RD2)).mono ?_
    rintro e w3 ⟨r3, cp3, g3, rfl, hr3, n3, rg3, t3, k3⟩
    have M3 := (unhide M2).below k3; have AR3 := (unhide AR2).below k3
    have K3 := (unhide K2).trans (Below.le k3 (unhide K2).size)
    obtain ⟨w4, e4, m4, k4, s4⟩ := mb_alloc w3 (n : Int) (.slice (some ⟨r3, 0, none⟩) (n * n) cp3)
    have E4 := hide e4; have MA := hide (M3.below k4); have AR4 := hide (AR3.below k4); have K4 := hide (K3.trans (Below.le k4 K3.size)); have N4 := hide (n3.below k4); have RG3 := hide rg3; have T3 := hide t3
    have c0 := m4.cell0; have c1 := m4.cell1
    clear k3 M3 AR3 K3 e4 m4 k4 s4 hr3 n3 rg3 t3
    go_wp2_with fail
    rw [← unhide E4]
    go_wp2_with fail
    refine (turn_good n _ cp3 g3 _ (unhide H1) (unhide H6) (unhide RG3) (unhide N4).rds).mono ?_
    rintro e w5 ⟨r5, cp5, g5, rfl, hr5, n5, rg5, t5, k5⟩
    have M5 := (unhide MA).below k5; have AR5 := (unhide AR4).below k5
    have K5 := (unhide K4).trans (Below.le k5 (unhide K4).size)
    obtain ⟨w6, e6, m6, k6, s6⟩ := mb_alloc w5 (n : Int) (.slice (some ⟨r5, 0, none⟩) (n * n) cp5)
    have E6 := hide e6; have MA6 := hide (M5.below k6); have MT6 := hide m6; have AR6 := hide (AR5.below k6); have K6 := hide (K5.trans (Below.le k6 K5.size)); have N6 := hide (n5.below k6)
    have HEQ := hide (turned_twice (unhide T3) t5)
    clear k5 M5 AR5 K5 e6 m6 k6 s6 hr5 n5 rg5 t5 c0 c1
    go_wp2_with fail
    rw [← unhide E6]
    refine (stands_any _).mono ?_
    rintro e w7 ⟨rfl, k7⟩
    have MA7 := (unhide MA6).below k7; have MT7 := (unhide MT6).below k7; have AR7 := hide ((unhide AR6).below k7); have N7 := hide ((unhide N6).below k7); have K7 := hide ((unhide K6).trans (Below.le k7 (unhide K6).size))
    have c0 := MA7.cell0; have c1 := MA7.cell1; have d0 := MT7.cell0; have d1 := MT7.cell1
    have tn : ((n : Int) == (n : Int)) = true := by simp
    clear k7 MA7 MT7
    go_wp2_with fail
    refine (same_yes _ _ _ _ _ g5 f _ (by have := unhide h36; omega) (unhide N7).rds (unhide AR7).rds (unhide HEQ)).mono ?_
    rintro e w8 ⟨rfl, k8⟩
    have K8 := hide ((unhide K7).trans (Below.le k8 (unhide K7).size))
    clear k8 c0 c1 d0 d1 tn
    go_wp2_with fail
    go_ret
    exact ⟨rfl, unhide K8⟩

end Go.Proofs.Ytnfejfdekedmhab
