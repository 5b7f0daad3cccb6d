/- The walk of MatFactored. -/
import Derived.Test.YtnfejfdekedmhabLawsM1
import Derived.Test.YtnfejfdekedmhabMatFaceS
namespace Go.Proofs.Ytnfejfdekedmhab
open Go.RowKit

theorem facD_at (n : Nat) (g : Nat → Int) : ∀ {j i : Nat}, i < j → (fac n g j).2 i = facP n g i
  | 0, _, h => absurd h (by omega)
  | j + 1, i, h => by
    rw [facD_new]
    rcases Nat.lt_or_ge i j with h1 | h1
    · rw [stF_other _ _ (by omega)]; exact facD_at n g h1
    · have : i = j := by omega
      subst this; rw [stF_same]
theorem facL_one (n : Nat) (g : Nat → Int) : ∀ {j i : Nat}, i < j → (fac n g j).1 i i = 4294967296
  | 0, _, h => absurd h (by omega)
  | j + 1, i, h => by
    rcases Nat.lt_or_ge i j with h1 | h1
    · rw [fac_keeps n g (by omega)]; exact facL_one n g h1
    · have : i = j := by omega
      subst this; exact fac_one n g i
theorem isM_one {n i : Nat} {f g : Nat → Int} (h : IsM n f n g) (hi : i < n) : g (i * n + i) = 4294967296 := by
  rw [h i i hi hi]; unfold facM; rw [if_pos ⟨hi, Nat.le_refl _⟩]; exact facL_one n f hi
theorem isM_nil {n i k : Nat} {f g : Nat → Int} (h : IsM n f n g) (hk : k < n) (hi : i < k) : g (i * n + k) = 0 := by
  rw [h i k (by omega) hk]; unfold facM; rw [if_neg (by omega), if_pos (by omega)]

set_option maxHeartbeats 4000000 in
theorem matFactored_walk {w : World} (N : Int) (ao : Option Addr) (len cap : Nat) (f : Nat → Int) (_rN : R64 N) (ar : ArgS w ao len cap f) :
    Calls Try.prog 8 #[.agg #[.int .i64 N, .slice ao len cap]] w fun e w' => e = .returned (.bool true) ∧ Below w.heap.size w w' := by
  obtain ⟨w1, e1, m1, k1, s1⟩ := mb_alloc w N (.slice ao len cap)
  have c0 := m1.cell0; have c1 := m1.cell1
  have E1 := hide e1; have M1 := hide m1; have K1 := hide k1; have AR := hide (ar.below k1); have RF := hide ar.2.2
  clear e1 m1 k1 s1 ar
  cases hg : goodM N len
  · have G := hide hg
    clear hg
    go_enter Try.func8, Try.ntmps8
    go_wp2_with fail
    rw [← unhide E1]
    go_wp2_with fail
    refine (ownK_any N ao len cap f _ (unhide AR)).mono ?_
    rintro e w2 ⟨ao2, cap2, rfl, _, k2⟩
    have K2 := hide (show Below w.heap.size w w2 from (unhide K1).trans (Below.le k2 (unhide K1).size))
    clear k2 c0 c1
    go_wp2_with fail
    refine (factor_bad N ao2 len cap2 _ (unhide G)).mono ?_
    rintro e w3 ⟨rfl, k3⟩
    have K3 := (unhide K2).trans (Below.le k3 (unhide K2).size)
    obtain ⟨w4, e4, m4, k4, s4⟩ := mb_alloc w3 0 (.slice none 0 0)
    have E4 := hide e4; have MT := hide m4; have K4 := hide (K3.trans (Below.le k4 K3.size))
    clear k3 K3 e4 m4 k4 s4
    go_wp2_with fail
    rw [← unhide E4]
    refine (stands_any _).mono ?_
    rintro e w5 ⟨rfl, k5⟩
    have MT5 := (unhide MT).below k5; have K5 := hide ((unhide K4).trans (Below.le k5 (unhide K4).size))
    have c0 := MT5.cell0; have c1 := MT5.cell1
    clear k5 MT5
    go_wp2_with fail
    go_ret
    exact ⟨rfl, unhide K5⟩
  · obtain ⟨n, rfl, h1, h6, rfl⟩ := goodM_of hg
    have H1 := hide h1; have H6 := hide h6
    clear hg h1
    obtain ⟨q, hq⟩ : ∃ q, n * n = q := ⟨_, rfl⟩
    have hq36 : q ≤ 36 := by rw [← hq]; exact sq_le h6
    have wq : IntKind.i64.wrap ((n : Int) * (n : Int)) = (q : Int) := by rw [wrap_sq h6 h6, hq]
    have HQ := hide hq
    rw [hq] at AR M1 E1 c1 ⊢
    clear hq
    go_enter Try.func8, Try.ntmps8
    go_wp2_with fail
    rw [← unhide E1]
    go_wp2_with fail
    refine (ownK_any (n : Int) ao q cap f _ (unhide AR)).mono ?_
    rintro e w2 ⟨ao2, cap2, rfl, rd2, k2⟩
    have M2 := hide ((unhide M1).below k2); have RD2 := hide rd2
    have K2 := hide (show Below w.heap.size w w2 from (unhide K1).trans (Below.le k2 (unhide K1).size))
    clear k2 c0 c1 rd2
    have FC := hide (factor_good n ao2 cap2 f w2 (unhide H1) (unhide H6) (unhide RF) (by rw [unhide HQ]; exact unhide RD2))
    rw [unhide HQ] at FC
    go_wp2_with fail
    refine (unhide FC).mono ?_
    clear FC
    rintro e w3 (⟨ok, r3, cp3, u3, g3, rfl, hr3, hu3, hne, n3, rg3, t3, d3, k3⟩ | ⟨nok, rfl, k3⟩)
    · have M3 := (unhide M2).below k3
      have K3 := (unhide K2).trans (Below.le k3 (unhide K2).size)
      obtain ⟨w4, e4, m4, k4, s4⟩ := mb_alloc w3 (n : Int) (.slice (some ⟨r3, 0, none⟩) q cp3)
      have E4 := hide e4; have MA := hide (M3.below k4); have MT := hide m4; have K4 := hide (K3.trans (Below.le k4 K3.size)); have N4 := hide (n3.below k4); have D4 := hide (d3.below k4); have T3 := hide t3; have OK := hide ok
      have b0 := M3.cell0; have b1 := M3.cell1; have bl := M3.lt
      have tn : ((n : Int) != (n : Int)) = false := by simp
      have tq : ((q : Int) != (q : Int)) = false := by simp
      clear k3 M3 K3 e4 m4 k4 s4 hr3 hu3 hne n3 rg3 t3 d3 ok
      go_wp2_with fail
      rw [← unhide E4]
      clear b0 b1 bl tn tq wq
      go_loopw [7, 8] (fun is _ wr => ∃ i : Nat, is = .int .i64 i ∧ i ≤ n ∧ w4 = wr) (fun is _ _ => n - (intOf is).toNat)
      case atStart => exact ⟨0, rfl, Nat.zero_le _, rfl⟩
      case round =>
        obtain ⟨i, rfl, hi, rfl⟩ := hrel
        have a0 := (unhide MA).cell0; have a1 := (unhide MT).cell1
        by_cases hin : i < n
        · have hp := idx_lt hin hin
          rw [unhide HQ] at hp
          have wp := wrap_sq h6 (show i ≤ 6 by omega)
          have one := isM_one (unhide T3) hin
          obtain ⟨p, ep⟩ : ∃ p, i * n = p := ⟨_, rfl⟩
          rw [ep] at wp hp one
          have wi : IntKind.i64.wrap ((p : Int) + (i : Int)) = (p : Int) + (i : Int) := by rw [IntKind.wrap_i64]; omega
          have cu := (unhide N4).cell hp
          rw [one] at cu
          have cd := (unhide D4).cell hin
          rw [facD_at n f hin] at cd
          have pos := unhide OK i hin
          obtain ⟨dv, edv⟩ : ∃ dv, facP n f i = dv := ⟨_, rfl⟩
          rw [edv] at cd pos
          have EP := hide ep
          clear ep one edv
          go_wp2_with fail
          clear cu cd
          go_loopw [8] (fun ks wr => ∃ k : Nat, ks = .int .i64 k ∧ i < k ∧ k ≤ n ∧ w4 = wr) (fun ks _ => n - (intOf ks).toNat)
          case atStart => exact ⟨i + 1, by go_num, by omega, by omega, rfl⟩
          case round =>
            obtain ⟨k, rfl, hik, hk, rfl⟩ := hrel
            by_cases hkn : k < n
            · have hp2 := idx_lt hin hkn
              rw [unhide HQ, unhide EP] at hp2
              have wi2 : IntKind.i64.wrap ((p : Int) + (k : Int)) = (p : Int) + (k : Int) := by rw [IntKind.wrap_i64]; omega
              have cu := (unhide N4).cell hp2
              have z := isM_nil (unhide T3) hkn hik
              rw [unhide EP] at z
              rw [z] at cu
              clear z
              go_wp2_with fail
              go_roundw
              case rel => exact ⟨k + 1, by go_num, by omega, by omega, trivial⟩
              case measure => simp [intOf] <;> omega
            · have hkn2 : k = n := by omega
              subst hkn2
              go_wp2_with fail
              go_roundw
              case rel => exact ⟨i + 1, by go_num, by omega, trivial⟩
              case measure => simp [intOf] <;> omega
        · have hin2 : i = n := by omega
          subst hin2
          go_wp2_with fail
          refine (stands_any _).mono ?_
          rintro e w5 ⟨rfl, k5⟩
          have K5 := hide ((unhide K4).trans (Below.le k5 (unhide K4).size))
          clear k5
          go_wp2_with fail
          go_ret
          exact ⟨rfl, unhide K5⟩
    · have K3 := (unhide K2).trans (Below.le k3 (unhide K2).size)
      obtain ⟨w4, e4, m4, k4, s4⟩ := mb_alloc w3 0 (.slice none 0 0)
      have E4 := hide e4; have MT := hide m4; have K4 := hide (K3.trans (Below.le k4 K3.size))
      clear k3 K3 e4 m4 k4 s4 nok
      go_wp2_with fail
      rw [← unhide E4]
      refine (stands_any _).mono ?_
      rintro e w5 ⟨rfl, k5⟩
      have MT5 := (unhide MT).below k5; have K5 := hide ((unhide K4).trans (Below.le k5 (unhide K4).size))
      have c0 := MT5.cell0; have c1 := MT5.cell1
      clear k5 MT5
      go_wp2_with fail
      go_ret
      exact ⟨rfl, unhide K5⟩

end Go.Proofs.Ytnfejfdekedmhab
