/- The walk of MatSolves. -/
import Derived.Test.YtnfejfdekedmhaaRefSol
import Derived.Test.YtnfejfdekedmhaaMatFaceS
import Derived.Test.YtnfejfdekedmhaaMatClone
import Derived.Test.YtnfejfdekedmhaaLawsN5
namespace Go.Proofs.Ytnfejfdekedmhaa
open Go.RowKit


set_option maxHeartbeats 1000000 in
theorem refSolve_bad (N : Int) (ao vo : Option Addr) (len cap lv cv : Nat) (w : World) (hg : goodM N len = false ∨ (lv : Int) ≠ N) :
    Calls Try.prog 24 #[.agg #[.int .i64 N, .slice ao len cap], .slice vo lv cv] w fun e w' =>
      e = .returned (.tuple #[.slice none 0 0, .bool false, .int .i64 8]) ∧ Below w.heap.size w w' := by
  obtain ⟨w1, e1⟩ : ∃ w1, w1 = w.alloc (.cells #[.int .i64 N, .slice ao len cap] 24) := ⟨_, rfl⟩
  have m0 : MbAt w1 w.heap.size N (.slice ao len cap) := by rw [e1]; exact MbAt.new w _ _
  have c0 := m0.cell0; have c1 := m0.cell1
  have K1 := hide (show Below w.heap.size w w1 by rw [e1]; exact al_below _ _)
  have E1 := hide e1; have M0 := hide m0
  clear e1 m0
  cases hgm : goodM N len
  · have G := hide hgm
    clear hg hgm
    go_enter Try.func24, Try.ntmps24
    go_wp2_with fail
    rw [← unhide E1]
    go_wp2_with fail
    refine (goodMat_any N ao len cap _).mono ?_
    rintro e w2 ⟨rfl, k2⟩
    rw [unhide G]
    have K2 := hide (show Below w.heap.size w w2 from (unhide K1).trans (Below.le k2 (unhide K1).size))
    clear c0 c1 k2
    go_wp2_with fail
    go_ret3
    exact ⟨rfl, unhide K2⟩
  · have G := hide hgm
    have hne : (N != (lv : Int)) = true := by
      rcases hg with h | h
      · rw [h] at hgm; cases hgm
      · rw [bne_iff_ne]; exact fun e => h e.symm
    clear hg hgm
    go_enter Try.func24, Try.ntmps24
    go_wp2_with fail
    rw [← unhide E1]
    go_wp2_with fail
    refine (goodMat_any N ao len cap _).mono ?_
    rintro e w2 ⟨rfl, k2⟩
    rw [unhide G]
    have K2 := hide (show Below w.heap.size w w2 from (unhide K1).trans (Below.le k2 (unhide K1).size))
    have m0 := (unhide M0).below k2
    clear c0 c1 k2
    have c0 := m0.cell0
    clear m0
    go_wp2_with fail
    go_ret3
    exact ⟨rfl, unhide K2⟩


theorem dn_same {n : Nat} {g h v : Nat → Int} (e : ∀ i, i < n * n → g i = h i) : ∀ {i : Nat}, i ≤ n → dnF n g v i = dnF n h v i ∧ dnB n g v i = dnB n h v i
  | 0, _ => ⟨rfl, rfl⟩
  | i + 1, hi => by
    obtain ⟨h1, h2⟩ := dn_same (v := v) e (i := i) (by omega)
    have hr : ∀ k, k < i → rowF n g i k = rowF n h i k := fun k hk => e _ (idx_lt (by omega) (by omega))
    constructor
    · show stF (dnF n g v i) i (sbV (v i) (rowF n g i) (dnF n g v i) i) = stF (dnF n h v i) i (sbV (v i) (rowF n h i) (dnF n h v i) i)
      rw [h1, sbV_congr hr (fun _ _ => rfl)]
    · show (dnB n g v i || sbB (v i) (rowF n g i) (dnF n g v i) i) = (dnB n h v i || sbB (v i) (rowF n h i) (dnF n h v i) i)
      rw [h1, h2, sbB_congr hr (fun _ _ => rfl)]
theorem up_same {n : Nat} {g h y : Nat → Int} (e : ∀ i, i < n * n → g i = h i) : ∀ {m : Nat}, m ≤ n → upF n g y m = upF n h y m ∧ upB n g y m = upB n h y m
  | 0, _ => ⟨rfl, rfl⟩
  | m + 1, hm => by
    obtain ⟨h1, h2⟩ := up_same (y := y) e (m := m) (by omega)
    have hr : ∀ k, k < m → g ((n - 1 - m + 1 + k) * n + (n - 1 - m)) = h ((n - 1 - m + 1 + k) * n + (n - 1 - m)) := fun k hk => e _ (idx_lt (by omega) (by omega))
    constructor
    · rw [upF_step (i := n - 1 - m) rfl, upF_step (i := n - 1 - m) rfl, h1, sbV_congr hr (fun _ _ => rfl)]
    · rw [upB_step (i := n - 1 - m) rfl, upB_step (i := n - 1 - m) rfl, h1, h2, sbB_congr hr (fun _ _ => rfl)]

set_option maxHeartbeats 8000000 in
theorem matSolves_walk {w : World} (N : Int) (ao : Option Addr) (len cap : Nat) (f : Nat → Int) (vo : Option Addr) (lv cv : Nat) (v : Nat → Int) (_rN : R64 N) (aa : ArgS w ao len cap f) (ab : ArgS w vo lv cv v) :
    Calls Try.prog 8 #[.agg #[.int .i64 N, .slice ao len cap], .slice vo lv cv] w fun e w' => e = .returned (.bool true) ∧ Below w.heap.size w w' := by
  have AB := hide ab; have RV := hide ab.2.2
  clear ab
  obtain ⟨w1, e1, ma, k1, s1⟩ := mb_alloc w N (.slice ao len cap)
  have E1 := hide e1; have MAw1 := hide ma; have Kw1 := hide k1; have Zw1 := hide (Nat.le_of_eq s1.symm); have AA := hide aa; have RF := hide aa.2.2
  clear e1 ma k1 s1 aa _rN
  by_cases hg : goodM N len = false ∨ (lv : Int) ≠ N
  · have G := hide hg
    clear hg
    go_enter Try.func8, Try.ntmps8
    go_wp2_with fail
    rw [← unhide E1]
    have MAx := (unhide MAw1).cell0; have MAy := (unhide MAw1).cell1; have MAl := (unhide MAw1).lt
    go_wp2_with fail
    clear MAx MAy MAl
    refine (ownL_any (N) ao len cap f _ (((unhide AA)).below (unhide Kw1))).mono ?_
    rintro e v1 ⟨aoA, capA, rfl, ra, kk⟩
    have RAv1 := hide ra
    have MAv1 := hide ((unhide MAw1).below kk)
    have Kv1 := hide ((unhide Kw1).trans (Below.le kk (unhide Kw1).size))
    have Zv1 := hide (Nat.le_trans (unhide Zw1) kk.size)
    have CSv1 := hide kk.size
    clear kk MAw1 Kw1 Zw1
    clear ra
    go_wp2_with (at_builtin; refine wpList_clone _ rfl _ _ rfl rfl vo lv cv v rfl ((unhide AB).below (unhide Kv1)) ?_)
    intro aoV capV v2 rv kk
    have RVv2 := hide rv
    have MAv2 := hide ((unhide MAv1).below kk)
    have RAv2 := hide ((unhide RAv1).below kk)
    have Kv2 := hide ((unhide Kv1).trans (Below.le kk (unhide Kv1).size))
    have Zv2 := hide (Nat.le_trans (unhide Zv1) kk.size)
    have CSv2 := hide kk.size
    clear kk MAv1 RAv1 Kv1 Zv1
    clear rv
    go_wp2_with fail
    refine (solve_bad N _ _ len _ _ _ _ (unhide G)).mono ?_
    rintro e v3 ⟨rfl, kk⟩
    have MAv3 := hide ((unhide MAv2).below kk)
    have RAv3 := hide ((unhide RAv2).below kk)
    have RVv3 := hide ((unhide RVv2).below kk)
    have Kv3 := hide ((unhide Kv2).trans (Below.le kk (unhide Kv2).size))
    have Zv3 := hide (Nat.le_trans (unhide Zv2) kk.size)
    have CSv3 := hide kk.size
    clear kk MAv2 RAv2 RVv2 Kv2 Zv2
    have MAx := (unhide MAv3).cell0; have MAy := (unhide MAv3).cell1; have MAl := (unhide MAv3).lt
    go_wp2_with fail
    clear MAx MAy MAl
    refine (refSolve_bad N _ _ len _ _ _ _ (unhide G)).mono ?_
    rintro e v4 ⟨rfl, kk⟩
    have MAv4 := hide ((unhide MAv3).below kk)
    have RAv4 := hide ((unhide RAv3).below kk)
    have RVv4 := hide ((unhide RVv3).below kk)
    have Kv4 := hide ((unhide Kv3).trans (Below.le kk (unhide Kv3).size))
    have Zv4 := hide (Nat.le_trans (unhide Zv3) kk.size)
    have CSv4 := hide kk.size
    clear kk MAv3 RAv3 RVv3 Kv3 Zv3
    go_wp2_with fail
    refine (least_any 7 (by unfold R64; omega) _).mono ?_
    rintro e v5 ⟨mX, rlX, emX, rfl, nl, _, kk⟩
    have NLXv5 := hide nl
    have MAv5 := hide ((unhide MAv4).below kk)
    have RAv5 := hide ((unhide RAv4).below kk)
    have RVv5 := hide ((unhide RVv4).below kk)
    have Kv5 := hide ((unhide Kv4).trans (Below.le kk (unhide Kv4).size))
    have Zv5 := hide (Nat.le_trans (unhide Zv4) kk.size)
    have CSv5 := hide kk.size
    clear kk MAv4 RAv4 RVv4 Kv4 Zv4
    clear nl
    have EMX := hide emX
    clear emX
    go_wp2_with fail
    obtain ⟨v6, e9⟩ : ∃ v6, v6 = v5.alloc (.cells #[.int .i64 7] 3) := ⟨_, rfl⟩
    have kk : Below v5.heap.size v5 v6 := by rw [e9]; exact al_below _ _
    have LVv6 := hide (show Rds v6 (some ⟨v5.heap.size, 0, none⟩) mX (fun _ => 7) from fun _ => ⟨_, 0, rfl, fun i hi => by
      have : i = 0 := by have := unhide EMX; omega
      subst this
      rw [e9]; have h := heap_alloc_new v5 (.cells #[.int .i64 7] 3); unfold World.cell?; rw [h]; rfl⟩)
    rw [← e9]
    have E9 := hide e9
    clear e9
    have MAv6 := hide ((unhide MAv5).below kk)
    have RAv6 := hide ((unhide RAv5).below kk)
    have RVv6 := hide ((unhide RVv5).below kk)
    have NLXv6 := hide ((unhide NLXv5).below kk)
    have Kv6 := hide ((unhide Kv5).trans (Below.le kk (unhide Kv5).size))
    have Zv6 := hide (Nat.le_trans (unhide Zv5) kk.size)
    have CSv6 := hide kk.size
    clear kk MAv5 RAv5 RVv5 NLXv5 Kv5 Zv5
    rw [show (Value.slice (some ⟨v5.heap.size, 0, none⟩) 1 1) = Value.slice (some ⟨v5.heap.size, 0, none⟩) mX 1 by rw [unhide EMX]]
    refine (solve_good mX _ _ _ _ (fun _ => 7) (fun _ => 7) _ (by have := unhide EMX; omega) (by have := unhide EMX; omega) (fun _ => by unfold R64; omega) (fun _ => by unfold R64; omega) (unhide NLXv6).rds (unhide LVv6)).mono ?_
    rintro e v7 (⟨_, uX, cX, gX, _, rfl, _, nx, kk⟩ | ⟨nok, _, _⟩)
    rotate_left
    · exact absurd (least_ok (unhide EMX)) nok
    clear nx
    have MAv7 := hide ((unhide MAv6).below kk)
    have RAv7 := hide ((unhide RAv6).below kk)
    have RVv7 := hide ((unhide RVv6).below kk)
    have NLXv7 := hide ((unhide NLXv6).below kk)
    have LVv7 := hide ((unhide LVv6).below kk)
    have Kv7 := hide ((unhide Kv6).trans (Below.le kk (unhide Kv6).size))
    have Zv7 := hide (Nat.le_trans (unhide Zv6) kk.size)
    have CSv7 := hide kk.size
    clear kk MAv6 RAv6 RVv6 NLXv6 LVv6 Kv6 Zv6
    have tx : ((mX : Int) == 1) = true := by rw [unhide EMX]; rfl
    go_wp2_with fail
    refine (sameInts_yes none none 0 0 0 (fun _ => 0) (fun _ => 0) _ (by decide) (fun h => absurd h (by omega)) (fun h => absurd h (by omega)) (fun i hi => rfl)).mono ?_
    rintro e v8 ⟨rfl, kk⟩
    have MAv8 := hide ((unhide MAv7).below kk)
    have RAv8 := hide ((unhide RAv7).below kk)
    have RVv8 := hide ((unhide RVv7).below kk)
    have NLXv8 := hide ((unhide NLXv7).below kk)
    have LVv8 := hide ((unhide LVv7).below kk)
    have Kv8 := hide ((unhide Kv7).trans (Below.le kk (unhide Kv7).size))
    have Zv8 := hide (Nat.le_trans (unhide Zv7) kk.size)
    have CSv8 := hide kk.size
    clear kk MAv7 RAv7 RVv7 NLXv7 LVv7 Kv7 Zv7
    go_wp2_with fail
    go_ret
    exact ⟨rfl, (unhide Kv8)⟩
  · obtain ⟨hg1, hg2⟩ := not_or.1 hg
    obtain ⟨n, rfl, h1, h6, rfl⟩ := goodM_of (show goodM N len = true by cases h : goodM N len with | false => exact absurd h hg1 | true => rfl)
    obtain rfl : lv = n := by omega
    have H1 := hide h1; have H6 := hide h6
    clear hg hg1 hg2 h1
    go_enter Try.func8, Try.ntmps8
    go_wp2_with fail
    rw [← unhide E1]
    have MAx := (unhide MAw1).cell0; have MAy := (unhide MAw1).cell1; have MAl := (unhide MAw1).lt
    go_wp2_with fail
    clear MAx MAy MAl
    refine (ownL_any ((lv : Int)) ao (lv * lv) cap f _ (((unhide AA)).below (unhide Kw1))).mono ?_
    rintro e v9 ⟨aoA, capA, rfl, ra, kk⟩
    have RAv9 := hide ra
    have MAv9 := hide ((unhide MAw1).below kk)
    have Kv9 := hide ((unhide Kw1).trans (Below.le kk (unhide Kw1).size))
    have Zv9 := hide (Nat.le_trans (unhide Zw1) kk.size)
    have CSv9 := hide kk.size
    clear kk MAw1 Kw1 Zw1
    clear ra
    go_wp2_with (at_builtin; refine wpList_clone _ rfl _ _ rfl rfl vo lv cv v rfl ((unhide AB).below (unhide Kv9)) ?_)
    intro aoV capV v10 rv kk
    have RVv10 := hide rv
    have MAv10 := hide ((unhide MAv9).below kk)
    have RAv10 := hide ((unhide RAv9).below kk)
    have Kv10 := hide ((unhide Kv9).trans (Below.le kk (unhide Kv9).size))
    have Zv10 := hide (Nat.le_trans (unhide Zv9) kk.size)
    have CSv10 := hide kk.size
    clear kk MAv9 RAv9 Kv9 Zv9
    clear rv
    go_wp2_with fail
    refine (solve_good lv _ _ _ _ f v _ (unhide H1) (unhide H6) (unhide RF) (unhide RV) (unhide RAv10) (unhide RVv10)).mono ?_
    rintro e v11 (⟨ok, uS, cS, gS, is, rfl, _, ns, kk⟩ | ⟨nok, rfl, kk⟩)
    · have NSv11 := hide ns; have IS := hide is; have OK := hide ok
      clear ns is ok
      have MAv11 := hide ((unhide MAv10).below kk)
      have RAv11 := hide ((unhide RAv10).below kk)
      have RVv11 := hide ((unhide RVv10).below kk)
      have Kv11 := hide ((unhide Kv10).trans (Below.le kk (unhide Kv10).size))
      have Zv11 := hide (Nat.le_trans (unhide Zv10) kk.size)
      have CSv11 := hide kk.size
      clear kk MAv10 RAv10 RVv10 Kv10 Zv10
      have MAx := (unhide MAv11).cell0; have MAy := (unhide MAv11).cell1; have MAl := (unhide MAv11).lt
      go_wp2_with fail
      clear MAx MAy MAl
      refine (refSolve_good lv _ _ _ _ f v _ (unhide H1) (unhide H6) (unhide RF) (unhide RV) ((unhide AA).rds.below (unhide Kv11)) ((unhide AB).rds.below (unhide Kv11))).mono ?_
      rintro e v12 (⟨ok, uT, gT, XT, it, rfl, nt, xt, kk⟩ | ⟨nok, rfl, kk⟩)
      rotate_left
      · exact absurd (unhide OK) nok
      have es := isM_same (unhide IS) it
      obtain ⟨e1, e2⟩ := dn_same (v := v) es (Nat.le_refl lv)
      obtain ⟨e3, e4⟩ := up_same (y := dvF (dnF lv gT v lv) (fac lv f lv).2 lv) es (Nat.le_refl lv)
      have NTv12 := hide nt
      have EQX := hide (show ∀ i, i < lv → upF lv gS (dvF (dnF lv gS v lv) (fac lv f lv).2 lv) lv i = XT i from fun i hi => by rw [xt i hi, e1, e3])
      have TB := hide (show ((facB lv f lv || dnB lv gS v lv || dvB (dnF lv gS v lv) (fac lv f lv).2 lv || upB lv gS (dvF (dnF lv gS v lv) (fac lv f lv).2 lv) lv) == (facB lv f lv || dnB lv gT v lv || dvB (dnF lv gT v lv) (fac lv f lv).2 lv || upB lv gT (dvF (dnF lv gT v lv) (fac lv f lv).2 lv) lv)) = true from by rw [e1, e2, e4]; simp)
      clear nt it xt es e1 e2 e3 e4 ok
      have MAv12 := hide ((unhide MAv11).below kk)
      have RAv12 := hide ((unhide RAv11).below kk)
      have RVv12 := hide ((unhide RVv11).below kk)
      have NSv12 := hide ((unhide NSv11).below kk)
      have Kv12 := hide ((unhide Kv11).trans (Below.le kk (unhide Kv11).size))
      have Zv12 := hide (Nat.le_trans (unhide Zv11) kk.size)
      have CSv12 := hide kk.size
      clear kk MAv11 RAv11 RVv11 NSv11 Kv11 Zv11
      go_wp2_with fail
      refine (least_any 7 (by unfold R64; omega) _).mono ?_
      rintro e v13 ⟨mX, rlX, emX, rfl, nl, _, kk⟩
      have NLXv13 := hide nl
      have MAv13 := hide ((unhide MAv12).below kk)
      have RAv13 := hide ((unhide RAv12).below kk)
      have RVv13 := hide ((unhide RVv12).below kk)
      have NSv13 := hide ((unhide NSv12).below kk)
      have NTv13 := hide ((unhide NTv12).below kk)
      have Kv13 := hide ((unhide Kv12).trans (Below.le kk (unhide Kv12).size))
      have Zv13 := hide (Nat.le_trans (unhide Zv12) kk.size)
      have CSv13 := hide kk.size
      clear kk MAv12 RAv12 RVv12 NSv12 NTv12 Kv12 Zv12
      clear nl
      have EMX := hide emX
      clear emX
      go_wp2_with fail
      obtain ⟨v14, e9⟩ : ∃ v14, v14 = v13.alloc (.cells #[.int .i64 7] 3) := ⟨_, rfl⟩
      have kk : Below v13.heap.size v13 v14 := by rw [e9]; exact al_below _ _
      have LVv14 := hide (show Rds v14 (some ⟨v13.heap.size, 0, none⟩) mX (fun _ => 7) from fun _ => ⟨_, 0, rfl, fun i hi => by
        have : i = 0 := by have := unhide EMX; omega
        subst this
        rw [e9]; have h := heap_alloc_new v13 (.cells #[.int .i64 7] 3); unfold World.cell?; rw [h]; rfl⟩)
      rw [← e9]
      have E9 := hide e9
      clear e9
      have MAv14 := hide ((unhide MAv13).below kk)
      have RAv14 := hide ((unhide RAv13).below kk)
      have RVv14 := hide ((unhide RVv13).below kk)
      have NSv14 := hide ((unhide NSv13).below kk)
      have NTv14 := hide ((unhide NTv13).below kk)
      have NLXv14 := hide ((unhide NLXv13).below kk)
      have Kv14 := hide ((unhide Kv13).trans (Below.le kk (unhide Kv13).size))
      have Zv14 := hide (Nat.le_trans (unhide Zv13) kk.size)
      have CSv14 := hide kk.size
      clear kk MAv13 RAv13 RVv13 NSv13 NTv13 NLXv13 Kv13 Zv13
      rw [show (Value.slice (some ⟨v13.heap.size, 0, none⟩) 1 1) = Value.slice (some ⟨v13.heap.size, 0, none⟩) mX 1 by rw [unhide EMX]]
      refine (solve_good mX _ _ _ _ (fun _ => 7) (fun _ => 7) _ (by have := unhide EMX; omega) (by have := unhide EMX; omega) (fun _ => by unfold R64; omega) (fun _ => by unfold R64; omega) (unhide NLXv14).rds (unhide LVv14)).mono ?_
      rintro e v15 (⟨_, uX, cX, gX, _, rfl, _, nx, kk⟩ | ⟨nok, _, _⟩)
      rotate_left
      · exact absurd (least_ok (unhide EMX)) nok
      clear nx
      have MAv15 := hide ((unhide MAv14).below kk)
      have RAv15 := hide ((unhide RAv14).below kk)
      have RVv15 := hide ((unhide RVv14).below kk)
      have NSv15 := hide ((unhide NSv14).below kk)
      have NTv15 := hide ((unhide NTv14).below kk)
      have NLXv15 := hide ((unhide NLXv14).below kk)
      have LVv15 := hide ((unhide LVv14).below kk)
      have Kv15 := hide ((unhide Kv14).trans (Below.le kk (unhide Kv14).size))
      have Zv15 := hide (Nat.le_trans (unhide Zv14) kk.size)
      have CSv15 := hide kk.size
      clear kk MAv14 RAv14 RVv14 NSv14 NTv14 NLXv14 LVv14 Kv14 Zv14
      have tx : ((mX : Int) == 1) = true := by rw [unhide EMX]; rfl
      have tb := unhide TB
      go_wp2_with fail
      refine (sameInts_yes _ _ lv _ _ _ _ _ (by have := unhide H6; omega) (unhide NSv15).rds (unhide NTv15).rds (unhide EQX)).mono ?_
      rintro e v16 ⟨rfl, kk⟩
      have MAv16 := hide ((unhide MAv15).below kk)
      have RAv16 := hide ((unhide RAv15).below kk)
      have RVv16 := hide ((unhide RVv15).below kk)
      have NSv16 := hide ((unhide NSv15).below kk)
      have NTv16 := hide ((unhide NTv15).below kk)
      have NLXv16 := hide ((unhide NLXv15).below kk)
      have LVv16 := hide ((unhide LVv15).below kk)
      have Kv16 := hide ((unhide Kv15).trans (Below.le kk (unhide Kv15).size))
      have Zv16 := hide (Nat.le_trans (unhide Zv15) kk.size)
      have CSv16 := hide kk.size
      clear kk MAv15 RAv15 RVv15 NSv15 NTv15 NLXv15 LVv15 Kv15 Zv15
      go_wp2_with fail
      go_ret
      exact ⟨rfl, (unhide Kv16)⟩
    · have NOK := hide nok
      clear nok
      have MAv11 := hide ((unhide MAv10).below kk)
      have RAv11 := hide ((unhide RAv10).below kk)
      have RVv11 := hide ((unhide RVv10).below kk)
      have Kv11 := hide ((unhide Kv10).trans (Below.le kk (unhide Kv10).size))
      have Zv11 := hide (Nat.le_trans (unhide Zv10) kk.size)
      have CSv11 := hide kk.size
      clear kk MAv10 RAv10 RVv10 Kv10 Zv10
      have MAx := (unhide MAv11).cell0; have MAy := (unhide MAv11).cell1; have MAl := (unhide MAv11).lt
      go_wp2_with fail
      clear MAx MAy MAl
      refine (refSolve_good lv _ _ _ _ f v _ (unhide H1) (unhide H6) (unhide RF) (unhide RV) ((unhide AA).rds.below (unhide Kv11)) ((unhide AB).rds.below (unhide Kv11))).mono ?_
      rintro e v17 (⟨ok, uT, gT, XT, it, rfl, nt, xt, kk⟩ | ⟨nok, rfl, kk⟩)
      · exact absurd ok (unhide NOK)
      clear nok
      have MAv17 := hide ((unhide MAv11).below kk)
      have RAv17 := hide ((unhide RAv11).below kk)
      have RVv17 := hide ((unhide RVv11).below kk)
      have Kv17 := hide ((unhide Kv11).trans (Below.le kk (unhide Kv11).size))
      have Zv17 := hide (Nat.le_trans (unhide Zv11) kk.size)
      have CSv17 := hide kk.size
      clear kk MAv11 RAv11 RVv11 Kv11 Zv11
      go_wp2_with fail
      refine (least_any 7 (by unfold R64; omega) _).mono ?_
      rintro e v18 ⟨mX, rlX, emX, rfl, nl, _, kk⟩
      have NLXv18 := hide nl
      have MAv18 := hide ((unhide MAv17).below kk)
      have RAv18 := hide ((unhide RAv17).below kk)
      have RVv18 := hide ((unhide RVv17).below kk)
      have Kv18 := hide ((unhide Kv17).trans (Below.le kk (unhide Kv17).size))
      have Zv18 := hide (Nat.le_trans (unhide Zv17) kk.size)
      have CSv18 := hide kk.size
      clear kk MAv17 RAv17 RVv17 Kv17 Zv17
      clear nl
      have EMX := hide emX
      clear emX
      go_wp2_with fail
      obtain ⟨v19, e9⟩ : ∃ v19, v19 = v18.alloc (.cells #[.int .i64 7] 3) := ⟨_, rfl⟩
      have kk : Below v18.heap.size v18 v19 := by rw [e9]; exact al_below _ _
      have LVv19 := hide (show Rds v19 (some ⟨v18.heap.size, 0, none⟩) mX (fun _ => 7) from fun _ => ⟨_, 0, rfl, fun i hi => by
        have : i = 0 := by have := unhide EMX; omega
        subst this
        rw [e9]; have h := heap_alloc_new v18 (.cells #[.int .i64 7] 3); unfold World.cell?; rw [h]; rfl⟩)
      rw [← e9]
      have E9 := hide e9
      clear e9
      have MAv19 := hide ((unhide MAv18).below kk)
      have RAv19 := hide ((unhide RAv18).below kk)
      have RVv19 := hide ((unhide RVv18).below kk)
      have NLXv19 := hide ((unhide NLXv18).below kk)
      have Kv19 := hide ((unhide Kv18).trans (Below.le kk (unhide Kv18).size))
      have Zv19 := hide (Nat.le_trans (unhide Zv18) kk.size)
      have CSv19 := hide kk.size
      clear kk MAv18 RAv18 RVv18 NLXv18 Kv18 Zv18
      rw [show (Value.slice (some ⟨v18.heap.size, 0, none⟩) 1 1) = Value.slice (some ⟨v18.heap.size, 0, none⟩) mX 1 by rw [unhide EMX]]
      refine (solve_good mX _ _ _ _ (fun _ => 7) (fun _ => 7) _ (by have := unhide EMX; omega) (by have := unhide EMX; omega) (fun _ => by unfold R64; omega) (fun _ => by unfold R64; omega) (unhide NLXv19).rds (unhide LVv19)).mono ?_
      rintro e v20 (⟨_, uX, cX, gX, _, rfl, _, nx, kk⟩ | ⟨nok, _, _⟩)
      rotate_left
      · exact absurd (least_ok (unhide EMX)) nok
      clear nx
      have MAv20 := hide ((unhide MAv19).below kk)
      have RAv20 := hide ((unhide RAv19).below kk)
      have RVv20 := hide ((unhide RVv19).below kk)
      have NLXv20 := hide ((unhide NLXv19).below kk)
      have LVv20 := hide ((unhide LVv19).below kk)
      have Kv20 := hide ((unhide Kv19).trans (Below.le kk (unhide Kv19).size))
      have Zv20 := hide (Nat.le_trans (unhide Zv19) kk.size)
      have CSv20 := hide kk.size
      clear kk MAv19 RAv19 RVv19 NLXv19 LVv19 Kv19 Zv19
      have tx : ((mX : Int) == 1) = true := by rw [unhide EMX]; rfl
      go_wp2_with fail
      refine (sameInts_yes none none 0 0 0 (fun _ => 0) (fun _ => 0) _ (by decide) (fun h => absurd h (by omega)) (fun h => absurd h (by omega)) (fun i hi => rfl)).mono ?_
      rintro e v21 ⟨rfl, kk⟩
      have MAv21 := hide ((unhide MAv20).below kk)
      have RAv21 := hide ((unhide RAv20).below kk)
      have RVv21 := hide ((unhide RVv20).below kk)
      have NLXv21 := hide ((unhide NLXv20).below kk)
      have LVv21 := hide ((unhide LVv20).below kk)
      have Kv21 := hide ((unhide Kv20).trans (Below.le kk (unhide Kv20).size))
      have Zv21 := hide (Nat.le_trans (unhide Zv20) kk.size)
      have CSv21 := hide kk.size
      clear kk MAv20 RAv20 RVv20 NLXv20 LVv20 Kv20 Zv20
      go_wp2_with fail
      go_ret
      exact ⟨rfl, (unhide Kv21)⟩

end Go.Proofs.Ytnfejfdekedmhaa
