/- The walk of MatFactors. -/
import Derived.Test.YtnfejfdekedmhaaRefFac2
import Derived.Test.YtnfejfdekedmhaaMatFaceS
import Derived.Test.YtnfejfdekedmhaaLawsN2
namespace Go.Proofs.Ytnfejfdekedmhaa
open Go.RowKit

set_option maxHeartbeats 1000000 in
theorem refFactor_bad (N : Int) (ao : Option Addr) (len cap : Nat) (w : World) (hg : goodM N len = false) :
    Calls Try.prog 22 #[.agg #[.int .i64 N, .slice ao len cap]] w fun e w' =>
      e = .returned (.tuple #[.agg #[.int .i64 0, .slice none 0 0], .slice none 0 0, .bool false, .int .i64 8]) ∧ Below w.heap.size w w' := by
  obtain ⟨w1, e1, m0, m1, k1, s1⟩ := mat_two w N (.slice ao len cap)
  have c0 := m0.cell0; have c1 := m0.cell1
  have E1 := hide e1; have M1 := hide m1; have K1 := hide k1; have S1 := hide s1; have G := hide hg
  clear e1 m0 m1 k1 s1 hg
  go_enter Try.func22, Try.ntmps22
  go_wp2_with fail
  rw [← unhide E1]
  go_wp2_with fail
  refine (goodMat_any N ao len cap _).mono ?_
  rintro e w2 ⟨rfl, k2⟩
  rw [unhide G]
  have K2 := hide (show Below w.heap.size w w2 from (unhide K1).trans (Below.le k2 (by have := unhide S1; omega)))
  have m2 := (unhide M1).below k2
  have d0 := m2.cell0; have d1 := m2.cell1; have f0 := m2.free 0; have f1 := m2.free 1
  have M2 := hide m2
  clear k2 c0 c1 m2
  go_wp2_with fail
  obtain ⟨w3, e3, m3, k3⟩ := (unhide M2).put 0 (.slice none 0 0)
  rw [← e3]
  have p0 := m3.cell0; have p1 := m3.cell1
  have F := hide (below_of_kept (unhide K2) k3 (by omega))
  clear e3 m3 k3 d0 d1 f0 f1
  go_wp2_with fail
  refine bodyPost_ret (v := .tuple #[.agg #[.int .i64 0, .slice none 0 0], .slice none 0 0, .bool false, .int .i64 8]) (by simp [results, Try.results22, go_sem, p0, p1]) rfl ⟨rfl, unhide F⟩



theorem isM_same {n : Nat} {f g h : Nat → Int} (a : IsM n f n g) (b : IsM n f n h) : ∀ i, i < n * n → g i = h i := by
  intro i hi
  obtain ⟨x, y, hx, hy, rfl⟩ := idx_of hi
  rw [a x y hx hy, b x y hx hy]
theorem least_ok {m : Nat} (h : m = 1) : facOK m (fun _ => 7) m := by
  subst h
  intro t ht
  have : t = 0 := by omega
  subst this
  show (0 : Int) < 7
  decide

set_option maxHeartbeats 8000000 in
theorem matFactors_walk {w : World} (N : Int) (ao : Option Addr) (len cap : Nat) (f : Nat → Int) (_rN : R64 N) (aa : ArgS w ao len cap f) :
    Calls Try.prog 7 #[.agg #[.int .i64 N, .slice ao len cap]] w fun e w' => e = .returned (.bool true) ∧ Below w.heap.size w w' := by
  obtain ⟨w1, e1, ma, k1, s1⟩ := mb_alloc w N (.slice ao len cap)
  have E1 := hide e1; have MAw1 := hide ma; have Kw1 := hide k1; have Zw1 := hide (Nat.le_of_eq s1.symm); have AA := hide aa; have RF := hide aa.2.2
  clear e1 ma k1 s1 aa _rN
  cases hg : goodM N len
  · have G := hide hg
    clear hg
    go_enter Try.func7, Try.ntmps7
    go_wp2_with fail
    rw [← unhide E1]
    have MAx := (unhide MAw1).cell0; have MAy := (unhide MAw1).cell1; have MAl := (unhide MAw1).lt
    go_wp2_with fail
    clear MAx MAy MAl
    refine (ownL_any (N) ao len cap f _ (((unhide AA)).below (unhide Kw1))).mono ?_
    rintro e v1 ⟨aoA, capA, rfl, ra, kk⟩
    have RAv1 := hide ra
    have MAv1 := hide ((unhide MAw1).below kk)
    have Kv1 := hide ((unhide Kw1).trans (Below.le kk (unhide Kw1).size))
    have Zv1 := hide (Nat.le_trans (unhide Zw1) kk.size)
    have CSv1 := hide kk.size
    clear kk MAw1 Kw1 Zw1
    clear ra
    go_wp2_with fail
    refine (factor_bad N aoA len capA _ (unhide G)).mono ?_
    rintro e v2 ⟨rfl, kk⟩
    have MAv2 := hide ((unhide MAv1).below kk)
    have RAv2 := hide ((unhide RAv1).below kk)
    have Kv2 := hide ((unhide Kv1).trans (Below.le kk (unhide Kv1).size))
    have Zv2 := hide (Nat.le_trans (unhide Zv1) kk.size)
    have CSv2 := hide kk.size
    clear kk MAv1 RAv1 Kv1 Zv1
    have MAx := (unhide MAv2).cell0; have MAy := (unhide MAv2).cell1; have MAl := (unhide MAv2).lt
    go_wp2_with fail
    clear MAx MAy MAl
    obtain ⟨v3, ee, mm, kk, ss⟩ := mb_alloc v2 (0) (.slice none 0 0)
    have Ev3 := hide ee
    have VAv3 := hide mm
    clear ee mm ss
    have MAv3 := hide ((unhide MAv2).below kk)
    have RAv3 := hide ((unhide RAv2).below kk)
    have Kv3 := hide ((unhide Kv2).trans (Below.le kk (unhide Kv2).size))
    have Zv3 := hide (Nat.le_trans (unhide Zv2) kk.size)
    have CSv3 := hide kk.size
    clear kk MAv2 RAv2 Kv2 Zv2
    rw [← unhide Ev3]
    refine (refFactor_bad N ao len cap _ (unhide G)).mono ?_
    rintro e v4 ⟨rfl, kk⟩
    have MAv4 := hide ((unhide MAv3).below kk)
    have RAv4 := hide ((unhide RAv3).below kk)
    have VAv4 := hide ((unhide VAv3).below kk)
    have Kv4 := hide ((unhide Kv3).trans (Below.le kk (unhide Kv3).size))
    have Zv4 := hide (Nat.le_trans (unhide Zv3) kk.size)
    have CSv4 := hide kk.size
    clear kk MAv3 RAv3 VAv3 Kv3 Zv3
    go_wp2_with fail
    obtain ⟨v5, ee, mm, kk, ss⟩ := mb_alloc v4 (0) (.slice none 0 0)
    have Ev5 := hide ee
    have VBv5 := hide mm
    clear ee mm ss
    have MAv5 := hide ((unhide MAv4).below kk)
    have RAv5 := hide ((unhide RAv4).below kk)
    have VAv5 := hide ((unhide VAv4).below kk)
    have Kv5 := hide ((unhide Kv4).trans (Below.le kk (unhide Kv4).size))
    have Zv5 := hide (Nat.le_trans (unhide Zv4) kk.size)
    have CSv5 := hide kk.size
    clear kk MAv4 RAv4 VAv4 Kv4 Zv4
    rw [← unhide Ev5]
    refine (least_any 7 (by unfold R64; omega) _).mono ?_
    rintro e v6 ⟨mX, rlX, emX, rfl, nl, _, kk⟩
    have NLXv6 := hide nl
    have MAv6 := hide ((unhide MAv5).below kk)
    have RAv6 := hide ((unhide RAv5).below kk)
    have VAv6 := hide ((unhide VAv5).below kk)
    have VBv6 := hide ((unhide VBv5).below kk)
    have Kv6 := hide ((unhide Kv5).trans (Below.le kk (unhide Kv5).size))
    have Zv6 := hide (Nat.le_trans (unhide Zv5) kk.size)
    have CSv6 := hide kk.size
    clear kk MAv5 RAv5 VAv5 VBv5 Kv5 Zv5
    clear nl
    have EMX := hide emX
    clear emX
    go_wp2_with fail
    refine (factor_good mX _ _ (fun _ => 7) _ (by have := unhide EMX; omega) (by have := unhide EMX; omega) (fun _ => by unfold R64; omega) (unhide NLXv6).rds).mono ?_
    rintro e v7 (⟨_, rX, cX, uX, gX, rfl, _, _, _, nx, _, _, _, kk⟩ | ⟨nok, _, _⟩)
    rotate_left
    · exact absurd (least_ok (unhide EMX)) nok
    clear nx
    have MAv7 := hide ((unhide MAv6).below kk)
    have RAv7 := hide ((unhide RAv6).below kk)
    have VAv7 := hide ((unhide VAv6).below kk)
    have VBv7 := hide ((unhide VBv6).below kk)
    have NLXv7 := hide ((unhide NLXv6).below kk)
    have Kv7 := hide ((unhide Kv6).trans (Below.le kk (unhide Kv6).size))
    have Zv7 := hide (Nat.le_trans (unhide Zv6) kk.size)
    have CSv7 := hide kk.size
    clear kk MAv6 RAv6 VAv6 VBv6 NLXv6 Kv6 Zv6
    have VAx := (unhide VAv7).cell0; have VAy := (unhide VAv7).cell1; have VAl := (unhide VAv7).lt
    have VBx := (unhide VBv7).cell0; have VBy := (unhide VBv7).cell1; have VBl := (unhide VBv7).lt
    go_wp2_with fail
    clear VAx VAy VAl VBx VBy VBl
    obtain ⟨v8, ee, mm, kk, ss⟩ := mb_alloc v7 ((mX : Int)) (.slice (some ⟨rX, 0, none⟩) (mX * mX) cX)
    have Ev8 := hide ee
    have VXv8 := hide mm
    clear ee mm ss
    have MAv8 := hide ((unhide MAv7).below kk)
    have RAv8 := hide ((unhide RAv7).below kk)
    have VAv8 := hide ((unhide VAv7).below kk)
    have VBv8 := hide ((unhide VBv7).below kk)
    have NLXv8 := hide ((unhide NLXv7).below kk)
    have Kv8 := hide ((unhide Kv7).trans (Below.le kk (unhide Kv7).size))
    have Zv8 := hide (Nat.le_trans (unhide Zv7) kk.size)
    have CSv8 := hide kk.size
    clear kk MAv7 RAv7 VAv7 VBv7 NLXv7 Kv7 Zv7
    rw [← unhide Ev8]
    refine (sameMat_yes 0 none none 0 0 0 (fun _ => 0) (fun _ => 0) _ (by decide) (fun h => absurd h (by omega)) (fun h => absurd h (by omega)) (fun i hi => rfl)).mono ?_
    rintro e v9 ⟨rfl, kk⟩
    have MAv9 := hide ((unhide MAv8).below kk)
    have RAv9 := hide ((unhide RAv8).below kk)
    have VAv9 := hide ((unhide VAv8).below kk)
    have VBv9 := hide ((unhide VBv8).below kk)
    have NLXv9 := hide ((unhide NLXv8).below kk)
    have VXv9 := hide ((unhide VXv8).below kk)
    have Kv9 := hide ((unhide Kv8).trans (Below.le kk (unhide Kv8).size))
    have Zv9 := hide (Nat.le_trans (unhide Zv8) kk.size)
    have CSv9 := hide kk.size
    clear kk MAv8 RAv8 VAv8 VBv8 NLXv8 VXv8 Kv8 Zv8
    go_wp2_with fail
    refine (sameInts_yes none none 0 0 0 (fun _ => 0) (fun _ => 0) _ (by decide) (fun h => absurd h (by omega)) (fun h => absurd h (by omega)) (fun i hi => rfl)).mono ?_
    rintro e v10 ⟨rfl, kk⟩
    have MAv10 := hide ((unhide MAv9).below kk)
    have RAv10 := hide ((unhide RAv9).below kk)
    have VAv10 := hide ((unhide VAv9).below kk)
    have VBv10 := hide ((unhide VBv9).below kk)
    have NLXv10 := hide ((unhide NLXv9).below kk)
    have VXv10 := hide ((unhide VXv9).below kk)
    have Kv10 := hide ((unhide Kv9).trans (Below.le kk (unhide Kv9).size))
    have Zv10 := hide (Nat.le_trans (unhide Zv9) kk.size)
    have CSv10 := hide kk.size
    clear kk MAv9 RAv9 VAv9 VBv9 NLXv9 VXv9 Kv9 Zv9
    have tx : ((mX : Int) == 1) = true := by rw [unhide EMX]; rfl
    have VXx := (unhide VXv10).cell0; have VXy := (unhide VXv10).cell1; have VXl := (unhide VXv10).lt
    go_wp2_with fail
    go_ret
    exact ⟨rfl, (unhide Kv10)⟩
  · obtain ⟨n, rfl, h1, h6, rfl⟩ := goodM_of hg
    have H1 := hide h1; have H6 := hide h6; have h36 := hide (sq_le h6)
    clear hg h1 h6
    go_enter Try.func7, Try.ntmps7
    go_wp2_with fail
    rw [← unhide E1]
    have MAx := (unhide MAw1).cell0; have MAy := (unhide MAw1).cell1; have MAl := (unhide MAw1).lt
    go_wp2_with fail
    clear MAx MAy MAl
    refine (ownL_any ((n : Int)) ao (n * n) cap f _ (((unhide AA)).below (unhide Kw1))).mono ?_
    rintro e v11 ⟨aoA, capA, rfl, ra, kk⟩
    have RAv11 := hide ra
    have MAv11 := hide ((unhide MAw1).below kk)
    have Kv11 := hide ((unhide Kw1).trans (Below.le kk (unhide Kw1).size))
    have Zv11 := hide (Nat.le_trans (unhide Zw1) kk.size)
    have CSv11 := hide kk.size
    clear kk MAw1 Kw1 Zw1
    clear ra
    go_wp2_with fail
    refine (factor_good n aoA capA f _ (unhide H1) (unhide H6) (unhide RF) (unhide RAv11)).mono ?_
    rintro e v12 (⟨ok, rS, cS, uS, gS, rfl, _, _, _, ns, _, is, ds, kk⟩ | ⟨nok, rfl, kk⟩)
    · have NSv12 := hide ns; have DSv12 := hide ds; have IS := hide is; have OK := hide ok
      clear ns ds is ok
      have MAv12 := hide ((unhide MAv11).below kk)
      have RAv12 := hide ((unhide RAv11).below kk)
      have Kv12 := hide ((unhide Kv11).trans (Below.le kk (unhide Kv11).size))
      have Zv12 := hide (Nat.le_trans (unhide Zv11) kk.size)
      have CSv12 := hide kk.size
      clear kk MAv11 RAv11 Kv11 Zv11
      have MAx := (unhide MAv12).cell0; have MAy := (unhide MAv12).cell1; have MAl := (unhide MAv12).lt
      go_wp2_with fail
      clear MAx MAy MAl
      obtain ⟨v13, ee, mm, kk, ss⟩ := mb_alloc v12 ((n : Int)) (.slice (some ⟨rS, 0, none⟩) (n * n) cS)
      have Ev13 := hide ee
      have VAv13 := hide mm
      clear ee mm ss
      have MAv13 := hide ((unhide MAv12).below kk)
      have RAv13 := hide ((unhide RAv12).below kk)
      have NSv13 := hide ((unhide NSv12).below kk)
      have DSv13 := hide ((unhide DSv12).below kk)
      have Kv13 := hide ((unhide Kv12).trans (Below.le kk (unhide Kv12).size))
      have Zv13 := hide (Nat.le_trans (unhide Zv12) kk.size)
      have CSv13 := hide kk.size
      clear kk MAv12 RAv12 NSv12 DSv12 Kv12 Zv12
      rw [← unhide Ev13]
      refine (refFactor_good n ao cap f _ (unhide H1) (unhide H6) (unhide RF) ((unhide AA).rds.below (unhide Kv13))).mono ?_
      rintro e v14 (⟨ok, rT, cT, uT, cuT, gT, rfl, nt, _, it, dt, kk⟩ | ⟨nok, rfl, kk⟩)
      rotate_left
      · exact absurd (unhide OK) nok
      have NTv14 := hide nt; have DTv14 := hide dt; have IT := hide it
      clear nt dt it ok
      have MAv14 := hide ((unhide MAv13).below kk)
      have RAv14 := hide ((unhide RAv13).below kk)
      have NSv14 := hide ((unhide NSv13).below kk)
      have DSv14 := hide ((unhide DSv13).below kk)
      have VAv14 := hide ((unhide VAv13).below kk)
      have Kv14 := hide ((unhide Kv13).trans (Below.le kk (unhide Kv13).size))
      have Zv14 := hide (Nat.le_trans (unhide Zv13) kk.size)
      have CSv14 := hide kk.size
      clear kk MAv13 RAv13 NSv13 DSv13 VAv13 Kv13 Zv13
      go_wp2_with fail
      obtain ⟨v15, ee, mm, kk, ss⟩ := mb_alloc v14 ((n : Int)) (.slice (some ⟨rT, 0, none⟩) (n * n) cT)
      have Ev15 := hide ee
      have VBv15 := hide mm
      clear ee mm ss
      have MAv15 := hide ((unhide MAv14).below kk)
      have RAv15 := hide ((unhide RAv14).below kk)
      have NSv15 := hide ((unhide NSv14).below kk)
      have DSv15 := hide ((unhide DSv14).below kk)
      have VAv15 := hide ((unhide VAv14).below kk)
      have NTv15 := hide ((unhide NTv14).below kk)
      have DTv15 := hide ((unhide DTv14).below kk)
      have Kv15 := hide ((unhide Kv14).trans (Below.le kk (unhide Kv14).size))
      have Zv15 := hide (Nat.le_trans (unhide Zv14) kk.size)
      have CSv15 := hide kk.size
      clear kk MAv14 RAv14 NSv14 DSv14 VAv14 NTv14 DTv14 Kv14 Zv14
      rw [← unhide Ev15]
      refine (least_any 7 (by unfold R64; omega) _).mono ?_
      rintro e v16 ⟨mX, rlX, emX, rfl, nl, _, kk⟩
      have NLXv16 := hide nl
      have MAv16 := hide ((unhide MAv15).below kk)
      have RAv16 := hide ((unhide RAv15).below kk)
      have NSv16 := hide ((unhide NSv15).below kk)
      have DSv16 := hide ((unhide DSv15).below kk)
      have VAv16 := hide ((unhide VAv15).below kk)
      have NTv16 := hide ((unhide NTv15).below kk)
      have DTv16 := hide ((unhide DTv15).below kk)
      have VBv16 := hide ((unhide VBv15).below kk)
      have Kv16 := hide ((unhide Kv15).trans (Below.le kk (unhide Kv15).size))
      have Zv16 := hide (Nat.le_trans (unhide Zv15) kk.size)
      have CSv16 := hide kk.size
      clear kk MAv15 RAv15 NSv15 DSv15 VAv15 NTv15 DTv15 VBv15 Kv15 Zv15
      clear nl
      have EMX := hide emX
      clear emX
      go_wp2_with fail
      refine (factor_good mX _ _ (fun _ => 7) _ (by have := unhide EMX; omega) (by have := unhide EMX; omega) (fun _ => by unfold R64; omega) (unhide NLXv16).rds).mono ?_
      rintro e v17 (⟨_, rX, cX, uX, gX, rfl, _, _, _, nx, _, _, _, kk⟩ | ⟨nok, _, _⟩)
      rotate_left
      · exact absurd (least_ok (unhide EMX)) nok
      clear nx
      have MAv17 := hide ((unhide MAv16).below kk)
      have RAv17 := hide ((unhide RAv16).below kk)
      have NSv17 := hide ((unhide NSv16).below kk)
      have DSv17 := hide ((unhide DSv16).below kk)
      have VAv17 := hide ((unhide VAv16).below kk)
      have NTv17 := hide ((unhide NTv16).below kk)
      have DTv17 := hide ((unhide DTv16).below kk)
      have VBv17 := hide ((unhide VBv16).below kk)
      have NLXv17 := hide ((unhide NLXv16).below kk)
      have Kv17 := hide ((unhide Kv16).trans (Below.le kk (unhide Kv16).size))
      have Zv17 := hide (Nat.le_trans (unhide Zv16) kk.size)
      have CSv17 := hide kk.size
      clear kk MAv16 RAv16 NSv16 DSv16 VAv16 NTv16 DTv16 VBv16 NLXv16 Kv16 Zv16
      have tb : (facB n f n == facB n f n) = true := by simp
      have VAx := (unhide VAv17).cell0; have VAy := (unhide VAv17).cell1; have VAl := (unhide VAv17).lt
      have VBx := (unhide VBv17).cell0; have VBy := (unhide VBv17).cell1; have VBl := (unhide VBv17).lt
      go_wp2_with fail
      clear VAx VAy VAl VBx VBy VBl
      obtain ⟨v18, ee, mm, kk, ss⟩ := mb_alloc v17 ((mX : Int)) (.slice (some ⟨rX, 0, none⟩) (mX * mX) cX)
      have Ev18 := hide ee
      have VXv18 := hide mm
      clear ee mm ss
      have MAv18 := hide ((unhide MAv17).below kk)
      have RAv18 := hide ((unhide RAv17).below kk)
      have NSv18 := hide ((unhide NSv17).below kk)
      have DSv18 := hide ((unhide DSv17).below kk)
      have VAv18 := hide ((unhide VAv17).below kk)
      have NTv18 := hide ((unhide NTv17).below kk)
      have DTv18 := hide ((unhide DTv17).below kk)
      have VBv18 := hide ((unhide VBv17).below kk)
      have NLXv18 := hide ((unhide NLXv17).below kk)
      have Kv18 := hide ((unhide Kv17).trans (Below.le kk (unhide Kv17).size))
      have Zv18 := hide (Nat.le_trans (unhide Zv17) kk.size)
      have CSv18 := hide kk.size
      clear kk MAv17 RAv17 NSv17 DSv17 VAv17 NTv17 DTv17 VBv17 NLXv17 Kv17 Zv17
      rw [← unhide Ev18]
      refine (sameMat_yes (n : Int) _ _ _ _ _ gS gT _ (by have := unhide h36; omega) (unhide NSv18).rds (unhide NTv18).rds (isM_same (unhide IS) (unhide IT))).mono ?_
      rintro e v19 ⟨rfl, kk⟩
      have MAv19 := hide ((unhide MAv18).below kk)
      have RAv19 := hide ((unhide RAv18).below kk)
      have NSv19 := hide ((unhide NSv18).below kk)
      have DSv19 := hide ((unhide DSv18).below kk)
      have VAv19 := hide ((unhide VAv18).below kk)
      have NTv19 := hide ((unhide NTv18).below kk)
      have DTv19 := hide ((unhide DTv18).below kk)
      have VBv19 := hide ((unhide VBv18).below kk)
      have NLXv19 := hide ((unhide NLXv18).below kk)
      have VXv19 := hide ((unhide VXv18).below kk)
      have Kv19 := hide ((unhide Kv18).trans (Below.le kk (unhide Kv18).size))
      have Zv19 := hide (Nat.le_trans (unhide Zv18) kk.size)
      have CSv19 := hide kk.size
      clear kk MAv18 RAv18 NSv18 DSv18 VAv18 NTv18 DTv18 VBv18 NLXv18 VXv18 Kv18 Zv18
      go_wp2_with fail
      refine (sameInts_yes _ _ n _ _ (fac n f n).2 (facP n f) _ (by have := unhide H6; omega) (unhide DSv19).rds (unhide DTv19).rds (fun i hi => facD_of n f hi)).mono ?_
      rintro e v20 ⟨rfl, kk⟩
      have MAv20 := hide ((unhide MAv19).below kk)
      have RAv20 := hide ((unhide RAv19).below kk)
      have NSv20 := hide ((unhide NSv19).below kk)
      have DSv20 := hide ((unhide DSv19).below kk)
      have VAv20 := hide ((unhide VAv19).below kk)
      have NTv20 := hide ((unhide NTv19).below kk)
      have DTv20 := hide ((unhide DTv19).below kk)
      have VBv20 := hide ((unhide VBv19).below kk)
      have NLXv20 := hide ((unhide NLXv19).below kk)
      have VXv20 := hide ((unhide VXv19).below kk)
      have Kv20 := hide ((unhide Kv19).trans (Below.le kk (unhide Kv19).size))
      have Zv20 := hide (Nat.le_trans (unhide Zv19) kk.size)
      have CSv20 := hide kk.size
      clear kk MAv19 RAv19 NSv19 DSv19 VAv19 NTv19 DTv19 VBv19 NLXv19 VXv19 Kv19 Zv19
      have tx : ((mX : Int) == 1) = true := by rw [unhide EMX]; rfl
      have VXx := (unhide VXv20).cell0; have VXy := (unhide VXv20).cell1; have VXl := (unhide VXv20).lt
      go_wp2_with fail
      go_ret
      exact ⟨rfl, (unhide Kv20)⟩
    · have NOK := hide nok
      clear nok
      have MAv12 := hide ((unhide MAv11).below kk)
      have RAv12 := hide ((unhide RAv11).below kk)
      have Kv12 := hide ((unhide Kv11).trans (Below.le kk (unhide Kv11).size))
      have Zv12 := hide (Nat.le_trans (unhide Zv11) kk.size)
      have CSv12 := hide kk.size
      clear kk MAv11 RAv11 Kv11 Zv11
      have MAx := (unhide MAv12).cell0; have MAy := (unhide MAv12).cell1; have MAl := (unhide MAv12).lt
      go_wp2_with fail
      clear MAx MAy MAl
      obtain ⟨v21, ee, mm, kk, ss⟩ := mb_alloc v12 (0) (.slice none 0 0)
      have Ev21 := hide ee
      have VAv21 := hide mm
      clear ee mm ss
      have MAv21 := hide ((unhide MAv12).below kk)
      have RAv21 := hide ((unhide RAv12).below kk)
      have Kv21 := hide ((unhide Kv12).trans (Below.le kk (unhide Kv12).size))
      have Zv21 := hide (Nat.le_trans (unhide Zv12) kk.size)
      have CSv21 := hide kk.size
      clear kk MAv12 RAv12 Kv12 Zv12
      rw [← unhide Ev21]
      refine (refFactor_good n ao cap f _ (unhide H1) (unhide H6) (unhide RF) ((unhide AA).rds.below (unhide Kv21))).mono ?_
      rintro e v22 (⟨ok, rT, cT, uT, cuT, gT, rfl, nt, _, it, dt, kk⟩ | ⟨nok, rfl, kk⟩)
      · exact absurd ok (unhide NOK)
      clear nok
      have MAv22 := hide ((unhide MAv21).below kk)
      have RAv22 := hide ((unhide RAv21).below kk)
      have VAv22 := hide ((unhide VAv21).below kk)
      have Kv22 := hide ((unhide Kv21).trans (Below.le kk (unhide Kv21).size))
      have Zv22 := hide (Nat.le_trans (unhide Zv21) kk.size)
      have CSv22 := hide kk.size
      clear kk MAv21 RAv21 VAv21 Kv21 Zv21
      go_wp2_with fail
      obtain ⟨v23, ee, mm, kk, ss⟩ := mb_alloc v22 (0) (.slice none 0 0)
      have Ev23 := hide ee
      have VBv23 := hide mm
      clear ee mm ss
      have MAv23 := hide ((unhide MAv22).below kk)
      have RAv23 := hide ((unhide RAv22).below kk)
      have VAv23 := hide ((unhide VAv22).below kk)
      have Kv23 := hide ((unhide Kv22).trans (Below.le kk (unhide Kv22).size))
      have Zv23 := hide (Nat.le_trans (unhide Zv22) kk.size)
      have CSv23 := hide kk.size
      clear kk MAv22 RAv22 VAv22 Kv22 Zv22
      rw [← unhide Ev23]
      refine (least_any 7 (by unfold R64; omega) _).mono ?_
      rintro e v24 ⟨mX, rlX, emX, rfl, nl, _, kk⟩
      have NLXv24 := hide nl
      have MAv24 := hide ((unhide MAv23).below kk)
      have RAv24 := hide ((unhide RAv23).below kk)
      have VAv24 := hide ((unhide VAv23).below kk)
      have VBv24 := hide ((unhide VBv23).below kk)
      have Kv24 := hide ((unhide Kv23).trans (Below.le kk (unhide Kv23).size))
      have Zv24 := hide (Nat.le_trans (unhide Zv23) kk.size)
      have CSv24 := hide kk.size
      clear kk MAv23 RAv23 VAv23 VBv23 Kv23 Zv23
      clear nl
      have EMX := hide emX
      clear emX
      go_wp2_with fail
      refine (factor_good mX _ _ (fun _ => 7) _ (by have := unhide EMX; omega) (by have := unhide EMX; omega) (fun _ => by unfold R64; omega) (unhide NLXv24).rds).mono ?_
      rintro e v25 (⟨_, rX, cX, uX, gX, rfl, _, _, _, nx, _, _, _, kk⟩ | ⟨nok, _, _⟩)
      rotate_left
      · exact absurd (least_ok (unhide EMX)) nok
      clear nx
      have MAv25 := hide ((unhide MAv24).below kk)
      have RAv25 := hide ((unhide RAv24).below kk)
      have VAv25 := hide ((unhide VAv24).below kk)
      have VBv25 := hide ((unhide VBv24).below kk)
      have NLXv25 := hide ((unhide NLXv24).below kk)
      have Kv25 := hide ((unhide Kv24).trans (Below.le kk (unhide Kv24).size))
      have Zv25 := hide (Nat.le_trans (unhide Zv24) kk.size)
      have CSv25 := hide kk.size
      clear kk MAv24 RAv24 VAv24 VBv24 NLXv24 Kv24 Zv24
      have VAx := (unhide VAv25).cell0; have VAy := (unhide VAv25).cell1; have VAl := (unhide VAv25).lt
      have VBx := (unhide VBv25).cell0; have VBy := (unhide VBv25).cell1; have VBl := (unhide VBv25).lt
      go_wp2_with fail
      clear VAx VAy VAl VBx VBy VBl
      obtain ⟨v26, ee, mm, kk, ss⟩ := mb_alloc v25 ((mX : Int)) (.slice (some ⟨rX, 0, none⟩) (mX * mX) cX)
      have Ev26 := hide ee
      have VXv26 := hide mm
      clear ee mm ss
      have MAv26 := hide ((unhide MAv25).below kk)
      have RAv26 := hide ((unhide RAv25).below kk)
      have VAv26 := hide ((unhide VAv25).below kk)
      have VBv26 := hide ((unhide VBv25).below kk)
      have NLXv26 := hide ((unhide NLXv25).below kk)
      have Kv26 := hide ((unhide Kv25).trans (Below.le kk (unhide Kv25).size))
      have Zv26 := hide (Nat.le_trans (unhide Zv25) kk.size)
      have CSv26 := hide kk.size
      clear kk MAv25 RAv25 VAv25 VBv25 NLXv25 Kv25 Zv25
      rw [← unhide Ev26]
      refine (sameMat_yes 0 none none 0 0 0 (fun _ => 0) (fun _ => 0) _ (by decide) (fun h => absurd h (by omega)) (fun h => absurd h (by omega)) (fun i hi => rfl)).mono ?_
      rintro e v27 ⟨rfl, kk⟩
      have MAv27 := hide ((unhide MAv26).below kk)
      have RAv27 := hide ((unhide RAv26).below kk)
      have VAv27 := hide ((unhide VAv26).below kk)
      have VBv27 := hide ((unhide VBv26).below kk)
      have NLXv27 := hide ((unhide NLXv26).below kk)
      have VXv27 := hide ((unhide VXv26).below kk)
      have Kv27 := hide ((unhide Kv26).trans (Below.le kk (unhide Kv26).size))
      have Zv27 := hide (Nat.le_trans (unhide Zv26) kk.size)
      have CSv27 := hide kk.size
      clear kk MAv26 RAv26 VAv26 VBv26 NLXv26 VXv26 Kv26 Zv26
      go_wp2_with fail
      refine (sameInts_yes none none 0 0 0 (fun _ => 0) (fun _ => 0) _ (by decide) (fun h => absurd h (by omega)) (fun h => absurd h (by omega)) (fun i hi => rfl)).mono ?_
      rintro e v28 ⟨rfl, kk⟩
      have MAv28 := hide ((unhide MAv27).below kk)
      have RAv28 := hide ((unhide RAv27).below kk)
      have VAv28 := hide ((unhide VAv27).below kk)
      have VBv28 := hide ((unhide VBv27).below kk)
      have NLXv28 := hide ((unhide NLXv27).below kk)
      have VXv28 := hide ((unhide VXv27).below kk)
      have Kv28 := hide ((unhide Kv27).trans (Below.le kk (unhide Kv27).size))
      have Zv28 := hide (Nat.le_trans (unhide Zv27) kk.size)
      have CSv28 := hide kk.size
      clear kk MAv27 RAv27 VAv27 VBv27 NLXv27 VXv27 Kv27 Zv27
      have tx : ((mX : Int) == 1) = true := by rw [unhide EMX]; rfl
      have VXx := (unhide VXv28).cell0; have VXy := (unhide VXv28).cell1; have VXl := (unhide VXv28).lt
      go_wp2_with fail
      go_ret
      exact ⟨rfl, (unhide Kv28)⟩

end Go.Proofs.Ytnfejfdekedmhaa
