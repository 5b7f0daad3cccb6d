/- The walk of MatTurns. -/
import Derived.Test.YtnfejfdekedmhaaRefTurn
import Derived.Test.YtnfejfdekedmhaaMatTwo
namespace Go.Proofs.Ytnfejfdekedmhaa
open Go.RowKit

set_option maxHeartbeats 1000000 in
theorem refTurn_bad (N : Int) (ao : Option Addr) (len cap : Nat) (w : World) (hg : goodM N len = false) :
    Calls Try.prog 14 #[.agg #[.int .i64 N, .slice ao len cap]] w fun e w' =>
      e = .returned (.tuple #[.agg #[.int .i64 0, .slice none 0 0], .int .i64 8]) ∧ Below w.heap.size w w' := by
  obtain ⟨w1, e1, m0, m1, k1, s1⟩ := mat_two w N (.slice ao len cap)
  have c0 := m0.cell0; have c1 := m0.cell1
  have E1 := hide e1; have M1 := hide m1; have K1 := hide k1; have S1 := hide s1; have G := hide hg
  clear e1 m0 m1 k1 s1 hg
  go_enter Try.func14, Try.ntmps14
  go_wp2_with fail
  rw [← unhide E1]
  go_wp2_with fail
  refine (goodMat_any N ao len cap _).mono ?_
  rintro e w2 ⟨rfl, k2⟩
  rw [unhide G]
  have K2 := hide (show Below w.heap.size w w2 from (unhide K1).trans (Below.le k2 (by have := unhide S1; omega)))
  have m2 := (unhide M1).below k2
  have d0 := m2.cell0; have d1 := m2.cell1; have f0 := m2.free 0; have f1 := m2.free 1
  have M2 := hide m2
  clear k2 c0 c1 m2
  go_wp2_with fail
  obtain ⟨w3, e3, m3, k3⟩ := (unhide M2).put 0 (.slice none 0 0)
  rw [← e3]
  have p0 := m3.cell0; have p1 := m3.cell1
  have F := hide (below_of_kept (unhide K2) k3 (by omega))
  clear e3 m3 k3 d0 d1 f0 f1
  go_wp2_with fail
  refine bodyPost_ret (v := .tuple #[.agg #[.int .i64 0, .slice none 0 0], .int .i64 8]) (by simp [results, Try.results14, go_sem, p0, p1]) rfl ⟨rfl, unhide F⟩



set_option maxHeartbeats 1000000 in
theorem sameMat_yes (N : Int) (ao bo : Option Addr) (l ca cb : Nat) (f g : Nat → Int) (w : World) (hl : l ≤ 1000) (ha : Rds w ao l f) (hb : Rds w bo l g) (he : ∀ i, i < l → f i = g i) :
    Calls Try.prog 15 #[.agg #[.int .i64 N, .slice ao l ca], .agg #[.int .i64 N, .slice bo l cb]] w fun e w' => e = .returned (.bool true) ∧ Below w.heap.size w w' := by
  obtain ⟨w1, e1, ma, mb, k1, s1⟩ := two_mats w N N (.slice ao l ca) (.slice bo l cb)
  have c0 := ma.cell0; have c1 := ma.cell1; have d0 := mb.cell0; have d1 := mb.cell1
  have tn : (N == N) = true := by simp
  have E1 := hide e1; have K1 := hide k1; have HA := hide (ha.below k1); have HB := hide (hb.below k1); have HE := hide he
  clear e1 ma mb k1 s1 ha hb he
  go_enter Try.func15, Try.ntmps15
  go_wp2_with fail
  rw [← unhide E1]
  go_wp2_with fail
  refine (sameInts_yes ao bo l ca cb f g _ hl (unhide HA) (unhide HB) (unhide HE)).mono ?_
  rintro e w2 ⟨rfl, k2⟩
  have K2 := hide ((unhide K1).trans (Below.le k2 (unhide K1).size))
  clear k2 c0 c1 d0 d1 tn
  go_wp2_with fail
  go_ret
  exact ⟨rfl, unhide K2⟩


set_option maxHeartbeats 4000000 in
theorem matTurns_walk {w : World} (N : Int) (ao : Option Addr) (len cap : Nat) (f : Nat → Int) (_rN : R64 N) (aa : ArgS w ao len cap f) :
    Calls Try.prog 4 #[.agg #[.int .i64 N, .slice ao len cap]] w fun e w' => e = .returned (.bool true) ∧ Below w.heap.size w w' := by
  obtain ⟨w1, e1, ma, k1, s1⟩ := mb_alloc w N (.slice ao len cap)
  have E1 := hide e1; have MAw1 := hide ma; have Kw1 := hide k1; have Zw1 := hide (Nat.le_of_eq s1.symm); have AA := hide aa; have RF := hide aa.2.2
  clear e1 ma k1 s1 aa _rN
  cases hg : goodM N len
  · have G := hide hg
    clear hg
    go_enter Try.func4, Try.ntmps4
    go_wp2_with fail
    rw [← unhide E1]
    have MAx := (unhide MAw1).cell0; have MAy := (unhide MAw1).cell1; have MAl := (unhide MAw1).lt
    go_wp2_with fail
    clear MAx MAy MAl
    refine (ownL_any (N) ao len cap f _ (((unhide AA)).below (unhide Kw1))).mono ?_
    rintro e v1 ⟨aoA, capA, rfl, ra, kk⟩
    have RAv1 := hide ra
    have MAv1 := hide ((unhide MAw1).below kk)
    have Kv1 := hide ((unhide Kw1).trans (Below.le kk (unhide Kw1).size))
    have Zv1 := hide (Nat.le_trans (unhide Zw1) kk.size)
    have CSv1 := hide kk.size
    clear kk MAw1 Kw1 Zw1
    clear ra
    go_wp2_with fail
    refine (turn_bad N aoA len capA _ (unhide G)).mono ?_
    rintro e v2 ⟨rfl, kk⟩
    have MAv2 := hide ((unhide MAv1).below kk)
    have RAv2 := hide ((unhide RAv1).below kk)
    have Kv2 := hide ((unhide Kv1).trans (Below.le kk (unhide Kv1).size))
    have Zv2 := hide (Nat.le_trans (unhide Zv1) kk.size)
    have CSv2 := hide kk.size
    clear kk MAv1 RAv1 Kv1 Zv1
    have MAx := (unhide MAv2).cell0; have MAy := (unhide MAv2).cell1; have MAl := (unhide MAv2).lt
    go_wp2_with fail
    clear MAx MAy MAl
    obtain ⟨v3, ee, mm, kk, ss⟩ := mb_alloc v2 (0) (.slice none 0 0)
    have Ev3 := hide ee
    have VAv3 := hide mm
    clear ee mm ss
    have MAv3 := hide ((unhide MAv2).below kk)
    have RAv3 := hide ((unhide RAv2).below kk)
    have Kv3 := hide ((unhide Kv2).trans (Below.le kk (unhide Kv2).size))
    have Zv3 := hide (Nat.le_trans (unhide Zv2) kk.size)
    have CSv3 := hide kk.size
    clear kk MAv2 RAv2 Kv2 Zv2
    rw [← unhide Ev3]
    refine (refTurn_bad N ao len cap _ (unhide G)).mono ?_
    rintro e v4 ⟨rfl, kk⟩
    have MAv4 := hide ((unhide MAv3).below kk)
    have RAv4 := hide ((unhide RAv3).below kk)
    have VAv4 := hide ((unhide VAv3).below kk)
    have Kv4 := hide ((unhide Kv3).trans (Below.le kk (unhide Kv3).size))
    have Zv4 := hide (Nat.le_trans (unhide Zv3) kk.size)
    have CSv4 := hide kk.size
    clear kk MAv3 RAv3 VAv3 Kv3 Zv3
    go_wp2_with fail
    obtain ⟨v5, ee, mm, kk, ss⟩ := mb_alloc v4 (0) (.slice none 0 0)
    have Ev5 := hide ee
    have VBv5 := hide mm
    clear ee mm ss
    have MAv5 := hide ((unhide MAv4).below kk)
    have RAv5 := hide ((unhide RAv4).below kk)
    have VAv5 := hide ((unhide VAv4).below kk)
    have Kv5 := hide ((unhide Kv4).trans (Below.le kk (unhide Kv4).size))
    have Zv5 := hide (Nat.le_trans (unhide Zv4) kk.size)
    have CSv5 := hide kk.size
    clear kk MAv4 RAv4 VAv4 Kv4 Zv4
    rw [← unhide Ev5]
    refine (least_any 7 (by unfold R64; omega) _).mono ?_
    rintro e v6 ⟨mX, rlX, emX, rfl, nl, _, kk⟩
    have NLXv6 := hide nl
    have MAv6 := hide ((unhide MAv5).below kk)
    have RAv6 := hide ((unhide RAv5).below kk)
    have VAv6 := hide ((unhide VAv5).below kk)
    have VBv6 := hide ((unhide VBv5).below kk)
    have Kv6 := hide ((unhide Kv5).trans (Below.le kk (unhide Kv5).size))
    have Zv6 := hide (Nat.le_trans (unhide Zv5) kk.size)
    have CSv6 := hide kk.size
    clear kk MAv5 RAv5 VAv5 VBv5 Kv5 Zv5
    clear nl
    have EMX := hide emX
    clear emX
    go_wp2_with fail
    refine (turn_good mX _ 1 (fun _ => 7) _ (by have := unhide EMX; omega) (by have := unhide EMX; omega) (fun _ => by unfold R64; omega) (unhide NLXv6).rds).mono ?_
    rintro e v7 ⟨rX, cX, gX, rfl, hr, nn, rg, tt, kk⟩
    have NXv7 := hide nn
    have MAv7 := hide ((unhide MAv6).below kk)
    have RAv7 := hide ((unhide RAv6).below kk)
    have VAv7 := hide ((unhide VAv6).below kk)
    have VBv7 := hide ((unhide VBv6).below kk)
    have NLXv7 := hide ((unhide NLXv6).below kk)
    have Kv7 := hide ((unhide Kv6).trans (Below.le kk (unhide Kv6).size))
    have Zv7 := hide (Nat.le_trans (unhide Zv6) kk.size)
    have CSv7 := hide kk.size
    clear kk MAv6 RAv6 VAv6 VBv6 NLXv6 Kv6 Zv6
    have TTX := hide tt
    clear hr nn rg tt
    have VAx := (unhide VAv7).cell0; have VAy := (unhide VAv7).cell1; have VAl := (unhide VAv7).lt
    have VBx := (unhide VBv7).cell0; have VBy := (unhide VBv7).cell1; have VBl := (unhide VBv7).lt
    go_wp2_with fail
    clear VAx VAy VAl VBx VBy VBl
    obtain ⟨v8, ee, mm, kk, ss⟩ := mb_alloc v7 ((mX : Int)) (.slice (some ⟨rX, 0, none⟩) (mX * mX) cX)
    have Ev8 := hide ee
    have VXv8 := hide mm
    clear ee mm ss
    have MAv8 := hide ((unhide MAv7).below kk)
    have RAv8 := hide ((unhide RAv7).below kk)
    have VAv8 := hide ((unhide VAv7).below kk)
    have VBv8 := hide ((unhide VBv7).below kk)
    have NLXv8 := hide ((unhide NLXv7).below kk)
    have NXv8 := hide ((unhide NXv7).below kk)
    have Kv8 := hide ((unhide Kv7).trans (Below.le kk (unhide Kv7).size))
    have Zv8 := hide (Nat.le_trans (unhide Zv7) kk.size)
    have CSv8 := hide kk.size
    clear kk MAv7 RAv7 VAv7 VBv7 NLXv7 NXv7 Kv7 Zv7
    rw [← unhide Ev8]
    refine (sameMat_yes 0 none none 0 0 0 (fun _ => 0) (fun _ => 0) _ (by decide) (fun h => absurd h (by omega)) (fun h => absurd h (by omega)) (fun i hi => rfl)).mono ?_
    rintro e v9 ⟨rfl, kk⟩
    have MAv9 := hide ((unhide MAv8).below kk)
    have RAv9 := hide ((unhide RAv8).below kk)
    have VAv9 := hide ((unhide VAv8).below kk)
    have VBv9 := hide ((unhide VBv8).below kk)
    have NLXv9 := hide ((unhide NLXv8).below kk)
    have NXv9 := hide ((unhide NXv8).below kk)
    have VXv9 := hide ((unhide VXv8).below kk)
    have Kv9 := hide ((unhide Kv8).trans (Below.le kk (unhide Kv8).size))
    have Zv9 := hide (Nat.le_trans (unhide Zv8) kk.size)
    have CSv9 := hide kk.size
    clear kk MAv8 RAv8 VAv8 VBv8 NLXv8 NXv8 VXv8 Kv8 Zv8
    have tx : ((mX : Int) == 1) = true := by rw [unhide EMX]; rfl
    have VXx := (unhide VXv9).cell0; have VXy := (unhide VXv9).cell1; have VXl := (unhide VXv9).lt
    go_wp2_with fail
    go_ret
    exact ⟨rfl, (unhide Kv9)⟩
  · obtain ⟨n, rfl, h1, h6, rfl⟩ := goodM_of hg
    have H1 := hide h1; have H6 := hide h6; have h36 := hide (sq_le h6)
    clear hg h1 h6
    go_enter Try.func4, Try.ntmps4
    go_wp2_with fail
    rw [← unhide E1]
    have MAx := (unhide MAw1).cell0; have MAy := (unhide MAw1).cell1; have MAl := (unhide MAw1).lt
    go_wp2_with fail
    clear MAx MAy MAl
    refine (ownL_any ((n : Int)) ao (n * n) cap f _ (((unhide AA)).below (unhide Kw1))).mono ?_
    rintro e v10 ⟨aoA, capA, rfl, ra, kk⟩
    have RAv10 := hide ra
    have MAv10 := hide ((unhide MAw1).below kk)
    have Kv10 := hide ((unhide Kw1).trans (Below.le kk (unhide Kw1).size))
    have Zv10 := hide (Nat.le_trans (unhide Zw1) kk.size)
    have CSv10 := hide kk.size
    clear kk MAw1 Kw1 Zw1
    clear ra
    go_wp2_with fail
    refine (turn_good n aoA capA f _ (unhide H1) (unhide H6) (unhide RF) (unhide RAv10)).mono ?_
    rintro e v11 ⟨rS, cS, gS, rfl, hr, nn, rg, tt, kk⟩
    have NSv11 := hide nn
    have MAv11 := hide ((unhide MAv10).below kk)
    have RAv11 := hide ((unhide RAv10).below kk)
    have Kv11 := hide ((unhide Kv10).trans (Below.le kk (unhide Kv10).size))
    have Zv11 := hide (Nat.le_trans (unhide Zv10) kk.size)
    have CSv11 := hide kk.size
    clear kk MAv10 RAv10 Kv10 Zv10
    have TTS := hide tt
    clear hr nn rg tt
    have MAx := (unhide MAv11).cell0; have MAy := (unhide MAv11).cell1; have MAl := (unhide MAv11).lt
    go_wp2_with fail
    clear MAx MAy MAl
    obtain ⟨v12, ee, mm, kk, ss⟩ := mb_alloc v11 ((n : Int)) (.slice (some ⟨rS, 0, none⟩) (n * n) cS)
    have Ev12 := hide ee
    have VAv12 := hide mm
    clear ee mm ss
    have MAv12 := hide ((unhide MAv11).below kk)
    have RAv12 := hide ((unhide RAv11).below kk)
    have NSv12 := hide ((unhide NSv11).below kk)
    have Kv12 := hide ((unhide Kv11).trans (Below.le kk (unhide Kv11).size))
    have Zv12 := hide (Nat.le_trans (unhide Zv11) kk.size)
    have CSv12 := hide kk.size
    clear kk MAv11 RAv11 NSv11 Kv11 Zv11
    rw [← unhide Ev12]
    refine (refTurn_good n ao cap f _ (unhide H1) (unhide H6) (unhide RF) ((unhide AA).rds.below (unhide Kv12))).mono ?_
    rintro e v13 ⟨rT, cT, gT, rfl, nn, tt, kk⟩
    have NTv13 := hide nn
    have MAv13 := hide ((unhide MAv12).below kk)
    have RAv13 := hide ((unhide RAv12).below kk)
    have NSv13 := hide ((unhide NSv12).below kk)
    have VAv13 := hide ((unhide VAv12).below kk)
    have Kv13 := hide ((unhide Kv12).trans (Below.le kk (unhide Kv12).size))
    have Zv13 := hide (Nat.le_trans (unhide Zv12) kk.size)
    have CSv13 := hide kk.size
    clear kk MAv12 RAv12 NSv12 VAv12 Kv12 Zv12
    have TTT := hide tt
    clear nn tt
    go_wp2_with fail
    obtain ⟨v14, ee, mm, kk, ss⟩ := mb_alloc v13 ((n : Int)) (.slice (some ⟨rT, 0, none⟩) (n * n) cT)
    have Ev14 := hide ee
    have VBv14 := hide mm
    clear ee mm ss
    have MAv14 := hide ((unhide MAv13).below kk)
    have RAv14 := hide ((unhide RAv13).below kk)
    have NSv14 := hide ((unhide NSv13).below kk)
    have VAv14 := hide ((unhide VAv13).below kk)
    have NTv14 := hide ((unhide NTv13).below kk)
    have Kv14 := hide ((unhide Kv13).trans (Below.le kk (unhide Kv13).size))
    have Zv14 := hide (Nat.le_trans (unhide Zv13) kk.size)
    have CSv14 := hide kk.size
    clear kk MAv13 RAv13 NSv13 VAv13 NTv13 Kv13 Zv13
    rw [← unhide Ev14]
    refine (least_any 7 (by unfold R64; omega) _).mono ?_
    rintro e v15 ⟨mX, rlX, emX, rfl, nl, _, kk⟩
    have NLXv15 := hide nl
    have MAv15 := hide ((unhide MAv14).below kk)
    have RAv15 := hide ((unhide RAv14).below kk)
    have NSv15 := hide ((unhide NSv14).below kk)
    have VAv15 := hide ((unhide VAv14).below kk)
    have NTv15 := hide ((unhide NTv14).below kk)
    have VBv15 := hide ((unhide VBv14).below kk)
    have Kv15 := hide ((unhide Kv14).trans (Below.le kk (unhide Kv14).size))
    have Zv15 := hide (Nat.le_trans (unhide Zv14) kk.size)
    have CSv15 := hide kk.size
    clear kk MAv14 RAv14 NSv14 VAv14 NTv14 VBv14 Kv14 Zv14
    clear nl
    have EMX := hide emX
    clear emX
    go_wp2_with fail
    refine (turn_good mX _ 1 (fun _ => 7) _ (by have := unhide EMX; omega) (by have := unhide EMX; omega) (fun _ => by unfold R64; omega) (unhide NLXv15).rds).mono ?_
    rintro e v16 ⟨rX, cX, gX, rfl, hr, nn, rg, tt, kk⟩
    have NXv16 := hide nn
    have MAv16 := hide ((unhide MAv15).below kk)
    have RAv16 := hide ((unhide RAv15).below kk)
    have NSv16 := hide ((unhide NSv15).below kk)
    have VAv16 := hide ((unhide VAv15).below kk)
    have NTv16 := hide ((unhide NTv15).below kk)
    have VBv16 := hide ((unhide VBv15).below kk)
    have NLXv16 := hide ((unhide NLXv15).below kk)
    have Kv16 := hide ((unhide Kv15).trans (Below.le kk (unhide Kv15).size))
    have Zv16 := hide (Nat.le_trans (unhide Zv15) kk.size)
    have CSv16 := hide kk.size
    clear kk MAv15 RAv15 NSv15 VAv15 NTv15 VBv15 NLXv15 Kv15 Zv15
    have TTX := hide tt
    clear hr nn rg tt
    have VAx := (unhide VAv16).cell0; have VAy := (unhide VAv16).cell1; have VAl := (unhide VAv16).lt
    have VBx := (unhide VBv16).cell0; have VBy := (unhide VBv16).cell1; have VBl := (unhide VBv16).lt
    go_wp2_with fail
    clear VAx VAy VAl VBx VBy VBl
    obtain ⟨v17, ee, mm, kk, ss⟩ := mb_alloc v16 ((mX : Int)) (.slice (some ⟨rX, 0, none⟩) (mX * mX) cX)
    have Ev17 := hide ee
    have VXv17 := hide mm
    clear ee mm ss
    have MAv17 := hide ((unhide MAv16).below kk)
    have RAv17 := hide ((unhide RAv16).below kk)
    have NSv17 := hide ((unhide NSv16).below kk)
    have VAv17 := hide ((unhide VAv16).below kk)
    have NTv17 := hide ((unhide NTv16).below kk)
    have VBv17 := hide ((unhide VBv16).below kk)
    have NLXv17 := hide ((unhide NLXv16).below kk)
    have NXv17 := hide ((unhide NXv16).below kk)
    have Kv17 := hide ((unhide Kv16).trans (Below.le kk (unhide Kv16).size))
    have Zv17 := hide (Nat.le_trans (unhide Zv16) kk.size)
    have CSv17 := hide kk.size
    clear kk MAv16 RAv16 NSv16 VAv16 NTv16 VBv16 NLXv16 NXv16 Kv16 Zv16
    rw [← unhide Ev17]
    refine (sameMat_yes (n : Int) _ _ _ _ _ gS gT _ (by have := unhide h36; omega) (unhide NSv17).rds (unhide NTv17).rds (fun i hi => ?_)).mono ?_
    · obtain ⟨a, c, ha, hc, rfl⟩ := idx_of hi
      rw [unhide TTS a c ha hc, unhide TTT a c ha hc]
    rintro e v18 ⟨rfl, kk⟩
    have MAv18 := hide ((unhide MAv17).below kk)
    have RAv18 := hide ((unhide RAv17).below kk)
    have NSv18 := hide ((unhide NSv17).below kk)
    have VAv18 := hide ((unhide VAv17).below kk)
    have NTv18 := hide ((unhide NTv17).below kk)
    have VBv18 := hide ((unhide VBv17).below kk)
    have NLXv18 := hide ((unhide NLXv17).below kk)
    have NXv18 := hide ((unhide NXv17).below kk)
    have VXv18 := hide ((unhide VXv17).below kk)
    have Kv18 := hide ((unhide Kv17).trans (Below.le kk (unhide Kv17).size))
    have Zv18 := hide (Nat.le_trans (unhide Zv17) kk.size)
    have CSv18 := hide kk.size
    clear kk MAv17 RAv17 NSv17 VAv17 NTv17 VBv17 NLXv17 NXv17 VXv17 Kv17 Zv17
    have tx : ((mX : Int) == 1) = true := by rw [unhide EMX]; rfl
    have VXx := (unhide VXv18).cell0; have VXy := (unhide VXv18).cell1; have VXl := (unhide VXv18).lt
    go_wp2_with fail
    go_ret
    exact ⟨rfl, (unhide Kv18)⟩

end Go.Proofs.Ytnfejfdekedmhaa
