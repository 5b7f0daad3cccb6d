/- The walk of MemberRight, whatever the functions of member are made of. (Written by tools/gen_memlaws.py.) -/
import Derived.Test.YtbgdjldmplkecaaLawsR4
import Derived.Test.YtbgdjldmplkecaaMemRt
namespace Go.Proofs.Ytbgdjldmplkecaa
open Go.RowKit


theorem Sr.keepz {z : Nat} {w0 w w' : World} {ao : Option Addr} {n cap : Nat} {f : Nat → Value} (h : Sr w0 ao n cap f) (k1 : Below w0.heap.size w0 w) (k : Kept z w w') (hz : w0.heap.size ≤ z) : Sr w' ao n cap f := by
  rcases h with h | ⟨y, rfl, hc⟩
  · exact Or.inl h
  · refine Or.inr ⟨y, rfl, fun i hi => at_kept (at_below (hc i hi) k1) k ?_⟩
    have := World.block_lt_of_cell? w0 _ (hc i hi)
    omega
set_option maxRecDepth 100000 in
set_option maxHeartbeats 8000000 in
theorem memberRight_by (hB : BgOK 8) (hC : CtOK 10) (hG : GrOK 12) (hS : StOK 14) {w : World} (ao : Option Addr) (n cap : Nat) (S : Nat → Nat → Bool) (bo : Option Addr) (m cb : Nat) (B : Nat → Bool) (aq : ArgQ w ao n S) (_ : n ≤ maxLen) (ar : ArgT w bo m cb B) :
    Calls Try.prog 6 #[.slice ao n cap, .slice bo m cb] w fun e w' => e = .returned (.bool true) ∧ Below w.heap.size w w' := by
  have HB := hide hB; have HC := hide hC; have HG := hide hG; have HS := hide hS; have AQ := hide aq; have AR := hide ar.1.rd
  clear hB hC hG hS aq ar
  go_enter Try.func6, Try.ntmps6
  go_wp2_with fail
  refine (unhide HB _).mono ?_
  rintro e w2 ⟨rfl, k2⟩
  obtain ⟨br, ebr⟩ : ∃ br, w2.heap.size = br := ⟨_, rfl⟩
  have kA := al_below w2 (.cells #[.bool false, .bool false, .bool false, .bool false, .int .i64 0, .int .i64 0, .int .i64 0, .int .i64 0, .int .i64 0, .int .i64 0, .int .i64 0, .int .i64 0] 25)
  have mA := RAt.new w2 zeroR
  have zb : w.heap.size ≤ br := by have := k2.size; omega
  rw [ebr] at mA
  have MA := hide mA; have JA := hide (k2.trans (kA.mono k2.size))
  clear k2 kA mA
  go_wp2_with (refine wpList_storeRl _ rfl (.tmp 5) (.tmp 14) rfl (by rw [← ebr]; rfl) (r := beginR) rfl (unhide MA) rfl ?_)
  intro w3 m3 k3
  have R3 := hide m3; have J3 := hide (below_of_kept (unhide JA) k3 zb (unhide JA).size)
  clear m3 k3 MA JA ebr
  go_wp2_with fail
  go_loopw [6] (fun is wr => ∃ (i : Nat) (r : Rl), is = .int .i64 i ∧ i ≤ 60 ∧ gdA r = true ∧ 2 ≤ cn r.I 4 ∧ RAt wr br r ∧ Below w.heap.size w wr) (fun is _ => 60 - (intOf is).toNat)
  case atStart => exact ⟨0, beginR, rfl, by omega, gdA_begin, by decide, unhide R3, unhide J3⟩
  case round =>
    obtain ⟨i, r, rfl, hi, hg, h2, hR, hK⟩ := hrel
    rename World => wr
    have RX := hide hR; have KX := hide hK; have GG := hide hg; have H2 := hide h2
    clear hR hK R3 J3 hg h2
    by_cases hin : i < n ∧ i < 60
    · obtain ⟨hin, hi60⟩ := hin
      have hin' : (i : Int) < (n : Int) := by omega
      have hi60' : (i : Int) < 60 := by omega
      obtain ⟨b, o, rfl, hc⟩ := unhide AQ (by omega)
      have c0 : wr.cell? ⟨b, o + i * 4, none⟩ = some (.bool (S i 0)) := at_below (hc i 0 hin (by omega)) (unhide KX)
      have c1 : wr.cell? ⟨b, o + i * 4 + 1, none⟩ = some (.bool (S i 1)) := at_below (hc i 1 hin (by omega)) (unhide KX)
      have c2 : wr.cell? ⟨b, o + i * 4 + 2, none⟩ = some (.bool (S i 2)) := at_below (hc i 2 hin (by omega)) (unhide KX)
      have c3 : wr.cell? ⟨b, o + i * 4 + 3, none⟩ = some (.bool (S i 3)) := at_below (hc i 3 hin (by omega)) (unhide KX)
      clear hc
      go_wp2_with fail
      clear c0 c1 c2 c3
      refine (verdict_any (S i) _).mono ?_
      rintro e w4 ⟨av, cv, rfl, sv, hcv, k4⟩
      obtain ⟨w5, e5, m5, k5, z5⟩ := vd_alloc w4 0 true (.slice av 4 cv)
      obtain ⟨bv, ebv⟩ : ∃ bv, w4.heap.size = bv := ⟨_, rfl⟩
      have r4 := (unhide RX).below k4
      have lr := r4.lt
      rw [ebv] at m5 lr
      have j4 := (unhide KX).trans (k4.mono (unhide KX).size)
      have zv : w.heap.size ≤ bv := by have := j4.size; omega
      have E5 := e5.symm
      have g1 := m5.cell1; have f1 := m5.free 1
      have R5 := hide (r4.below k5); have J5 := hide (j4.trans (k5.mono j4.size)); have S5 := hide sv; have KB := hide k5; have M5 := hide m5
      clear k4 k5 r4 j4 sv m5 e5 z5 RX KX
      unfold vdV
      have keep : ∀ sb : Bool, ∃ w6, w5.setCell ⟨bv, 1, none⟩ (.bool sb) = w6 ∧ VdAt w6 bv 0 sb (.slice av 4 cv) ∧ RAt w6 br r ∧ Below w.heap.size w w6 ∧ Sr w6 av 4 cv (tF (S i)) := fun sb => by
        obtain ⟨w6, e6, m6, k6⟩ := (unhide M5).put1 sb
        refine ⟨w6, e6.symm, m6, (unhide R5).kept k6 (by omega), below_of_kept (unhide J5) k6 zv (unhide J5).size, (unhide S5).keepz (unhide KB) k6 (Nat.le_of_eq ebv)⟩
      have KEEP := hide keep
      clear keep R5 S5 M5 KB
      by_cases him : i < m
      · have him' : ¬ (m : Int) ≤ (i : Int) := by omega
        have him2 : decide (m ≤ i) = false := decide_eq_false (by omega)
        obtain ⟨bw, ow, rfl, hw⟩ := unhide AR (by omega)
        have cw : w5.cell? ⟨bw, ow + i, none⟩ = some (.bool (B i)) := at_below (hw i him) (unhide J5)
        cases hB : B i with
        | true =>
          rw [hB] at cw
          obtain ⟨w6, e6, v6, r6, j6, s6⟩ := unhide KEEP false
          have d0 := v6.cell0; have d1 := v6.cell1; have d2 := v6.cell2
          have V6 := hide v6; have R6 := hide r6; have J6 := hide j6; have S6 := hide s6
          clear v6 r6 j6 s6 KEEP hw J5
          go_wp2_with (refine wpList_loadRl _ rfl (.tmp 5) rfl rfl (unhide R6) ?_)
          clear d0 d1 d2
          refine ((unhide HS) r 0 false av 4 cv (S i) _ (gd_R (unhide GG)) R64_nought (by omega) hcv (unhide S6)).mono ?_
          obtain ⟨R, L, eRL, sg, s2, sm, sc, sl, sw⟩ := right_step (S i) false (unhide GG) (unhide H2)
          rw [eRL]
          dsimp only
          rintro e w7 ⟨al, cl, rfl, cR, k7⟩
          have SG := hide sg; have SM := hide sm; have SC := hide sc; have ER := hide (sw rfl).1.symm; have EL := hide (sw rfl).2.symm; have S2 := hide s2
          have j7 := (unhide J6).trans (k7.mono (unhide J6).size)
          have Q7 := hide ((unhide R6).below k7); have V7 := hide ((unhide V6).below k7); have C7 := hide (cR.weak (Nat.zero_le _))
          have lbr := (unhide Q7).lt; have lbv := (unhide V7).lt
          obtain ⟨nb, enb⟩ : ∃ nb, w7.heap.size = nb := ⟨_, rfl⟩
          have kA := al_below w7 (.cells #[.bool false, .bool false, .bool false, .bool false, .int .i64 0, .int .i64 0, .int .i64 0, .int .i64 0, .int .i64 0, .int .i64 0, .int .i64 0, .int .i64 0] 25)
          have mA := RAt.new w7 zeroR
          have zn : w.heap.size ≤ nb := by have := j7.size; omega
          rw [enb] at mA lbr lbv
          have MA := hide mA; have JA := hide (j7.trans (kA.mono j7.size)); have QA := hide ((unhide Q7).below kA); have VA := hide ((unhide V7).below kA); have CA := hide ((unhide C7).below kA)
          clear k7 cR j7 kA mA J6 R6 V6 S6 Q7 V7 eRL sg sm sc sw
          go_wp2_with (refine wpList_storeRl _ rfl (.tmp 8) (.tmp 46) rfl (by rw [← enb]; rfl) rfl (unhide MA) rfl ?_)
          intro w8 m8 k8
          have C8 := hide (ChRd.keep (unhide C7) (unhide CA) k8 (Nat.le_of_eq enb))
          have J8 := hide (below_of_kept (unhide JA) k8 zn (unhide JA).size); have Q8 := hide ((unhide QA).kept k8 (by omega)); have v8 := (unhide VA).kept k8 (by omega); have M8 := hide m8
          have V8 := hide v8
          have p0 := (unhide M8).inn (i := 0) (by omega)
          have p1 := (unhide M8).inn (i := 1) (by omega)
          have p2 := (unhide M8).inn (i := 2) (by omega)
          have p3 := (unhide M8).inn (i := 3) (by omega)
          have p4 := (unhide M8).mis (i := 0) (by omega)
          have p5 := (unhide M8).mis (i := 1) (by omega)
          have p6 := (unhide M8).mis (i := 2) (by omega)
          have p7 := (unhide M8).mis (i := 3) (by omega)
          have p8 := (unhide M8).joi (i := 0) (by omega)
          have p9 := (unhide M8).joi (i := 1) (by omega)
          have p10 := (unhide M8).joi (i := 2) (by omega)
          have p11 := (unhide M8).joi (i := 3) (by omega)
          clear m8 k8 v8 MA JA QA VA CA C7 enb
          go_wp2_with fail
          refine ((unhide HG) R _ (gd_R (unhide SG))).mono ?_
          rintro e w9 ⟨rfl, k9⟩
          rw [unhide SG]
          have m9 := (unhide M8).below k9
          have C9 := hide ((unhide C8).below k9); have J9 := hide ((unhide J8).trans (k9.mono (unhide J8).size)); have Q9 := hide ((unhide Q8).below k9); have V9 := hide ((unhide V8).below k9); have M9 := hide m9
          clear p0 p1 p2 p3 p4 p5 p6 p7 p8 p9 p10 p11 k9 C8 J8 Q8 V8 M8
          have p0 := m9.inn (i := 0) (by omega)
          have p1 := m9.inn (i := 1) (by omega)
          have p2 := m9.inn (i := 2) (by omega)
          have p3 := m9.inn (i := 3) (by omega)
          have p4 := m9.mis (i := 0) (by omega)
          have p5 := m9.mis (i := 1) (by omega)
          have p6 := m9.mis (i := 2) (by omega)
          have p7 := m9.mis (i := 3) (by omega)
          have p8 := m9.joi (i := 0) (by omega)
          have p9 := m9.joi (i := 1) (by omega)
          have p10 := m9.joi (i := 2) (by omega)
          have p11 := m9.joi (i := 3) (by omega)
          clear m9
          go_wp2_with fail
          refine ((unhide HC) R _).mono ?_
          rintro e w10 ⟨rfl, k10⟩
          have m10 := (unhide M9).below k10; have v10 := (unhide V9).below k10; have q10 := (unhide Q9).below k10
          have C10 := hide ((unhide C9).below k10); have J10 := hide ((unhide J9).trans (k10.mono (unhide J9).size)); have Q10 := hide q10; have M10 := hide m10
          have g1 := v10.cell1
          have s2' : ¬ ((cn R.I 4 : Nat) : Int) < 2 := by omega
          have s3 : decide (((cn R.I 4 : Nat) : Int) < 2) = false := decide_eq_false s2'
          have s4 : decide (cn R.I 4 < 2) = false := decide_eq_false (by omega)
          have s5 : ¬ cn R.I 4 < 2 := by omega
          clear p0 p1 p2 p3 p4 p5 p6 p7 p8 p9 p10 p11 k10 C9 J9 Q9 V9 M9 v10
          have er := unhide ER; have el := unhide EL
          clear ER EL
          subst er
          subst el
          have h0 : ∀ u : World, (Op.equalIn 9999 22 (.agg #[.bool (r.I 0), .bool (r.I 1), .bool (r.I 2), .bool (r.I 3)]) (.agg #[.bool (r.I 0), .bool (r.I 1), .bool (r.I 2), .bool (r.I 3)])).run Try.prog u = .ok true u := fun u => run_eqB4 9997 (r.I 0) (r.I 1) (r.I 2) (r.I 3) u
          have h1 : ∀ u : World, (Op.equalIn 9999 23 (.agg #[.int .i64 (r.M 0), .int .i64 (r.M 1), .int .i64 (r.M 2), .int .i64 (r.M 3)]) (.agg #[.int .i64 (r.M 0), .int .i64 (r.M 1), .int .i64 (r.M 2), .int .i64 (r.M 3)])).run Try.prog u = .ok true u := fun u => run_eqI4 9997 (r.M 0) (r.M 1) (r.M 2) (r.M 3) u
          have h2' : ∀ u : World, (Op.equalIn 9999 23 (.agg #[.int .i64 (r.J 0), .int .i64 (r.J 1), .int .i64 (r.J 2), .int .i64 (r.J 3)]) (.agg #[.int .i64 (r.J 0), .int .i64 (r.J 1), .int .i64 (r.J 2), .int .i64 (r.J 3)])).run Try.prog u = .ok true u := fun u => run_eqI4 9997 (r.J 0) (r.J 1) (r.J 2) (r.J 3) u
          have p0 := m10.inn (i := 0) (by omega)
          have p1 := m10.inn (i := 1) (by omega)
          have p2 := m10.inn (i := 2) (by omega)
          have p3 := m10.inn (i := 3) (by omega)
          have p4 := m10.mis (i := 0) (by omega)
          have p5 := m10.mis (i := 1) (by omega)
          have p6 := m10.mis (i := 2) (by omega)
          have p7 := m10.mis (i := 3) (by omega)
          have p8 := m10.joi (i := 0) (by omega)
          have p9 := m10.joi (i := 1) (by omega)
          have p10 := m10.joi (i := 2) (by omega)
          have p11 := m10.joi (i := 3) (by omega)
          have y0 := q10.inn (i := 0) (by omega)
          have y1 := q10.inn (i := 1) (by omega)
          have y2 := q10.inn (i := 2) (by omega)
          have y3 := q10.inn (i := 3) (by omega)
          have y4 := q10.mis (i := 0) (by omega)
          have y5 := q10.mis (i := 1) (by omega)
          have y6 := q10.mis (i := 2) (by omega)
          have y7 := q10.mis (i := 3) (by omega)
          have y8 := q10.joi (i := 0) (by omega)
          have y9 := q10.joi (i := 1) (by omega)
          have y10 := q10.joi (i := 2) (by omega)
          have y11 := q10.joi (i := 3) (by omega)
          clear m10 q10
          go_wp2_with fail
          clear h0 h1 h2' g1 p0 p1 p2 p3 p4 p5 p6 p7 p8 p9 p10 p11 y0 y1 y2 y3 y4 y5 y6 y7 y8 y9 y10 y11
          refine ((unhide HC) r _).mono ?_
          rintro e w11 ⟨rfl, k11⟩
          have N11 := hide ((unhide M10).below k11); have Q11 := hide ((unhide Q10).below k11); have C11 := hide ((unhide C10).below k11); have J11 := hide ((unhide J10).trans (k11.mono (unhide J10).size))
          have hcr : cn r.I 4 ≤ 4 := cn_le _ _
          clear k11 M10 Q10 C10 J10
          go_wp2_with fail
          go_loopw [11, 80] (fun ns ts wx => ∃ t : Nat, ts = .int .i64 t ∧ t ≤ ([] : List (Int × Nat)).length ∧ ns = .int .i64 (((cn r.I 4 : Nat) : Int) + smL (([] : List (Int × Nat)).take t)) ∧ RAt wx nb r ∧ RAt wx br r ∧ ChRd 0 wx al ([] : List (Int × Nat)) ∧ Below w.heap.size w wx) (fun _ ts _ => ([] : List (Int × Nat)).length - (intOf ts).toNat)
          case atStart => exact ⟨0, rfl, Nat.zero_le _, by show _ = Value.int .i64 (((cn r.I 4 : Nat) : Int) + 0); rw [Int.add_zero], unhide N11, unhide Q11, unhide C11, unhide J11⟩
          case round =>
            obtain ⟨t, rfl, ht, rfl, h1, h2, h3, h4⟩ := hrel
            rename World => wx
            have N8 := hide h1; have Q8 := hide h2; have C8 := hide h3; have K8 := hide h4
            have sab := smL_abs (([] : List (Int × Nat)).take t)
            rw [List.length_take] at sab
            clear h1 h2 h3 h4 N11 Q11 C11 J11
            by_cases htl : t < ([] : List (Int × Nat)).length
            · exact absurd htl (Nat.not_lt_zero _)
            · have e9 : t = ([] : List (Int × Nat)).length := by omega
              subst e9
              rw [List.take_length, ← unhide SM]
              have htl' : ¬ ((([] : List (Int × Nat)).length : Nat) : Int) < (([] : List (Int × Nat)).length : Int) := by omega
              clear sab
              go_wp2_with (refine wpList_loadRl _ rfl (.tmp 8) rfl rfl (unhide N8) ?_)
              refine ((unhide HC) r _).mono ?_
              rintro e w12 ⟨rfl, k12⟩
              have N12 := hide ((unhide N8).below k12); have Q12 := hide ((unhide Q8).below k12); have K12 := hide ((unhide K8).trans (k12.mono (unhide K8).size))
              clear k12 N8 Q8 C8 K8
              simp only []
              go_wp2_with (first | refine wpList_loadRl _ rfl (.tmp 8) rfl rfl (unhide N12) ?_ | (refine wpList_storeRl _ rfl (.tmp 5) (.tmp 128) rfl rfl rfl (unhide Q12) rfl ?_; intro w13 m13 k13; have M13 := hide m13; have K13 := hide (below_of_kept (unhide K12) k13 zb (unhide K12).size); clear m13 k13 N12 Q12 K12))
              go_roundw
              case rel => exact ⟨i + 1, r, by go_num, by omega, unhide SG, unhide S2, unhide M13, unhide K13⟩
              case measure => simp [intOf] <;> omega
        | false =>
          rw [hB] at cw
          obtain ⟨w6, e6, v6, r6, j6, s6⟩ := unhide KEEP true
          have d0 := v6.cell0; have d1 := v6.cell1; have d2 := v6.cell2
          have V6 := hide v6; have R6 := hide r6; have J6 := hide j6; have S6 := hide s6
          clear v6 r6 j6 s6 KEEP hw J5
          go_wp2_with (refine wpList_loadRl _ rfl (.tmp 5) rfl rfl (unhide R6) ?_)
          clear d0 d1 d2
          refine ((unhide HS) r 0 true av 4 cv (S i) _ (gd_R (unhide GG)) R64_nought (by omega) hcv (unhide S6)).mono ?_
          obtain ⟨R, L, eRL, sg, s2, sm, sc, sl, sw⟩ := right_step (S i) true (unhide GG) (unhide H2)
          rw [eRL]
          dsimp only
          rintro e w7 ⟨al, cl, rfl, cR, k7⟩
          have SG := hide sg; have SM := hide sm; have SC := hide sc; have S2 := hide s2
          have j7 := (unhide J6).trans (k7.mono (unhide J6).size)
          have Q7 := hide ((unhide R6).below k7); have V7 := hide ((unhide V6).below k7); have C7 := hide (cR.weak (Nat.zero_le _))
          have lbr := (unhide Q7).lt; have lbv := (unhide V7).lt
          obtain ⟨nb, enb⟩ : ∃ nb, w7.heap.size = nb := ⟨_, rfl⟩
          have kA := al_below w7 (.cells #[.bool false, .bool false, .bool false, .bool false, .int .i64 0, .int .i64 0, .int .i64 0, .int .i64 0, .int .i64 0, .int .i64 0, .int .i64 0, .int .i64 0] 25)
          have mA := RAt.new w7 zeroR
          have zn : w.heap.size ≤ nb := by have := j7.size; omega
          rw [enb] at mA lbr lbv
          have MA := hide mA; have JA := hide (j7.trans (kA.mono j7.size)); have QA := hide ((unhide Q7).below kA); have VA := hide ((unhide V7).below kA); have CA := hide ((unhide C7).below kA)
          clear k7 cR j7 kA mA J6 R6 V6 S6 Q7 V7 eRL sg sm sc sw
          go_wp2_with (refine wpList_storeRl _ rfl (.tmp 8) (.tmp 46) rfl (by rw [← enb]; rfl) rfl (unhide MA) rfl ?_)
          intro w8 m8 k8
          have C8 := hide (ChRd.keep (unhide C7) (unhide CA) k8 (Nat.le_of_eq enb))
          have J8 := hide (below_of_kept (unhide JA) k8 zn (unhide JA).size); have Q8 := hide ((unhide QA).kept k8 (by omega)); have v8 := (unhide VA).kept k8 (by omega); have M8 := hide m8
          have V8 := hide v8
          have p0 := (unhide M8).inn (i := 0) (by omega)
          have p1 := (unhide M8).inn (i := 1) (by omega)
          have p2 := (unhide M8).inn (i := 2) (by omega)
          have p3 := (unhide M8).inn (i := 3) (by omega)
          have p4 := (unhide M8).mis (i := 0) (by omega)
          have p5 := (unhide M8).mis (i := 1) (by omega)
          have p6 := (unhide M8).mis (i := 2) (by omega)
          have p7 := (unhide M8).mis (i := 3) (by omega)
          have p8 := (unhide M8).joi (i := 0) (by omega)
          have p9 := (unhide M8).joi (i := 1) (by omega)
          have p10 := (unhide M8).joi (i := 2) (by omega)
          have p11 := (unhide M8).joi (i := 3) (by omega)
          clear m8 k8 v8 MA JA QA VA CA C7 enb
          go_wp2_with fail
          refine ((unhide HG) R _ (gd_R (unhide SG))).mono ?_
          rintro e w9 ⟨rfl, k9⟩
          rw [unhide SG]
          have m9 := (unhide M8).below k9
          have C9 := hide ((unhide C8).below k9); have J9 := hide ((unhide J8).trans (k9.mono (unhide J8).size)); have Q9 := hide ((unhide Q8).below k9); have V9 := hide ((unhide V8).below k9); have M9 := hide m9
          clear p0 p1 p2 p3 p4 p5 p6 p7 p8 p9 p10 p11 k9 C8 J8 Q8 V8 M8
          have p0 := m9.inn (i := 0) (by omega)
          have p1 := m9.inn (i := 1) (by omega)
          have p2 := m9.inn (i := 2) (by omega)
          have p3 := m9.inn (i := 3) (by omega)
          have p4 := m9.mis (i := 0) (by omega)
          have p5 := m9.mis (i := 1) (by omega)
          have p6 := m9.mis (i := 2) (by omega)
          have p7 := m9.mis (i := 3) (by omega)
          have p8 := m9.joi (i := 0) (by omega)
          have p9 := m9.joi (i := 1) (by omega)
          have p10 := m9.joi (i := 2) (by omega)
          have p11 := m9.joi (i := 3) (by omega)
          clear m9
          go_wp2_with fail
          refine ((unhide HC) R _).mono ?_
          rintro e w10 ⟨rfl, k10⟩
          have m10 := (unhide M9).below k10; have v10 := (unhide V9).below k10; have q10 := (unhide Q9).below k10
          have C10 := hide ((unhide C9).below k10); have J10 := hide ((unhide J9).trans (k10.mono (unhide J9).size)); have Q10 := hide q10; have M10 := hide m10
          have g1 := v10.cell1
          have s2' : ¬ ((cn R.I 4 : Nat) : Int) < 2 := by omega
          have s3 : decide (((cn R.I 4 : Nat) : Int) < 2) = false := decide_eq_false s2'
          have s4 : decide (cn R.I 4 < 2) = false := decide_eq_false (by omega)
          have s5 : ¬ cn R.I 4 < 2 := by omega
          clear p0 p1 p2 p3 p4 p5 p6 p7 p8 p9 p10 p11 k10 C9 J9 Q9 V9 M9 v10
          have y0 := q10.inn (i := 0) (by omega)
          have y1 := q10.inn (i := 1) (by omega)
          have y2 := q10.inn (i := 2) (by omega)
          have y3 := q10.inn (i := 3) (by omega)
          have y4 := q10.mis (i := 0) (by omega)
          have y5 := q10.mis (i := 1) (by omega)
          have y6 := q10.mis (i := 2) (by omega)
          have y7 := q10.mis (i := 3) (by omega)
          have y8 := q10.joi (i := 0) (by omega)
          have y9 := q10.joi (i := 1) (by omega)
          have y10 := q10.joi (i := 2) (by omega)
          have y11 := q10.joi (i := 3) (by omega)
          clear m10 q10
          go_wp2_with fail
          clear g1 y0 y1 y2 y3 y4 y5 y6 y7 y8 y9 y10 y11
          refine ((unhide HC) r _).mono ?_
          rintro e w11 ⟨rfl, k11⟩
          have N11 := hide ((unhide M10).below k11); have Q11 := hide ((unhide Q10).below k11); have C11 := hide ((unhide C10).below k11); have J11 := hide ((unhide J10).trans (k11.mono (unhide J10).size))
          have hcr : cn r.I 4 ≤ 4 := cn_le _ _
          clear k11 M10 Q10 C10 J10
          go_wp2_with fail
          go_loopw [11, 80] (fun ns ts wx => ∃ t : Nat, ts = .int .i64 t ∧ t ≤ L.length ∧ ns = .int .i64 (((cn r.I 4 : Nat) : Int) + smL (L.take t)) ∧ RAt wx nb R ∧ RAt wx br r ∧ ChRd 0 wx al L ∧ Below w.heap.size w wx) (fun _ ts _ => L.length - (intOf ts).toNat)
          case atStart => exact ⟨0, rfl, Nat.zero_le _, by show _ = Value.int .i64 (((cn r.I 4 : Nat) : Int) + 0); rw [Int.add_zero], unhide N11, unhide Q11, unhide C11, unhide J11⟩
          case round =>
            obtain ⟨t, rfl, ht, rfl, h1, h2, h3, h4⟩ := hrel
            rename World => wx
            have N8 := hide h1; have Q8 := hide h2; have C8 := hide h3; have K8 := hide h4
            have sab := smL_abs (L.take t)
            rw [List.length_take] at sab
            clear h1 h2 h3 h4 N11 Q11 C11 J11
            by_cases htl : t < L.length
            · have htl' : (t : Int) < (L.length : Int) := by omega
              obtain ⟨bx, ox, rfl, _, gx⟩ := unhide C8 (by omega)
              have ec := List.getElem?_eq_getElem htl
              obtain ⟨d1, d2⟩ := gx t _ ec
              obtain ⟨dq, dc⟩ := unhide SC _ (List.getElem_mem htl)
              have ST := hide (smL_take htl)
              obtain ⟨p, ep⟩ : ∃ p, L[t].1 = p := ⟨_, rfl⟩
              obtain ⟨q, eq⟩ : ∃ q, L[t].2 = q := ⟨_, rfl⟩
              rw [ep] at d1 dc ST
              rw [eq] at d2 dq dc
              have tq0 : decide ((q : Int) < 0) = false := decide_eq_false (by omega)
              have tq3 : decide ((3 : Int) < (q : Int)) = false := decide_eq_false (by omega)
              have tq4 : (q : Int) < 4 := by omega
              have kA := al_below wx (.cells #[.int .i64 p, .int .i64 (q : Nat)] 37)
              have V := Vh.new wx 37 #[.int .i64 p, .int .i64 (q : Nat)] (fun t => if t = 0 then .int .i64 p else .int .i64 (q : Nat)) (by show 2 ≤ maxLen; decide) (fun t ht => by
                have : t = 0 ∨ t = 1 := by simp at ht; omega
                rcases this with rfl | rfl <;> rfl)
              have v0 : (wx.alloc (.cells #[.int .i64 p, .int .i64 (q : Nat)] 37)).cell? ⟨wx.heap.size, 0, none⟩ = some (.int .i64 p) := V.cell (i := 0) (by show 0 < 2; omega)
              have v1 : (wx.alloc (.cells #[.int .i64 p, .int .i64 (q : Nat)] 37)).cell? ⟨wx.heap.size, 1, none⟩ = some (.int .i64 (q : Nat)) := V.cell (i := 1) (by show 1 < 2; omega)
              have n9 := (unhide N8).below kA; have q9 := (unhide Q8).below kA
              have ci := q9.inn dq; have cs := n9.inn dq
              have dr := below_drew (Below.refl (wx.alloc (.cells #[.int .i64 p, .int .i64 (q : Nat)] 37)).heap.size (wx.alloc (.cells #[.int .i64 p, .int .i64 (q : Nat)] 37)))
              have k9 := (unhide K8).trans (kA.mono (unhide K8).size)
              have N9 := hide (n9.below dr); have Q9 := hide (q9.below dr); have C9 := hide (((unhide C8).below kA).below dr); have K9 := hide (below_drew k9)
              clear gx ec ep eq kA V n9 q9 dr k9 N8 Q8 C8 K8
              rcases dc with ⟨rfl, e1, e2⟩ | ⟨rfl, e1, e2⟩
              · rw [e2] at ci
                rw [e1] at cs
                rw [if_pos rfl] at ST
                clear e1 e2
                go_wp2_with fail
                go_region
                go_wp2_with fail
                go_roundw
                case rel => exact ⟨t + 1, by go_num, by omega, by rw [unhide ST, ← Int.add_assoc], unhide N9, unhide Q9, unhide C9, unhide K9⟩
                case measure => simp [intOf] <;> omega
              · rw [e2] at ci
                rw [e1] at cs
                rw [if_neg (by decide)] at ST
                clear e1 e2
                go_wp2_with fail
                go_region
                go_wp2_with fail
                go_roundw
                case rel => exact ⟨t + 1, by go_num, by omega, by rw [unhide ST, ← Int.add_assoc]; rfl, unhide N9, unhide Q9, unhide C9, unhide K9⟩
                case measure => simp [intOf] <;> omega
            · have e9 : t = L.length := by omega
              subst e9
              rw [List.take_length, ← unhide SM]
              have htl' : ¬ ((L.length : Nat) : Int) < (L.length : Int) := by omega
              clear sab
              go_wp2_with (refine wpList_loadRl _ rfl (.tmp 8) rfl rfl (unhide N8) ?_)
              refine ((unhide HC) R _).mono ?_
              rintro e w12 ⟨rfl, k12⟩
              have N12 := hide ((unhide N8).below k12); have Q12 := hide ((unhide Q8).below k12); have K12 := hide ((unhide K8).trans (k12.mono (unhide K8).size))
              clear k12 N8 Q8 C8 K8
              simp only []
              go_wp2_with (first | refine wpList_loadRl _ rfl (.tmp 8) rfl rfl (unhide N12) ?_ | (refine wpList_storeRl _ rfl (.tmp 5) (.tmp 128) rfl rfl rfl (unhide Q12) rfl ?_; intro w13 m13 k13; have M13 := hide m13; have K13 := hide (below_of_kept (unhide K12) k13 zb (unhide K12).size); clear m13 k13 N12 Q12 K12))
              go_roundw
              case rel => exact ⟨i + 1, R, by go_num, by omega, unhide SG, unhide S2, unhide M13, unhide K13⟩
              case measure => simp [intOf] <;> omega
      · have him' : (m : Int) ≤ (i : Int) := by omega
        obtain ⟨w6, e6, v6, r6, j6, s6⟩ := unhide KEEP true
        have d0 := v6.cell0; have d1 := v6.cell1; have d2 := v6.cell2
        have V6 := hide v6; have R6 := hide r6; have J6 := hide j6; have S6 := hide s6
        clear v6 r6 j6 s6 KEEP J5
        go_wp2_with (refine wpList_loadRl _ rfl (.tmp 5) rfl rfl (unhide R6) ?_)
        clear d0 d1 d2
        refine ((unhide HS) r 0 true av 4 cv (S i) _ (gd_R (unhide GG)) R64_nought (by omega) hcv (unhide S6)).mono ?_
        obtain ⟨R, L, eRL, sg, s2, sm, sc, sl, sw⟩ := right_step (S i) true (unhide GG) (unhide H2)
        rw [eRL]
        dsimp only
        rintro e w7 ⟨al, cl, rfl, cR, k7⟩
        have SG := hide sg; have SM := hide sm; have SC := hide sc; have S2 := hide s2
        have j7 := (unhide J6).trans (k7.mono (unhide J6).size)
        have Q7 := hide ((unhide R6).below k7); have V7 := hide ((unhide V6).below k7); have C7 := hide (cR.weak (Nat.zero_le _))
        have lbr := (unhide Q7).lt; have lbv := (unhide V7).lt
        obtain ⟨nb, enb⟩ : ∃ nb, w7.heap.size = nb := ⟨_, rfl⟩
        have kA := al_below w7 (.cells #[.bool false, .bool false, .bool false, .bool false, .int .i64 0, .int .i64 0, .int .i64 0, .int .i64 0, .int .i64 0, .int .i64 0, .int .i64 0, .int .i64 0] 25)
        have mA := RAt.new w7 zeroR
        have zn : w.heap.size ≤ nb := by have := j7.size; omega
        rw [enb] at mA lbr lbv
        have MA := hide mA; have JA := hide (j7.trans (kA.mono j7.size)); have QA := hide ((unhide Q7).below kA); have VA := hide ((unhide V7).below kA); have CA := hide ((unhide C7).below kA)
        clear k7 cR j7 kA mA J6 R6 V6 S6 Q7 V7 eRL sg sm sc sw
        go_wp2_with (refine wpList_storeRl _ rfl (.tmp 8) (.tmp 46) rfl (by rw [← enb]; rfl) rfl (unhide MA) rfl ?_)
        intro w8 m8 k8
        have C8 := hide (ChRd.keep (unhide C7) (unhide CA) k8 (Nat.le_of_eq enb))
        have J8 := hide (below_of_kept (unhide JA) k8 zn (unhide JA).size); have Q8 := hide ((unhide QA).kept k8 (by omega)); have v8 := (unhide VA).kept k8 (by omega); have M8 := hide m8
        have V8 := hide v8
        have p0 := (unhide M8).inn (i := 0) (by omega)
        have p1 := (unhide M8).inn (i := 1) (by omega)
        have p2 := (unhide M8).inn (i := 2) (by omega)
        have p3 := (unhide M8).inn (i := 3) (by omega)
        have p4 := (unhide M8).mis (i := 0) (by omega)
        have p5 := (unhide M8).mis (i := 1) (by omega)
        have p6 := (unhide M8).mis (i := 2) (by omega)
        have p7 := (unhide M8).mis (i := 3) (by omega)
        have p8 := (unhide M8).joi (i := 0) (by omega)
        have p9 := (unhide M8).joi (i := 1) (by omega)
        have p10 := (unhide M8).joi (i := 2) (by omega)
        have p11 := (unhide M8).joi (i := 3) (by omega)
        clear m8 k8 v8 MA JA QA VA CA C7 enb
        go_wp2_with fail
        refine ((unhide HG) R _ (gd_R (unhide SG))).mono ?_
        rintro e w9 ⟨rfl, k9⟩
        rw [unhide SG]
        have m9 := (unhide M8).below k9
        have C9 := hide ((unhide C8).below k9); have J9 := hide ((unhide J8).trans (k9.mono (unhide J8).size)); have Q9 := hide ((unhide Q8).below k9); have V9 := hide ((unhide V8).below k9); have M9 := hide m9
        clear p0 p1 p2 p3 p4 p5 p6 p7 p8 p9 p10 p11 k9 C8 J8 Q8 V8 M8
        have p0 := m9.inn (i := 0) (by omega)
        have p1 := m9.inn (i := 1) (by omega)
        have p2 := m9.inn (i := 2) (by omega)
        have p3 := m9.inn (i := 3) (by omega)
        have p4 := m9.mis (i := 0) (by omega)
        have p5 := m9.mis (i := 1) (by omega)
        have p6 := m9.mis (i := 2) (by omega)
        have p7 := m9.mis (i := 3) (by omega)
        have p8 := m9.joi (i := 0) (by omega)
        have p9 := m9.joi (i := 1) (by omega)
        have p10 := m9.joi (i := 2) (by omega)
        have p11 := m9.joi (i := 3) (by omega)
        clear m9
        go_wp2_with fail
        refine ((unhide HC) R _).mono ?_
        rintro e w10 ⟨rfl, k10⟩
        have m10 := (unhide M9).below k10; have v10 := (unhide V9).below k10; have q10 := (unhide Q9).below k10
        have C10 := hide ((unhide C9).below k10); have J10 := hide ((unhide J9).trans (k10.mono (unhide J9).size)); have Q10 := hide q10; have M10 := hide m10
        have g1 := v10.cell1
        have s2' : ¬ ((cn R.I 4 : Nat) : Int) < 2 := by omega
        have s3 : decide (((cn R.I 4 : Nat) : Int) < 2) = false := decide_eq_false s2'
        have s4 : decide (cn R.I 4 < 2) = false := decide_eq_false (by omega)
        have s5 : ¬ cn R.I 4 < 2 := by omega
        clear p0 p1 p2 p3 p4 p5 p6 p7 p8 p9 p10 p11 k10 C9 J9 Q9 V9 M9 v10
        have y0 := q10.inn (i := 0) (by omega)
        have y1 := q10.inn (i := 1) (by omega)
        have y2 := q10.inn (i := 2) (by omega)
        have y3 := q10.inn (i := 3) (by omega)
        have y4 := q10.mis (i := 0) (by omega)
        have y5 := q10.mis (i := 1) (by omega)
        have y6 := q10.mis (i := 2) (by omega)
        have y7 := q10.mis (i := 3) (by omega)
        have y8 := q10.joi (i := 0) (by omega)
        have y9 := q10.joi (i := 1) (by omega)
        have y10 := q10.joi (i := 2) (by omega)
        have y11 := q10.joi (i := 3) (by omega)
        clear m10 q10
        go_wp2_with fail
        clear g1 y0 y1 y2 y3 y4 y5 y6 y7 y8 y9 y10 y11
        refine ((unhide HC) r _).mono ?_
        rintro e w11 ⟨rfl, k11⟩
        have N11 := hide ((unhide M10).below k11); have Q11 := hide ((unhide Q10).below k11); have C11 := hide ((unhide C10).below k11); have J11 := hide ((unhide J10).trans (k11.mono (unhide J10).size))
        have hcr : cn r.I 4 ≤ 4 := cn_le _ _
        clear k11 M10 Q10 C10 J10
        go_wp2_with fail
        go_loopw [11, 80] (fun ns ts wx => ∃ t : Nat, ts = .int .i64 t ∧ t ≤ L.length ∧ ns = .int .i64 (((cn r.I 4 : Nat) : Int) + smL (L.take t)) ∧ RAt wx nb R ∧ RAt wx br r ∧ ChRd 0 wx al L ∧ Below w.heap.size w wx) (fun _ ts _ => L.length - (intOf ts).toNat)
        case atStart => exact ⟨0, rfl, Nat.zero_le _, by show _ = Value.int .i64 (((cn r.I 4 : Nat) : Int) + 0); rw [Int.add_zero], unhide N11, unhide Q11, unhide C11, unhide J11⟩
        case round =>
          obtain ⟨t, rfl, ht, rfl, h1, h2, h3, h4⟩ := hrel
          rename World => wx
          have N8 := hide h1; have Q8 := hide h2; have C8 := hide h3; have K8 := hide h4
          have sab := smL_abs (L.take t)
          rw [List.length_take] at sab
          clear h1 h2 h3 h4 N11 Q11 C11 J11
          by_cases htl : t < L.length
          · have htl' : (t : Int) < (L.length : Int) := by omega
            obtain ⟨bx, ox, rfl, _, gx⟩ := unhide C8 (by omega)
            have ec := List.getElem?_eq_getElem htl
            obtain ⟨d1, d2⟩ := gx t _ ec
            obtain ⟨dq, dc⟩ := unhide SC _ (List.getElem_mem htl)
            have ST := hide (smL_take htl)
            obtain ⟨p, ep⟩ : ∃ p, L[t].1 = p := ⟨_, rfl⟩
            obtain ⟨q, eq⟩ : ∃ q, L[t].2 = q := ⟨_, rfl⟩
            rw [ep] at d1 dc ST
            rw [eq] at d2 dq dc
            have tq0 : decide ((q : Int) < 0) = false := decide_eq_false (by omega)
            have tq3 : decide ((3 : Int) < (q : Int)) = false := decide_eq_false (by omega)
            have tq4 : (q : Int) < 4 := by omega
            have kA := al_below wx (.cells #[.int .i64 p, .int .i64 (q : Nat)] 37)
            have V := Vh.new wx 37 #[.int .i64 p, .int .i64 (q : Nat)] (fun t => if t = 0 then .int .i64 p else .int .i64 (q : Nat)) (by show 2 ≤ maxLen; decide) (fun t ht => by
              have : t = 0 ∨ t = 1 := by simp at ht; omega
              rcases this with rfl | rfl <;> rfl)
            have v0 : (wx.alloc (.cells #[.int .i64 p, .int .i64 (q : Nat)] 37)).cell? ⟨wx.heap.size, 0, none⟩ = some (.int .i64 p) := V.cell (i := 0) (by show 0 < 2; omega)
            have v1 : (wx.alloc (.cells #[.int .i64 p, .int .i64 (q : Nat)] 37)).cell? ⟨wx.heap.size, 1, none⟩ = some (.int .i64 (q : Nat)) := V.cell (i := 1) (by show 1 < 2; omega)
            have n9 := (unhide N8).below kA; have q9 := (unhide Q8).below kA
            have ci := q9.inn dq; have cs := n9.inn dq
            have dr := below_drew (Below.refl (wx.alloc (.cells #[.int .i64 p, .int .i64 (q : Nat)] 37)).heap.size (wx.alloc (.cells #[.int .i64 p, .int .i64 (q : Nat)] 37)))
            have k9 := (unhide K8).trans (kA.mono (unhide K8).size)
            have N9 := hide (n9.below dr); have Q9 := hide (q9.below dr); have C9 := hide (((unhide C8).below kA).below dr); have K9 := hide (below_drew k9)
            clear gx ec ep eq kA V n9 q9 dr k9 N8 Q8 C8 K8
            rcases dc with ⟨rfl, e1, e2⟩ | ⟨rfl, e1, e2⟩
            · rw [e2] at ci
              rw [e1] at cs
              rw [if_pos rfl] at ST
              clear e1 e2
              go_wp2_with fail
              go_region
              go_wp2_with fail
              go_roundw
              case rel => exact ⟨t + 1, by go_num, by omega, by rw [unhide ST, ← Int.add_assoc], unhide N9, unhide Q9, unhide C9, unhide K9⟩
              case measure => simp [intOf] <;> omega
            · rw [e2] at ci
              rw [e1] at cs
              rw [if_neg (by decide)] at ST
              clear e1 e2
              go_wp2_with fail
              go_region
              go_wp2_with fail
              go_roundw
              case rel => exact ⟨t + 1, by go_num, by omega, by rw [unhide ST, ← Int.add_assoc]; rfl, unhide N9, unhide Q9, unhide C9, unhide K9⟩
              case measure => simp [intOf] <;> omega
          · have e9 : t = L.length := by omega
            subst e9
            rw [List.take_length, ← unhide SM]
            have htl' : ¬ ((L.length : Nat) : Int) < (L.length : Int) := by omega
            clear sab
            go_wp2_with (refine wpList_loadRl _ rfl (.tmp 8) rfl rfl (unhide N8) ?_)
            refine ((unhide HC) R _).mono ?_
            rintro e w12 ⟨rfl, k12⟩
            have N12 := hide ((unhide N8).below k12); have Q12 := hide ((unhide Q8).below k12); have K12 := hide ((unhide K8).trans (k12.mono (unhide K8).size))
            clear k12 N8 Q8 C8 K8
            simp only []
            go_wp2_with (first | refine wpList_loadRl _ rfl (.tmp 8) rfl rfl (unhide N12) ?_ | (refine wpList_storeRl _ rfl (.tmp 5) (.tmp 128) rfl rfl rfl (unhide Q12) rfl ?_; intro w13 m13 k13; have M13 := hide m13; have K13 := hide (below_of_kept (unhide K12) k13 zb (unhide K12).size); clear m13 k13 N12 Q12 K12))
            go_roundw
            case rel => exact ⟨i + 1, R, by go_num, by omega, unhide SG, unhide S2, unhide M13, unhide K13⟩
            case measure => simp [intOf] <;> omega
    · have hx : ¬ (i : Int) < (n : Int) ∨ ¬ (i : Int) < 60 := by omega
      have fin : ∀ wz : World, Below w.heap.size w wz → Calls Try.prog 18 #[] wz fun e w' => e = .returned (.bool true) ∧ Below w.heap.size w w' := fun wz hz => (keeps_any (unhide HB) (unhide HC) (unhide HG) wz).mono fun e w' ⟨h1, h2⟩ => ⟨h1, hz.trans (h2.mono hz.size)⟩
      have FIN := hide fin
      clear fin
      by_cases hx1 : (i : Int) < (n : Int)
      · have hx2 : ¬ (i : Int) < 60 := by omega
        clear hin hx
        go_wp2_with fail
        refine (unhide FIN _ (unhide KX)).mono ?_
        rintro e w9 ⟨rfl, k9⟩
        have K9 := hide k9
        clear k9
        go_wp2_with fail
        go_ret
        exact ⟨rfl, unhide K9⟩
      · clear hin hx
        go_wp2_with fail
        refine (unhide FIN _ (unhide KX)).mono ?_
        rintro e w9 ⟨rfl, k9⟩
        have K9 := hide k9
        clear k9
        go_wp2_with fail
        go_ret
        exact ⟨rfl, unhide K9⟩

end Go.Proofs.Ytbgdjldmplkecaa
