/- The walk of BusTwice, whatever the bus is made of. -/
import Derived.Test.YthjeedlhlkggkabLdRuns
import Derived.Test.YthjeedlhlkggkabBusTwo
import Derived.Test.YthjeedlhlkggkabBusCut
import Derived.Test.YthjeedlhlkggkabBusKp
namespace Go.Proofs.Ythjeedlhlkggkab
open Go.RowKit

set_option maxRecDepth 100000 in
set_option maxHeartbeats 8000000 in
theorem busTwice_by (hS : SeOK 12) (hP : SpOK' 13) (hL : LoOK 9) (hU : TuOK 8) (ao : Option Addr) (cap : Nat) (D : List Ld) (ser at_ mask : Int) {w : World} (hD : ∀ l, l ∈ D → LdOK l) (hr : LRd w ao D) (hlen : D.length ≤ 9223372036854775807) :
    Calls Try.prog 3 #[.slice ao D.length cap, .int .i64 ser, .int .i64 at_, .int .i64 mask] w fun e w' => e = .returned (.bool true) ∧ Below w.heap.size w w' := by
  obtain ⟨kk, ekk⟩ : ∃ kk, kk = min D.length 100 := ⟨_, rfl⟩
  have hkD : kk ≤ D.length := by omega
  have hk100 : kk ≤ 100 := by omega
  obtain ⟨b, eb⟩ : ∃ b : Bs, b = ⟨0, (kk : Nat), ldQ D kk⟩ := ⟨_, rfl⟩
  have hb : BsOK b := by rw [eb]; exact ldQ_ok hkD (fun l hl => (hD l hl).2.2.2.1) hk100
  have CL := loaded_any hS ao cap D w hD hr hlen kk ekk
  have HB := hide hb; have EB := hide eb; have EKK := hide ekk; have HKD := hide hkD
  unfold busV at CL
  clear hD hr ekk eb hb hkD
  go_enter Try.func3, Try.ntmps3
  go_wp2_with fail
  refine CL.mono ?_
  rintro e w1 ⟨a1, c1, L1, rfl, t1, r1, k1⟩
  have el1 : L1.length = kk := by rw [t1.len, ldQ_len (unhide HKD)]
  obtain ⟨w2, e2, m2, k2, s2⟩ := bu_alloc w1 0 (kk : Nat) (.slice a1 kk c1)
  have CR := runs_any hS hP w2
  have E2 := hide e2; have M2 := hide m2; have R2 := hide (r1.below k2); have T1 := hide t1; have EL1 := hide el1
  have K2 := hide (k1.trans (k2.mono k1.size))
  rw [el1]
  clear CL t1 r1 k1 e2 m2 k2 s2 el1
  go_wp2_with fail
  rw [← unhide E2]
  refine CR.mono ?_
  rintro e w3 ⟨rfl, k3⟩
  have M3 := hide ((unhide M2).below k3); have R3 := hide ((unhide R2).below k3); have K3 := hide ((unhide K2).trans (k3.mono (unhide K2).size))
  clear CR k3
  by_cases hD0 : D.length = 0
  · have hD0' : ((D.length : Nat) : Int) = 0 := by omega
    have CR2 := runs_any hS hP w3
    rw [hD0]
    go_wp2_with fail
    refine CR2.mono ?_
    rintro e w4 ⟨rfl, k4⟩
    have K4 := hide ((unhide K3).trans (k4.mono (unhide K3).size))
    clear CR2 k4
    go_wp2_with fail
    go_ret
    exact ⟨rfl, unhide K4⟩
  · have hD0' : (((D.length : Nat) : Int) == 0) = false := by rw [beq_eq_false_iff_ne]; omega
    have hk0 : 0 < kk := by have := unhide EKK; omega
    have hmin : (if (100 : Int) < ((D.length : Nat) : Int) then (100 : Int) else ((D.length : Nat) : Int)) = (kk : Nat) := by have := unhide EKK; split <;> omega
    go_wp2_with fail
    obtain ⟨s, es⟩ : ∃ s, s = spF ser (kk : Nat) := ⟨_, rfl⟩
    obtain ⟨M, eM⟩ : ∃ M, M = spF mask 256 := ⟨_, rfl⟩
    have hs : s < kk := by have := spF_lt ser (n := (kk : Nat)) (by omega); omega
    have hM : M < 256 := by have := spF_lt mask (n := 256) (by omega); omega
    refine (spF_any ser (kk : Nat) (by omega) (by omega) _).mono ?_
    rw [← es]
    clear es
    rintro e w4 ⟨rfl, h4⟩
    obtain rfl : w3 = w4 := h4.symm
    go_wp2_with fail
    refine (spF_any mask 256 (by omega) (by omega) _).mono ?_
    rw [← eM]
    clear eM hmin
    rintro e w4 ⟨rfl, h4⟩
    obtain rfl : w3 = w4 := h4.symm
    have x0 := (unhide M3).cell0; have x1 := (unhide M3).cell1; have x2 := (unhide M3).cell2
    have sl1 : s < L1.length := by rw [unhide EL1]; exact hs
    have h1 := List.getElem?_eq_getElem sl1
    obtain ⟨cs, ecs⟩ : ∃ cs, cs = L1[s] := ⟨_, rfl⟩
    rw [← ecs] at h1
    obtain ⟨qb, qo, rfl, hq⟩ := (unhide R3).1 (by omega)
    have q4 := (hq s cs h1).2.2.2.2
    have PS := hide ((unhide T1).at h1)
    obtain ⟨p, xa, xc⟩ := cs
    unfold lpV at q4
    dsimp only at q4 PS
    obtain ⟨xn, exn⟩ : ∃ xn, xn = p.ds.length := ⟨_, rfl⟩
    rw [← exn] at q4
    have EXN := hide exn
    clear h1 ecs hq exn sl1
    by_cases hx0 : xn = 0
    · subst hx0
      go_wp2_with fail
      go_ret
      exact ⟨rfl, unhide K3⟩
    · have hx0' : (((xn : Nat) : Int) == 0) = false := by rw [beq_eq_false_iff_ne]; omega
      have hxn : xn ≤ 140737488351232 := by
        have := (unhide HB).2.2.1 p (by rw [unhide EB]; exact List.mem_of_getElem? (unhide PS))
        rw [unhide EXN]; exact this.2.2.2.2.2
      go_wp2_with fail
      obtain ⟨A, eA⟩ : ∃ A, A = spF at_ (xn : Nat) := ⟨_, rfl⟩
      have hA : A < xn := by have := spF_lt at_ (n := (xn : Nat)) (by omega); omega
      refine (spF_any at_ (xn : Nat) (by omega) (by omega) _).mono ?_
      rw [← eA]
      clear eA
      rintro e w4 ⟨rfl, h4⟩
      obtain rfl : w3 = w4 := h4.symm
      have TW := twice_plain (unhide HKD) hs (unhide PS) (by rw [← unhide EXN]; exact hA) hM
      rw [← unhide EB] at TW
      obtain ⟨c, ec⟩ : ∃ c : Bs, c = ⟨0, (kk : Nat), (ldQ D kk).modify s (turP A M)⟩ := ⟨_, rfl⟩
      rw [← ec] at TW
      obtain ⟨v1, v2, v3, v4, v5, v6⟩ := TW
      have hc : BsOK c := by rw [← v2]; exact turnS_ok (unhide HB)
      have b0 : b.now = 0 := by rw [unhide EB]
      have bs : b.ser = (kk : Nat) := by rw [unhide EB]
      have bq : b.q = ldQ D kk := by rw [unhide EB]
      have c0 : c.now = 0 := by rw [ec]
      have cs : c.ser = (kk : Nat) := by rw [ec]
      have cq : c.q = (ldQ D kk).modify s (turP A M) := by rw [ec]
      have CU := hU b (some ⟨qb, qo, none⟩) c1 L1 (s : Nat) (A : Nat) (M : Nat) w3 (unhide HB) (by rw [bq]; exact unhide T1) (unhide R3) (by unfold R64; omega) (by unfold R64; omega) (by unfold R64; omega)
      rw [v1, v2, c0, cs, b0, bs, unhide EL1] at CU
      unfold busV at CU
      have V3 := hide v3; have V4 := hide v4; have V5 := hide v5; have V6 := hide v6; have HC := hide hc; have B0 := hide b0; have BSe := hide bs; have BQ := hide bq; have C0 := hide c0; have CSe := hide cs; have CQ := hide cq
      clear v1 v2 v3 v4 v5 v6 hc b0 bs bq c0 cs cq ec
      go_wp2_with fail
      refine CU.mono ?_
      rintro e w4 ⟨a4, c4, L4, rfl, t4, n4, k4⟩
      have el4 : L4.length = kk := by rw [t4.len, unhide CQ, List.length_modify, ldQ_len (unhide HKD)]
      rw [el4]
      obtain ⟨w5, e5, m5, k5, s5⟩ := bu_alloc w4 0 (kk : Nat) (.slice a4 kk c4)
      have y0 := m5.cell0; have y1 := m5.cell1; have y2 := m5.cell2
      have CV := hU c a4 c4 L4 (s : Nat) (A : Nat) (M : Nat) w5 (unhide HC) t4 (n4.1.below k5) (by unfold R64; omega) (by unfold R64; omega) (by unfold R64; omega)
      rw [unhide V3, unhide V4, unhide B0, unhide BSe, unhide C0, unhide CSe, el4] at CV
      unfold busV at CV
      have E5 := hide e5; have j5 : Below w3.heap.size w3 w5 := k4.trans (k5.mono k4.size)
      have T4 := hide (show These L4 ((ldQ D kk).modify s (turP A M)) by rw [← unhide CQ]; exact t4); have EL4 := hide el4
      have MB5 := hide ((unhide M3).below j5); have MC5 := hide m5; have R5 := hide ((unhide R3).below j5); have RC5 := hide (n4.1.below k5); have K5 := hide ((unhide K3).trans (j5.mono (unhide K3).size))
      rw [e5] at y0 y1 y2
      clear CU t4 n4 k4 e5 m5 k5 s5 j5 el4 x0 x1 x2 q4
      go_wp2_with fail
      rw [← unhide E5]
      refine CV.mono ?_
      rintro e w6 ⟨a6, c6, L6, rfl, t6, n6, k6⟩
      have el6 : L6.length = kk := by rw [t6.len, unhide BQ, ldQ_len (unhide HKD)]
      rw [el6]
      obtain ⟨w7, e7, m7, k7, s7⟩ := bu_alloc w6 0 (kk : Nat) (.slice a6 kk c6)
      have j7 : Below w5.heap.size w5 w7 := k6.trans (k7.mono k6.size)
      have z2 := m7.cell2
      have E7 := hide e7
      have T6 := hide (show These L6 (ldQ D kk) by rw [← unhide BQ]; exact t6); have EL6 := hide el6
      have MB7 := hide ((unhide MB5).below j7); have MC7 := hide ((unhide MC5).below j7); have MD7 := hide m7; have R7 := hide ((unhide R5).below j7); have RC7 := hide ((unhide RC5).below j7); have RD7 := hide (n6.1.below k7); have K7 := hide ((unhide K5).trans (j7.mono (unhide K5).size))
      rw [e7] at z2
      obtain ⟨gb, egb⟩ : ∃ gb, gb = w1.heap.size := ⟨_, rfl⟩
      obtain ⟨gc, egc⟩ : ∃ gc, gc = w4.heap.size := ⟨_, rfl⟩
      obtain ⟨gd, egd⟩ : ∃ gd, gd = w6.heap.size := ⟨_, rfl⟩
      rw [← egb] at MB7
      rw [← egc] at MC7
      rw [← egd] at MD7
      clear CV t6 n6 k6 e7 m7 k7 s7 j7 el6 y0 y1 y2
      go_wp2_with fail
      rw [← unhide E7, ← egb, ← egc, ← egd]
      clear z2 egb egc egd
      go_loopw [16] (fun is wr => ∃ i : Nat, i ≤ kk ∧ is = .int .i64 (i : Nat) ∧ Below w7.heap.size w7 wr) (fun is _ => kk - (intOf is).toNat)
      case atStart => exact ⟨0, Nat.zero_le _, rfl, Below.refl _ _⟩
      case round =>
        obtain ⟨i, hi, rfl, kr⟩ := hrel
        rename World => wr
        by_cases hin : i < kk
        · have KR := hide kr
          have hb1 := List.getElem?_eq_getElem (show i < L1.length by rw [unhide EL1]; exact hin)
          have hb4 := List.getElem?_eq_getElem (show i < L4.length by rw [unhide EL4]; exact hin)
          have hb6 := List.getElem?_eq_getElem (show i < L6.length by rw [unhide EL6]; exact hin)
          obtain ⟨d1, ed1⟩ : ∃ d, d = L1[i]'(by rw [unhide EL1]; exact hin) := ⟨_, rfl⟩
          obtain ⟨d4, ed4⟩ : ∃ d, d = L4[i]'(by rw [unhide EL4]; exact hin) := ⟨_, rfl⟩
          obtain ⟨d6, ed6⟩ : ∃ d, d = L6[i]'(by rw [unhide EL6]; exact hin) := ⟨_, rfl⟩
          rw [← ed1] at hb1
          rw [← ed4] at hb4
          rw [← ed6] at hb6
          have p1 := (unhide T1).at hb1; have p4 := (unhide T4).at hb4; have p6 := (unhide T6).at hb6
          have e61 : d6.p = d1.p := Option.some.inj (p6.symm.trans p1)
          have e41 : i ≠ s → d4.p = d1.p := fun h => by
            rw [List.getElem?_modify, p1] at p4
            simp only [Option.map_eq_map, Option.map_some, if_neg (show ¬ s = i from fun e => h e.symm)] at p4
            exact (Option.some.inj p4).symm
          have br1 := (unhide R7).below kr; have br4 := (unhide RC7).below kr; have br6 := (unhide RD7).below kr
          obtain ⟨o1, f1, e1', q1⟩ := br1.1 (by rw [unhide EL1]; omega)
          cases e1'
          obtain ⟨o4, f4, e4', q4⟩ := br4.1 (by rw [unhide EL4]; omega)
          subst e4'
          obtain ⟨o6, f6, e6', q6⟩ := br6.1 (by rw [unhide EL6]; omega)
          subst e6'
          have u1 := (q1 i d1 hb1).2.2.2.2; have u4 := (q4 i d4 hb4).2.2.2.2; have u6 := (q6 i d6 hb6).2.2.2.2
          have s1 := (br1.2.2 d1 (List.mem_of_getElem? hb1)).1.rd; have s4 := (br4.2.2 d4 (List.mem_of_getElem? hb4)).1.rd; have s6 := (br6.2.2 d6 (List.mem_of_getElem? hb6)).1.rd
          unfold lpV at u1 u4 u6
          rw [e61] at u6 s6
          have MBr := hide ((unhide MB7).below kr); have MCr := hide ((unhide MC7).below kr); have MDr := hide ((unhide MD7).below kr)
          obtain ⟨dd, edd⟩ : ∃ dd, dd = d1.p.ds := ⟨_, rfl⟩
          rw [← edd] at u1 u6 s1 s6
          have HX := hide (show BuAt wr.drew gd 0 (kk : Nat) (.slice (some ⟨o6, f6, none⟩) kk c6) ∧ BuAt wr.drew gb 0 (kk : Nat) (.slice (some ⟨qb, qo, none⟩) kk c1) ∧ BuAt wr.drew gc 0 (kk : Nat) (.slice (some ⟨o4, f4, none⟩) kk c4) ∧ wr.drew.cell? ⟨o6, f6 + i * 5 + 4, none⟩ = some (.slice d6.ao dd.length d6.cap) ∧ wr.drew.cell? ⟨qb, qo + i * 5 + 4, none⟩ = some (.slice d1.ao dd.length d1.cap) ∧ Rd wr.drew d6.ao dd.length (bF (gF dd)) ∧ Rd wr.drew d1.ao dd.length (bF (gF dd)) from ⟨unhide MDr, unhide MBr, unhide MCr, u6, u1, s6, s1⟩)
          by_cases his : i = s
          · subst his
            clear br1 br4 br6 q1 q4 q6 u1 u4 u6 s1 s4 s6 p1 p4 p6 hb1 hb4 hb6 ed1 ed4 ed6 e61 e41 edd kr
            go_wp2_with fail
            refine wp_leaves (fun a0 a' w' => Below w7.heap.size w7 w' ∧ a' = (((((((((((((((((((((((((((((((((((((a0.put (some 98) (.pointer (some ⟨gd, 2, none⟩))).put (some 99) (.slice (some ⟨o6, f6, none⟩) kk c6)).put (some 100) (.int .i64 (i : Nat))).put (some 101) (.pointer (some ⟨o6, f6 + i * 5, none⟩))).put (some 102) (.pointer (some ⟨o6, f6 + i * 5 + 4, none⟩))).put (some 103) (.slice d6.ao dd.length d6.cap)).put (some 104) (.string (sB (gF dd) dd.length))).put (some 105) (.pointer (some ⟨gb, 2, none⟩))).put (some 106) (.slice (some ⟨qb, qo, none⟩) kk c1)).put (some 107) (.int .i64 (i : Nat))).put (some 108) (.pointer (some ⟨qb, qo + i * 5, none⟩))).put (some 109) (.pointer (some ⟨qb, qo + i * 5 + 4, none⟩))).put (some 110) (.slice d1.ao dd.length d1.cap)).put (some 111) (.string (sB (gF dd) dd.length))).put (some 112) (.bool false)).put (some 113) (.bool false)).put (some 114) (.int .i64 (i : Nat))).put (some 115) (.int .i64 (i : Nat))).put (some 116) (.bool false)).put (some 117) (.bool false)).put (some 118) undef).put (some 119) undef).put (some 120) undef).put (some 121) undef).put (some 122) undef).put (some 123) undef).put (some 124) undef).put (some 125) undef).put (some 126) undef).put (some 127) undef).put (some 128) undef).put (some 129) undef).put (some 130) undef).put (some 131) undef).put (some 132) undef).put (some 133) (.bool false)).put (some 134) (.bool false))) ?reg ?rest
            case reg =>
              intro AA eAA
              have b14 : AA.eval (.tmp 14) = .pointer (some ⟨gd, 0, none⟩) := by rw [eAA]; rfl
              have b9 : AA.eval (.tmp 9) = .pointer (some ⟨gb, 0, none⟩) := by rw [eAA]; rfl
              have b12 : AA.eval (.tmp 12) = .pointer (some ⟨gc, 0, none⟩) := by rw [eAA]; rfl
              have b16 : AA.eval (.tmp 16) = .int .i64 (i : Nat) := by rw [eAA]; rfl
              have b1 : AA.eval (.tmp 1) = .int .i64 (i : Nat) := by rw [eAA]; rfl
              have hs : 151 ≤ AA.tmps.size := by rw [eAA]; exact of_decide_eq_true rfl
              clear eAA
              have hS : (BuAt wr.drew gd 0 (kk : Nat) (.slice (some ⟨o6, f6, none⟩) kk c6) ∧ BuAt wr.drew gb 0 (kk : Nat) (.slice (some ⟨qb, qo, none⟩) kk c1) ∧ BuAt wr.drew gc 0 (kk : Nat) (.slice (some ⟨o4, f4, none⟩) kk c4) ∧ wr.drew.cell? ⟨o6, f6 + i * 5 + 4, none⟩ = some (.slice d6.ao dd.length d6.cap) ∧ wr.drew.cell? ⟨qb, qo + i * 5 + 4, none⟩ = some (.slice d1.ao dd.length d1.cap) ∧ Rd wr.drew d6.ao dd.length (bF (gF dd)) ∧ Rd wr.drew d1.ao dd.length (bF (gF dd))) ∧ True := ⟨unhide HX, trivial⟩
              refine region_I (S := fun W => (BuAt W gd 0 (kk : Nat) (.slice (some ⟨o6, f6, none⟩) kk c6) ∧ BuAt W gb 0 (kk : Nat) (.slice (some ⟨qb, qo, none⟩) kk c1) ∧ BuAt W gc 0 (kk : Nat) (.slice (some ⟨o4, f4, none⟩) kk c4) ∧ W.cell? ⟨o6, f6 + i * 5 + 4, none⟩ = some (.slice d6.ao dd.length d6.cap) ∧ W.cell? ⟨qb, qo + i * 5 + 4, none⟩ = some (.slice d1.ao dd.length d1.cap) ∧ Rd W d6.ao dd.length (bF (gF dd)) ∧ Rd W d1.ao dd.length (bF (gF dd))) ∧ True) (.rd 0 (.rd 1 (.rd 2 (.rd 3 (.rd 4 (.rd 5 (.rd 6 (.rd 7 (.rd 8 (.rd 9 (.rd 10 (.rd 11 (.rd 12 (.rd 13 (.rd 14 (.rd 15 (.rd 16 (.rd 17 (.rd 18 (.rd 19 (.rd 20 (.rd 21 (.rd 22 (.rd 23 (.rd 24 (.rd 25 (.rd 26 (.rd 27 (.rd 28 (.rd 29 (.rd 30 (.rd 31 (.rd 32 (.rd 33 (.rd 34 (.rd 35 (.rd 36 .fin))))))))))))))))))))))))))))))))))))) [] (by kernel_rfl) (by kernel_rfl) ?_
              refine sI_read (v := (.pointer (some ⟨gd, 2, none⟩))) rfl (fun _ _ _ h => absurd h.1 (fun e => nomatch e)) (wanted_rd rfl) hS (fun wx _ => run_fldU (.tmp 14) 2 rfl b14 (by omega) wx) ?_
              show SeqI _ _ _ _ _ _ (Act.put _ (some 98) _) _
              refine sI_read (v := (.slice (some ⟨o6, f6, none⟩) kk c6)) rfl (fun _ _ _ h => absurd h.1 (fun e => nomatch e)) (wanted_rd rfl) hS (fun wx hx => run_lodQ (.tmp 98) rfl (ev_same _ _ _ (by omega)) hx.1.1.cell2) ?_
              show SeqI _ _ _ _ _ _ (Act.put _ (some 99) _) _
              refine sI_read (v := (.int .i64 (i : Nat))) rfl (fun _ _ _ h => absurd h.1 (fun e => nomatch e)) (wanted_rd rfl) hS (fun wx _ => run_move (.tmp 16) rfl ((ev_other _ _ (by decide)).trans ((ev_other _ _ (by decide)).trans b16)) wx) ?_
              show SeqI _ _ _ _ _ _ (Act.put _ (some 100) _) _
              refine sI_read (v := (.pointer (some ⟨o6, f6 + i * 5, none⟩))) rfl (fun _ _ _ h => absurd h.1 (fun e => nomatch e)) (wanted_rd rfl) hS (fun wx _ => run_ixP (.tmp 99) (.tmp 100) rfl ((ev_other _ _ (by decide)).trans (ev_same _ _ _ (by simp only [sz_put]; omega))) (ev_same _ _ _ (by simp only [sz_put]; omega)) hin wx) ?_
              show SeqI _ _ _ _ _ _ (Act.put _ (some 101) _) _
              refine sI_read (v := (.pointer (some ⟨o6, f6 + i * 5 + 4, none⟩))) rfl (fun _ _ _ h => absurd h.1 (fun e => nomatch e)) (wanted_rd rfl) hS (fun wx _ => run_fldP (.tmp 101) 4 rfl (ev_same _ _ _ (by simp only [sz_put]; omega)) (by omega) wx) ?_
              show SeqI _ _ _ _ _ _ (Act.put _ (some 102) _) _
              refine sI_read (v := (.slice d6.ao dd.length d6.cap)) rfl (fun _ _ _ h => absurd h.1 (fun e => nomatch e)) (wanted_rd rfl) hS (fun wx hx => run_lodS (.tmp 102) rfl (ev_same _ _ _ (by simp only [sz_put]; omega)) hx.1.2.2.2.1) ?_
              show SeqI _ _ _ _ _ _ (Act.put _ (some 103) _) _
              refine sI_read (v := (.string (sB (gF dd) dd.length))) rfl (fun _ _ _ h => absurd h.1 (fun e => nomatch e)) (wanted_rd rfl) hS (fun wx hx => run_convO (.tmp 103) rfl (ev_same _ _ _ (by simp only [sz_put]; omega)) hx.1.2.2.2.2.2.1) ?_
              show SeqI _ _ _ _ _ _ (Act.put _ (some 104) _) _
              refine sI_read (v := (.pointer (some ⟨gb, 2, none⟩))) rfl (fun _ _ _ h => absurd h.1 (fun e => nomatch e)) (wanted_rd rfl) hS (fun wx _ => run_fldU (.tmp 9) 2 rfl ((ev_other _ _ (by decide)).trans ((ev_other _ _ (by decide)).trans ((ev_other _ _ (by decide)).trans ((ev_other _ _ (by decide)).trans ((ev_other _ _ (by decide)).trans ((ev_other _ _ (by decide)).trans ((ev_other _ _ (by decide)).trans b9))))))) (by omega) wx) ?_
              show SeqI _ _ _ _ _ _ (Act.put _ (some 105) _) _
              refine sI_read (v := (.slice (some ⟨qb, qo, none⟩) kk c1)) rfl (fun _ _ _ h => absurd h.1 (fun e => nomatch e)) (wanted_rd rfl) hS (fun wx hx => run_lodQ (.tmp 105) rfl (ev_same _ _ _ (by simp only [sz_put]; omega)) hx.1.2.1.cell2) ?_
              show SeqI _ _ _ _ _ _ (Act.put _ (some 106) _) _
              refine sI_read (v := (.int .i64 (i : Nat))) rfl (fun _ _ _ h => absurd h.1 (fun e => nomatch e)) (wanted_rd rfl) hS (fun wx _ => run_move (.tmp 16) rfl ((ev_other _ _ (by decide)).trans ((ev_other _ _ (by decide)).trans ((ev_other _ _ (by decide)).trans ((ev_other _ _ (by decide)).trans ((ev_other _ _ (by decide)).trans ((ev_other _ _ (by decide)).trans ((ev_other _ _ (by decide)).trans ((ev_other _ _ (by decide)).trans ((ev_other _ _ (by decide)).trans b16))))))))) wx) ?_
              show SeqI _ _ _ _ _ _ (Act.put _ (some 107) _) _
              refine sI_read (v := (.pointer (some ⟨qb, qo + i * 5, none⟩))) rfl (fun _ _ _ h => absurd h.1 (fun e => nomatch e)) (wanted_rd rfl) hS (fun wx _ => run_ixP (.tmp 106) (.tmp 107) rfl ((ev_other _ _ (by decide)).trans (ev_same _ _ _ (by simp only [sz_put]; omega))) (ev_same _ _ _ (by simp only [sz_put]; omega)) hin wx) ?_
              show SeqI _ _ _ _ _ _ (Act.put _ (some 108) _) _
              refine sI_read (v := (.pointer (some ⟨qb, qo + i * 5 + 4, none⟩))) rfl (fun _ _ _ h => absurd h.1 (fun e => nomatch e)) (wanted_rd rfl) hS (fun wx _ => run_fldP (.tmp 108) 4 rfl (ev_same _ _ _ (by simp only [sz_put]; omega)) (by omega) wx) ?_
              show SeqI _ _ _ _ _ _ (Act.put _ (some 109) _) _
              refine sI_read (v := (.slice d1.ao dd.length d1.cap)) rfl (fun _ _ _ h => absurd h.1 (fun e => nomatch e)) (wanted_rd rfl) hS (fun wx hx => run_lodS (.tmp 109) rfl (ev_same _ _ _ (by simp only [sz_put]; omega)) hx.1.2.2.2.2.1) ?_
              show SeqI _ _ _ _ _ _ (Act.put _ (some 110) _) _
              refine sI_read (v := (.string (sB (gF dd) dd.length))) rfl (fun _ _ _ h => absurd h.1 (fun e => nomatch e)) (wanted_rd rfl) hS (fun wx hx => run_convO (.tmp 110) rfl (ev_same _ _ _ (by simp only [sz_put]; omega)) hx.1.2.2.2.2.2.2) ?_
              show SeqI _ _ _ _ _ _ (Act.put _ (some 111) _) _
              refine sI_read (v := (.bool false)) rfl (fun _ _ _ h => absurd h.1 (fun e => nomatch e)) (wanted_rd rfl) hS (fun wx _ => run_neqSF (.tmp 104) (.tmp 111) rfl ((ev_other _ _ (by decide)).trans ((ev_other _ _ (by decide)).trans ((ev_other _ _ (by decide)).trans ((ev_other _ _ (by decide)).trans ((ev_other _ _ (by decide)).trans ((ev_other _ _ (by decide)).trans ((ev_other _ _ (by decide)).trans (ev_same _ _ _ (by simp only [sz_put]; omega))))))))) (ev_same _ _ _ (by simp only [sz_put]; omega)) rfl wx) ?_
              show SeqI _ _ _ _ _ _ (Act.put _ (some 112) _) _
              refine sI_read (v := (.bool false)) rfl (fun _ _ _ h => absurd h.1 (fun e => nomatch e)) (wanted_rd rfl) hS (fun wx _ => run_move (.tmp 112) rfl (ev_same _ _ _ (by simp only [sz_put]; omega)) wx) ?_
              show SeqI _ _ _ _ _ _ (Act.put _ (some 113) _) _
              refine sI_read (v := (.int .i64 (i : Nat))) rfl (fun _ _ _ h => absurd h.1 (fun e => nomatch e)) (wanted_g (j := 15) rfl rfl rfl (ev_same _ _ _ (by simp only [sz_put]; omega))) hS (fun wx _ => run_move (.tmp 16) rfl ((ev_other _ _ (by decide)).trans ((ev_other _ _ (by decide)).trans ((ev_other _ _ (by decide)).trans ((ev_other _ _ (by decide)).trans ((ev_other _ _ (by decide)).trans ((ev_other _ _ (by decide)).trans ((ev_other _ _ (by decide)).trans ((ev_other _ _ (by decide)).trans ((ev_other _ _ (by decide)).trans ((ev_other _ _ (by decide)).trans ((ev_other _ _ (by decide)).trans ((ev_other _ _ (by decide)).trans ((ev_other _ _ (by decide)).trans ((ev_other _ _ (by decide)).trans ((ev_other _ _ (by decide)).trans ((ev_other _ _ (by decide)).trans b16)))))))))))))))) wx) ?_
              show SeqI _ _ _ _ _ _ (Act.put _ (some 114) _) _
              refine sI_read (v := (.int .i64 (i : Nat))) rfl (fun _ _ _ h => absurd h.1 (fun e => nomatch e)) (wanted_g (j := 15) rfl rfl rfl ((ev_other _ _ (by decide)).trans (ev_same _ _ _ (by simp only [sz_put]; omega)))) hS (fun wx _ => run_move (.tmp 1) rfl ((ev_other _ _ (by decide)).trans ((ev_other _ _ (by decide)).trans ((ev_other _ _ (by decide)).trans ((ev_other _ _ (by decide)).trans ((ev_other _ _ (by decide)).trans ((ev_other _ _ (by decide)).trans ((ev_other _ _ (by decide)).trans ((ev_other _ _ (by decide)).trans ((ev_other _ _ (by decide)).trans ((ev_other _ _ (by decide)).trans ((ev_other _ _ (by decide)).trans ((ev_other _ _ (by decide)).trans ((ev_other _ _ (by decide)).trans ((ev_other _ _ (by decide)).trans ((ev_other _ _ (by decide)).trans ((ev_other _ _ (by decide)).trans ((ev_other _ _ (by decide)).trans b1))))))))))))))))) wx) ?_
              show SeqI _ _ _ _ _ _ (Act.put _ (some 115) _) _
              refine sI_read (v := (.bool false)) rfl (fun _ _ _ h => absurd h.1 (fun e => nomatch e)) (wanted_g (j := 15) rfl rfl rfl ((ev_other _ _ (by decide)).trans ((ev_other _ _ (by decide)).trans (ev_same _ _ _ (by simp only [sz_put]; omega))))) hS (fun wx _ => run_neI2 (.tmp 114) (.tmp 115) rfl ((ev_other _ _ (by decide)).trans (ev_same _ _ _ (by simp only [sz_put]; omega))) (ev_same _ _ _ (by simp only [sz_put]; omega)) wx) ?_
              show SeqI _ _ _ _ _ _ (Act.put _ (some 116) _) _
              refine sI_read (v := (.bool false)) rfl (fun _ _ _ h => absurd h.1 (fun e => nomatch e)) (wanted_g (j := 15) rfl rfl rfl ((ev_other _ _ (by decide)).trans ((ev_other _ _ (by decide)).trans ((ev_other _ _ (by decide)).trans (ev_same _ _ _ (by simp only [sz_put]; omega)))))) hS (fun wx _ => run_move (.tmp 116) rfl (ev_same _ _ _ (by simp only [sz_put]; omega)) wx) ?_
              show SeqI _ _ _ _ _ _ (Act.put _ (some 117) _) _
              refine sI_skip rfl (fun _ _ _ h => absurd h.1 (fun e => nomatch e)) (wanted_n (j := 19) rfl rfl rfl (ev_same _ _ _ (by simp only [sz_put]; omega)) (by decide)) hS ?_
              show SeqI _ _ _ _ _ _ (Act.put _ (some 118) _) _
              refine sI_skip rfl (fun _ _ _ h => absurd h.1 (fun e => nomatch e)) (wanted_n (j := 19) rfl rfl rfl ((ev_other _ _ (by decide)).trans (ev_same _ _ _ (by simp only [sz_put]; omega))) (by decide)) hS ?_
              show SeqI _ _ _ _ _ _ (Act.put _ (some 119) _) _
              refine sI_skip rfl (fun _ _ _ h => absurd h.1 (fun e => nomatch e)) (wanted_n (j := 19) rfl rfl rfl ((ev_other _ _ (by decide)).trans ((ev_other _ _ (by decide)).trans (ev_same _ _ _ (by simp only [sz_put]; omega)))) (by decide)) hS ?_
              show SeqI _ _ _ _ _ _ (Act.put _ (some 120) _) _
              refine sI_skip rfl (fun _ _ _ h => absurd h.1 (fun e => nomatch e)) (wanted_n (j := 19) rfl rfl rfl ((ev_other _ _ (by decide)).trans ((ev_other _ _ (by decide)).trans ((ev_other _ _ (by decide)).trans (ev_same _ _ _ (by simp only [sz_put]; omega))))) (by decide)) hS ?_
              show SeqI _ _ _ _ _ _ (Act.put _ (some 121) _) _
              refine sI_skip rfl (fun _ _ _ h => absurd h.1 (fun e => nomatch e)) (wanted_n (j := 19) rfl rfl rfl ((ev_other _ _ (by decide)).trans ((ev_other _ _ (by decide)).trans ((ev_other _ _ (by decide)).trans ((ev_other _ _ (by decide)).trans (ev_same _ _ _ (by simp only [sz_put]; omega)))))) (by decide)) hS ?_
              show SeqI _ _ _ _ _ _ (Act.put _ (some 122) _) _
              refine sI_skip rfl (fun _ _ _ h => absurd h.1 (fun e => nomatch e)) (wanted_n (j := 19) rfl rfl rfl ((ev_other _ _ (by decide)).trans ((ev_other _ _ (by decide)).trans ((ev_other _ _ (by decide)).trans ((ev_other _ _ (by decide)).trans ((ev_other _ _ (by decide)).trans (ev_same _ _ _ (by simp only [sz_put]; omega))))))) (by decide)) hS ?_
              show SeqI _ _ _ _ _ _ (Act.put _ (some 123) _) _
              refine sI_skip rfl (fun _ _ _ h => absurd h.1 (fun e => nomatch e)) (wanted_n (j := 19) rfl rfl rfl ((ev_other _ _ (by decide)).trans ((ev_other _ _ (by decide)).trans ((ev_other _ _ (by decide)).trans ((ev_other _ _ (by decide)).trans ((ev_other _ _ (by decide)).trans ((ev_other _ _ (by decide)).trans (ev_same _ _ _ (by simp only [sz_put]; omega)))))))) (by decide)) hS ?_
              show SeqI _ _ _ _ _ _ (Act.put _ (some 124) _) _
              refine sI_skip rfl (fun _ _ _ h => absurd h.1 (fun e => nomatch e)) (wanted_n (j := 19) rfl rfl rfl ((ev_other _ _ (by decide)).trans ((ev_other _ _ (by decide)).trans ((ev_other _ _ (by decide)).trans ((ev_other _ _ (by decide)).trans ((ev_other _ _ (by decide)).trans ((ev_other _ _ (by decide)).trans ((ev_other _ _ (by decide)).trans (ev_same _ _ _ (by simp only [sz_put]; omega))))))))) (by decide)) hS ?_
              show SeqI _ _ _ _ _ _ (Act.put _ (some 125) _) _
              refine sI_skip rfl (fun _ _ _ h => absurd h.1 (fun e => nomatch e)) (wanted_n (j := 19) rfl rfl rfl ((ev_other _ _ (by decide)).trans ((ev_other _ _ (by decide)).trans ((ev_other _ _ (by decide)).trans ((ev_other _ _ (by decide)).trans ((ev_other _ _ (by decide)).trans ((ev_other _ _ (by decide)).trans ((ev_other _ _ (by decide)).trans ((ev_other _ _ (by decide)).trans (ev_same _ _ _ (by simp only [sz_put]; omega)))))))))) (by decide)) hS ?_
              show SeqI _ _ _ _ _ _ (Act.put _ (some 126) _) _
              refine sI_skip rfl (fun _ _ _ h => absurd h.1 (fun e => nomatch e)) (wanted_n (j := 19) rfl rfl rfl ((ev_other _ _ (by decide)).trans ((ev_other _ _ (by decide)).trans ((ev_other _ _ (by decide)).trans ((ev_other _ _ (by decide)).trans ((ev_other _ _ (by decide)).trans ((ev_other _ _ (by decide)).trans ((ev_other _ _ (by decide)).trans ((ev_other _ _ (by decide)).trans ((ev_other _ _ (by decide)).trans (ev_same _ _ _ (by simp only [sz_put]; omega))))))))))) (by decide)) hS ?_
              show SeqI _ _ _ _ _ _ (Act.put _ (some 127) _) _
              refine sI_skip rfl (fun _ _ _ h => absurd h.1 (fun e => nomatch e)) (wanted_n (j := 19) rfl rfl rfl ((ev_other _ _ (by decide)).trans ((ev_other _ _ (by decide)).trans ((ev_other _ _ (by decide)).trans ((ev_other _ _ (by decide)).trans ((ev_other _ _ (by decide)).trans ((ev_other _ _ (by decide)).trans ((ev_other _ _ (by decide)).trans ((ev_other _ _ (by decide)).trans ((ev_other _ _ (by decide)).trans ((ev_other _ _ (by decide)).trans (ev_same _ _ _ (by simp only [sz_put]; omega)))))))))))) (by decide)) hS ?_
              show SeqI _ _ _ _ _ _ (Act.put _ (some 128) _) _
              refine sI_skip rfl (fun _ _ _ h => absurd h.1 (fun e => nomatch e)) (wanted_n (j := 19) rfl rfl rfl ((ev_other _ _ (by decide)).trans ((ev_other _ _ (by decide)).trans ((ev_other _ _ (by decide)).trans ((ev_other _ _ (by decide)).trans ((ev_other _ _ (by decide)).trans ((ev_other _ _ (by decide)).trans ((ev_other _ _ (by decide)).trans ((ev_other _ _ (by decide)).trans ((ev_other _ _ (by decide)).trans ((ev_other _ _ (by decide)).trans ((ev_other _ _ (by decide)).trans (ev_same _ _ _ (by simp only [sz_put]; omega))))))))))))) (by decide)) hS ?_
              show SeqI _ _ _ _ _ _ (Act.put _ (some 129) _) _
              refine sI_skip rfl (fun _ _ _ h => absurd h.1 (fun e => nomatch e)) (wanted_n (j := 19) rfl rfl rfl ((ev_other _ _ (by decide)).trans ((ev_other _ _ (by decide)).trans ((ev_other _ _ (by decide)).trans ((ev_other _ _ (by decide)).trans ((ev_other _ _ (by decide)).trans ((ev_other _ _ (by decide)).trans ((ev_other _ _ (by decide)).trans ((ev_other _ _ (by decide)).trans ((ev_other _ _ (by decide)).trans ((ev_other _ _ (by decide)).trans ((ev_other _ _ (by decide)).trans ((ev_other _ _ (by decide)).trans (ev_same _ _ _ (by simp only [sz_put]; omega)))))))))))))) (by decide)) hS ?_
              show SeqI _ _ _ _ _ _ (Act.put _ (some 130) _) _
              refine sI_skip rfl (fun _ _ _ h => absurd h.1 (fun e => nomatch e)) (wanted_n (j := 19) rfl rfl rfl ((ev_other _ _ (by decide)).trans ((ev_other _ _ (by decide)).trans ((ev_other _ _ (by decide)).trans ((ev_other _ _ (by decide)).trans ((ev_other _ _ (by decide)).trans ((ev_other _ _ (by decide)).trans ((ev_other _ _ (by decide)).trans ((ev_other _ _ (by decide)).trans ((ev_other _ _ (by decide)).trans ((ev_other _ _ (by decide)).trans ((ev_other _ _ (by decide)).trans ((ev_other _ _ (by decide)).trans ((ev_other _ _ (by decide)).trans (ev_same _ _ _ (by simp only [sz_put]; omega))))))))))))))) (by decide)) hS ?_
              show SeqI _ _ _ _ _ _ (Act.put _ (some 131) _) _
              refine sI_skip rfl (fun _ _ _ h => absurd h.1 (fun e => nomatch e)) (wanted_n (j := 19) rfl rfl rfl ((ev_other _ _ (by decide)).trans ((ev_other _ _ (by decide)).trans ((ev_other _ _ (by decide)).trans ((ev_other _ _ (by decide)).trans ((ev_other _ _ (by decide)).trans ((ev_other _ _ (by decide)).trans ((ev_other _ _ (by decide)).trans ((ev_other _ _ (by decide)).trans ((ev_other _ _ (by decide)).trans ((ev_other _ _ (by decide)).trans ((ev_other _ _ (by decide)).trans ((ev_other _ _ (by decide)).trans ((ev_other _ _ (by decide)).trans ((ev_other _ _ (by decide)).trans (ev_same _ _ _ (by simp only [sz_put]; omega)))))))))))))))) (by decide)) hS ?_
              show SeqI _ _ _ _ _ _ (Act.put _ (some 132) _) _
              refine sI_read (v := (.bool false)) rfl (fun _ _ _ h => absurd h.1 (fun e => nomatch e)) (wanted_g (j := 15) rfl rfl rfl ((ev_other _ _ (by decide)).trans ((ev_other _ _ (by decide)).trans ((ev_other _ _ (by decide)).trans ((ev_other _ _ (by decide)).trans ((ev_other _ _ (by decide)).trans ((ev_other _ _ (by decide)).trans ((ev_other _ _ (by decide)).trans ((ev_other _ _ (by decide)).trans ((ev_other _ _ (by decide)).trans ((ev_other _ _ (by decide)).trans ((ev_other _ _ (by decide)).trans ((ev_other _ _ (by decide)).trans ((ev_other _ _ (by decide)).trans ((ev_other _ _ (by decide)).trans ((ev_other _ _ (by decide)).trans ((ev_other _ _ (by decide)).trans ((ev_other _ _ (by decide)).trans ((ev_other _ _ (by decide)).trans ((ev_other _ _ (by decide)).trans (ev_same _ _ _ (by simp only [sz_put]; omega)))))))))))))))))))))) hS (fun wx _ => run_pickF (.tmp 117) (.tmp 132) (.const (.bool false)) rfl ((ev_other _ _ (by decide)).trans ((ev_other _ _ (by decide)).trans ((ev_other _ _ (by decide)).trans ((ev_other _ _ (by decide)).trans ((ev_other _ _ (by decide)).trans ((ev_other _ _ (by decide)).trans ((ev_other _ _ (by decide)).trans ((ev_other _ _ (by decide)).trans ((ev_other _ _ (by decide)).trans ((ev_other _ _ (by decide)).trans ((ev_other _ _ (by decide)).trans ((ev_other _ _ (by decide)).trans ((ev_other _ _ (by decide)).trans ((ev_other _ _ (by decide)).trans ((ev_other _ _ (by decide)).trans (ev_same _ _ _ (by simp only [sz_put]; omega))))))))))))))))) rfl wx) ?_
              show SeqI _ _ _ _ _ _ (Act.put _ (some 133) _) _
              refine sI_read (v := (.bool false)) rfl (fun _ _ _ h => absurd h.1 (fun e => nomatch e)) (wanted_rd rfl) hS (fun wx _ => run_pickF (.tmp 113) (.const (.bool true)) (.tmp 133) rfl ((ev_other _ _ (by decide)).trans ((ev_other _ _ (by decide)).trans ((ev_other _ _ (by decide)).trans ((ev_other _ _ (by decide)).trans ((ev_other _ _ (by decide)).trans ((ev_other _ _ (by decide)).trans ((ev_other _ _ (by decide)).trans ((ev_other _ _ (by decide)).trans ((ev_other _ _ (by decide)).trans ((ev_other _ _ (by decide)).trans ((ev_other _ _ (by decide)).trans ((ev_other _ _ (by decide)).trans ((ev_other _ _ (by decide)).trans ((ev_other _ _ (by decide)).trans ((ev_other _ _ (by decide)).trans ((ev_other _ _ (by decide)).trans ((ev_other _ _ (by decide)).trans ((ev_other _ _ (by decide)).trans ((ev_other _ _ (by decide)).trans ((ev_other _ _ (by decide)).trans (ev_same _ _ _ (by simp only [sz_put]; omega)))))))))))))))))))))) (ev_same _ _ _ (by simp only [sz_put]; omega)) wx) ?_
              show SeqI _ _ _ _ _ _ (Act.put _ (some 134) _) _
              exact sI_end ⟨rfl, below_drew (unhide KR), rfl⟩
            case rest =>
              rintro a' w8 ⟨k8, rfl⟩
              have K8 := hide k8
              clear k8
              go_frame
              go_wp2_with fail
              go_roundw
              case rel => exact ⟨i + 1, by omega, by go_num, unhide K8⟩
              case measure => simp [intOf] <;> omega
          · have hd4 := e41 his
            rw [hd4, ← edd] at u4 s4
            have HY := hide (show wr.drew.cell? ⟨o4, f4 + i * 5 + 4, none⟩ = some (.slice d4.ao dd.length d4.cap) ∧ Rd wr.drew d4.ao dd.length (bF (gF dd)) from ⟨u4, s4⟩)
            have hisI : ((i : Nat) : Int) ≠ (s : Nat) := by omega
            clear br1 br4 br6 q1 q4 q6 u1 u4 u6 s1 s4 s6 p1 p4 p6 hb1 hb4 hb6 ed1 ed4 ed6 e61 e41 edd kr hd4
            go_wp2_with fail
            refine wp_leaves (fun a0 a' w' => Below w7.heap.size w7 w' ∧ a' = (((((((((((((((((((((((((((((((((((((a0.put (some 98) (.pointer (some ⟨gd, 2, none⟩))).put (some 99) (.slice (some ⟨o6, f6, none⟩) kk c6)).put (some 100) (.int .i64 (i : Nat))).put (some 101) (.pointer (some ⟨o6, f6 + i * 5, none⟩))).put (some 102) (.pointer (some ⟨o6, f6 + i * 5 + 4, none⟩))).put (some 103) (.slice d6.ao dd.length d6.cap)).put (some 104) (.string (sB (gF dd) dd.length))).put (some 105) (.pointer (some ⟨gb, 2, none⟩))).put (some 106) (.slice (some ⟨qb, qo, none⟩) kk c1)).put (some 107) (.int .i64 (i : Nat))).put (some 108) (.pointer (some ⟨qb, qo + i * 5, none⟩))).put (some 109) (.pointer (some ⟨qb, qo + i * 5 + 4, none⟩))).put (some 110) (.slice d1.ao dd.length d1.cap)).put (some 111) (.string (sB (gF dd) dd.length))).put (some 112) (.bool false)).put (some 113) (.bool false)).put (some 114) (.int .i64 (i : Nat))).put (some 115) (.int .i64 (s : Nat))).put (some 116) (.bool true)).put (some 117) (.bool true)).put (some 118) (.pointer (some ⟨gc, 2, none⟩))).put (some 119) (.slice (some ⟨o4, f4, none⟩) kk c4)).put (some 120) (.int .i64 (i : Nat))).put (some 121) (.pointer (some ⟨o4, f4 + i * 5, none⟩))).put (some 122) (.pointer (some ⟨o4, f4 + i * 5 + 4, none⟩))).put (some 123) (.slice d4.ao dd.length d4.cap)).put (some 124) (.string (sB (gF dd) dd.length))).put (some 125) (.pointer (some ⟨gb, 2, none⟩))).put (some 126) (.slice (some ⟨qb, qo, none⟩) kk c1)).put (some 127) (.int .i64 (i : Nat))).put (some 128) (.pointer (some ⟨qb, qo + i * 5, none⟩))).put (some 129) (.pointer (some ⟨qb, qo + i * 5 + 4, none⟩))).put (some 130) (.slice d1.ao dd.length d1.cap)).put (some 131) (.string (sB (gF dd) dd.length))).put (some 132) (.bool false)).put (some 133) (.bool false)).put (some 134) (.bool false))) ?reg ?rest
            case reg =>
              intro AA eAA
              have b14 : AA.eval (.tmp 14) = .pointer (some ⟨gd, 0, none⟩) := by rw [eAA]; rfl
              have b9 : AA.eval (.tmp 9) = .pointer (some ⟨gb, 0, none⟩) := by rw [eAA]; rfl
              have b12 : AA.eval (.tmp 12) = .pointer (some ⟨gc, 0, none⟩) := by rw [eAA]; rfl
              have b16 : AA.eval (.tmp 16) = .int .i64 (i : Nat) := by rw [eAA]; rfl
              have b1 : AA.eval (.tmp 1) = .int .i64 (s : Nat) := by rw [eAA]; rfl
              have hs : 151 ≤ AA.tmps.size := by rw [eAA]; exact of_decide_eq_true rfl
              clear eAA
              have hS : (BuAt wr.drew gd 0 (kk : Nat) (.slice (some ⟨o6, f6, none⟩) kk c6) ∧ BuAt wr.drew gb 0 (kk : Nat) (.slice (some ⟨qb, qo, none⟩) kk c1) ∧ BuAt wr.drew gc 0 (kk : Nat) (.slice (some ⟨o4, f4, none⟩) kk c4) ∧ wr.drew.cell? ⟨o6, f6 + i * 5 + 4, none⟩ = some (.slice d6.ao dd.length d6.cap) ∧ wr.drew.cell? ⟨qb, qo + i * 5 + 4, none⟩ = some (.slice d1.ao dd.length d1.cap) ∧ Rd wr.drew d6.ao dd.length (bF (gF dd)) ∧ Rd wr.drew d1.ao dd.length (bF (gF dd))) ∧ (wr.drew.cell? ⟨o4, f4 + i * 5 + 4, none⟩ = some (.slice d4.ao dd.length d4.cap) ∧ Rd wr.drew d4.ao dd.length (bF (gF dd))) := ⟨unhide HX, unhide HY⟩
              refine region_I (S := fun W => (BuAt W gd 0 (kk : Nat) (.slice (some ⟨o6, f6, none⟩) kk c6) ∧ BuAt W gb 0 (kk : Nat) (.slice (some ⟨qb, qo, none⟩) kk c1) ∧ BuAt W gc 0 (kk : Nat) (.slice (some ⟨o4, f4, none⟩) kk c4) ∧ W.cell? ⟨o6, f6 + i * 5 + 4, none⟩ = some (.slice d6.ao dd.length d6.cap) ∧ W.cell? ⟨qb, qo + i * 5 + 4, none⟩ = some (.slice d1.ao dd.length d1.cap) ∧ Rd W d6.ao dd.length (bF (gF dd)) ∧ Rd W d1.ao dd.length (bF (gF dd))) ∧ (W.cell? ⟨o4, f4 + i * 5 + 4, none⟩ = some (.slice d4.ao dd.length d4.cap) ∧ Rd W d4.ao dd.length (bF (gF dd)))) (.rd 0 (.rd 1 (.rd 2 (.rd 3 (.rd 4 (.rd 5 (.rd 6 (.rd 7 (.rd 8 (.rd 9 (.rd 10 (.rd 11 (.rd 12 (.rd 13 (.rd 14 (.rd 15 (.rd 16 (.rd 17 (.rd 18 (.rd 19 (.rd 20 (.rd 21 (.rd 22 (.rd 23 (.rd 24 (.rd 25 (.rd 26 (.rd 27 (.rd 28 (.rd 29 (.rd 30 (.rd 31 (.rd 32 (.rd 33 (.rd 34 (.rd 35 (.rd 36 .fin))))))))))))))))))))))))))))))))))))) [] (by kernel_rfl) (by kernel_rfl) ?_
              refine sI_read (v := (.pointer (some ⟨gd, 2, none⟩))) rfl (fun _ _ _ h => absurd h.1 (fun e => nomatch e)) (wanted_rd rfl) hS (fun wx _ => run_fldU (.tmp 14) 2 rfl b14 (by omega) wx) ?_
              show SeqI _ _ _ _ _ _ (Act.put _ (some 98) _) _
              refine sI_read (v := (.slice (some ⟨o6, f6, none⟩) kk c6)) rfl (fun _ _ _ h => absurd h.1 (fun e => nomatch e)) (wanted_rd rfl) hS (fun wx hx => run_lodQ (.tmp 98) rfl (ev_same _ _ _ (by omega)) hx.1.1.cell2) ?_
              show SeqI _ _ _ _ _ _ (Act.put _ (some 99) _) _
              refine sI_read (v := (.int .i64 (i : Nat))) rfl (fun _ _ _ h => absurd h.1 (fun e => nomatch e)) (wanted_rd rfl) hS (fun wx _ => run_move (.tmp 16) rfl ((ev_other _ _ (by decide)).trans ((ev_other _ _ (by decide)).trans b16)) wx) ?_
              show SeqI _ _ _ _ _ _ (Act.put _ (some 100) _) _
              refine sI_read (v := (.pointer (some ⟨o6, f6 + i * 5, none⟩))) rfl (fun _ _ _ h => absurd h.1 (fun e => nomatch e)) (wanted_rd rfl) hS (fun wx _ => run_ixP (.tmp 99) (.tmp 100) rfl ((ev_other _ _ (by decide)).trans (ev_same _ _ _ (by simp only [sz_put]; omega))) (ev_same _ _ _ (by simp only [sz_put]; omega)) hin wx) ?_
              show SeqI _ _ _ _ _ _ (Act.put _ (some 101) _) _
              refine sI_read (v := (.pointer (some ⟨o6, f6 + i * 5 + 4, none⟩))) rfl (fun _ _ _ h => absurd h.1 (fun e => nomatch e)) (wanted_rd rfl) hS (fun wx _ => run_fldP (.tmp 101) 4 rfl (ev_same _ _ _ (by simp only [sz_put]; omega)) (by omega) wx) ?_
              show SeqI _ _ _ _ _ _ (Act.put _ (some 102) _) _
              refine sI_read (v := (.slice d6.ao dd.length d6.cap)) rfl (fun _ _ _ h => absurd h.1 (fun e => nomatch e)) (wanted_rd rfl) hS (fun wx hx => run_lodS (.tmp 102) rfl (ev_same _ _ _ (by simp only [sz_put]; omega)) hx.1.2.2.2.1) ?_
              show SeqI _ _ _ _ _ _ (Act.put _ (some 103) _) _
              refine sI_read (v := (.string (sB (gF dd) dd.length))) rfl (fun _ _ _ h => absurd h.1 (fun e => nomatch e)) (wanted_rd rfl) hS (fun wx hx => run_convO (.tmp 103) rfl (ev_same _ _ _ (by simp only [sz_put]; omega)) hx.1.2.2.2.2.2.1) ?_
              show SeqI _ _ _ _ _ _ (Act.put _ (some 104) _) _
              refine sI_read (v := (.pointer (some ⟨gb, 2, none⟩))) rfl (fun _ _ _ h => absurd h.1 (fun e => nomatch e)) (wanted_rd rfl) hS (fun wx _ => run_fldU (.tmp 9) 2 rfl ((ev_other _ _ (by decide)).trans ((ev_other _ _ (by decide)).trans ((ev_other _ _ (by decide)).trans ((ev_other _ _ (by decide)).trans ((ev_other _ _ (by decide)).trans ((ev_other _ _ (by decide)).trans ((ev_other _ _ (by decide)).trans b9))))))) (by omega) wx) ?_
              show SeqI _ _ _ _ _ _ (Act.put _ (some 105) _) _
              refine sI_read (v := (.slice (some ⟨qb, qo, none⟩) kk c1)) rfl (fun _ _ _ h => absurd h.1 (fun e => nomatch e)) (wanted_rd rfl) hS (fun wx hx => run_lodQ (.tmp 105) rfl (ev_same _ _ _ (by simp only [sz_put]; omega)) hx.1.2.1.cell2) ?_
              show SeqI _ _ _ _ _ _ (Act.put _ (some 106) _) _
              refine sI_read (v := (.int .i64 (i : Nat))) rfl (fun _ _ _ h => absurd h.1 (fun e => nomatch e)) (wanted_rd rfl) hS (fun wx _ => run_move (.tmp 16) rfl ((ev_other _ _ (by decide)).trans ((ev_other _ _ (by decide)).trans ((ev_other _ _ (by decide)).trans ((ev_other _ _ (by decide)).trans ((ev_other _ _ (by decide)).trans ((ev_other _ _ (by decide)).trans ((ev_other _ _ (by decide)).trans ((ev_other _ _ (by decide)).trans ((ev_other _ _ (by decide)).trans b16))))))))) wx) ?_
              show SeqI _ _ _ _ _ _ (Act.put _ (some 107) _) _
              refine sI_read (v := (.pointer (some ⟨qb, qo + i * 5, none⟩))) rfl (fun _ _ _ h => absurd h.1 (fun e => nomatch e)) (wanted_rd rfl) hS (fun wx _ => run_ixP (.tmp 106) (.tmp 107) rfl ((ev_other _ _ (by decide)).trans (ev_same _ _ _ (by simp only [sz_put]; omega))) (ev_same _ _ _ (by simp only [sz_put]; omega)) hin wx) ?_
              show SeqI _ _ _ _ _ _ (Act.put _ (some 108) _) _
              refine sI_read (v := (.pointer (some ⟨qb, qo + i * 5 + 4, none⟩))) rfl (fun _ _ _ h => absurd h.1 (fun e => nomatch e)) (wanted_rd rfl) hS (fun wx _ => run_fldP (.tmp 108) 4 rfl (ev_same _ _ _ (by simp only [sz_put]; omega)) (by omega) wx) ?_
              show SeqI _ _ _ _ _ _ (Act.put _ (some 109) _) _
              refine sI_read (v := (.slice d1.ao dd.length d1.cap)) rfl (fun _ _ _ h => absurd h.1 (fun e => nomatch e)) (wanted_rd rfl) hS (fun wx hx => run_lodS (.tmp 109) rfl (ev_same _ _ _ (by simp only [sz_put]; omega)) hx.1.2.2.2.2.1) ?_
              show SeqI _ _ _ _ _ _ (Act.put _ (some 110) _) _
              refine sI_read (v := (.string (sB (gF dd) dd.length))) rfl (fun _ _ _ h => absurd h.1 (fun e => nomatch e)) (wanted_rd rfl) hS (fun wx hx => run_convO (.tmp 110) rfl (ev_same _ _ _ (by simp only [sz_put]; omega)) hx.1.2.2.2.2.2.2) ?_
              show SeqI _ _ _ _ _ _ (Act.put _ (some 111) _) _
              refine sI_read (v := (.bool false)) rfl (fun _ _ _ h => absurd h.1 (fun e => nomatch e)) (wanted_rd rfl) hS (fun wx _ => run_neqSF (.tmp 104) (.tmp 111) rfl ((ev_other _ _ (by decide)).trans ((ev_other _ _ (by decide)).trans ((ev_other _ _ (by decide)).trans ((ev_other _ _ (by decide)).trans ((ev_other _ _ (by decide)).trans ((ev_other _ _ (by decide)).trans ((ev_other _ _ (by decide)).trans (ev_same _ _ _ (by simp only [sz_put]; omega))))))))) (ev_same _ _ _ (by simp only [sz_put]; omega)) rfl wx) ?_
              show SeqI _ _ _ _ _ _ (Act.put _ (some 112) _) _
              refine sI_read (v := (.bool false)) rfl (fun _ _ _ h => absurd h.1 (fun e => nomatch e)) (wanted_rd rfl) hS (fun wx _ => run_move (.tmp 112) rfl (ev_same _ _ _ (by simp only [sz_put]; omega)) wx) ?_
              show SeqI _ _ _ _ _ _ (Act.put _ (some 113) _) _
              refine sI_read (v := (.int .i64 (i : Nat))) rfl (fun _ _ _ h => absurd h.1 (fun e => nomatch e)) (wanted_g (j := 15) rfl rfl rfl (ev_same _ _ _ (by simp only [sz_put]; omega))) hS (fun wx _ => run_move (.tmp 16) rfl ((ev_other _ _ (by decide)).trans ((ev_other _ _ (by decide)).trans ((ev_other _ _ (by decide)).trans ((ev_other _ _ (by decide)).trans ((ev_other _ _ (by decide)).trans ((ev_other _ _ (by decide)).trans ((ev_other _ _ (by decide)).trans ((ev_other _ _ (by decide)).trans ((ev_other _ _ (by decide)).trans ((ev_other _ _ (by decide)).trans ((ev_other _ _ (by decide)).trans ((ev_other _ _ (by decide)).trans ((ev_other _ _ (by decide)).trans ((ev_other _ _ (by decide)).trans ((ev_other _ _ (by decide)).trans ((ev_other _ _ (by decide)).trans b16)))))))))))))))) wx) ?_
              show SeqI _ _ _ _ _ _ (Act.put _ (some 114) _) _
              refine sI_read (v := (.int .i64 (s : Nat))) rfl (fun _ _ _ h => absurd h.1 (fun e => nomatch e)) (wanted_g (j := 15) rfl rfl rfl ((ev_other _ _ (by decide)).trans (ev_same _ _ _ (by simp only [sz_put]; omega)))) hS (fun wx _ => run_move (.tmp 1) rfl ((ev_other _ _ (by decide)).trans ((ev_other _ _ (by decide)).trans ((ev_other _ _ (by decide)).trans ((ev_other _ _ (by decide)).trans ((ev_other _ _ (by decide)).trans ((ev_other _ _ (by decide)).trans ((ev_other _ _ (by decide)).trans ((ev_other _ _ (by decide)).trans ((ev_other _ _ (by decide)).trans ((ev_other _ _ (by decide)).trans ((ev_other _ _ (by decide)).trans ((ev_other _ _ (by decide)).trans ((ev_other _ _ (by decide)).trans ((ev_other _ _ (by decide)).trans ((ev_other _ _ (by decide)).trans ((ev_other _ _ (by decide)).trans ((ev_other _ _ (by decide)).trans b1))))))))))))))))) wx) ?_
              show SeqI _ _ _ _ _ _ (Act.put _ (some 115) _) _
              refine sI_read (v := (.bool true)) rfl (fun _ _ _ h => absurd h.1 (fun e => nomatch e)) (wanted_g (j := 15) rfl rfl rfl ((ev_other _ _ (by decide)).trans ((ev_other _ _ (by decide)).trans (ev_same _ _ _ (by simp only [sz_put]; omega))))) hS (fun wx _ => run_neT2 (.tmp 114) (.tmp 115) rfl ((ev_other _ _ (by decide)).trans (ev_same _ _ _ (by simp only [sz_put]; omega))) (ev_same _ _ _ (by simp only [sz_put]; omega)) hisI wx) ?_
              show SeqI _ _ _ _ _ _ (Act.put _ (some 116) _) _
              refine sI_read (v := (.bool true)) rfl (fun _ _ _ h => absurd h.1 (fun e => nomatch e)) (wanted_g (j := 15) rfl rfl rfl ((ev_other _ _ (by decide)).trans ((ev_other _ _ (by decide)).trans ((ev_other _ _ (by decide)).trans (ev_same _ _ _ (by simp only [sz_put]; omega)))))) hS (fun wx _ => run_move (.tmp 116) rfl (ev_same _ _ _ (by simp only [sz_put]; omega)) wx) ?_
              show SeqI _ _ _ _ _ _ (Act.put _ (some 117) _) _
              refine sI_read (v := (.pointer (some ⟨gc, 2, none⟩))) rfl (fun _ _ _ h => absurd h.1 (fun e => nomatch e)) (wanted_g (j := 19) rfl rfl rfl (ev_same _ _ _ (by simp only [sz_put]; omega))) hS (fun wx _ => run_fldU (.tmp 12) 2 rfl ((ev_other _ _ (by decide)).trans ((ev_other _ _ (by decide)).trans ((ev_other _ _ (by decide)).trans ((ev_other _ _ (by decide)).trans ((ev_other _ _ (by decide)).trans ((ev_other _ _ (by decide)).trans ((ev_other _ _ (by decide)).trans ((ev_other _ _ (by decide)).trans ((ev_other _ _ (by decide)).trans ((ev_other _ _ (by decide)).trans ((ev_other _ _ (by decide)).trans ((ev_other _ _ (by decide)).trans ((ev_other _ _ (by decide)).trans ((ev_other _ _ (by decide)).trans ((ev_other _ _ (by decide)).trans ((ev_other _ _ (by decide)).trans ((ev_other _ _ (by decide)).trans ((ev_other _ _ (by decide)).trans ((ev_other _ _ (by decide)).trans ((ev_other _ _ (by decide)).trans b12)))))))))))))))))))) (by omega) wx) ?_
              show SeqI _ _ _ _ _ _ (Act.put _ (some 118) _) _
              refine sI_read (v := (.slice (some ⟨o4, f4, none⟩) kk c4)) rfl (fun _ _ _ h => absurd h.1 (fun e => nomatch e)) (wanted_g (j := 19) rfl rfl rfl ((ev_other _ _ (by decide)).trans (ev_same _ _ _ (by simp only [sz_put]; omega)))) hS (fun wx hx => run_lodQ (.tmp 118) rfl (ev_same _ _ _ (by simp only [sz_put]; omega)) hx.1.2.2.1.cell2) ?_
              show SeqI _ _ _ _ _ _ (Act.put _ (some 119) _) _
              refine sI_read (v := (.int .i64 (i : Nat))) rfl (fun _ _ _ h => absurd h.1 (fun e => nomatch e)) (wanted_g (j := 19) rfl rfl rfl ((ev_other _ _ (by decide)).trans ((ev_other _ _ (by decide)).trans (ev_same _ _ _ (by simp only [sz_put]; omega))))) hS (fun wx _ => run_move (.tmp 16) rfl ((ev_other _ _ (by decide)).trans ((ev_other _ _ (by decide)).trans ((ev_other _ _ (by decide)).trans ((ev_other _ _ (by decide)).trans ((ev_other _ _ (by decide)).trans ((ev_other _ _ (by decide)).trans ((ev_other _ _ (by decide)).trans ((ev_other _ _ (by decide)).trans ((ev_other _ _ (by decide)).trans ((ev_other _ _ (by decide)).trans ((ev_other _ _ (by decide)).trans ((ev_other _ _ (by decide)).trans ((ev_other _ _ (by decide)).trans ((ev_other _ _ (by decide)).trans ((ev_other _ _ (by decide)).trans ((ev_other _ _ (by decide)).trans ((ev_other _ _ (by decide)).trans ((ev_other _ _ (by decide)).trans ((ev_other _ _ (by decide)).trans ((ev_other _ _ (by decide)).trans ((ev_other _ _ (by decide)).trans ((ev_other _ _ (by decide)).trans b16)))))))))))))))))))))) wx) ?_
              show SeqI _ _ _ _ _ _ (Act.put _ (some 120) _) _
              refine sI_read (v := (.pointer (some ⟨o4, f4 + i * 5, none⟩))) rfl (fun _ _ _ h => absurd h.1 (fun e => nomatch e)) (wanted_g (j := 19) rfl rfl rfl ((ev_other _ _ (by decide)).trans ((ev_other _ _ (by decide)).trans ((ev_other _ _ (by decide)).trans (ev_same _ _ _ (by simp only [sz_put]; omega)))))) hS (fun wx _ => run_ixP (.tmp 119) (.tmp 120) rfl ((ev_other _ _ (by decide)).trans (ev_same _ _ _ (by simp only [sz_put]; omega))) (ev_same _ _ _ (by simp only [sz_put]; omega)) hin wx) ?_
              show SeqI _ _ _ _ _ _ (Act.put _ (some 121) _) _
              refine sI_read (v := (.pointer (some ⟨o4, f4 + i * 5 + 4, none⟩))) rfl (fun _ _ _ h => absurd h.1 (fun e => nomatch e)) (wanted_g (j := 19) rfl rfl rfl ((ev_other _ _ (by decide)).trans ((ev_other _ _ (by decide)).trans ((ev_other _ _ (by decide)).trans ((ev_other _ _ (by decide)).trans (ev_same _ _ _ (by simp only [sz_put]; omega))))))) hS (fun wx _ => run_fldP (.tmp 121) 4 rfl (ev_same _ _ _ (by simp only [sz_put]; omega)) (by omega) wx) ?_
              show SeqI _ _ _ _ _ _ (Act.put _ (some 122) _) _
              refine sI_read (v := (.slice d4.ao dd.length d4.cap)) rfl (fun _ _ _ h => absurd h.1 (fun e => nomatch e)) (wanted_g (j := 19) rfl rfl rfl ((ev_other _ _ (by decide)).trans ((ev_other _ _ (by decide)).trans ((ev_other _ _ (by decide)).trans ((ev_other _ _ (by decide)).trans ((ev_other _ _ (by decide)).trans (ev_same _ _ _ (by simp only [sz_put]; omega)))))))) hS (fun wx hx => run_lodS (.tmp 122) rfl (ev_same _ _ _ (by simp only [sz_put]; omega)) hx.2.1) ?_
              show SeqI _ _ _ _ _ _ (Act.put _ (some 123) _) _
              refine sI_read (v := (.string (sB (gF dd) dd.length))) rfl (fun _ _ _ h => absurd h.1 (fun e => nomatch e)) (wanted_g (j := 19) rfl rfl rfl ((ev_other _ _ (by decide)).trans ((ev_other _ _ (by decide)).trans ((ev_other _ _ (by decide)).trans ((ev_other _ _ (by decide)).trans ((ev_other _ _ (by decide)).trans ((ev_other _ _ (by decide)).trans (ev_same _ _ _ (by simp only [sz_put]; omega))))))))) hS (fun wx hx => run_convO (.tmp 123) rfl (ev_same _ _ _ (by simp only [sz_put]; omega)) hx.2.2) ?_
              show SeqI _ _ _ _ _ _ (Act.put _ (some 124) _) _
              refine sI_read (v := (.pointer (some ⟨gb, 2, none⟩))) rfl (fun _ _ _ h => absurd h.1 (fun e => nomatch e)) (wanted_g (j := 19) rfl rfl rfl ((ev_other _ _ (by decide)).trans ((ev_other _ _ (by decide)).trans ((ev_other _ _ (by decide)).trans ((ev_other _ _ (by decide)).trans ((ev_other _ _ (by decide)).trans ((ev_other _ _ (by decide)).trans ((ev_other _ _ (by decide)).trans (ev_same _ _ _ (by simp only [sz_put]; omega)))))))))) hS (fun wx _ => run_fldU (.tmp 9) 2 rfl ((ev_other _ _ (by decide)).trans ((ev_other _ _ (by decide)).trans ((ev_other _ _ (by decide)).trans ((ev_other _ _ (by decide)).trans ((ev_other _ _ (by decide)).trans ((ev_other _ _ (by decide)).trans ((ev_other _ _ (by decide)).trans ((ev_other _ _ (by decide)).trans ((ev_other _ _ (by decide)).trans ((ev_other _ _ (by decide)).trans ((ev_other _ _ (by decide)).trans ((ev_other _ _ (by decide)).trans ((ev_other _ _ (by decide)).trans ((ev_other _ _ (by decide)).trans ((ev_other _ _ (by decide)).trans ((ev_other _ _ (by decide)).trans ((ev_other _ _ (by decide)).trans ((ev_other _ _ (by decide)).trans ((ev_other _ _ (by decide)).trans ((ev_other _ _ (by decide)).trans ((ev_other _ _ (by decide)).trans ((ev_other _ _ (by decide)).trans ((ev_other _ _ (by decide)).trans ((ev_other _ _ (by decide)).trans ((ev_other _ _ (by decide)).trans ((ev_other _ _ (by decide)).trans ((ev_other _ _ (by decide)).trans b9))))))))))))))))))))))))))) (by omega) wx) ?_
              show SeqI _ _ _ _ _ _ (Act.put _ (some 125) _) _
              refine sI_read (v := (.slice (some ⟨qb, qo, none⟩) kk c1)) rfl (fun _ _ _ h => absurd h.1 (fun e => nomatch e)) (wanted_g (j := 19) rfl rfl rfl ((ev_other _ _ (by decide)).trans ((ev_other _ _ (by decide)).trans ((ev_other _ _ (by decide)).trans ((ev_other _ _ (by decide)).trans ((ev_other _ _ (by decide)).trans ((ev_other _ _ (by decide)).trans ((ev_other _ _ (by decide)).trans ((ev_other _ _ (by decide)).trans (ev_same _ _ _ (by simp only [sz_put]; omega))))))))))) hS (fun wx hx => run_lodQ (.tmp 125) rfl (ev_same _ _ _ (by simp only [sz_put]; omega)) hx.1.2.1.cell2) ?_
              show SeqI _ _ _ _ _ _ (Act.put _ (some 126) _) _
              refine sI_read (v := (.int .i64 (i : Nat))) rfl (fun _ _ _ h => absurd h.1 (fun e => nomatch e)) (wanted_g (j := 19) rfl rfl rfl ((ev_other _ _ (by decide)).trans ((ev_other _ _ (by decide)).trans ((ev_other _ _ (by decide)).trans ((ev_other _ _ (by decide)).trans ((ev_other _ _ (by decide)).trans ((ev_other _ _ (by decide)).trans ((ev_other _ _ (by decide)).trans ((ev_other _ _ (by decide)).trans ((ev_other _ _ (by decide)).trans (ev_same _ _ _ (by simp only [sz_put]; omega)))))))))))) hS (fun wx _ => run_move (.tmp 16) rfl ((ev_other _ _ (by decide)).trans ((ev_other _ _ (by decide)).trans ((ev_other _ _ (by decide)).trans ((ev_other _ _ (by decide)).trans ((ev_other _ _ (by decide)).trans ((ev_other _ _ (by decide)).trans ((ev_other _ _ (by decide)).trans ((ev_other _ _ (by decide)).trans ((ev_other _ _ (by decide)).trans ((ev_other _ _ (by decide)).trans ((ev_other _ _ (by decide)).trans ((ev_other _ _ (by decide)).trans ((ev_other _ _ (by decide)).trans ((ev_other _ _ (by decide)).trans ((ev_other _ _ (by decide)).trans ((ev_other _ _ (by decide)).trans ((ev_other _ _ (by decide)).trans ((ev_other _ _ (by decide)).trans ((ev_other _ _ (by decide)).trans ((ev_other _ _ (by decide)).trans ((ev_other _ _ (by decide)).trans ((ev_other _ _ (by decide)).trans ((ev_other _ _ (by decide)).trans ((ev_other _ _ (by decide)).trans ((ev_other _ _ (by decide)).trans ((ev_other _ _ (by decide)).trans ((ev_other _ _ (by decide)).trans ((ev_other _ _ (by decide)).trans ((ev_other _ _ (by decide)).trans b16))))))))))))))))))))))))))))) wx) ?_
              show SeqI _ _ _ _ _ _ (Act.put _ (some 127) _) _
              refine sI_read (v := (.pointer (some ⟨qb, qo + i * 5, none⟩))) rfl (fun _ _ _ h => absurd h.1 (fun e => nomatch e)) (wanted_g (j := 19) rfl rfl rfl ((ev_other _ _ (by decide)).trans ((ev_other _ _ (by decide)).trans ((ev_other _ _ (by decide)).trans ((ev_other _ _ (by decide)).trans ((ev_other _ _ (by decide)).trans ((ev_other _ _ (by decide)).trans ((ev_other _ _ (by decide)).trans ((ev_other _ _ (by decide)).trans ((ev_other _ _ (by decide)).trans ((ev_other _ _ (by decide)).trans (ev_same _ _ _ (by simp only [sz_put]; omega))))))))))))) hS (fun wx _ => run_ixP (.tmp 126) (.tmp 127) rfl ((ev_other _ _ (by decide)).trans (ev_same _ _ _ (by simp only [sz_put]; omega))) (ev_same _ _ _ (by simp only [sz_put]; omega)) hin wx) ?_
              show SeqI _ _ _ _ _ _ (Act.put _ (some 128) _) _
              refine sI_read (v := (.pointer (some ⟨qb, qo + i * 5 + 4, none⟩))) rfl (fun _ _ _ h => absurd h.1 (fun e => nomatch e)) (wanted_g (j := 19) rfl rfl rfl ((ev_other _ _ (by decide)).trans ((ev_other _ _ (by decide)).trans ((ev_other _ _ (by decide)).trans ((ev_other _ _ (by decide)).trans ((ev_other _ _ (by decide)).trans ((ev_other _ _ (by decide)).trans ((ev_other _ _ (by decide)).trans ((ev_other _ _ (by decide)).trans ((ev_other _ _ (by decide)).trans ((ev_other _ _ (by decide)).trans ((ev_other _ _ (by decide)).trans (ev_same _ _ _ (by simp only [sz_put]; omega)))))))))))))) hS (fun wx _ => run_fldP (.tmp 128) 4 rfl (ev_same _ _ _ (by simp only [sz_put]; omega)) (by omega) wx) ?_
              show SeqI _ _ _ _ _ _ (Act.put _ (some 129) _) _
              refine sI_read (v := (.slice d1.ao dd.length d1.cap)) rfl (fun _ _ _ h => absurd h.1 (fun e => nomatch e)) (wanted_g (j := 19) rfl rfl rfl ((ev_other _ _ (by decide)).trans ((ev_other _ _ (by decide)).trans ((ev_other _ _ (by decide)).trans ((ev_other _ _ (by decide)).trans ((ev_other _ _ (by decide)).trans ((ev_other _ _ (by decide)).trans ((ev_other _ _ (by decide)).trans ((ev_other _ _ (by decide)).trans ((ev_other _ _ (by decide)).trans ((ev_other _ _ (by decide)).trans ((ev_other _ _ (by decide)).trans ((ev_other _ _ (by decide)).trans (ev_same _ _ _ (by simp only [sz_put]; omega))))))))))))))) hS (fun wx hx => run_lodS (.tmp 129) rfl (ev_same _ _ _ (by simp only [sz_put]; omega)) hx.1.2.2.2.2.1) ?_
              show SeqI _ _ _ _ _ _ (Act.put _ (some 130) _) _
              refine sI_read (v := (.string (sB (gF dd) dd.length))) rfl (fun _ _ _ h => absurd h.1 (fun e => nomatch e)) (wanted_g (j := 19) rfl rfl rfl ((ev_other _ _ (by decide)).trans ((ev_other _ _ (by decide)).trans ((ev_other _ _ (by decide)).trans ((ev_other _ _ (by decide)).trans ((ev_other _ _ (by decide)).trans ((ev_other _ _ (by decide)).trans ((ev_other _ _ (by decide)).trans ((ev_other _ _ (by decide)).trans ((ev_other _ _ (by decide)).trans ((ev_other _ _ (by decide)).trans ((ev_other _ _ (by decide)).trans ((ev_other _ _ (by decide)).trans ((ev_other _ _ (by decide)).trans (ev_same _ _ _ (by simp only [sz_put]; omega)))))))))))))))) hS (fun wx hx => run_convO (.tmp 130) rfl (ev_same _ _ _ (by simp only [sz_put]; omega)) hx.1.2.2.2.2.2.2) ?_
              show SeqI _ _ _ _ _ _ (Act.put _ (some 131) _) _
              refine sI_read (v := (.bool false)) rfl (fun _ _ _ h => absurd h.1 (fun e => nomatch e)) (wanted_g (j := 19) rfl rfl rfl ((ev_other _ _ (by decide)).trans ((ev_other _ _ (by decide)).trans ((ev_other _ _ (by decide)).trans ((ev_other _ _ (by decide)).trans ((ev_other _ _ (by decide)).trans ((ev_other _ _ (by decide)).trans ((ev_other _ _ (by decide)).trans ((ev_other _ _ (by decide)).trans ((ev_other _ _ (by decide)).trans ((ev_other _ _ (by decide)).trans ((ev_other _ _ (by decide)).trans ((ev_other _ _ (by decide)).trans ((ev_other _ _ (by decide)).trans ((ev_other _ _ (by decide)).trans (ev_same _ _ _ (by simp only [sz_put]; omega))))))))))))))))) hS (fun wx _ => run_neqSF (.tmp 124) (.tmp 131) rfl ((ev_other _ _ (by decide)).trans ((ev_other _ _ (by decide)).trans ((ev_other _ _ (by decide)).trans ((ev_other _ _ (by decide)).trans ((ev_other _ _ (by decide)).trans ((ev_other _ _ (by decide)).trans ((ev_other _ _ (by decide)).trans (ev_same _ _ _ (by simp only [sz_put]; omega))))))))) (ev_same _ _ _ (by simp only [sz_put]; omega)) rfl wx) ?_
              show SeqI _ _ _ _ _ _ (Act.put _ (some 132) _) _
              refine sI_read (v := (.bool false)) rfl (fun _ _ _ h => absurd h.1 (fun e => nomatch e)) (wanted_g (j := 15) rfl rfl rfl ((ev_other _ _ (by decide)).trans ((ev_other _ _ (by decide)).trans ((ev_other _ _ (by decide)).trans ((ev_other _ _ (by decide)).trans ((ev_other _ _ (by decide)).trans ((ev_other _ _ (by decide)).trans ((ev_other _ _ (by decide)).trans ((ev_other _ _ (by decide)).trans ((ev_other _ _ (by decide)).trans ((ev_other _ _ (by decide)).trans ((ev_other _ _ (by decide)).trans ((ev_other _ _ (by decide)).trans ((ev_other _ _ (by decide)).trans ((ev_other _ _ (by decide)).trans ((ev_other _ _ (by decide)).trans ((ev_other _ _ (by decide)).trans ((ev_other _ _ (by decide)).trans ((ev_other _ _ (by decide)).trans ((ev_other _ _ (by decide)).trans (ev_same _ _ _ (by simp only [sz_put]; omega)))))))))))))))))))))) hS (fun wx _ => run_pickT' (.tmp 117) (.tmp 132) (.const (.bool false)) rfl ((ev_other _ _ (by decide)).trans ((ev_other _ _ (by decide)).trans ((ev_other _ _ (by decide)).trans ((ev_other _ _ (by decide)).trans ((ev_other _ _ (by decide)).trans ((ev_other _ _ (by decide)).trans ((ev_other _ _ (by decide)).trans ((ev_other _ _ (by decide)).trans ((ev_other _ _ (by decide)).trans ((ev_other _ _ (by decide)).trans ((ev_other _ _ (by decide)).trans ((ev_other _ _ (by decide)).trans ((ev_other _ _ (by decide)).trans ((ev_other _ _ (by decide)).trans ((ev_other _ _ (by decide)).trans (ev_same _ _ _ (by simp only [sz_put]; omega))))))))))))))))) (ev_same _ _ _ (by simp only [sz_put]; omega)) wx) ?_
              show SeqI _ _ _ _ _ _ (Act.put _ (some 133) _) _
              refine sI_read (v := (.bool false)) rfl (fun _ _ _ h => absurd h.1 (fun e => nomatch e)) (wanted_rd rfl) hS (fun wx _ => run_pickF (.tmp 113) (.const (.bool true)) (.tmp 133) rfl ((ev_other _ _ (by decide)).trans ((ev_other _ _ (by decide)).trans ((ev_other _ _ (by decide)).trans ((ev_other _ _ (by decide)).trans ((ev_other _ _ (by decide)).trans ((ev_other _ _ (by decide)).trans ((ev_other _ _ (by decide)).trans ((ev_other _ _ (by decide)).trans ((ev_other _ _ (by decide)).trans ((ev_other _ _ (by decide)).trans ((ev_other _ _ (by decide)).trans ((ev_other _ _ (by decide)).trans ((ev_other _ _ (by decide)).trans ((ev_other _ _ (by decide)).trans ((ev_other _ _ (by decide)).trans ((ev_other _ _ (by decide)).trans ((ev_other _ _ (by decide)).trans ((ev_other _ _ (by decide)).trans ((ev_other _ _ (by decide)).trans ((ev_other _ _ (by decide)).trans (ev_same _ _ _ (by simp only [sz_put]; omega)))))))))))))))))))))) (ev_same _ _ _ (by simp only [sz_put]; omega)) wx) ?_
              show SeqI _ _ _ _ _ _ (Act.put _ (some 134) _) _
              exact sI_end ⟨rfl, below_drew (unhide KR), rfl⟩
            case rest =>
              rintro a' w8 ⟨k8, rfl⟩
              have K8 := hide k8
              clear k8
              go_frame
              go_wp2_with fail
              go_roundw
              case rel => exact ⟨i + 1, by omega, by go_num, unhide K8⟩
              case measure => simp [intOf] <;> omega
        · have e9 : i = kk := by omega
          subst e9
          have mb := (unhide MB7).below kr
          have x0 := mb.cell0; have x1 := mb.cell1; have x2 := mb.cell2
          have CX := hL b _ c1 L1 (s : Nat) wr (unhide HB) (by rw [unhide BQ]; exact unhide T1) ((unhide R7).below kr) (by unfold R64; omega)
          rw [unhide V5, unhide B0, unhide BSe, unhide EL1] at CX
          unfold busV at CX
          have KR := hide ((unhide K7).trans (kr.mono (unhide K7).size))
          clear mb kr
          go_wp2_with fail
          refine CX.mono ?_
          rintro e w8 ⟨a8, c8, L8, rfl, t8, n8, k8⟩
          have el8 : L8.length = i - 1 := by rw [t8.len, unhide V6]
          rw [el8]
          obtain ⟨j, rfl⟩ : ∃ j, i = j + 1 := ⟨i - 1, by omega⟩
          rw [show j + 1 - 1 = j by omega] at *
          obtain ⟨w9, e9, m9, k9, s9⟩ := bu_alloc w8 (loseS b (s : Nat)).now (loseS b (s : Nat)).ser (.slice a8 j c8)
          have y2 := m9.cell2
          have E9 := hide e9
          have K9 := hide ((unhide KR).trans ((k8.trans (k9.mono k8.size)).mono (unhide KR).size))
          rw [e9] at y2
          clear CX t8 n8 k8 e9 m9 k9 s9 el8 x0 x1 x2
          go_wp2_with fail
          rw [← unhide E9]
          go_ret
          exact ⟨rfl, unhide K9⟩

end Go.Proofs.Ythjeedlhlkggkab
