/- The contracts of package bus as landed at 4df4dde: Step, Lose, Turn (Send: BusSnP). -/
import Derived.Test.YthjeedlhlkggkabBusSnP
namespace Go.Proofs.Ythjeedlhlkggkab
open Go.RowKit

theorem stp_is {b : Bs} {t : Int} {w w' : World} (h : stepE b.now t = 0) {ao : Option Addr} {cap : Nat} {X : List Lp} {ca : Option Addr} {cc : Nat} {C : List Lp} (hx : X.map Lp.p = b.q.filter (fun p => !dueP t p)) (hc : C.map Lp.p = srtP (b.q.filter (dueP t))) {n m : Nat} (hn : n = X.length) (hm : m = C.length) (o : BNew w.heap.size w' ao cap X) (o2 : BNew w.heap.size w' ca cc C) (k : Below w.heap.size w w') :
    ∃ (ao' : Option Addr) (cap' : Nat) (L' : List Lp) (ao2 : Option Addr) (cap2 : Nat) (L2 : List Lp), Ending.returned (.tuple #[.agg #[.int .i64 t, .int .i64 b.ser, .slice ao n cap], .slice ca m cc, .int .i64 0]) = .returned (.tuple #[busV (stepS b t).now (stepS b t).ser (.slice ao' L'.length cap'), .slice ao2 L2.length cap2, .int .i64 (stepE b.now t : Nat)]) ∧ These L' (stepS b t).q ∧ BNew w.heap.size w' ao' cap' L' ∧ These L2 (comeS b t) ∧ BNew w.heap.size w' ao2 cap2 L2 ∧ Below w.heap.size w w' := by
  have hz : stepS b t = ⟨t, b.ser, X.map Lp.p⟩ := by unfold stepS; rw [if_pos h, hx]
  have hc' : comeS b t = C.map Lp.p := by unfold comeS; rw [if_pos h, hc]
  rw [hz, h, hc', hn, hm]
  exact ⟨ao, cap, X, ca, cc, C, rfl, rfl, o, rfl, o2, k⟩
theorem map_filt {M : List Lp} {q : List Pc} (h : M.map Lp.p = q) (f : Pc → Bool) : (M.filter fun c => f c.p).map Lp.p = q.filter f := by
  subst h
  induction M with
  | nil => rfl
  | cons c M ih =>
    rw [List.map_cons, List.filter_cons, List.filter_cons]
    split
    · rw [List.map_cons, ih]
    · exact ih
set_option maxHeartbeats 4000000 in
set_option maxRecDepth 100000 in
theorem busStep_ok : SpOK' 13 := by
  intro b ao cap L t w hb ht hr rt
  obtain ⟨N, S, q⟩ := b
  have hN : L.length ≤ 2513169434843 := by rw [ht.len]; exact hb.2.2.2
  obtain ⟨w1, e1, m1, m2, k1, s1⟩ := bu_pair w N S (.slice ao L.length cap)
  have C1 := busCopied_any ao cap L w1 (fun c hc => hb.2.2.1 c.p (ht.mem hc)) hN (hr.below k1)
  have x0 := m1.cell0; have x1 := m1.cell1; have x2 := m1.cell2
  have y0 := m2.cell0; have y1 := m2.cell1; have y2 := m2.cell2; have f0 := m2.free 0; have f1 := m2.free 1; have f2 := m2.free 2
  have E1 := hide e1; have M1 := hide m1; have M2 := hide m2; have K1 := hide k1; have S1 := hide s1; have HT := hide (show L.map Lp.p = q from ht)
  rw [e1] at x0 x1 x2 y0 y1 y2 f0 f1 f2
  clear e1 m1 m2 k1 s1 hb ht hr
  unfold busV
  dsimp only
  go_enter Try.func13, Try.ntmps13
  by_cases h1 : t < N
  · go_wp2_with fail
    rw [← unhide E1]
    have p0 := (unhide M2).cell0; have p1 := (unhide M2).cell1; have p2 := (unhide M2).cell2
    refine bodyPost_ret (v := .tuple #[.agg #[.int .i64 0, .int .i64 0, .slice none 0 0], .slice none 0 0, .int .i64 3]) (by simp [results, Try.results13, go_sem, p0, p1, p2]) rfl ?_
    exact stp_no (b := ⟨N, S, q⟩) (by unfold stepE; dsimp only; rw [if_pos (by omega)]) (unhide K1)
  · by_cases h2 : 1099511627776 < t
    · go_wp2_with fail
      rw [← unhide E1]
      have p0 := (unhide M2).cell0; have p1 := (unhide M2).cell1; have p2 := (unhide M2).cell2
      refine bodyPost_ret (v := .tuple #[.agg #[.int .i64 0, .int .i64 0, .slice none 0 0], .slice none 0 0, .int .i64 3]) (by simp [results, Try.results13, go_sem, p0, p1, p2]) rfl ?_
      exact stp_no (b := ⟨N, S, q⟩) (by unfold stepE; dsimp only; rw [if_pos (by omega)]) (unhide K1)
    · have SE := hide (show stepE N t = 0 by unfold stepE; rw [if_neg (by omega)])
      go_wp2_with fail
      rw [← unhide E1]
      clear x0 x1 x2 y0 y1 y2 f0 f1 f2
      refine C1.mono ?_
      rintro e w2 ⟨va, vc, M, rfl, tM, oM, k2⟩
      clear C1
      have hNM : M.length ≤ 2513169434843 := by rw [show M.length = (M.map Lp.p).length by simp, tM]; simp; omega
      have C2 := busParted_any w1.heap.size va vc M t w2 oM.1 hNM
      have TM := hide tM; have OM := hide oM; have K2 := hide k2
      clear tM oM k2
      go_wp2_with fail
      refine C2.mono ?_
      rintro e w3 ⟨vC, vW, rfl, hP⟩
      clear C2
      obtain ⟨ca, cc, rfl, hcc⟩ := ownS_slice hP.1
      obtain ⟨wa, wc, rfl, hwc⟩ := ownS_slice hP.2.1
      have hNC : (M.filter fun c => dueP t c.p).length ≤ 2513169434843 := Nat.le_trans (List.length_filter_le ..) hNM
      have C3 := sortStable_any w3 w2.heap.size _ _ hP.1 hNC
      obtain ⟨C, eC⟩ : ∃ C, C = M.filter fun c => dueP t c.p := ⟨_, rfl⟩
      obtain ⟨X, eX⟩ : ∃ X, X = M.filter fun c => !dueP t c.p := ⟨_, rfl⟩
      rw [← eC] at hP C3 hcc hNC ⊢
      rw [← eX] at hP hwc ⊢
      have EC := hide eC; have EX := hide eX; have HP := hide hP
      clear eC eX hP hcc hwc
      go_wp2_with fail
      refine C3.mono ?_
      rintro e w4 ⟨rfl, L', tL, mL, lL, rL, hk⟩
      clear C3
      have hp := unhide HP
      have s1 := unhide S1
      have kk2 := (unhide K2).size
      have kk3 := hp.2.2.2.size
      have B3 : Below w.heap.size w w3 := (unhide K1).trans (((unhide K2).mono (by omega)).trans (hp.2.2.2.mono (by omega)))
      have OB3 : ∀ c, c ∈ M → OwnB w3 w1.heap.size c := fun c hc => ((unhide OM).2.1 c hc).below hp.2.2.2
      have BX3 := ((unhide M1).below (unhide K2)).below hp.2.2.2
      have BR3 := ((unhide M2).below (unhide K2)).below hp.2.2.2
      have Z : BuAt w4 w.heap.size N S (.slice ao L.length cap) ∧ BuAt w4 (w.heap.size + 1) 0 0 (.slice none 0 0) ∧ RowP w4 w2.heap.size (.slice wa X.length wc) X ∧ (∀ c, c ∈ M → OwnB w4 w1.heap.size c) ∧ Below w.heap.size w w4 := by
        rcases hk with ⟨_, rfl⟩ | ⟨g, hg, hk⟩
        · exact ⟨BX3, BR3, hp.2.1, OB3, B3⟩
        · have hgl := (hp.1.lt g hg)
          refine ⟨BX3.kept hk (by omega), BR3.kept hk (by omega), ownS_kept hp.2.1 hk (fun e => hp.2.2.1 g hg e), fun c hc => ownS_kept (OB3 c hc) hk (fun e => ?_), below_of_kept B3 hk (by omega) B3.size⟩
          obtain ⟨u1, h1⟩ := ownS_type (OB3 c hc) e
          obtain ⟨u2, h2⟩ := ownS_type hp.1 hg
          rw [h1] at h2; cases h2
      obtain ⟨BX4, BR4, RX4, OB4, B4⟩ := Z
      have z1 := BX4.cell1
      have y0 := BR4.cell0; have y1 := BR4.cell1; have y2 := BR4.cell2; have f0 := BR4.free 0; have f1 := BR4.free 1; have f2 := BR4.free 2
      obtain ⟨w5, e5, m5, k5, z5⟩ := BR4.put t S (.slice wa X.length wc)
      have q0 := m5.cell0; have q1 := m5.cell1; have q2 := m5.cell2
      have OB5 : ∀ c, c ∈ M → OwnB w5 w1.heap.size c := fun c hc => (OB4 c hc).otherB BR4 k5
      have N1 := hide (show BNew w.heap.size w5 wa wc X from RowP.new (RX4.otherB BR4 k5) (C := w1.heap.size) (fun c hc => OB5 c (by rw [unhide EX] at hc; exact (List.mem_filter.1 hc).1)) (by omega) (by omega))
      rw [← lL] at rL ⊢
      have N2 := hide (show BNew w.heap.size w5 ca cc L' from RowP.new (RowP.otherB rL BR4 k5) (C := w1.heap.size) (fun c hc => OB5 c (by have hc2 := mL c hc; rw [unhide EC] at hc2; exact (List.mem_filter.1 hc2).1)) (by omega) (by omega))
      have K5 := hide (below_of_kept B4 k5 (by omega) B4.size)
      have E5 := hide e5
      have TX := hide (show X.map Lp.p = q.filter (fun p => !dueP t p) by rw [unhide EX]; exact map_filt ((unhide TM).trans (unhide HT)) (fun p => !dueP t p))
      have TC := hide (show L'.map Lp.p = srtP (q.filter (dueP t)) by rw [tL, unhide EC, map_filt ((unhide TM).trans (unhide HT)) (dueP t)])
      clear BX4 BR4 RX4 OB4 B4 e5 m5 k5 z5 OB5 hp B3 OB3 BX3 BR3 hk tL mL lL rL s1 kk2 kk3
      go_wp2_with fail
      rw [← unhide E5]
      refine bodyPost_ret (v := .tuple #[.agg #[.int .i64 t, .int .i64 S, .slice wa X.length wc], .slice ca L'.length cc, .int .i64 0]) (by simp [results, Try.results13, go_sem, q0, q1, q2]) rfl ?_
      exact stp_is (b := ⟨N, S, q⟩) (unhide SE) (unhide TX) (unhide TC) rfl rfl (unhide N1) (unhide N2) (unhide K5)

set_option maxHeartbeats 4000000 in
set_option maxRecDepth 100000 in
theorem busLose_ok : LoOK 9 := by
  intro b ao cap L s w hb ht hr rs
  obtain ⟨N, S, q⟩ := b
  have hN : L.length ≤ 2513169434843 := by rw [ht.len]; exact hb.2.2.2
  have OK := hide (show ∀ c, c ∈ L → PcOK c.p from fun c hc => hb.2.2.1 c.p (ht.mem hc))
  obtain ⟨w1, e1, m1, m2, k1, s1⟩ := bu_pair w N S (.slice ao L.length cap)
  have C1 := busFind_any ao cap L s w1 (hr.below k1).1 hN
  rw [show L.map Lp.p = q from ht] at C1
  have x2 := m1.cell2
  have E1 := hide e1; have M1 := hide m1; have M2 := hide m2; have K1 := hide k1; have S1 := hide s1; have HT := hide (show L.map Lp.p = q from ht); have HR := hide (hr.below k1)
  have LN := hide (show L.length = q.length from ht.len)
  rw [e1] at x2
  clear e1 m1 m2 k1 s1 hb ht hr
  unfold busV
  dsimp only
  go_enter Try.func9, Try.ntmps9
  go_wp2_with fail
  rw [← unhide E1]
  clear x2
  refine C1.mono ?_
  rintro e w2 ⟨rfl, k2⟩
  clear C1
  have BX := (unhide M1).below k2; have BR := (unhide M2).below k2
  have KB := (unhide K1).trans (k2.mono (by have := unhide S1; omega))
  by_cases hf : fsP s q < q.length
  · obtain ⟨i, ei⟩ : ∃ i, i = fsP s q := ⟨_, rfl⟩
    have hz : fdZ s q = (i : Int) := by unfold fdZ; rw [if_pos hf, ei]
    rw [hz]
    have x2 := BX.cell2
    have C2 := busCopied_any ao cap L w2 (unhide OK) hN ((unhide HR).below k2)
    have hiL : i < L.length := by rw [unhide LN, ei]; exact hf
    have EI := hide ei; have BX2 := hide BX; have BR2 := hide BR; have KB2 := hide KB; have HF := hide hf
    have Z2 := hide (show w.heap.size + 1 + 1 ≤ w2.heap.size by have := unhide S1; have := k2.size; omega)
    clear ei BX BR KB hz k2 hf
    go_wp2_with fail
    refine C2.mono ?_
    rintro e w3 ⟨va, vc, M, rfl, tM, oM, k3⟩
    clear C2 x2
    have eM : M.length = L.length := by rw [← List.length_map (f := Lp.p), tM, List.length_map]
    obtain ⟨g, rfl⟩ := own_some oM.1 (by omega)
    have C3 := delete_any w2.heap.size g vc i M w3 oM.1 (by omega) (by omega)
    rw [show ((i + 1 : Nat) : Int) = (i : Int) + 1 by omega] at C3
    have TM := hide tM; have OM := hide oM; have K3 := hide k3; have EM := hide eM
    have him : i < M.length := by omega
    have hMN : M.length ≤ 2513169434843 := by omega
    clear tM oM k3 eM
    go_wp2_with fail
    refine C3.mono ?_
    rintro e w4 ⟨rfl, r4, k4⟩
    clear C3
    have z2 := unhide Z2
    have hg := ((unhide OM).1.lt g rfl)
    have BX4 := ((unhide BX2).below (unhide K3)).kept k4 (by omega)
    have BR4 := ((unhide BR2).below (unhide K3)).kept k4 (by omega)
    have KB3 := (unhide KB2).trans ((unhide K3).mono (by omega))
    have KB4 := below_of_kept KB3 k4 (by omega) KB3.size
    have O4 : OwnQ w4 w2.heap.size (.slice (some ⟨g, 0, none⟩) (M.length - 1) vc) (M.eraseIdx i) := by
      refine ⟨?_, fun c hc => ?_, (unhide OM).2.2.sublist (List.eraseIdx_sublist ..)⟩
      · exact r4
      · have ob := (unhide OM).2.1 c (List.mem_of_mem_eraseIdx hc)
        refine ownS_kept ob k4 (fun e => ?_)
        obtain ⟨u1, hu1⟩ := ownS_type ob e
        obtain ⟨u2, hu2⟩ := ownS_type (unhide OM).1 (show Value.ownBlock (.slice (some ⟨g, 0, none⟩) M.length vc) = some g from rfl)
        rw [hu1] at hu2; cases hu2
    have c2 := BX4.cell2; have fz := BX4.free 2
    obtain ⟨w5, e5, m5, k5, z5⟩ := BX4.put2 (.slice (some ⟨g, 0, none⟩) (M.length - 1) vc)
    have BR5 := BR4.kept k5 (by omega)
    have O5 := O4.bus BX4 k5
    have KB5 := below_of_kept KB4 k5 (by omega) KB4.size
    have v0 := m5.cell0; have v1 := m5.cell1; have v2 := m5.cell2
    have y0 := BR5.cell0; have y1 := BR5.cell1; have y2 := BR5.cell2; have f0 := BR5.free 0; have f1 := BR5.free 1; have f2 := BR5.free 2
    obtain ⟨w6, e6, m6, k6, z6⟩ := BR5.put N S (.slice (some ⟨g, 0, none⟩) (M.length - 1) vc)
    have q0 := m6.cell0; have q1 := m6.cell1; have q2 := m6.cell2
    have O6 := hide (O5.bus BR5 k6)
    have KB6 := hide (below_of_kept KB5 k6 (by omega) KB5.size)
    have E5 := hide e5; have E6 := hide e6
    rw [e5] at v0 v1 v2 y0 y1 y2 f0 f1 f2
    clear BX4 BR4 KB3 KB4 O4 e5 m5 k5 z5 BR5 O5 KB5 e6 m6 k6 z6 r4 k4 z2 hg
    go_wp2_with fail
    rw [← unhide E5, ← unhide E6]
    refine bodyPost_ret (v := .tuple #[.agg #[.int .i64 N, .int .i64 S, .slice (some ⟨g, 0, none⟩) (M.length - 1) vc], .int .i64 0]) (by simp [results, Try.results9, go_sem, q0, q1, q2]) rfl ?_
    have z2 := unhide Z2
    exact los_yes (b := ⟨N, S, q⟩) (unhide EI).symm (by rw [unhide EI]; exact unhide HF) (show These M q from (unhide TM).trans (unhide HT)) (unhide O6) (by rw [List.length_eraseIdx_of_lt him]) (by omega) (unhide KB6)
  · have hz : fdZ s q = -1 := by unfold fdZ; rw [if_neg hf]
    rw [hz]
    have y0 := BR.cell0; have y1 := BR.cell1; have y2 := BR.cell2; have f0 := BR.free 0; have f1 := BR.free 1; have f2 := BR.free 2
    obtain ⟨w8, e8, m8, k8, z8⟩ := BR.put 0 0 (.slice none 0 0)
    have q0 := m8.cell0; have q1 := m8.cell1; have q2 := m8.cell2
    have K8 := hide (below_of_kept KB k8 (by omega) KB.size)
    have E8 := hide e8; have HF := hide hf
    clear BX BR KB hz k2 hf e8 m8 k8 z8
    go_wp2_with fail
    rw [← unhide E8]
    refine bodyPost_ret (v := .tuple #[.agg #[.int .i64 0, .int .i64 0, .slice none 0 0], .int .i64 7]) (by simp [results, Try.results9, go_sem, q0, q1, q2]) rfl ?_
    exact los_no (b := ⟨N, S, q⟩) (unhide HF) (unhide K8)
set_option maxHeartbeats 4000000 in
set_option maxRecDepth 100000 in
theorem busTurn_ok : TuOK 8 := by
  intro b ao cap L s a m w hb ht hr rs ra rm
  obtain ⟨N, S, q⟩ := b
  have hN : L.length ≤ 2513169434843 := by rw [ht.len]; exact hb.2.2.2
  have OK := hide (show ∀ c, c ∈ L → PcOK c.p from fun c hc => hb.2.2.1 c.p (ht.mem hc))
  obtain ⟨w1, e1, m1, m2, k1, s1⟩ := bu_pair w N S (.slice ao L.length cap)
  have C1 := busFind_any ao cap L s w1 (hr.below k1).1 hN
  rw [show L.map Lp.p = q from ht] at C1
  have x2 := m1.cell2
  have E1 := hide e1; have M1 := hide m1; have M2 := hide m2; have K1 := hide k1; have S1 := hide s1; have HT := hide (show L.map Lp.p = q from ht); have HR := hide (hr.below k1)
  have LN := hide (show L.length = q.length from ht.len)
  rw [e1] at x2
  clear e1 m1 m2 k1 s1 hb ht hr
  unfold busV
  dsimp only
  go_enter Try.func8, Try.ntmps8
  go_wp2_with fail
  rw [← unhide E1]
  clear x2
  refine C1.mono ?_
  rintro e w2 ⟨rfl, k2⟩
  clear C1
  have BX := (unhide M1).below k2; have BR := (unhide M2).below k2
  have KB := (unhide K1).trans (k2.mono (by have := unhide S1; omega))
  have y0 := BR.cell0; have y1 := BR.cell1; have y2 := BR.cell2; have f0 := BR.free 0; have f1 := BR.free 1; have f2 := BR.free 2
  obtain ⟨w8, e8, m8, k8, z8⟩ := BR.put 0 0 (.slice none 0 0)
  have q0 := m8.cell0; have q1 := m8.cell1; have q2 := m8.cell2
  have K8 := hide (below_of_kept KB k8 (by omega) KB.size)
  have E8 := hide e8
  clear e8 m8 k8 z8
  by_cases hf : fsP s q < q.length
  · obtain ⟨i, ei⟩ : ∃ i, i = fsP s q := ⟨_, rfl⟩
    have hz : fdZ s q = (i : Int) := by unfold fdZ; rw [if_pos hf, ei]
    rw [hz]
    have x2 := BX.cell2
    have R2 := (unhide HR).below k2
    have C2 := busCopied_any ao cap L w2 (unhide OK) hN R2
    have hiL : i < L.length := by rw [unhide LN, ei]; exact hf
    have hc := List.getElem?_eq_getElem hiL
    obtain ⟨c, ec⟩ : ∃ c, c = L[i] := ⟨_, rfl⟩
    rw [← ec] at hc
    obtain ⟨x, o, rfl, hq⟩ := R2.1 (by omega)
    obtain ⟨p0, p1, p2, p3, p4⟩ := hq i c hc
    have po := unhide OK c (List.mem_of_getElem? hc)
    have QI := hide (show q[fsP s q]? = some c.p by rw [← ei, ← unhide HT, List.getElem?_map, hc]; rfl)
    have HC := hide hc
    obtain ⟨⟨fr, tt, du, se, ds⟩, ba, bc⟩ := c
    unfold lpV at p4
    dsimp only at p4 po QI
    have hds : ds.length ≤ 140737488351232 := po.2.2.2.2.2
    have PO := hide po
    have C3 := busWithin_any a ((ds.length : Int) - 1) w2
    have C4 := busWithin_any m 255 w2
    have EI := hide ei; have BX2 := hide BX; have BR2 := hide BR; have KB2 := hide KB
    have Z2 := hide (show w.heap.size + 1 + 1 ≤ w2.heap.size by have := unhide S1; have := k2.size; omega)
    have hiz : (i : Int) < (L.length : Int) := by omega
    clear ei BX BR KB hz k2 hf hc ec hq p0 p1 p2 p3 po R2
    by_cases h1 : 0 ≤ a ∧ a ≤ (ds.length : Int) - 1
    · rw [decide_eq_true h1] at C3
      have H1 := hide h1
      clear h1
      go_wp2_with fail
      refine C3.mono ?_
      rintro e wx ⟨rfl, ex⟩
      obtain rfl : w2 = wx := ex.symm
      clear C3 ex
      by_cases h2 : 0 ≤ m ∧ m ≤ 255
      · rw [decide_eq_true h2] at C4
        have H2 := hide h2
        clear h2
        go_wp2_with fail
        refine C4.mono ?_
        rintro e wx ⟨rfl, ex⟩
        obtain rfl : w2 = wx := ex.symm
        clear C4 ex
        go_wp2_with fail
        refine C2.mono ?_
        rintro e w3 ⟨va, vc, M, rfl, tM, oM, k3⟩
        clear C2 x2 p4 y0 y1 y2 f0 f1 f2 q0 q1 q2
        have eM : M.length = L.length := by rw [← List.length_map (f := Lp.p), tM, List.length_map]
        obtain ⟨gq, rfl⟩ := own_some oM.1 (by omega)
        have z2 := unhide Z2
        have BX3 := (unhide BX2).below k3
        have BR3 := (unhide BR2).below k3
        have KB3 := (unhide KB2).trans (k3.mono (by omega))
        have c2 := BX3.cell2; have fz := BX3.free 2
        obtain ⟨w4, e4, m4, k4, z4⟩ := BX3.put2 (.slice (some ⟨gq, 0, none⟩) M.length vc)
        have BR4 := BR3.kept k4 (by omega)
        have O4 := oM.bus BX3 k4
        have KB4 := below_of_kept KB3 k4 (by omega) KB3.size
        have hcM : M[i]? = some (M[i]'(by omega)) := List.getElem?_eq_getElem _
        obtain ⟨c, ec⟩ : ∃ c, c = M[i]'(by omega) := ⟨_, rfl⟩
        rw [← ec] at hcM
        have ecp : c.p = ⟨fr, tt, du, se, ds⟩ := by
          have h1 : (M.map Lp.p)[i]? = some c.p := by rw [List.getElem?_map, hcM]; rfl
          rw [tM, List.getElem?_map, unhide HC] at h1
          exact (Option.some.inj h1).symm
        obtain ⟨cp, ca, cc⟩ := c
        dsimp only at ecp
        subst ecp
        obtain ⟨A, rfl⟩ : ∃ A : Nat, a = (A : Int) := ⟨a.toNat, by have := (unhide H1).1; omega⟩
        obtain ⟨K, rfl⟩ : ∃ K : Nat, m = (K : Int) := ⟨m.toNat, by have := (unhide H2).1; omega⟩
        have hA : A < ds.length := by have := (unhide H1).2; omega
        have hK : K < 256 := by have := (unhide H2).2; omega
        have hB := O4.2.1 _ (List.mem_of_getElem? hcM)
        obtain ⟨gb, rfl⟩ := own_some hB (by show 0 < ds.length; omega)
        have vb : Vh 5 w4 gb ds.length cc (bF (gF ds)) := by
          obtain ⟨r, cap9, e, hb9, hV⟩ := Vh.of_owns (by show 1 ≤ ds.length; omega) hB
          unfold lpV at e
          cases e
          exact hV
        have zz1 := vb.cell hA; have zz2 := vb.free A
        unfold bF bV at zz1
        have hx : gF ds A < 256 := gF_lt (unhide PO).2.2.2.2.1 A
        have hxo := u8_xor_nat (gF ds A) K hx hK
        have cc2 := m4.cell2
        obtain ⟨x2, o2, ea2, hq2⟩ := O4.rd (by omega)
        cases ea2
        obtain ⟨_, _, _, _, q4⟩ := hq2 i _ hcM
        unfold lpV at q4
        dsimp only at q4
        simp only [Nat.zero_add] at q4
        have hgb : w2.heap.size ≤ gb := (hB.lt gb rfl).1
        have kz := kept_set w4 gb A (.int .u8 ((gF ds A ^^^ K : Nat) : Int))
        obtain ⟨w9, e9⟩ : ∃ w9, w9 = w4.setCell ⟨gb, A, none⟩ (.int .u8 ((gF ds A ^^^ K : Nat) : Int)) := ⟨_, rfl⟩
        have O9 := O4.turn (a := A) (m := K) hcM hA rfl
        rw [← e9] at O9 kz
        have r9 := BR4.kept kz (by omega)
        have m9 := m4.kept kz (by omega)
        have v0 := m9.cell0; have v1 := m9.cell1; have v2 := m9.cell2
        have yy0 := r9.cell0; have yy1 := r9.cell1; have yy2 := r9.cell2; have ff0 := r9.free 0; have ff1 := r9.free 1; have ff2 := r9.free 2
        obtain ⟨wb, eb, mb, kb, zb⟩ := r9.put N S (.slice (some ⟨gq, 0, none⟩) M.length vc)
        have qq0 := mb.cell0; have qq1 := mb.cell1; have qq2 := mb.cell2
        have OB := hide (O9.bus r9 kb)
        have K9 := below_of_kept KB4 kz (by omega) KB4.size
        have KBB := hide (below_of_kept K9 kb (by omega) K9.size)
        have E9 := hide e9; have EB := hide eb; have E4 := hide e4
        have TM := hide (show These M q from tM.trans (unhide HT))
        have TE := hide (show turnE ⟨N, S, q⟩ s (A : Int) (K : Int) = 0 by
          unfold turnE
          dsimp only
          rw [unhide QI]
          dsimp only
          rw [if_neg (by have := unhide H1; have := unhide H2; omega)])
        rw [e4] at cc2 q4 zz1 zz2
        rw [e9, e4] at v0 v1 v2 yy0 yy1 yy2 ff0 ff1 ff2
        have hA' : (A : Int) < (ds.length : Nat) := by omega
        have hiM : (i : Int) < (M.length : Int) := by omega
        have hMN : M.length ≤ 2513169434843 := by omega
        clear hq2 kz O9 r9 m9 e9 mb kb zb eb K9 hB vb BX3 BR3 KB3 e4 m4 k4 z4 BR4 O4 KB4 hcM ec tM oM k3 eM z2 hiL hiz
        go_wp2_with fail
        rw [← unhide E4, ← unhide E9, ← unhide EB]
        refine bodyPost_ret (v := .tuple #[.agg #[.int .i64 N, .int .i64 S, .slice (some ⟨gq, 0, none⟩) M.length vc], .int .i64 0]) (by simp [results, Try.results8, go_sem, qq0, qq1, qq2]) rfl ?_
        have z2 := unhide Z2
        exact tur_yes (b := ⟨N, S, q⟩) (unhide TE) (unhide EI).symm (unhide TM) (unhide OB) rfl (by omega) (unhide KBB)
      · rw [decide_eq_false h2] at C4
        have H2 := hide h2
        clear h2
        go_wp2_with fail
        refine C4.mono ?_
        rintro e wx ⟨rfl, ex⟩
        obtain rfl : w2 = wx := ex.symm
        clear C4 ex
        go_wp2_with fail
        rw [← unhide E8]
        refine bodyPost_ret (v := .tuple #[.agg #[.int .i64 0, .int .i64 0, .slice none 0 0], .int .i64 3]) (by simp [results, Try.results8, go_sem, q0, q1, q2]) rfl ?_
        refine tur_no (b := ⟨N, S, q⟩) (e := 3) ?_ (by decide) (unhide K8)
        unfold turnE
        dsimp only
        rw [unhide QI]
        dsimp only
        rw [if_pos (by have := unhide H2; omega)]
    · rw [decide_eq_false h1] at C3
      have H1 := hide h1
      clear h1
      go_wp2_with fail
      refine C3.mono ?_
      rintro e wx ⟨rfl, ex⟩
      obtain rfl : w2 = wx := ex.symm
      clear C3 ex
      go_wp2_with fail
      rw [← unhide E8]
      refine bodyPost_ret (v := .tuple #[.agg #[.int .i64 0, .int .i64 0, .slice none 0 0], .int .i64 3]) (by simp [results, Try.results8, go_sem, q0, q1, q2]) rfl ?_
      refine tur_no (b := ⟨N, S, q⟩) (e := 3) ?_ (by decide) (unhide K8)
      unfold turnE
      dsimp only
      rw [unhide QI]
      dsimp only
      rw [if_pos (by have := unhide H1; omega)]
  · have hz : fdZ s q = -1 := by unfold fdZ; rw [if_neg hf]
    rw [hz]
    have HF := hide hf
    clear BX BR KB hz k2 hf
    go_wp2_with fail
    rw [← unhide E8]
    refine bodyPost_ret (v := .tuple #[.agg #[.int .i64 0, .int .i64 0, .slice none 0 0], .int .i64 7]) (by simp [results, Try.results8, go_sem, q0, q1, q2]) rfl ?_
    refine tur_no (b := ⟨N, S, q⟩) (e := 7) ?_ (by decide) (unhide K8)
    unfold turnE
    dsimp only
    rw [List.getElem?_eq_none (by have := unhide HF; omega)]

end Go.Proofs.Ythjeedlhlkggkab
