/- Joined: BusRmy, BusKp. -/
import Derived.Test.YthjeedlhlkggkabBusCut
import Derived.Test.YthjeedlhlkggkabNear11
import Derived.Test.YthjeedlhlkggkabRoomB
import Derived.Test.YthjeedlhlkggkabBusOps
namespace Go.Proofs.Ythjeedlhlkggkab
open Go.RowKit

/-- The mark behind the parcels. -/
def markP : Lp := ⟨⟨0, 0, 0, -4711, []⟩, none, 0⟩
/-- A parcel's bytes with two marks behind them. -/
def RbP (w : World) (B : Nat) (d : Lp) : Prop := ∃ x, d.ao = some ⟨x, 0, none⟩ ∧ B ≤ x ∧ Vh 5 w x (d.p.ds.length + 2) d.cap (bF (rbF (gF d.p.ds) d.p.ds.length))
theorem RbP.below {w w' : World} {B : Nat} {d : Lp} (h : RbP w B d) (k : Below w.heap.size w w') : RbP w' B d := by
  obtain ⟨x, e, hb, hv⟩ := h
  exact ⟨x, e, hb, hv.below k⟩
theorem RbP.grown {w w' : World} {B C n : Nat} {d : Lp} {v : Value} {xs : List Value} (h : RbP w B d) (o : w.ownsRow C 32 5 v n xs) (k : w.grownBy w' v.ownBlock) : RbP w' B d := by
  obtain ⟨x, e, hb, hv⟩ := h
  refine ⟨x, e, hb, hv.same (k.block x hv.lt (fun e => ?_))⟩
  obtain ⟨cur, hc⟩ := ownS_type o e.symm
  obtain ⟨cur2, hc2, _⟩ := hv
  rw [hc] at hc2
  cases hc2
theorem RbP.bus {w w' : World} {B b : Nat} {d : Lp} {N S : Int} {r : Value} (h : RbP w B d) (m : BuAt w b N S r) (k : Kept b w w') : RbP w' B d := by
  obtain ⟨x, e, hb, hv⟩ := h
  refine ⟨x, e, hb, hv.same (k.block x hv.lt (fun e => ?_))⟩
  obtain ⟨cur2, hc2, _⟩ := hv
  unfold BuAt at m
  rw [← e, hc2] at m
  cases m
/-- A bus with marked room. -/
def RoB (w : World) (B r n cq : Nat) (M : List Lp) : Prop := M.length = n ∧ RowP w B (.slice (some ⟨r, 0, none⟩) (n + 1) cq) (M ++ [markP]) ∧ ∀ d, d ∈ M → RbP w B d
theorem RoB.below {w w' : World} {B r n cq : Nat} {M : List Lp} (h : RoB w B r n cq M) (k : Below w.heap.size w w') : RoB w' B r n cq M := ⟨h.1, ownS_below h.2.1 k, fun d hd => (h.2.2 d hd).below k⟩
theorem RoB.at {w : World} {B r n cq : Nat} {M : List Lp} (h : RoB w B r n cq M) {i : Nat} {d : Lp} (hi : M[i]? = some d) : PcAt w r (0 + i * 5) d.p (lpV d) :=
  PcAt.of (fun k hk u hu => by
    have hlt := (List.getElem?_eq_some_iff.1 hi).1
    have c1 := h.2.1.cells (g := r) rfl (i * 5 + k) u (by rw [lpL_at (by rw [List.getElem?_append_left hlt]; exact hi) hk]; exact hu)
    rw [Addr.add_lit, ← Nat.add_assoc] at c1
    exact c1)
theorem RoB.mark {w : World} {B r n cq : Nat} {M : List Lp} (h : RoB w B r n cq M) : w.cell? ⟨r, 0 + n * 5 + 3, none⟩ = some (.int .i64 (-4711)) := by
  have hm : (M ++ [markP])[n]? = some markP := by rw [List.getElem?_append_right (by rw [h.1]; exact Nat.le_refl _), h.1, Nat.sub_self]; rfl
  have c1 := h.2.1.cells (g := r) rfl (n * 5 + 3) (.int .i64 (-4711)) (by rw [lpL_at hm (by omega)]; rfl)
  rw [Addr.add_lit, ← Nat.add_assoc] at c1
  exact c1
theorem RoB.rd {w : World} {B r n cq : Nat} {M : List Lp} (h : RoB w B r n cq M) : BRd w (some ⟨r, 0, none⟩) cq M := by
  refine ⟨fun _ => ⟨r, 0, rfl, fun i d hi => h.at hi⟩, ?_, fun d hd => ?_⟩
  · rcases h.2.1.2 with ⟨e, _⟩ | ⟨g, cap, cur, e, _, _, hc, _⟩
    · cases e
    · injection e with e1 e2 e3
      rw [List.length_append] at hc
      have : M.length + 1 ≤ cap := hc
      omega
  · obtain ⟨x, e, _, hv⟩ := h.2.2 d hd
    have hf := hv.fit
    refine ⟨?_, by omega⟩
    rw [e]
    exact Or.inr ⟨_, rfl, fun i hi => by
      rw [Addr.add_lit, Nat.zero_add, hv.cell (by omega)]
      unfold bF
      rw [rbF_low hi]⟩
theorem run_makeP (k : Nat) (hk : k ≤ 2513169434845) (w : World) : ∃ w', (Instr.makeSlice 23 (.int .i64 0) (.int .i64 (k : Nat))).run Try.prog w = .ok (.slice (some ⟨w.heap.size, 0, none⟩) 0 k) w' ∧ RowP w' w.heap.size (.slice (some ⟨w.heap.size, 0, none⟩) 0 k) [] ∧ Below w.heap.size w w' := by
  obtain ⟨i0, hi, hz0, hz1, hz2⟩ := info_parts infoPc
  have hrun := run_make (P := Try.prog) w 23 32 i0 (.agg #[.int .i64 0, .int .i64 0, .int .i64 0, .int .i64 0, .slice none 0 0]) Try.underlying23 hi hz0 .i64 .i64 0 k (by omega) (by omega) (by rw [hz2]; omega) (by omega)
  rw [hz1] at hrun
  simp only [Int.toNat_natCast, Int.toNat_zero] at hrun
  refine ⟨_, hrun, ⟨rfl, Or.inr ⟨w.heap.size, k, _, rfl, Nat.le_refl _, heap_alloc_new _ _, by show 0 ≤ k; omega, by unfold maxLen; omega, size_madeCells _ _, rfl⟩⟩, al_below _ _⟩

/-- What lies in memory while room is made. -/
def RyI (w : World) (N S : Int) (u : Value) (v : Value) (M : List Lp) (W : World) : Prop :=
  BuAt W w.heap.size N S u ∧ BuAt W (w.heap.size + 1) 0 0 (.slice none 0 0) ∧ RowP W (w.heap.size + 1 + 1) v M ∧ (∀ d, d ∈ M → RbP W (w.heap.size + 1 + 1) d) ∧ Below w.heap.size w W ∧ w.heap.size + 1 + 1 ≤ W.heap.size
theorem RyI.below {w W W' : World} {N S : Int} {u v : Value} {M : List Lp} (h : RyI w N S u v M W) (k : Below W.heap.size W W') : RyI w N S u v M W' :=
  ⟨h.1.below k, h.2.1.below k, ownS_below h.2.2.1 k, fun d hd => (h.2.2.2.1 d hd).below k, h.2.2.2.2.1.trans (k.mono (by have := h.2.2.2.2.2; omega)), Nat.le_trans h.2.2.2.2.2 k.size⟩
theorem ry_pair (w : World) (N S : Int) (u : Value) : ∃ w1, w1 = ((w.alloc (.cells #[.int .i64 N, .int .i64 S, u] 25)).alloc (.cells #[.int .i64 0, .int .i64 0, .slice none 0 0] 25)) ∧ BuAt w1 w.heap.size N S u ∧ BuAt w1 (w.heap.size + 1) 0 0 (.slice none 0 0) ∧ Below w.heap.size w w1 ∧ w1.heap.size = w.heap.size + 1 + 1 := by
  obtain ⟨w1, e1, m1, k1, s1⟩ := bu_alloc w N S u
  obtain ⟨w2, e2, m2, k2, s2⟩ := bu_alloc w1 0 0 (.slice none 0 0)
  subst e1
  rw [s1] at m2
  exact ⟨w2, e2, m1.below k2, m2, k1.trans (k2.mono (by omega)), by omega⟩
theorem PvAt.cells' {w : World} {b : Nat} {p : Pc} {v : Value} (h : PvAt w b p v) : w.cell? ⟨b, 0, none⟩ = some (.int .i64 p.fr) ∧ w.cell? ⟨b, 1, none⟩ = some (.int .i64 p.to) ∧ w.cell? ⟨b, 2, none⟩ = some (.int .i64 p.du) ∧ w.cell? ⟨b, 3, none⟩ = some (.int .i64 p.se) ∧ w.cell? ⟨b, 4, none⟩ = some v := h.pc.zero

set_option maxHeartbeats 4000000 in
theorem roomyBus_any (N S : Int) (q : List Pc) (ao : Option Addr) (cap : Nat) (L : List Lp) (w : World) (hok : ∀ p, p ∈ q → PcOK p) (ht : These L q) (hr : BRd w ao cap L) (hl : L.length ≤ 100) :
    Calls Try.prog 10 #[busV N S (.slice ao L.length cap)] w fun e w' => ∃ r cq M, e = .returned (busV N S (.slice (some ⟨r, 0, none⟩) L.length cq)) ∧ These M q ∧ RoB w' w.heap.size r L.length cq M ∧ Below w.heap.size w w' := by
  obtain ⟨w1, e1, m1, m2, k1, s1⟩ := ry_pair w N S (.slice ao L.length cap)
  obtain ⟨w2, hmk, o2, k2⟩ := run_makeP (L.length + 2) (by omega) w1
  have x2 := m1.cell2; have y2 := (m1.below k2).cell2
  have H2 := hide (show RyI w N S (.slice ao L.length cap) (.slice (some ⟨w1.heap.size, 0, none⟩) 0 (L.length + 2)) [] w2 from ⟨m1.below k2, m2.below k2, ownS_base o2 (by omega), fun _ h => absurd h (by simp), k1.trans (k2.mono k1.size), by have := k2.size; omega⟩)
  have E1 := hide e1; have HT := hide ht; have HR := hide hr; have OK := hide hok
  rw [show ((L.length + 2 : Nat) : Int) = (L.length : Nat) + 2 by omega] at hmk
  have HMK := hide hmk
  rw [e1] at x2
  clear e1 m1 m2 k1 s1 o2 k2 ht hr hok hmk
  unfold busV
  go_enter Try.func10, Try.ntmps10
  go_wp2_with fail
  rw [← unhide E1, unhide HMK]
  go_wp2_with fail
  clear x2 y2
  go_loopw [3, 14] (fun qs is wr => ∃ (i : Nat) (v' : Value) (M : List Lp), i ≤ L.length ∧ qs = v' ∧ is = .int .i64 (i : Nat) ∧ M.map Lp.p = (L.take i).map Lp.p ∧ RyI w N S (.slice ao L.length cap) v' M wr) (fun _ is _ => L.length - (intOf is).toNat)
  case atStart => exact ⟨0, _, [], Nat.zero_le _, rfl, rfl, rfl, unhide H2⟩
  case round =>
    obtain ⟨i, v', M, hi, rfl, rfl, hM, hI⟩ := hrel
    rename World => wr
    obtain ⟨va, vc, rfl, hvc⟩ := ownS_slice hI.2.2.1
    by_cases hin : i < L.length
    · have hc := List.getElem?_eq_getElem hin
      obtain ⟨c, ec⟩ : ∃ c, c = L[i] := ⟨_, rfl⟩
      rw [← ec] at hc
      have R := (unhide HR).below hI.2.2.2.2.1
      obtain ⟨x, o, rfl, hq⟩ := R.1 (by omega)
      obtain ⟨p0, p1, p2, p3, p4⟩ := hq i c hc
      have pr := R.2.2 c (List.mem_of_getElem? hc)
      have po := unhide OK c.p ((unhide HT).mem (List.mem_of_getElem? hc))
      have TK := hide (show (L.take (i + 1)).map Lp.p = (L.take i).map Lp.p ++ [c.p] by rw [List.take_add_one, hc]; simp)
      obtain ⟨⟨fr, to, du, se, ds⟩, ba, bc⟩ := c
      unfold lpV at p4
      dsimp only at p0 p1 p2 p3 p4 pr po TK
      obtain ⟨w2, e2, m2, k2, s2⟩ := pv_alloc wr ⟨fr, to, du, se, ds⟩ (.slice ba ds.length bc)
      dsimp only at e2
      have d4 := m2.cells'.2.2.2.2
      rw [e2] at d4
      have hN2 : M.length ≤ 100 := by rw [show M.length = (M.map Lp.p).length by simp, hM]; simp; omega
      have hds : ds.length ≤ 140737488351232 := po.2.2.2.2.2
      have CB := roomyB_any ba ds.length bc (gF ds) w2 hds (pr.1.below k2)
      have HH := hide (hI.below k2); have M2 := hide m2; have E2 := hide e2; have Z2 := hide s2; have HM := hide hM; have HZ := hide hI.2.2.2.2.2; have OLD := hide hI.2.2.1
      clear hc ec R hq pr po e2 k2 m2 hM hI s2
      go_wp2_with fail
      rw [← unhide E2]
      refine CB.mono ?_
      rintro e w3 ⟨r3, c3, rfl, hr3, v3, k3⟩
      have m3 := (unhide M2).below k3
      have H3 := (unhide HH).below k3
      have g4 := m3.cells'.2.2.2.2; have fz := m3.free 4
      obtain ⟨w4, e4, m4, k4, s4⟩ := m3.put4 (.slice (some ⟨r3, 0, none⟩) ds.length c3)
      have hz := unhide HZ
      have z2 := unhide Z2
      have v4 : Vh 5 w4 r3 (ds.length + 2) c3 (bF (rbF (gF ds) ds.length)) := v3.kept k4 (by omega)
      have nz : ∀ g, Value.ownBlock (.slice va M.length vc) = some g → g ≠ wr.heap.size := fun g hg e => by
        have := ((unhide OLD).lt g hg).2
        omega
      have H4 : RyI w N S (.slice (some ⟨x, o, none⟩) L.length cap) (.slice va M.length vc) M w4 :=
        ⟨H3.1.kept k4 (by omega), H3.2.1.kept k4 (by omega), ownS_kept H3.2.2.1 k4 (fun e => nz _ e rfl), fun d hd => (by
          obtain ⟨y, ey, hy1, hy2⟩ := H3.2.2.2.1 d hd
          refine ⟨y, ey, hy1, hy2.same (k4.block y hy2.lt (fun e => ?_))⟩
          obtain ⟨cc, hcc, _⟩ := hy2
          have hm := m3
          unfold PvAt at hm
          rw [e, hm] at hcc
          cases hcc), below_of_kept H3.2.2.2.2.1 k4 (by omega) H3.2.2.2.2.1.size, by have := H3.2.2.2.2.2; omega⟩
      obtain ⟨q0, q1, q2, q3, q4⟩ := m4.cells'
      obtain ⟨w5, e5, m5, k5, s5⟩ := pv_alloc w4 ⟨fr, to, du, se, ds⟩ (.slice (some ⟨r3, 0, none⟩) ds.length c3)
      rw [s4] at m5
      dsimp only at e5 q0 q1 q2 q3
      have H5 := hide (H4.below k5); have P5 := hide m5.pc; have V5 := hide (v4.below k5)
      have E5 := hide e5; have E4 := hide e4
      have HR3 := hide (show w.heap.size + 1 + 1 ≤ r3 by omega)
      rw [e4] at q0 q1 q2 q3 q4
      clear m3 H3 e4 m4 k4 s4 H4 e5 m5 k5 s5 p0 p1 p2 p3 p4 d4 HH M2 CB v3 v4 k3 nz hr3
      go_wp2_with (at_builtin; refine wpList_joinR _ rfl _ _ rfl (w.heap.size + 1 + 1) (by rw [← unhide E4, ← unhide E5]; exact (unhide H5).2.2.2.2.2) _ M rfl (by rw [← unhide E4, ← unhide E5]; exact (unhide H5).2.2.1) w3.heap.size ⟨⟨fr, to, du, se, ds⟩, some ⟨r3, 0, none⟩, c3⟩ rfl (by rw [← unhide E4, ← unhide E5]; exact unhide P5) (by omega) ?_)
      intro v6 w6 o6 g6
      rw [← unhide E4, ← unhide E5] at g6
      have h5 := unhide H5
      have own5 := h5.2.2.1
      have kb : Below (w.heap.size + 1 + 1) w5 w6 := ⟨g6.os, g6.tape, g6.output, g6.size, fun k hk => g6.block k (by have := h5.2.2.2.2.2; omega) (fun e => by have := (own5.lt k e.symm).1; omega)⟩
      have H7 := hide (show RyI w N S (.slice (some ⟨x, o, none⟩) L.length cap) v6 (M ++ [⟨⟨fr, to, du, se, ds⟩, some ⟨r3, 0, none⟩, c3⟩]) w6 from
        ⟨h5.1.under kb (by omega), h5.2.1.under kb (by omega), o6, fun d hd => (by
          rcases List.mem_append.1 hd with hd | hd
          · exact (h5.2.2.2.1 d hd).grown own5 g6
          · simp at hd; subst hd
            exact RbP.grown ⟨r3, rfl, unhide HR3, unhide V5⟩ own5 g6), h5.2.2.2.2.1.trans (kb.mono (by omega)), Nat.le_trans h5.2.2.2.2.2 g6.size⟩)
      clear o6 g6 h5 own5 kb q0 q1 q2 q3 q4 g4 fz
      go_wp2_with fail
      go_roundw
      case rel => exact ⟨i + 1, v6, _, by omega, rfl, by go_num, by rw [unhide TK, List.map_append, unhide HM]; rfl, unhide H7⟩
      case measure => simp [intOf] <;> omega
    · have e9 : i = L.length := by omega
      subst e9
      have hML : M.length = L.length := by rw [show M.length = (M.map Lp.p).length by simp, hM, List.take_length, List.length_map]
      obtain ⟨w5, e5, m5, k5, s5⟩ := pv_alloc wr ⟨0, 0, 0, -4711, []⟩ (.slice none 0 0)
      dsimp only at e5
      have H5 := hide (hI.below k5); have P5 := hide m5.pc; have E5 := hide e5
      have TM := hide (show These M q by unfold These; rw [hM, List.take_length]; exact unhide HT)
      have HML := hide hML
      clear hI hM e5 m5 k5 s5 hML
      go_wp2_with (at_builtin; refine wpList_joinR _ rfl _ _ rfl (w.heap.size + 1 + 1) (by rw [← unhide E5]; exact (unhide H5).2.2.2.2.2) _ M rfl (by rw [← unhide E5]; exact (unhide H5).2.2.1) wr.heap.size markP rfl (by rw [← unhide E5]; exact unhide P5) (by have := unhide HML; omega) ?_)
      intro v6 w6 o6 g6
      rw [← unhide E5] at g6
      have h5 := unhide H5
      have own5 := h5.2.2.1
      have kb : Below (w.heap.size + 1 + 1) w5 w6 := ⟨g6.os, g6.tape, g6.output, g6.size, fun k hk => g6.block k (by have := h5.2.2.2.2.2; omega) (fun e => by have := (own5.lt k e.symm).1; omega)⟩
      obtain ⟨a6, c6, rfl, hc6⟩ := ownS_slice o6
      obtain ⟨r6, rfl⟩ : ∃ r6, a6 = some ⟨r6, 0, none⟩ := by
        rcases o6.2 with ⟨_, h0⟩ | ⟨r6, c7, cur, e, _⟩
        · simp at h0
        · injection e with e1; exact ⟨r6, e1⟩
      have el : (M ++ [markP]).length = L.length + 1 := by rw [List.length_append, unhide HML]; rfl
      rw [el] at o6 hc6 ⊢
      have b6 := h5.1.under kb (by omega)
      have y2 := b6.cell2; have f2 := b6.free 2
      obtain ⟨w7, e7, m7, k7, s7⟩ := b6.put2 (.slice (some ⟨r6, 0, none⟩) L.length c6)
      have z0 := m7.cell0; have z1 := m7.cell1; have z2 := m7.cell2
      have r7 := (h5.2.1.under kb (by omega)).kept k7 (by omega)
      have v0 := r7.cell0; have v1 := r7.cell1; have v2 := r7.cell2; have g0 := r7.free 0; have g1 := r7.free 1; have g2 := r7.free 2
      obtain ⟨w8, e8, m8, k8, s8⟩ := r7.put N S (.slice (some ⟨r6, 0, none⟩) L.length c6)
      have p0 := m8.cell0; have p1 := m8.cell1; have p2 := m8.cell2
      have RO := hide (show RoB w8 w.heap.size r6 L.length c6 M from ⟨unhide HML, by
        have h7 := ownS_kept (ownS_kept o6 k7 (fun e => by obtain ⟨cu, hcu⟩ := ownS_type o6 e; have := b6; unfold BuAt at this; rw [hcu] at this; cases this)) k8 (fun e => by
          have h6 := ownS_kept o6 k7 (fun e => by obtain ⟨cu, hcu⟩ := ownS_type o6 e; have := b6; unfold BuAt at this; rw [hcu] at this; cases this)
          obtain ⟨cu, hcu⟩ := ownS_type h6 e; have := r7; unfold BuAt at this; rw [hcu] at this; cases this)
        exact ownS_base h7 (by omega), fun d hd => (by
        obtain ⟨y, ey, hy1, hy2⟩ := (((h5.2.2.2.1 d hd).grown own5 g6).bus b6 k7).bus r7 k8
        exact ⟨y, ey, by omega, hy2⟩)⟩)
      have j6 : Below w.heap.size w w6 := h5.2.2.2.2.1.trans (kb.mono (by omega))
      have j7 := below_of_kept j6 k7 (by omega) j6.size
      have K8 := hide (below_of_kept j7 k8 (by omega) j7.size)
      have E7 := hide e7; have E8 := hide e8
      have hc7 : L.length ≤ c6 := by omega
      have hml := unhide HML
      rw [e7] at z0 z1 z2 v0 v1 v2 g0 g1 g2
      rw [hml]
      clear o6 g6 h5 own5 kb b6 e7 m7 k7 s7 r7 e8 m8 k8 s8 j6 j7 el hml
      go_wp2_with fail
      rw [← unhide E7, ← unhide E8]
      refine bodyPost_ret (v := .agg #[.int .i64 N, .int .i64 S, .slice (some ⟨r6, 0, none⟩) L.length c6]) (by simp [results, Try.results10, go_sem, p0, p1, p2]) rfl ⟨r6, c6, M, rfl, unhide TM, unhide RO, unhide K8⟩

end Go.Proofs.Ythjeedlhlkggkab

namespace Go.Proofs.Ythjeedlhlkggkab
open Go.RowKit

theorem run_neT2 {f : Operand → Value} {o : Oper} (x y : Operand) (ho : o.op = .binOp .neq 3 x y 3) {u v : Int} (hx : f x = .int .i64 u) (hy : f y = .int .i64 v) (h : u ≠ v) (w : World) : (execOp f o).run Try.prog w = .ok (.value (.bool true)) w := by
  unfold execOp
  rw [ho]
  dsimp only
  rw [hx, hy]
  go_simp
theorem run_neI2 {f : Operand → Value} {o : Oper} (x y : Operand) (ho : o.op = .binOp .neq 3 x y 3) {u : Int} (hx : f x = .int .i64 u) (hy : f y = .int .i64 u) (w : World) : (execOp f o).run Try.prog w = .ok (.value (.bool false)) w := by
  unfold execOp
  rw [ho]
  dsimp only
  rw [hx, hy]
  go_simp

end Go.Proofs.Ythjeedlhlkggkab
