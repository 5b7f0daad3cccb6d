/- Contracts of the reference: CopyBus. -/
import Derived.Test.YthjeedlhlkggkaaBusMem
namespace Go.Proofs.Ythjeedlhlkggkaa
open Go.RowKit

/-- What lies in memory while a bus is copied. -/
def CpI (w : World) (N S : Int) (u v : Value) (L : List Lp) (W : World) : Prop :=
  BuAt W w.heap.size N S u ∧ BuAt W (w.heap.size + 1) 0 0 (.slice none 0 0) ∧ BuAt W (w.heap.size + 1 + 1) N S v ∧ OwnQ W (w.heap.size + 1 + 1 + 1) v L ∧ Below w.heap.size w W ∧ w.heap.size + 1 + 1 + 1 ≤ W.heap.size
section
variable {w W W' : World} {N S : Int} {u v : Value} {L : List Lp}
theorem CpI.below (h : CpI w N S u v L W) (k : Below W.heap.size W W') : CpI w N S u v L W' :=
  ⟨h.1.below k, h.2.1.below k, h.2.2.1.below k, h.2.2.2.1.below k, h.2.2.2.2.1.trans (k.mono (by have := h.2.2.2.2.2; omega)), Nat.le_trans h.2.2.2.2.2 k.size⟩
theorem CpI.kept {z : Nat} (h : CpI w N S u v L W) (k : Kept z W W') (hz : w.heap.size + 1 + 1 + 1 ≤ z) (hq : ∀ g, v.ownBlock = some g → g ≠ z) (hb : ∀ c, c ∈ L → ∀ g, (lpV c).ownBlock = some g → g ≠ z) : CpI w N S u v L W' :=
  ⟨h.1.kept k (by omega), h.2.1.kept k (by omega), h.2.2.1.kept k (by omega), ⟨ownS_kept h.2.2.2.1.1 k (fun e => hq z e rfl), fun c hc => ownS_kept (h.2.2.2.1.2.1 c hc) k (fun e => hb c hc z e rfl), h.2.2.2.1.2.2⟩, below_of_kept h.2.2.2.2.1 k (by omega) h.2.2.2.2.1.size, Nat.le_trans h.2.2.2.2.2 k.size⟩
end
/-- Three variables of buses. -/
theorem bu_three (w : World) (N S : Int) (u : Value) : ∃ w1, w1 = (((w.alloc (.cells #[.int .i64 N, .int .i64 S, u] 24)).alloc (.cells #[.int .i64 0, .int .i64 0, .slice none 0 0] 24)).alloc (.cells #[.int .i64 N, .int .i64 S, .slice none 0 0] 24)) ∧ CpI w N S u (.slice none 0 0) [] w1 := by
  obtain ⟨w1, e1, m1, k1, s1⟩ := bu_alloc w N S u
  obtain ⟨w2, e2, m2, k2, s2⟩ := bu_alloc w1 0 0 (.slice none 0 0)
  obtain ⟨w3, e3, m3, k3, s3⟩ := bu_alloc w2 N S (.slice none 0 0)
  subst e1
  subst e2
  rw [s1] at m2
  rw [s2, s1] at m3
  exact ⟨w3, e3, (m1.below k2).below k3, m2.below k3, m3, OwnQ.nil _ _, (k1.trans (k2.mono (by omega))).trans (k3.mono (by omega)), by omega⟩

set_option maxHeartbeats 2000000 in
theorem copyBus_any (b : Bs) (ao : Option Addr) (cap : Nat) (L : List Lp) (w : World) (hb : BsOK b) (ht : These L b.q) (hr : BRd w ao cap L) :
    Calls Try.prog 10 #[busV b.now b.ser (.slice ao L.length cap)] w fun e w' => ∃ v' L', e = .returned (busV b.now b.ser v') ∧ These L' b.q ∧ OwnQ w' w.heap.size v' L' ∧ Below w.heap.size w w' := by
  obtain ⟨N, S, q⟩ := b
  have hN : L.length ≤ 2513169434843 := by rw [ht.len]; exact hb.2.2.2
  have hok : ∀ c, c ∈ L → PcOK c.p := fun c hc => hb.2.2.1 c.p (ht.mem hc)
  obtain ⟨w1, e1, h1⟩ := bu_three w N S (.slice ao L.length cap)
  have x0 := h1.1.cell0; have x1 := h1.1.cell1; have x2 := h1.1.cell2
  have E1 := hide e1; have H1 := hide h1; have HT := hide ht; have HR := hide hr; have OK := hide hok
  rw [e1] at x0 x1 x2
  clear e1 h1 ht hr hok hb
  unfold busV
  go_enter Try.func10, Try.ntmps10
  go_wp2_with fail
  rw [← unhide E1]
  clear x0 x1 x2
  go_loopw [14] (fun is wr => ∃ (i : Nat) (v' : Value) (M : List Lp), i ≤ L.length ∧ is = .int .i64 (i : Nat) ∧ M.map Lp.p = (L.take i).map Lp.p ∧ CpI w N S (.slice ao L.length cap) v' M wr) (fun is _ => L.length - (intOf is).toNat)
  case atStart => exact ⟨0, _, [], Nat.zero_le _, rfl, rfl, unhide H1⟩
  case round =>
    obtain ⟨i, v', M, hi, rfl, hM, hI⟩ := hrel
    rename World => wr
    obtain ⟨va, vc, rfl, hvc⟩ := hI.2.2.2.1.slice
    by_cases hin : i < L.length
    · have hc := List.getElem?_eq_getElem hin
      obtain ⟨c, ec⟩ : ∃ c, c = L[i] := ⟨_, rfl⟩
      rw [← ec] at hc
      have R := (unhide HR).below hI.2.2.2.2.1
      obtain ⟨x, o, rfl, hq⟩ := R.1 (by omega)
      obtain ⟨p0, p1, p2, p3, p4⟩ := hq i c hc
      have pr := R.2.2 c (List.mem_of_getElem? hc)
      have po := unhide OK c (List.mem_of_getElem? hc)
      have TK := hide (show (L.take (i + 1)).map Lp.p = (L.take i).map Lp.p ++ [c.p] by rw [List.take_add_one, hc]; simp)
      obtain ⟨⟨fr, to, du, se, ds⟩, ba, bc⟩ := c
      unfold lpV at p4
      dsimp only at p0 p1 p2 p3 p4 pr po TK
      obtain ⟨w2, e2, m2, k2, s2⟩ := pv_alloc wr ⟨fr, to, du, se, ds⟩ (.slice ba ds.length bc)
      dsimp only at e2
      have H2 := hI.below k2
      have S2 := hide (pr.1.below k2)
      have d4 := m2.pc.2.2.2.2
      rw [e2] at d4
      have hN2 : M.length ≤ 2513169434843 := by rw [show M.length = (M.map Lp.p).length by simp, hM]; simp; omega
      have hds : ds.length ≤ 140737488351232 := po.2.2.2.2.2
      have HH := hide H2; have M2 := hide m2; have E2 := hide e2; have Z2 := hide s2; have HM := hide hM; have OLD := hide (And.intro hI.2.2.2.1 hI.2.2.2.2.2)
      clear hc ec R hq pr po e2 k2 H2 m2 hM hI s2
      go_wp2_with (at_builtin; refine wpList_join _ rfl _ _ rfl w2.heap.size (by rw [← unhide E2]; exact Nat.le_refl _) (.slice none 0 0) 0 [] rfl (World.ownsRow_nil _ _ _ _) ba ds.length bc (bF (gF ds)) rfl (by rw [← unhide E2]; exact unhide S2) (fun i _ => rfl) (by omega) ?_)
      intro v3 w3 o3 k3
      rw [← unhide E2] at k3
      obtain ⟨a3, c3, rfl, hc3⟩ := ownS_slice o3
      have m3 := (unhide M2).below k3
      have H3 := (unhide HH).below k3
      have g4 := m3.pc.2.2.2.2; have fz := m3.free 4
      obtain ⟨w4, e4, m4, k4, s4⟩ := m3.put4 (.slice a3 ds.length c3)
      have o4 : OwnB w4 w2.heap.size ⟨⟨fr, to, du, se, ds⟩, a3, c3⟩ := ownS_kept o3 k4 (fun e => by have := (o3.lt _ e).1; have := unhide Z2; omega)
      have hz : w.heap.size + 1 + 1 + 1 ≤ wr.heap.size := (unhide OLD).2
      have z2 := unhide Z2
      have H4 : CpI w N S (.slice (some ⟨x, o, none⟩) L.length cap) (.slice va M.length vc) M w4 := H3.kept k4 hz (fun g hg => by have := ((unhide OLD).1.1.lt g hg).2; omega) (fun d hd g hg => by have := (((unhide OLD).1.2.1 d hd).lt g hg).2; omega)
      have c2 := H4.2.2.1.cell2
      obtain ⟨q0, q1, q2, q3, q4⟩ := m4.pc
      obtain ⟨w5, e5, m5, k5, s5⟩ := pv_alloc w4 ⟨fr, to, du, se, ds⟩ (.slice a3 ds.length c3)
      rw [s4] at m5
      dsimp only at e5 q0 q1 q2 q3
      have H5 := H4.below k5
      have P5 := hide m5.pc
      have O5 := hide (show OwnB w5 (w.heap.size + 1 + 1 + 1) ⟨⟨fr, to, du, se, ds⟩, a3, c3⟩ from ownS_base (o4.below k5) (by omega))
      have AP := hide (show ∀ d, d ∈ M → ∀ g, (lpV d).ownBlock = some g → (lpV ⟨⟨fr, to, du, se, ds⟩, a3, c3⟩).ownBlock ≠ some g from fun d hd g hg e => by
        have := (((unhide OLD).1.2.1 d hd).lt g hg).2
        have := (o4.lt g e).1
        omega)
      have E5 := hide e5; have HH5 := hide H5; have E4 := hide e4
      rw [e4] at c2 q0 q1 q2 q3 q4
      clear o3 k3 m3 H3 e4 m4 k4 s4 o4 H4 e5 m5 k5 s5 H5 p0 p1 p2 p3 p4 d4 HH M2
      go_wp2_with (at_builtin; refine wpList_joinP _ rfl _ _ rfl (w.heap.size + 1 + 1 + 1) (by rw [← unhide E4, ← unhide E5]; exact (unhide HH5).2.2.2.2.2) _ M rfl (by rw [← unhide E4, ← unhide E5]; exact (unhide HH5).2.2.2.1) w3.heap.size ⟨⟨fr, to, du, se, ds⟩, a3, c3⟩ rfl (by rw [← unhide E4, ← unhide E5]; exact unhide P5) (by rw [← unhide E4, ← unhide E5]; exact unhide O5) (unhide AP) hN2 ?_)
      intro v6 w6 o6 k6 _
      rw [← unhide E4, ← unhide E5] at k6
      obtain ⟨a6, c6, rfl, hc6⟩ := o6.slice
      rw [show (M ++ [(⟨⟨fr, to, du, se, ds⟩, a3, c3⟩ : Lp)]).length = M.length + 1 by simp] at o6 ⊢
      have h5 := unhide HH5
      have t3 := h5.2.2.1.under k6 (by omega)
      have g2 := t3.cell2; have fr2 := t3.free 2
      obtain ⟨w7, e7, m7, k7, s7⟩ := t3.put2 (.slice a6 (M.length + 1) c6)
      have H7 : CpI w N S (.slice (some ⟨x, o, none⟩) L.length cap) (.slice a6 (M.length + 1) c6) (M ++ [(⟨⟨fr, to, du, se, ds⟩, a3, c3⟩ : Lp)]) w7 :=
        ⟨(h5.1.under k6 (by omega)).kept k7 (by omega), (h5.2.1.under k6 (by omega)).kept k7 (by omega), m7, o6.kept k7 (by omega), below_of_kept (h5.2.2.2.2.1.trans (k6.mono (by omega))) k7 (by omega) (by have := h5.2.2.2.2.1.size; have := k6.size; omega), by have := h5.2.2.2.2.2; have := k6.size; omega⟩
      have E7 := hide e7; have HH7 := hide H7
      clear o6 k6 h5 t3 e7 m7 k7 s7 H7 c2 q0 q1 q2 q3 q4
      go_wp2_with fail
      rw [← unhide E7]
      clear g2 fr2
      go_roundw
      case rel => exact ⟨i + 1, _, _, by omega, by go_num, by rw [unhide TK, List.map_append, unhide HM]; rfl, unhide HH7⟩
      case measure => simp [intOf] <;> omega
    · have e9 : i = L.length := by omega
      subst e9
      have r0 := hI.2.1.cell0; have r1 := hI.2.1.cell1; have r2 := hI.2.1.cell2
      have f0 := hI.2.1.free 0; have f1 := hI.2.1.free 1; have f2 := hI.2.1.free 2
      have c0 := hI.2.2.1.cell0; have c1 := hI.2.2.1.cell1; have c2 := hI.2.2.1.cell2
      obtain ⟨w5, e5, m5, k5, z5⟩ := hI.2.1.put N S (.slice va M.length vc)
      have p0 := m5.cell0; have p1 := m5.cell1; have p2 := m5.cell2
      have O5 := hide ((hI.2.2.2.1.kept k5 (by omega)).base (show w.heap.size ≤ w.heap.size + 1 + 1 + 1 by omega))
      have K5 := hide (below_of_kept hI.2.2.2.2.1 k5 (by omega) hI.2.2.2.2.1.size)
      have E5 := hide e5
      have T5 := hide (show These M q by unfold These; rw [hM, List.take_length]; exact unhide HT)
      clear hI m5 k5 z5 e5 hM hvc
      go_wp2_with fail
      rw [← unhide E5]
      refine bodyPost_ret (v := .agg #[.int .i64 N, .int .i64 S, .slice va M.length vc]) (by simp [results, Try.results10, go_sem, p0, p1, p2]) rfl ⟨_, M, rfl, unhide T5, unhide O5, unhide K5⟩

end Go.Proofs.Ythjeedlhlkggkaa
