/- Contracts of the reference: BusStep. -/
import Derived.Test.YthjeedlhlkggkaaRefLos
import Derived.Test.YthjeedlhlkggkaaBusSel
namespace Go.Proofs.Ythjeedlhlkggkaa
open Go.RowKit

/-- What lies in memory while parcels come. -/
def StI (w : World) (g : Nat) (t S : Int) (vq : Value) (M : List Lp) (vC : Value) (C : List Lp) (W : World) : Prop :=
  BuAt W (w.heap.size + 1) 0 0 (.slice none 0 0) ∧ BuAt W g t S vq ∧ RowP W (w.heap.size + 1 + 1) vq M ∧ RowP W (g + 1) vC C ∧ (∀ c, c ∈ M ∨ c ∈ C → OwnB W (w.heap.size + 1 + 1) c) ∧ Below w.heap.size w W ∧ w.heap.size + 1 + 1 ≤ g ∧ g < W.heap.size ∧ ∀ k, vq.ownBlock = some k → k < g
section
variable {w W W' : World} {g : Nat} {t S : Int} {vq vC : Value} {M C : List Lp}
theorem StI.below (h : StI w g t S vq M vC C W) (k : Below W.heap.size W W') : StI w g t S vq M vC C W' :=
  ⟨h.1.below k, h.2.1.below k, ownS_below h.2.2.1 k, ownS_below h.2.2.2.1 k, fun c hc => (h.2.2.2.2.1 c hc).below k, h.2.2.2.2.2.1.trans (k.mono h.2.2.2.2.2.1.size), h.2.2.2.2.2.2.1, Nat.lt_of_lt_of_le h.2.2.2.2.2.2.2.1 k.size, h.2.2.2.2.2.2.2.2⟩
theorem StI.drew (h : StI w g t S vq M vC C W) : StI w g t S vq M vC C W.drew :=
  ⟨h.1, h.2.1, h.2.2.1, h.2.2.2.1, h.2.2.2.2.1, below_drew h.2.2.2.2.2.1, h.2.2.2.2.2.2.1, h.2.2.2.2.2.2.2.1, h.2.2.2.2.2.2.2.2⟩
/-- A row of bytes stays while rows of parcels and variables of buses are written. -/
theorem OwnB.other {B k : Nat} {c : Lp} {v : Value} {n : Nat} {xs : List Value} (h : OwnB W B c) (o : W.ownsRow k 50 5 v n xs) (gr : W.grownBy W' v.ownBlock) : OwnB W' B c :=
  ownS_grown h gr (fun b hb e => by
    obtain ⟨u1, h1⟩ := ownS_type h hb
    obtain ⟨u2, h2⟩ := ownS_type o e
    rw [h1] at h2; cases h2)
theorem OwnB.otherB {B b : Nat} {c : Lp} {N S : Int} {r : Value} (h : OwnB W B c) (m : BuAt W b N S r) (k : Kept b W W') : OwnB W' B c :=
  ownS_kept h k (fun e => by
    obtain ⟨u1, h1⟩ := ownS_type h e
    unfold BuAt at m
    rw [h1] at m; cases m)
theorem RowP.otherB {B b : Nat} {v : Value} {L : List Lp} {N S : Int} {r : Value} (h : RowP W B v L) (m : BuAt W b N S r) (k : Kept b W W') : RowP W' B v L :=
  ownS_kept h k (fun e => by
    obtain ⟨u1, h1⟩ := ownS_type h e
    unfold BuAt at m
    rw [h1] at m; cases m)
/-- One has come. -/
theorem StI.come {v' : Value} {c : Lp} (h : StI w g t S vq M vC C W) (r : RowP W' (g + 1) v' (C ++ [c])) (gr : W.grownBy W' vC.ownBlock) (hc : c ∈ M) : StI w g t S vq M v' (C ++ [c]) W' := by
  have hC : ∀ k, vC.ownBlock = some k → g < k := fun k hk => (h.2.2.2.1.lt k hk).1
  have kk : Below (g + 1) W W' := ⟨gr.os, gr.tape, gr.output, gr.size, fun k hk => gr.block k (by have := h.2.2.2.2.2.2.2.1; omega) (fun e => by have := hC k e.symm; omega)⟩
  have g1 := h.2.2.2.2.2.2.1
  refine ⟨h.1.under kk (by omega), h.2.1.under kk (by omega), ownS_grown h.2.2.1 gr (fun b hb e => by have := h.2.2.2.2.2.2.2.2 b hb; have := hC b e; omega), r, fun d hd => ?_, h.2.2.2.2.2.1.trans (kk.mono (by omega)), g1, Nat.lt_of_lt_of_le h.2.2.2.2.2.2.2.1 gr.size, h.2.2.2.2.2.2.2.2⟩
  refine (h.2.2.2.2.1 d ?_).other h.2.2.2.1 gr
  rcases hd with hd | hd
  · exact Or.inl hd
  · rcases List.mem_append.1 hd with hd | hd
    · exact Or.inr hd
    · simp at hd; subst hd; exact Or.inl hc
/-- One is cut out. -/
theorem StI.cut {w6 w7 : World} {gq n n' vc i : Nat} (h : StI w g t S (.slice (some ⟨gq, 0, none⟩) n vc) M vC C W) (gr : W.grownBy w6 (some gq)) (k : Kept g w6 w7) (m : BuAt w7 g t S (.slice (some ⟨gq, 0, none⟩) n' vc)) (r : RowP w7 (w.heap.size + 1 + 1) (.slice (some ⟨gq, 0, none⟩) n' vc) (M.eraseIdx i)) : StI w g t S (.slice (some ⟨gq, 0, none⟩) n' vc) (M.eraseIdx i) vC C w7 := by
  have hq := h.2.2.2.2.2.2.2.2 gq rfl
  have hq2 := (h.2.2.1.lt gq rfl).1
  have g1 := h.2.2.2.2.2.2.1; have g2 := h.2.2.2.2.2.2.2.1
  have m6 : BuAt w6 g t S (.slice (some ⟨gq, 0, none⟩) n vc) := h.2.1.same (gr.block g g2 (fun e => by cases e; omega))
  have b6 : Below w.heap.size w w6 := h.2.2.2.2.2.1.trans ⟨gr.os, gr.tape, gr.output, gr.size, fun k hk => gr.block k (by omega) (fun e => by cases e; omega)⟩
  refine ⟨(h.1.same (gr.block _ h.1.lt (fun e => by cases e; omega))).kept k (by omega), m, r, RowP.otherB (ownS_grown h.2.2.2.1 gr (fun b hb e => by cases e; have := (h.2.2.2.1.lt gq hb).1; omega)) m6 k, fun c hc => ?_, below_of_kept b6 k (by omega) b6.size, g1, Nat.lt_of_lt_of_le g2 (Nat.le_trans gr.size k.size), fun k hk => by cases hk; exact hq⟩
  have ob := h.2.2.2.2.1 c (hc.elim (fun x => Or.inl (List.mem_of_mem_eraseIdx x)) Or.inr)
  exact OwnB.otherB (OwnB.other ob h.2.2.1 gr) m6 k
end
theorem RowP.new {w : World} {B cap : Nat} {ao : Option Addr} {L : List Lp} (h : RowP w B (.slice ao L.length cap) L) {C : Nat} (hb : ∀ c, c ∈ L → OwnB w C c) {D : Nat} (h1 : D ≤ B) (h2 : D ≤ C) : BNew D w ao cap L := by
  obtain ⟨ao', cap', e, hl⟩ := ownS_slice h
  cases e
  refine ⟨⟨fun hl => ?_, hl, fun c hc => (hb c hc).rd⟩, (ownS_room h).weak h1, fun c hc => (ownS_room (hb c hc)).weak h2⟩
  rcases h.2 with ⟨_, h0⟩ | ⟨g, c2, cur, e, _, rest⟩
  · omega
  · cases e
    refine ⟨g, 0, rfl, fun i c hi => PcAt.of (fun k hk u hu => ?_)⟩
    have c1 := h.cells (g := g) rfl (i * 5 + k) u (by rw [lpL_at hi hk]; exact hu)
    rw [Addr.add_lit, ← Nat.add_assoc] at c1
    exact c1
theorem RowP.at {w : World} {B cap n g : Nat} {L : List Lp} (h : RowP w B (.slice (some ⟨g, 0, none⟩) n cap) L) {i : Nat} {c : Lp} (hi : L[i]? = some c) : PcAt w g (0 + i * 5) c.p (lpV c) :=
  PcAt.of (fun k hk u hu => by
    have c1 := h.cells (g := g) rfl (i * 5 + k) u (by rw [lpL_at hi hk]; exact hu)
    rw [Addr.add_lit, ← Nat.add_assoc] at c1
    exact c1)
/-- How far the parcels have come. -/
def IsRun (q : List Pc) (t : Int) (M C : List Lp) : Prop := C.map Lp.p ++ srtP ((M.map Lp.p).filter (dueP t)) = srtP (q.filter (dueP t)) ∧ (M.map Lp.p).filter (fun p => !dueP t p) = q.filter (fun p => !dueP t p) ∧ C.length + M.length = q.length
def lenV : Value → Nat
  | .slice _ n _ => n
  | _ => 0
theorem stp_no {b : Bs} {t : Int} {w w' : World} (h : stepE b.now t = 3) (k : Below w.heap.size w w') :
    ∃ (ao' : Option Addr) (cap' : Nat) (L' : List Lp) (ao2 : Option Addr) (cap2 : Nat) (L2 : List Lp), Ending.returned (.tuple #[.agg #[.int .i64 0, .int .i64 0, .slice none 0 0], .slice none 0 0, .int .i64 3]) = .returned (.tuple #[busV (stepS b t).now (stepS b t).ser (.slice ao' L'.length cap'), .slice ao2 L2.length cap2, .int .i64 (stepE b.now t : Nat)]) ∧ These L' (stepS b t).q ∧ BNew w.heap.size w' ao' cap' L' ∧ These L2 (comeS b t) ∧ BNew w.heap.size w' ao2 cap2 L2 ∧ Below w.heap.size w w' := by
  have hz : stepS b t = zeroBs := by unfold stepS; rw [if_neg (by rw [h]; decide)]
  have hc : comeS b t = [] := by unfold comeS; rw [if_neg (by rw [h]; decide)]
  rw [hz, h, hc]
  exact ⟨none, 0, [], none, 0, [], rfl, rfl, bnew_nil _ _, rfl, bnew_nil _ _, k⟩
theorem stp_yes {b : Bs} {t : Int} {w w' : World} (h : stepE b.now t = 0) {ao : Option Addr} {cap : Nat} {M : List Lp} {ca : Option Addr} {cc : Nat} {C : List Lp} (hr : IsRun b.q t M C) (hn : IsBst t (M.map Lp.p) M.length (-1)) (o : BNew w.heap.size w' ao cap M) (o2 : BNew w.heap.size w' ca cc C) (k : Below w.heap.size w w') :
    ∃ (ao' : Option Addr) (cap' : Nat) (L' : List Lp) (ao2 : Option Addr) (cap2 : Nat) (L2 : List Lp), Ending.returned (.tuple #[.agg #[.int .i64 t, .int .i64 b.ser, .slice ao M.length cap], .slice ca C.length cc, .int .i64 0]) = .returned (.tuple #[busV (stepS b t).now (stepS b t).ser (.slice ao' L'.length cap'), .slice ao2 L2.length cap2, .int .i64 (stepE b.now t : Nat)]) ∧ These L' (stepS b t).q ∧ BNew w.heap.size w' ao' cap' L' ∧ These L2 (comeS b t) ∧ BNew w.heap.size w' ao2 cap2 L2 ∧ Below w.heap.size w w' := by
  have hn' : IsBst t (M.map Lp.p) (M.map Lp.p).length (-1) := by rw [List.length_map]; exact hn
  obtain ⟨f1, f2⟩ := isb_none hn'
  have hz : stepS b t = ⟨t, b.ser, M.map Lp.p⟩ := by unfold stepS; rw [if_pos h, ← hr.2.1, f2]
  have hc : comeS b t = C.map Lp.p := by unfold comeS; rw [if_pos h, ← hr.1, f1]; exact List.append_nil _
  rw [hz, h, hc]
  exact ⟨ao, cap, M, ca, cc, C, rfl, rfl, o, rfl, o2, k⟩
theorem run_next {q : List Pc} {t : Int} {M C : List Lp} {n : Nat} {c : Lp} (h : IsRun q t M C) (hb : IsBst t (M.map Lp.p) M.length (n : Nat)) (hc : M[n]? = some c) : IsRun q t (M.eraseIdx n) (C ++ [c]) := by
  have hb' : IsBst t (M.map Lp.p) (M.map Lp.p).length (n : Nat) := by rw [List.length_map]; exact hb
  obtain ⟨f1, f2⟩ := isb_some hb' (m := c.p) (by rw [List.getElem?_map, hc]; rfl)
  have em : (M.eraseIdx n).map Lp.p = (M.map Lp.p).eraseIdx n := these_erase (M := M) (q := M.map Lp.p) rfl n
  have hl := (List.getElem?_eq_some_iff.1 hc).1
  refine ⟨?_, ?_, ?_⟩
  · rw [em, List.map_append, List.append_assoc, ← h.1, f1]; rfl
  · rw [em, f2, h.2.1]
  · rw [List.length_append, List.length_eraseIdx_of_lt hl, ← h.2.2]; simp; omega

set_option maxRecDepth 100000 in
set_option maxHeartbeats 4000000 in
theorem refBusStep_ok : SpOK' 15 := by
  intro b ao cap L t w hb ht hr rt
  obtain ⟨N, S, q⟩ := b
  have hN : L.length ≤ 2513169434843 := by rw [ht.len]; exact hb.2.2.2
  obtain ⟨w1, e1, m1, m2, k1, s1⟩ := bu_pair w N S (.slice ao L.length cap)
  have x0 := m1.cell0; have x1 := m1.cell1; have x2 := m1.cell2
  have p0 := m2.cell0; have p1 := m2.cell1; have p2 := m2.cell2
  have C := copyBus_any ⟨N, S, q⟩ ao cap L w1 hb ht (hr.below k1)
  unfold busV at C
  dsimp only at C
  have E1 := hide e1; have M2 := hide m2; have K1 := hide k1; have S1 := hide s1; have HB := hide hb
  have LN := hide (show L.length = q.length from ht.len)
  rw [e1] at x0 x1 x2
  clear e1 m1 m2 k1 s1 hb ht hr
  unfold busV
  dsimp only
  go_enter Try.func15, Try.ntmps15
  by_cases h0 : t < N
  · go_wp2_with fail
    rw [← unhide E1]
    refine bodyPost_ret (v := .tuple #[.agg #[.int .i64 0, .int .i64 0, .slice none 0 0], .slice none 0 0, .int .i64 3]) (by simp [results, Try.results15, go_sem, p0, p1, p2]) rfl ?_
    exact stp_no (b := ⟨N, S, q⟩) (by unfold stepE; rw [if_pos (by dsimp only; omega)]) (unhide K1)
  · by_cases h1 : 1099511627776 < t
    · go_wp2_with fail
      rw [← unhide E1]
      refine bodyPost_ret (v := .tuple #[.agg #[.int .i64 0, .int .i64 0, .slice none 0 0], .slice none 0 0, .int .i64 3]) (by simp [results, Try.results15, go_sem, p0, p1, p2]) rfl ?_
      exact stp_no (b := ⟨N, S, q⟩) (by unfold stepE; rw [if_pos (by dsimp only; omega)]) (unhide K1)
    · have SE := hide (show stepE N t = 0 by unfold stepE; rw [if_neg (by omega)])
      go_wp2_with fail
      rw [← unhide E1]
      refine C.mono ?_
      rintro e w2 ⟨v, M0, rfl, tM, oM, k2⟩
      obtain ⟨va, vc0, rfl, hvc⟩ := oM.slice
      obtain ⟨w4, e4, m4, k4, z4⟩ := bu_alloc w2 t S (.slice va M0.length vc0)
      obtain ⟨g, eg⟩ : ∃ g, g = w2.heap.size := ⟨_, rfl⟩
      have hz : w.heap.size + 1 + 1 ≤ g := by have := unhide S1; have := k2.size; omega
      rw [show w1.heap.size = w.heap.size + 1 + 1 from unhide S1] at oM
      rw [← eg] at m4
      have o4 := oM.below k4
      have H4 := hide (show StI w g t S (.slice va M0.length vc0) M0 (.slice none 0 0) [] w4 from
        ⟨((unhide M2).below k2).below k4, m4, o4.1, World.ownsRow_nil _ _ _ _, fun c hc => hc.elim (fun x => o4.2.1 c x) (fun x => absurd x (by simp)), (unhide K1).trans ((k2.mono (by have := unhide S1; omega)).trans (k4.mono (by omega))), hz, by omega, fun k hk => by have := (oM.1.lt k hk).2; omega⟩)
      have hM0 : M0.length = q.length := tM.len
      have hq : q.length ≤ 2513169434843 := by rw [← unhide LN]; exact hN
      have RN := hide (show IsRun q t M0 [] from ⟨by rw [show M0.map Lp.p = q from tM]; rfl, by rw [show M0.map Lp.p = q from tM], by rw [hM0]; simp⟩)
      have E4 := hide e4
      clear C k2 oM tM x0 x1 x2 p0 p1 p2 e4 m4 k4 z4 o4 hM0
      go_wp2_with fail
      rw [← unhide E4, ← eg]
      clear eg
      go_loopw [8] (fun cs wr => ∃ (vq : Option Addr) (vc : Nat) (M C : List Lp) (ca : Option Addr) (cc : Nat), cs = .slice ca C.length cc ∧ IsRun q t M C ∧ StI w g t S (.slice vq M.length vc) M (.slice ca C.length cc) C wr) (fun cs _ => q.length - lenV cs)
      case atStart => exact ⟨va, vc0, M0, [], none, 0, rfl, unhide RN, unhide H4⟩
      case round =>
        obtain ⟨vq, vc, M, C, ca, cc, rfl, hrun, hI⟩ := hrel
        rename World => wo
        have c2 := hI.2.1.cell2
        have RN := hide hrun; have HI := hide hI
        obtain ⟨n, en⟩ : ∃ n, n = M.length := ⟨_, rfl⟩
        have hn : n ≤ 2513169434843 := by have := hrun.2.2; omega
        have hCn : C.length + n = q.length := by rw [en]; exact hrun.2.2
        have hnv : n ≤ vc := by obtain ⟨_, _, e, h⟩ := ownS_slice hI.2.2.1; cases e; omega
        rw [← en] at HI c2
        have EN := hide en
        clear hrun hI H4 en
        go_wp2_with fail
        clear c2
        go_loopw [9, 28] (fun bs is wr => ∃ (i : Nat) (k : Int), i ≤ n ∧ bs = .int .i64 k ∧ is = .int .i64 (i : Nat) ∧ IsBst t (M.map Lp.p) i k ∧ StI w g t S (.slice vq n vc) M (.slice ca C.length cc) C wr) (fun _ is _ => n - (intOf is).toNat)
        case atStart => exact ⟨0, -1, Nat.zero_le _, rfl, rfl, isb_start _ _, unhide HI⟩
        case round =>
          obtain ⟨i, k, hi, rfl, rfl, hb, hI⟩ := hrel
          rename World => wr
          by_cases hin : i < n
          · have hc := List.getElem?_eq_getElem (show i < M.length by have := unhide EN; omega)
            obtain ⟨c, ec⟩ : ∃ c, c = M[i] := ⟨_, rfl⟩
            rw [← ec] at hc
            obtain ⟨gq, rfl⟩ := own_some (by have h := hI.2.2.1; unfold RowP at h; rw [← unhide EN] at h; exact h) (by omega)
            obtain ⟨r0, r1, r2, r3, r4⟩ := hI.2.2.1.at hc
            have PI := hide (show (M.map Lp.p)[i]? = some c.p by rw [List.getElem?_map, hc]; rfl)
            obtain ⟨p, ba, bc⟩ := c
            obtain ⟨bn, ebn⟩ : ∃ bn, bn = p.ds.length := ⟨_, rfl⟩
            unfold lpV at r4
            dsimp only at r0 r1 r2 r3 r4 PI
            simp only [Nat.zero_add] at r0 r1 r2 r3 r4
            rw [← ebn] at r4
            obtain ⟨w5, e5, m5, k5, s5⟩ := pv_alloc wr p (.slice ba bn bc)
            have H5 := hI.below k5
            have d2 := m5.cells.2.2.1
            rw [e5] at d2
            have E5 := hide e5; have HH := hide H5; have PV5 := hide m5; have IB := hide hb
            clear hc ec e5 m5 k5 s5 H5 hI hb ebn
            by_cases hd : t < p.du
            · have NX := hide (isb_late (unhide IB) (unhide PI) hd)
              go_wp2_with fail
              rw [← unhide E5]
              go_roundw
              case rel => exact ⟨i + 1, k, by omega, rfl, by go_num, unhide NX, unhide HH⟩
              case measure => simp [intOf] <;> omega
            · by_cases hk : k = -1
              · subst hk
                go_wp2_with fail
                rw [← unhide E5]
                refine wp_leaves (fun a0 a' w' => StI w g t S (.slice (some ⟨gq, 0, none⟩) n vc) M (.slice ca C.length cc) C w' ∧ a' = (((((((((((((((((((((((((((((((((((a0.put (some 37) (.int .i64 (-1))).put (some 38) (.bool true)).put (some 39) (.bool true)).put (some 40) undef).put (some 41) undef).put (some 42) undef).put (some 43) undef).put (some 44) undef).put (some 45) undef).put (some 46) undef).put (some 47) undef).put (some 48) undef).put (some 49) (.bool true)).put (some 50) (.bool true)).put (some 51) undef).put (some 52) undef).put (some 53) undef).put (some 54) undef).put (some 55) undef).put (some 56) undef).put (some 57) undef).put (some 58) undef).put (some 59) undef).put (some 60) undef).put (some 61) undef).put (some 62) undef).put (some 63) undef).put (some 64) undef).put (some 65) undef).put (some 66) undef).put (some 67) undef).put (some 68) undef).put (some 69) undef).put (some 70) undef).put (some 71) (.bool true))) ?reg ?rest
                case reg =>
                  intro A eA
                  have b9 : A.eval (.tmp 9) = (.int .i64 (-1)) := by rw [eA]; rfl
                  have b11 : A.eval (.tmp 11) = .pointer (some ⟨wr.heap.size, 0, none⟩) := by rw [eA]; rfl
                  have b7 : A.eval (.tmp 7) = .pointer (some ⟨g, 0, none⟩) := by rw [eA]; rfl
                  have hs : 97 ≤ A.tmps.size := by rw [eA]; exact of_decide_eq_true rfl
                  clear eA
                  have hS : PvAt w5.drew wr.heap.size p (.slice ba bn bc) ∧ BuAt w5.drew g t S (.slice (some ⟨gq, 0, none⟩) n vc) ∧ True := ⟨unhide PV5, (unhide HH).2.1, trivial⟩
                  refine region_I (S := fun W => PvAt W wr.heap.size p (.slice ba bn bc) ∧ BuAt W g t S (.slice (some ⟨gq, 0, none⟩) n vc) ∧ True) (.rd 0 (.rd 1 (.rd 2 (.rd 3 (.rd 4 (.rd 5 (.rd 6 (.rd 7 (.rd 8 (.rd 9 (.rd 10 (.rd 11 (.rd 12 (.rd 13 (.rd 14 (.rd 15 (.rd 16 (.rd 17 (.rd 18 (.rd 19 (.rd 20 (.rd 21 (.rd 22 (.rd 23 (.rd 24 (.rd 25 (.rd 26 (.rd 27 (.rd 28 (.rd 29 (.rd 30 (.rd 31 (.rd 32 (.rd 33 (.rd 34 .fin))))))))))))))))))))))))))))))))))) [] (by kernel_rfl) (by kernel_rfl) ?_
                  refine sI_read (v := (.int .i64 (-1))) rfl (fun _ _ _ h => absurd h.1 (fun e => nomatch e)) (wanted_rd rfl) hS (fun wx _ => run_move (.tmp 9) rfl b9 wx) ?_
                  show SeqI _ _ _ _ _ _ (Act.put _ (some 37) _) _
                  refine sI_read (v := (.bool true)) rfl (fun _ _ _ h => absurd h.1 (fun e => nomatch e)) (wanted_rd rfl) hS (fun wx _ => run_lssT (.tmp 37) (.const (.int .i64 0)) rfl (ev_same _ _ _ (by omega)) rfl (by omega) wx) ?_
                  show SeqI _ _ _ _ _ _ (Act.put _ (some 38) _) _
                  refine sI_read (v := (.bool true)) rfl (fun _ _ _ h => absurd h.1 (fun e => nomatch e)) (wanted_rd rfl) hS (fun wx _ => run_move (.tmp 38) rfl (ev_same _ _ _ (by simp only [sz_put]; omega)) wx) ?_
                  show SeqI _ _ _ _ _ _ (Act.put _ (some 39) _) _
                  refine sI_skip rfl (fun _ _ _ h => absurd h.1 (fun e => nomatch e)) (wanted_n (j := 2) rfl rfl rfl (ev_same _ _ _ (by simp only [sz_put]; omega)) (by decide)) hS ?_
                  show SeqI _ _ _ _ _ _ (Act.put _ (some 40) _) _
                  refine sI_skip rfl (fun _ _ _ h => absurd h.1 (fun e => nomatch e)) (wanted_n (j := 2) rfl rfl rfl ((ev_other _ _ (by decide)).trans (ev_same _ _ _ (by simp only [sz_put]; omega))) (by decide)) hS ?_
                  show SeqI _ _ _ _ _ _ (Act.put _ (some 41) _) _
                  refine sI_skip rfl (fun _ _ _ h => absurd h.1 (fun e => nomatch e)) (wanted_n (j := 2) rfl rfl rfl ((ev_other _ _ (by decide)).trans ((ev_other _ _ (by decide)).trans (ev_same _ _ _ (by simp only [sz_put]; omega)))) (by decide)) hS ?_
                  show SeqI _ _ _ _ _ _ (Act.put _ (some 42) _) _
                  refine sI_skip rfl (fun _ _ _ h => absurd h.1 (fun e => nomatch e)) (wanted_n (j := 2) rfl rfl rfl ((ev_other _ _ (by decide)).trans ((ev_other _ _ (by decide)).trans ((ev_other _ _ (by decide)).trans (ev_same _ _ _ (by simp only [sz_put]; omega))))) (by decide)) hS ?_
                  show SeqI _ _ _ _ _ _ (Act.put _ (some 43) _) _
                  refine sI_skip rfl (fun _ _ _ h => absurd h.1 (fun e => nomatch e)) (wanted_n (j := 2) rfl rfl rfl ((ev_other _ _ (by decide)).trans ((ev_other _ _ (by decide)).trans ((ev_other _ _ (by decide)).trans ((ev_other _ _ (by decide)).trans (ev_same _ _ _ (by simp only [sz_put]; omega)))))) (by decide)) hS ?_
                  show SeqI _ _ _ _ _ _ (Act.put _ (some 44) _) _
                  refine sI_skip rfl (fun _ _ _ h => absurd h.1 (fun e => nomatch e)) (wanted_n (j := 2) rfl rfl rfl ((ev_other _ _ (by decide)).trans ((ev_other _ _ (by decide)).trans ((ev_other _ _ (by decide)).trans ((ev_other _ _ (by decide)).trans ((ev_other _ _ (by decide)).trans (ev_same _ _ _ (by simp only [sz_put]; omega))))))) (by decide)) hS ?_
                  show SeqI _ _ _ _ _ _ (Act.put _ (some 45) _) _
                  refine sI_skip rfl (fun _ _ _ h => absurd h.1 (fun e => nomatch e)) (wanted_n (j := 2) rfl rfl rfl ((ev_other _ _ (by decide)).trans ((ev_other _ _ (by decide)).trans ((ev_other _ _ (by decide)).trans ((ev_other _ _ (by decide)).trans ((ev_other _ _ (by decide)).trans ((ev_other _ _ (by decide)).trans (ev_same _ _ _ (by simp only [sz_put]; omega)))))))) (by decide)) hS ?_
                  show SeqI _ _ _ _ _ _ (Act.put _ (some 46) _) _
                  refine sI_skip rfl (fun _ _ _ h => absurd h.1 (fun e => nomatch e)) (wanted_n (j := 2) rfl rfl rfl ((ev_other _ _ (by decide)).trans ((ev_other _ _ (by decide)).trans ((ev_other _ _ (by decide)).trans ((ev_other _ _ (by decide)).trans ((ev_other _ _ (by decide)).trans ((ev_other _ _ (by decide)).trans ((ev_other _ _ (by decide)).trans (ev_same _ _ _ (by simp only [sz_put]; omega))))))))) (by decide)) hS ?_
                  show SeqI _ _ _ _ _ _ (Act.put _ (some 47) _) _
                  refine sI_skip rfl (fun _ _ _ h => absurd h.1 (fun e => nomatch e)) (wanted_n (j := 2) rfl rfl rfl ((ev_other _ _ (by decide)).trans ((ev_other _ _ (by decide)).trans ((ev_other _ _ (by decide)).trans ((ev_other _ _ (by decide)).trans ((ev_other _ _ (by decide)).trans ((ev_other _ _ (by decide)).trans ((ev_other _ _ (by decide)).trans ((ev_other _ _ (by decide)).trans (ev_same _ _ _ (by simp only [sz_put]; omega)))))))))) (by decide)) hS ?_
                  show SeqI _ _ _ _ _ _ (Act.put _ (some 48) _) _
                  refine sI_read (v := (.bool true)) rfl (fun _ _ _ h => absurd h.1 (fun e => nomatch e)) (wanted_rd rfl) hS (fun wx _ => run_pickT' (.tmp 39) (.const (.bool true)) (.tmp 48) rfl ((ev_other _ _ (by decide)).trans ((ev_other _ _ (by decide)).trans ((ev_other _ _ (by decide)).trans ((ev_other _ _ (by decide)).trans ((ev_other _ _ (by decide)).trans ((ev_other _ _ (by decide)).trans ((ev_other _ _ (by decide)).trans ((ev_other _ _ (by decide)).trans ((ev_other _ _ (by decide)).trans (ev_same _ _ _ (by simp only [sz_put]; omega))))))))))) rfl wx) ?_
                  show SeqI _ _ _ _ _ _ (Act.put _ (some 49) _) _
                  refine sI_read (v := (.bool true)) rfl (fun _ _ _ h => absurd h.1 (fun e => nomatch e)) (wanted_rd rfl) hS (fun wx _ => run_move (.tmp 49) rfl (ev_same _ _ _ (by simp only [sz_put]; omega)) wx) ?_
                  show SeqI _ _ _ _ _ _ (Act.put _ (some 50) _) _
                  refine sI_skip rfl (fun _ _ _ h => absurd h.1 (fun e => nomatch e)) (wanted_n (j := 13) rfl rfl rfl (ev_same _ _ _ (by simp only [sz_put]; omega)) (by decide)) hS ?_
                  show SeqI _ _ _ _ _ _ (Act.put _ (some 51) _) _
                  refine sI_skip rfl (fun _ _ _ h => absurd h.1 (fun e => nomatch e)) (wanted_n (j := 13) rfl rfl rfl ((ev_other _ _ (by decide)).trans (ev_same _ _ _ (by simp only [sz_put]; omega))) (by decide)) hS ?_
                  show SeqI _ _ _ _ _ _ (Act.put _ (some 52) _) _
                  refine sI_skip rfl (fun _ _ _ h => absurd h.1 (fun e => nomatch e)) (wanted_n (j := 13) rfl rfl rfl ((ev_other _ _ (by decide)).trans ((ev_other _ _ (by decide)).trans (ev_same _ _ _ (by simp only [sz_put]; omega)))) (by decide)) hS ?_
                  show SeqI _ _ _ _ _ _ (Act.put _ (some 53) _) _
                  refine sI_skip rfl (fun _ _ _ h => absurd h.1 (fun e => nomatch e)) (wanted_n (j := 13) rfl rfl rfl ((ev_other _ _ (by decide)).trans ((ev_other _ _ (by decide)).trans ((ev_other _ _ (by decide)).trans (ev_same _ _ _ (by simp only [sz_put]; omega))))) (by decide)) hS ?_
                  show SeqI _ _ _ _ _ _ (Act.put _ (some 54) _) _
                  refine sI_skip rfl (fun _ _ _ h => absurd h.1 (fun e => nomatch e)) (wanted_n (j := 13) rfl rfl rfl ((ev_other _ _ (by decide)).trans ((ev_other _ _ (by decide)).trans ((ev_other _ _ (by decide)).trans ((ev_other _ _ (by decide)).trans (ev_same _ _ _ (by simp only [sz_put]; omega)))))) (by decide)) hS ?_
                  show SeqI _ _ _ _ _ _ (Act.put _ (some 55) _) _
                  refine sI_skip rfl (fun _ _ _ h => absurd h.1 (fun e => nomatch e)) (wanted_n (j := 13) rfl rfl rfl ((ev_other _ _ (by decide)).trans ((ev_other _ _ (by decide)).trans ((ev_other _ _ (by decide)).trans ((ev_other _ _ (by decide)).trans ((ev_other _ _ (by decide)).trans (ev_same _ _ _ (by simp only [sz_put]; omega))))))) (by decide)) hS ?_
                  show SeqI _ _ _ _ _ _ (Act.put _ (some 56) _) _
                  refine sI_skip rfl (fun _ _ _ h => absurd h.1 (fun e => nomatch e)) (wanted_n (j := 13) rfl rfl rfl ((ev_other _ _ (by decide)).trans ((ev_other _ _ (by decide)).trans ((ev_other _ _ (by decide)).trans ((ev_other _ _ (by decide)).trans ((ev_other _ _ (by decide)).trans ((ev_other _ _ (by decide)).trans (ev_same _ _ _ (by simp only [sz_put]; omega)))))))) (by decide)) hS ?_
                  show SeqI _ _ _ _ _ _ (Act.put _ (some 57) _) _
                  refine sI_skip rfl (fun _ _ _ h => absurd h.1 (fun e => nomatch e)) (wanted_n (j := 13) rfl rfl rfl ((ev_other _ _ (by decide)).trans ((ev_other _ _ (by decide)).trans ((ev_other _ _ (by decide)).trans ((ev_other _ _ (by decide)).trans ((ev_other _ _ (by decide)).trans ((ev_other _ _ (by decide)).trans ((ev_other _ _ (by decide)).trans (ev_same _ _ _ (by simp only [sz_put]; omega))))))))) (by decide)) hS ?_
                  show SeqI _ _ _ _ _ _ (Act.put _ (some 58) _) _
                  refine sI_skip rfl (fun _ _ _ h => absurd h.1 (fun e => nomatch e)) (wanted_n (j := 13) rfl rfl rfl ((ev_other _ _ (by decide)).trans ((ev_other _ _ (by decide)).trans ((ev_other _ _ (by decide)).trans ((ev_other _ _ (by decide)).trans ((ev_other _ _ (by decide)).trans ((ev_other _ _ (by decide)).trans ((ev_other _ _ (by decide)).trans ((ev_other _ _ (by decide)).trans (ev_same _ _ _ (by simp only [sz_put]; omega)))))))))) (by decide)) hS ?_
                  show SeqI _ _ _ _ _ _ (Act.put _ (some 59) _) _
                  refine sI_skip rfl (fun _ _ _ h => absurd h.1 (fun e => nomatch e)) (wanted_n (j := 13) rfl rfl rfl ((ev_other _ _ (by decide)).trans ((ev_other _ _ (by decide)).trans ((ev_other _ _ (by decide)).trans ((ev_other _ _ (by decide)).trans ((ev_other _ _ (by decide)).trans ((ev_other _ _ (by decide)).trans ((ev_other _ _ (by decide)).trans ((ev_other _ _ (by decide)).trans ((ev_other _ _ (by decide)).trans (ev_same _ _ _ (by simp only [sz_put]; omega))))))))))) (by decide)) hS ?_
                  show SeqI _ _ _ _ _ _ (Act.put _ (some 60) _) _
                  refine sI_skip rfl (fun _ _ _ h => absurd h.1 (fun e => nomatch e)) (wanted_u (j := 23) rfl rfl rfl (ev_same _ _ _ (by simp only [sz_put]; omega))) hS ?_
                  show SeqI _ _ _ _ _ _ (Act.put _ (some 61) _) _
                  refine sI_skip rfl (fun _ _ _ h => absurd h.1 (fun e => nomatch e)) (wanted_u (j := 23) rfl rfl rfl ((ev_other _ _ (by decide)).trans (ev_same _ _ _ (by simp only [sz_put]; omega)))) hS ?_
                  show SeqI _ _ _ _ _ _ (Act.put _ (some 62) _) _
                  refine sI_skip rfl (fun _ _ _ h => absurd h.1 (fun e => nomatch e)) (wanted_u (j := 23) rfl rfl rfl ((ev_other _ _ (by decide)).trans ((ev_other _ _ (by decide)).trans (ev_same _ _ _ (by simp only [sz_put]; omega))))) hS ?_
                  show SeqI _ _ _ _ _ _ (Act.put _ (some 63) _) _
                  refine sI_skip rfl (fun _ _ _ h => absurd h.1 (fun e => nomatch e)) (wanted_u (j := 23) rfl rfl rfl ((ev_other _ _ (by decide)).trans ((ev_other _ _ (by decide)).trans ((ev_other _ _ (by decide)).trans (ev_same _ _ _ (by simp only [sz_put]; omega)))))) hS ?_
                  show SeqI _ _ _ _ _ _ (Act.put _ (some 64) _) _
                  refine sI_skip rfl (fun _ _ _ h => absurd h.1 (fun e => nomatch e)) (wanted_u (j := 23) rfl rfl rfl ((ev_other _ _ (by decide)).trans ((ev_other _ _ (by decide)).trans ((ev_other _ _ (by decide)).trans ((ev_other _ _ (by decide)).trans (ev_same _ _ _ (by simp only [sz_put]; omega))))))) hS ?_
                  show SeqI _ _ _ _ _ _ (Act.put _ (some 65) _) _
                  refine sI_skip rfl (fun _ _ _ h => absurd h.1 (fun e => nomatch e)) (wanted_u (j := 23) rfl rfl rfl ((ev_other _ _ (by decide)).trans ((ev_other _ _ (by decide)).trans ((ev_other _ _ (by decide)).trans ((ev_other _ _ (by decide)).trans ((ev_other _ _ (by decide)).trans (ev_same _ _ _ (by simp only [sz_put]; omega)))))))) hS ?_
                  show SeqI _ _ _ _ _ _ (Act.put _ (some 66) _) _
                  refine sI_skip rfl (fun _ _ _ h => absurd h.1 (fun e => nomatch e)) (wanted_u (j := 23) rfl rfl rfl ((ev_other _ _ (by decide)).trans ((ev_other _ _ (by decide)).trans ((ev_other _ _ (by decide)).trans ((ev_other _ _ (by decide)).trans ((ev_other _ _ (by decide)).trans ((ev_other _ _ (by decide)).trans (ev_same _ _ _ (by simp only [sz_put]; omega))))))))) hS ?_
                  show SeqI _ _ _ _ _ _ (Act.put _ (some 67) _) _
                  refine sI_skip rfl (fun _ _ _ h => absurd h.1 (fun e => nomatch e)) (wanted_u (j := 23) rfl rfl rfl ((ev_other _ _ (by decide)).trans ((ev_other _ _ (by decide)).trans ((ev_other _ _ (by decide)).trans ((ev_other _ _ (by decide)).trans ((ev_other _ _ (by decide)).trans ((ev_other _ _ (by decide)).trans ((ev_other _ _ (by decide)).trans (ev_same _ _ _ (by simp only [sz_put]; omega)))))))))) hS ?_
                  show SeqI _ _ _ _ _ _ (Act.put _ (some 68) _) _
                  refine sI_skip rfl (fun _ _ _ h => absurd h.1 (fun e => nomatch e)) (wanted_u (j := 23) rfl rfl rfl ((ev_other _ _ (by decide)).trans ((ev_other _ _ (by decide)).trans ((ev_other _ _ (by decide)).trans ((ev_other _ _ (by decide)).trans ((ev_other _ _ (by decide)).trans ((ev_other _ _ (by decide)).trans ((ev_other _ _ (by decide)).trans ((ev_other _ _ (by decide)).trans (ev_same _ _ _ (by simp only [sz_put]; omega))))))))))) hS ?_
                  show SeqI _ _ _ _ _ _ (Act.put _ (some 69) _) _
                  refine sI_skip rfl (fun _ _ _ h => absurd h.1 (fun e => nomatch e)) (wanted_n (j := 13) rfl rfl rfl ((ev_other _ _ (by decide)).trans ((ev_other _ _ (by decide)).trans ((ev_other _ _ (by decide)).trans ((ev_other _ _ (by decide)).trans ((ev_other _ _ (by decide)).trans ((ev_other _ _ (by decide)).trans ((ev_other _ _ (by decide)).trans ((ev_other _ _ (by decide)).trans ((ev_other _ _ (by decide)).trans ((ev_other _ _ (by decide)).trans ((ev_other _ _ (by decide)).trans ((ev_other _ _ (by decide)).trans ((ev_other _ _ (by decide)).trans ((ev_other _ _ (by decide)).trans ((ev_other _ _ (by decide)).trans ((ev_other _ _ (by decide)).trans ((ev_other _ _ (by decide)).trans ((ev_other _ _ (by decide)).trans ((ev_other _ _ (by decide)).trans (ev_same _ _ _ (by simp only [sz_put]; omega))))))))))))))))))))) (by decide)) hS ?_
                  show SeqI _ _ _ _ _ _ (Act.put _ (some 70) _) _
                  refine sI_read (v := (.bool true)) rfl (fun _ _ _ h => absurd h.1 (fun e => nomatch e)) (wanted_rd rfl) hS (fun wx _ => run_pickT' (.tmp 50) (.const (.bool true)) (.tmp 70) rfl ((ev_other _ _ (by decide)).trans ((ev_other _ _ (by decide)).trans ((ev_other _ _ (by decide)).trans ((ev_other _ _ (by decide)).trans ((ev_other _ _ (by decide)).trans ((ev_other _ _ (by decide)).trans ((ev_other _ _ (by decide)).trans ((ev_other _ _ (by decide)).trans ((ev_other _ _ (by decide)).trans ((ev_other _ _ (by decide)).trans ((ev_other _ _ (by decide)).trans ((ev_other _ _ (by decide)).trans ((ev_other _ _ (by decide)).trans ((ev_other _ _ (by decide)).trans ((ev_other _ _ (by decide)).trans ((ev_other _ _ (by decide)).trans ((ev_other _ _ (by decide)).trans ((ev_other _ _ (by decide)).trans ((ev_other _ _ (by decide)).trans ((ev_other _ _ (by decide)).trans (ev_same _ _ _ (by simp only [sz_put]; omega)))))))))))))))))))))) rfl wx) ?_
                  show SeqI _ _ _ _ _ _ (Act.put _ (some 71) _) _
                  exact sI_end ⟨rfl, (unhide HH).drew, rfl⟩
                case rest =>
                  rintro a' w6 ⟨h6, rfl⟩
                  have H6 := hide h6
                  clear h6
                  go_frame
                  go_wp2_with fail
                  go_roundw
                  case rel => exact ⟨i + 1, (i : Nat), by omega, rfl, by go_num, isb_first (unhide IB) (unhide PI) (by show p.du ≤ t; omega), unhide H6⟩
                  case measure => simp [intOf] <;> omega
              · obtain ⟨j, m, rfl, hj1, hj2, hj3⟩ := isb_at (unhide IB) hk
                have hj : j < n := by omega
                obtain ⟨mL, hmL, emL⟩ : ∃ mL, M[j]? = some mL ∧ mL.p = m := by
                  have := List.getElem?_eq_getElem (show j < M.length by have := unhide EN; omega)
                  rw [List.getElem?_map, this] at hj2
                  exact ⟨_, this, Option.some.inj hj2⟩
                have PM0 := (unhide HH).2.2.1.at hmL
                rw [emL] at PM0
                unfold lpV at PM0
                obtain ⟨ma, ema⟩ : ∃ ma, ma = mL.ao := ⟨_, rfl⟩
                obtain ⟨mn, emn⟩ : ∃ mn, mn = mL.p.ds.length := ⟨_, rfl⟩
                obtain ⟨mc, emc⟩ : ∃ mc, mc = mL.cap := ⟨_, rfl⟩
                rw [← ema, ← emn, ← emc] at PM0
                have PM := hide PM0; have MJ := hide hj2
                clear PM0 hj2 hmL emL ema emn emc mL hk
                by_cases hl : p.du < m.du
                · have LP := hide (show leP m p = false by unfold leP; simp only [decide_eq_false_iff_not]; omega)
                  go_wp2_with fail
                  rw [← unhide E5]
                  refine wp_leaves (fun a0 a' w' => StI w g t S (.slice (some ⟨gq, 0, none⟩) n vc) M (.slice ca C.length cc) C w' ∧ a' = (((((((((((((((((((((((((((((((((((a0.put (some 37) (.int .i64 (j : Nat))).put (some 38) (.bool false)).put (some 39) (.bool false)).put (some 40) (.pointer (some ⟨wr.heap.size, 0 + 2, none⟩))).put (some 41) (.int .i64 p.du)).put (some 42) (.pointer (some ⟨g, 2, none⟩))).put (some 43) (.slice (some ⟨gq, 0, none⟩) n vc)).put (some 44) (.int .i64 (j : Nat))).put (some 45) (.pointer (some ⟨gq, 0 + j * 5, none⟩))).put (some 46) (.pointer (some ⟨gq, 0 + j * 5 + 2, none⟩))).put (some 47) (.int .i64 m.du)).put (some 48) (.bool true)).put (some 49) (.bool true)).put (some 50) (.bool true)).put (some 51) undef).put (some 52) undef).put (some 53) undef).put (some 54) undef).put (some 55) undef).put (some 56) undef).put (some 57) undef).put (some 58) undef).put (some 59) undef).put (some 60) undef).put (some 61) undef).put (some 62) undef).put (some 63) undef).put (some 64) undef).put (some 65) undef).put (some 66) undef).put (some 67) undef).put (some 68) undef).put (some 69) undef).put (some 70) undef).put (some 71) (.bool true))) ?reg ?rest
                  case reg =>
                    intro A eA
                    have b9 : A.eval (.tmp 9) = (.int .i64 (j : Nat)) := by rw [eA]; rfl
                    have b11 : A.eval (.tmp 11) = .pointer (some ⟨wr.heap.size, 0, none⟩) := by rw [eA]; rfl
                    have b7 : A.eval (.tmp 7) = .pointer (some ⟨g, 0, none⟩) := by rw [eA]; rfl
                    have hs : 97 ≤ A.tmps.size := by rw [eA]; exact of_decide_eq_true rfl
                    clear eA
                    have hS : PvAt w5.drew wr.heap.size p (.slice ba bn bc) ∧ BuAt w5.drew g t S (.slice (some ⟨gq, 0, none⟩) n vc) ∧ PcAt w5.drew gq (0 + j * 5) m (.slice ma mn mc) := ⟨unhide PV5, (unhide HH).2.1, unhide PM⟩
                    refine region_I (S := fun W => PvAt W wr.heap.size p (.slice ba bn bc) ∧ BuAt W g t S (.slice (some ⟨gq, 0, none⟩) n vc) ∧ PcAt W gq (0 + j * 5) m (.slice ma mn mc)) (.rd 0 (.rd 1 (.rd 2 (.rd 3 (.rd 4 (.rd 5 (.rd 6 (.rd 7 (.rd 8 (.rd 9 (.rd 10 (.rd 11 (.rd 12 (.rd 13 (.rd 14 (.rd 15 (.rd 16 (.rd 17 (.rd 18 (.rd 19 (.rd 20 (.rd 21 (.rd 22 (.rd 23 (.rd 24 (.rd 25 (.rd 26 (.rd 27 (.rd 28 (.rd 29 (.rd 30 (.rd 31 (.rd 32 (.rd 33 (.rd 34 .fin))))))))))))))))))))))))))))))))))) [] (by kernel_rfl) (by kernel_rfl) ?_
                    refine sI_read (v := (.int .i64 (j : Nat))) rfl (fun _ _ _ h => absurd h.1 (fun e => nomatch e)) (wanted_rd rfl) hS (fun wx _ => run_move (.tmp 9) rfl b9 wx) ?_
                    show SeqI _ _ _ _ _ _ (Act.put _ (some 37) _) _
                    refine sI_read (v := (.bool false)) rfl (fun _ _ _ h => absurd h.1 (fun e => nomatch e)) (wanted_rd rfl) hS (fun wx _ => run_lssF (.tmp 37) (.const (.int .i64 0)) rfl (ev_same _ _ _ (by omega)) rfl (by omega) wx) ?_
                    show SeqI _ _ _ _ _ _ (Act.put _ (some 38) _) _
                    refine sI_read (v := (.bool false)) rfl (fun _ _ _ h => absurd h.1 (fun e => nomatch e)) (wanted_rd rfl) hS (fun wx _ => run_move (.tmp 38) rfl (ev_same _ _ _ (by simp only [sz_put]; omega)) wx) ?_
                    show SeqI _ _ _ _ _ _ (Act.put _ (some 39) _) _
                    refine sI_read (v := (.pointer (some ⟨wr.heap.size, 0 + 2, none⟩))) rfl (fun _ _ _ h => absurd h.1 (fun e => nomatch e)) (wanted_g (j := 2) rfl rfl rfl (ev_same _ _ _ (by simp only [sz_put]; omega))) hS (fun wx _ => run_fldP (.tmp 11) 2 rfl ((ev_other _ _ (by decide)).trans ((ev_other _ _ (by decide)).trans ((ev_other _ _ (by decide)).trans b11))) (by omega) wx) ?_
                    show SeqI _ _ _ _ _ _ (Act.put _ (some 40) _) _
                    refine sI_read (v := (.int .i64 p.du)) rfl (fun _ _ _ h => absurd h.1 (fun e => nomatch e)) (wanted_g (j := 2) rfl rfl rfl ((ev_other _ _ (by decide)).trans (ev_same _ _ _ (by simp only [sz_put]; omega)))) hS (fun wx hx => run_lodN (.tmp 40) rfl (ev_same _ _ _ (by simp only [sz_put]; omega)) hx.1.pc.2.2.1) ?_
                    show SeqI _ _ _ _ _ _ (Act.put _ (some 41) _) _
                    refine sI_read (v := (.pointer (some ⟨g, 2, none⟩))) rfl (fun _ _ _ h => absurd h.1 (fun e => nomatch e)) (wanted_g (j := 2) rfl rfl rfl ((ev_other _ _ (by decide)).trans ((ev_other _ _ (by decide)).trans (ev_same _ _ _ (by simp only [sz_put]; omega))))) hS (fun wx _ => run_fldU (.tmp 7) 2 rfl ((ev_other _ _ (by decide)).trans ((ev_other _ _ (by decide)).trans ((ev_other _ _ (by decide)).trans ((ev_other _ _ (by decide)).trans ((ev_other _ _ (by decide)).trans b7))))) (by omega) wx) ?_
                    show SeqI _ _ _ _ _ _ (Act.put _ (some 42) _) _
                    refine sI_read (v := (.slice (some ⟨gq, 0, none⟩) n vc)) rfl (fun _ _ _ h => absurd h.1 (fun e => nomatch e)) (wanted_g (j := 2) rfl rfl rfl ((ev_other _ _ (by decide)).trans ((ev_other _ _ (by decide)).trans ((ev_other _ _ (by decide)).trans (ev_same _ _ _ (by simp only [sz_put]; omega)))))) hS (fun wx hx => run_lodQ (.tmp 42) rfl (ev_same _ _ _ (by simp only [sz_put]; omega)) hx.2.1.cell2) ?_
                    show SeqI _ _ _ _ _ _ (Act.put _ (some 43) _) _
                    refine sI_read (v := (.int .i64 (j : Nat))) rfl (fun _ _ _ h => absurd h.1 (fun e => nomatch e)) (wanted_g (j := 2) rfl rfl rfl ((ev_other _ _ (by decide)).trans ((ev_other _ _ (by decide)).trans ((ev_other _ _ (by decide)).trans ((ev_other _ _ (by decide)).trans (ev_same _ _ _ (by simp only [sz_put]; omega))))))) hS (fun wx _ => run_move (.tmp 9) rfl ((ev_other _ _ (by decide)).trans ((ev_other _ _ (by decide)).trans ((ev_other _ _ (by decide)).trans ((ev_other _ _ (by decide)).trans ((ev_other _ _ (by decide)).trans ((ev_other _ _ (by decide)).trans ((ev_other _ _ (by decide)).trans b9))))))) wx) ?_
                    show SeqI _ _ _ _ _ _ (Act.put _ (some 44) _) _
                    refine sI_read (v := (.pointer (some ⟨gq, 0 + j * 5, none⟩))) rfl (fun _ _ _ h => absurd h.1 (fun e => nomatch e)) (wanted_g (j := 2) rfl rfl rfl ((ev_other _ _ (by decide)).trans ((ev_other _ _ (by decide)).trans ((ev_other _ _ (by decide)).trans ((ev_other _ _ (by decide)).trans ((ev_other _ _ (by decide)).trans (ev_same _ _ _ (by simp only [sz_put]; omega)))))))) hS (fun wx _ => run_ixP (.tmp 43) (.tmp 44) rfl ((ev_other _ _ (by decide)).trans (ev_same _ _ _ (by simp only [sz_put]; omega))) (ev_same _ _ _ (by simp only [sz_put]; omega)) hj wx) ?_
                    show SeqI _ _ _ _ _ _ (Act.put _ (some 45) _) _
                    refine sI_read (v := (.pointer (some ⟨gq, 0 + j * 5 + 2, none⟩))) rfl (fun _ _ _ h => absurd h.1 (fun e => nomatch e)) (wanted_g (j := 2) rfl rfl rfl ((ev_other _ _ (by decide)).trans ((ev_other _ _ (by decide)).trans ((ev_other _ _ (by decide)).trans ((ev_other _ _ (by decide)).trans ((ev_other _ _ (by decide)).trans ((ev_other _ _ (by decide)).trans (ev_same _ _ _ (by simp only [sz_put]; omega))))))))) hS (fun wx _ => run_fldP (.tmp 45) 2 rfl (ev_same _ _ _ (by simp only [sz_put]; omega)) (by omega) wx) ?_
                    show SeqI _ _ _ _ _ _ (Act.put _ (some 46) _) _
                    refine sI_read (v := (.int .i64 m.du)) rfl (fun _ _ _ h => absurd h.1 (fun e => nomatch e)) (wanted_g (j := 2) rfl rfl rfl ((ev_other _ _ (by decide)).trans ((ev_other _ _ (by decide)).trans ((ev_other _ _ (by decide)).trans ((ev_other _ _ (by decide)).trans ((ev_other _ _ (by decide)).trans ((ev_other _ _ (by decide)).trans ((ev_other _ _ (by decide)).trans (ev_same _ _ _ (by simp only [sz_put]; omega)))))))))) hS (fun wx hx => run_lodN (.tmp 46) rfl (ev_same _ _ _ (by simp only [sz_put]; omega)) hx.2.2.2.2.1) ?_
                    show SeqI _ _ _ _ _ _ (Act.put _ (some 47) _) _
                    refine sI_read (v := (.bool true)) rfl (fun _ _ _ h => absurd h.1 (fun e => nomatch e)) (wanted_g (j := 2) rfl rfl rfl ((ev_other _ _ (by decide)).trans ((ev_other _ _ (by decide)).trans ((ev_other _ _ (by decide)).trans ((ev_other _ _ (by decide)).trans ((ev_other _ _ (by decide)).trans ((ev_other _ _ (by decide)).trans ((ev_other _ _ (by decide)).trans ((ev_other _ _ (by decide)).trans (ev_same _ _ _ (by simp only [sz_put]; omega))))))))))) hS (fun wx _ => run_lssT (.tmp 41) (.tmp 47) rfl ((ev_other _ _ (by decide)).trans ((ev_other _ _ (by decide)).trans ((ev_other _ _ (by decide)).trans ((ev_other _ _ (by decide)).trans ((ev_other _ _ (by decide)).trans ((ev_other _ _ (by decide)).trans (ev_same _ _ _ (by simp only [sz_put]; omega)))))))) (ev_same _ _ _ (by simp only [sz_put]; omega)) (by omega) wx) ?_
                    show SeqI _ _ _ _ _ _ (Act.put _ (some 48) _) _
                    refine sI_read (v := (.bool true)) rfl (fun _ _ _ h => absurd h.1 (fun e => nomatch e)) (wanted_rd rfl) hS (fun wx _ => run_pickF (.tmp 39) (.const (.bool true)) (.tmp 48) rfl ((ev_other _ _ (by decide)).trans ((ev_other _ _ (by decide)).trans ((ev_other _ _ (by decide)).trans ((ev_other _ _ (by decide)).trans ((ev_other _ _ (by decide)).trans ((ev_other _ _ (by decide)).trans ((ev_other _ _ (by decide)).trans ((ev_other _ _ (by decide)).trans ((ev_other _ _ (by decide)).trans (ev_same _ _ _ (by simp only [sz_put]; omega))))))))))) (ev_same _ _ _ (by simp only [sz_put]; omega)) wx) ?_
                    show SeqI _ _ _ _ _ _ (Act.put _ (some 49) _) _
                    refine sI_read (v := (.bool true)) rfl (fun _ _ _ h => absurd h.1 (fun e => nomatch e)) (wanted_rd rfl) hS (fun wx _ => run_move (.tmp 49) rfl (ev_same _ _ _ (by simp only [sz_put]; omega)) wx) ?_
                    show SeqI _ _ _ _ _ _ (Act.put _ (some 50) _) _
                    refine sI_skip rfl (fun _ _ _ h => absurd h.1 (fun e => nomatch e)) (wanted_n (j := 13) rfl rfl rfl (ev_same _ _ _ (by simp only [sz_put]; omega)) (by decide)) hS ?_
                    show SeqI _ _ _ _ _ _ (Act.put _ (some 51) _) _
                    refine sI_skip rfl (fun _ _ _ h => absurd h.1 (fun e => nomatch e)) (wanted_n (j := 13) rfl rfl rfl ((ev_other _ _ (by decide)).trans (ev_same _ _ _ (by simp only [sz_put]; omega))) (by decide)) hS ?_
                    show SeqI _ _ _ _ _ _ (Act.put _ (some 52) _) _
                    refine sI_skip rfl (fun _ _ _ h => absurd h.1 (fun e => nomatch e)) (wanted_n (j := 13) rfl rfl rfl ((ev_other _ _ (by decide)).trans ((ev_other _ _ (by decide)).trans (ev_same _ _ _ (by simp only [sz_put]; omega)))) (by decide)) hS ?_
                    show SeqI _ _ _ _ _ _ (Act.put _ (some 53) _) _
                    refine sI_skip rfl (fun _ _ _ h => absurd h.1 (fun e => nomatch e)) (wanted_n (j := 13) rfl rfl rfl ((ev_other _ _ (by decide)).trans ((ev_other _ _ (by decide)).trans ((ev_other _ _ (by decide)).trans (ev_same _ _ _ (by simp only [sz_put]; omega))))) (by decide)) hS ?_
                    show SeqI _ _ _ _ _ _ (Act.put _ (some 54) _) _
                    refine sI_skip rfl (fun _ _ _ h => absurd h.1 (fun e => nomatch e)) (wanted_n (j := 13) rfl rfl rfl ((ev_other _ _ (by decide)).trans ((ev_other _ _ (by decide)).trans ((ev_other _ _ (by decide)).trans ((ev_other _ _ (by decide)).trans (ev_same _ _ _ (by simp only [sz_put]; omega)))))) (by decide)) hS ?_
                    show SeqI _ _ _ _ _ _ (Act.put _ (some 55) _) _
                    refine sI_skip rfl (fun _ _ _ h => absurd h.1 (fun e => nomatch e)) (wanted_n (j := 13) rfl rfl rfl ((ev_other _ _ (by decide)).trans ((ev_other _ _ (by decide)).trans ((ev_other _ _ (by decide)).trans ((ev_other _ _ (by decide)).trans ((ev_other _ _ (by decide)).trans (ev_same _ _ _ (by simp only [sz_put]; omega))))))) (by decide)) hS ?_
                    show SeqI _ _ _ _ _ _ (Act.put _ (some 56) _) _
                    refine sI_skip rfl (fun _ _ _ h => absurd h.1 (fun e => nomatch e)) (wanted_n (j := 13) rfl rfl rfl ((ev_other _ _ (by decide)).trans ((ev_other _ _ (by decide)).trans ((ev_other _ _ (by decide)).trans ((ev_other _ _ (by decide)).trans ((ev_other _ _ (by decide)).trans ((ev_other _ _ (by decide)).trans (ev_same _ _ _ (by simp only [sz_put]; omega)))))))) (by decide)) hS ?_
                    show SeqI _ _ _ _ _ _ (Act.put _ (some 57) _) _
                    refine sI_skip rfl (fun _ _ _ h => absurd h.1 (fun e => nomatch e)) (wanted_n (j := 13) rfl rfl rfl ((ev_other _ _ (by decide)).trans ((ev_other _ _ (by decide)).trans ((ev_other _ _ (by decide)).trans ((ev_other _ _ (by decide)).trans ((ev_other _ _ (by decide)).trans ((ev_other _ _ (by decide)).trans ((ev_other _ _ (by decide)).trans (ev_same _ _ _ (by simp only [sz_put]; omega))))))))) (by decide)) hS ?_
                    show SeqI _ _ _ _ _ _ (Act.put _ (some 58) _) _
                    refine sI_skip rfl (fun _ _ _ h => absurd h.1 (fun e => nomatch e)) (wanted_n (j := 13) rfl rfl rfl ((ev_other _ _ (by decide)).trans ((ev_other _ _ (by decide)).trans ((ev_other _ _ (by decide)).trans ((ev_other _ _ (by decide)).trans ((ev_other _ _ (by decide)).trans ((ev_other _ _ (by decide)).trans ((ev_other _ _ (by decide)).trans ((ev_other _ _ (by decide)).trans (ev_same _ _ _ (by simp only [sz_put]; omega)))))))))) (by decide)) hS ?_
                    show SeqI _ _ _ _ _ _ (Act.put _ (some 59) _) _
                    refine sI_skip rfl (fun _ _ _ h => absurd h.1 (fun e => nomatch e)) (wanted_n (j := 13) rfl rfl rfl ((ev_other _ _ (by decide)).trans ((ev_other _ _ (by decide)).trans ((ev_other _ _ (by decide)).trans ((ev_other _ _ (by decide)).trans ((ev_other _ _ (by decide)).trans ((ev_other _ _ (by decide)).trans ((ev_other _ _ (by decide)).trans ((ev_other _ _ (by decide)).trans ((ev_other _ _ (by decide)).trans (ev_same _ _ _ (by simp only [sz_put]; omega))))))))))) (by decide)) hS ?_
                    show SeqI _ _ _ _ _ _ (Act.put _ (some 60) _) _
                    refine sI_skip rfl (fun _ _ _ h => absurd h.1 (fun e => nomatch e)) (wanted_u (j := 23) rfl rfl rfl (ev_same _ _ _ (by simp only [sz_put]; omega))) hS ?_
                    show SeqI _ _ _ _ _ _ (Act.put _ (some 61) _) _
                    refine sI_skip rfl (fun _ _ _ h => absurd h.1 (fun e => nomatch e)) (wanted_u (j := 23) rfl rfl rfl ((ev_other _ _ (by decide)).trans (ev_same _ _ _ (by simp only [sz_put]; omega)))) hS ?_
                    show SeqI _ _ _ _ _ _ (Act.put _ (some 62) _) _
                    refine sI_skip rfl (fun _ _ _ h => absurd h.1 (fun e => nomatch e)) (wanted_u (j := 23) rfl rfl rfl ((ev_other _ _ (by decide)).trans ((ev_other _ _ (by decide)).trans (ev_same _ _ _ (by simp only [sz_put]; omega))))) hS ?_
                    show SeqI _ _ _ _ _ _ (Act.put _ (some 63) _) _
                    refine sI_skip rfl (fun _ _ _ h => absurd h.1 (fun e => nomatch e)) (wanted_u (j := 23) rfl rfl rfl ((ev_other _ _ (by decide)).trans ((ev_other _ _ (by decide)).trans ((ev_other _ _ (by decide)).trans (ev_same _ _ _ (by simp only [sz_put]; omega)))))) hS ?_
                    show SeqI _ _ _ _ _ _ (Act.put _ (some 64) _) _
                    refine sI_skip rfl (fun _ _ _ h => absurd h.1 (fun e => nomatch e)) (wanted_u (j := 23) rfl rfl rfl ((ev_other _ _ (by decide)).trans ((ev_other _ _ (by decide)).trans ((ev_other _ _ (by decide)).trans ((ev_other _ _ (by decide)).trans (ev_same _ _ _ (by simp only [sz_put]; omega))))))) hS ?_
                    show SeqI _ _ _ _ _ _ (Act.put _ (some 65) _) _
                    refine sI_skip rfl (fun _ _ _ h => absurd h.1 (fun e => nomatch e)) (wanted_u (j := 23) rfl rfl rfl ((ev_other _ _ (by decide)).trans ((ev_other _ _ (by decide)).trans ((ev_other _ _ (by decide)).trans ((ev_other _ _ (by decide)).trans ((ev_other _ _ (by decide)).trans (ev_same _ _ _ (by simp only [sz_put]; omega)))))))) hS ?_
                    show SeqI _ _ _ _ _ _ (Act.put _ (some 66) _) _
                    refine sI_skip rfl (fun _ _ _ h => absurd h.1 (fun e => nomatch e)) (wanted_u (j := 23) rfl rfl rfl ((ev_other _ _ (by decide)).trans ((ev_other _ _ (by decide)).trans ((ev_other _ _ (by decide)).trans ((ev_other _ _ (by decide)).trans ((ev_other _ _ (by decide)).trans ((ev_other _ _ (by decide)).trans (ev_same _ _ _ (by simp only [sz_put]; omega))))))))) hS ?_
                    show SeqI _ _ _ _ _ _ (Act.put _ (some 67) _) _
                    refine sI_skip rfl (fun _ _ _ h => absurd h.1 (fun e => nomatch e)) (wanted_u (j := 23) rfl rfl rfl ((ev_other _ _ (by decide)).trans ((ev_other _ _ (by decide)).trans ((ev_other _ _ (by decide)).trans ((ev_other _ _ (by decide)).trans ((ev_other _ _ (by decide)).trans ((ev_other _ _ (by decide)).trans ((ev_other _ _ (by decide)).trans (ev_same _ _ _ (by simp only [sz_put]; omega)))))))))) hS ?_
                    show SeqI _ _ _ _ _ _ (Act.put _ (some 68) _) _
                    refine sI_skip rfl (fun _ _ _ h => absurd h.1 (fun e => nomatch e)) (wanted_u (j := 23) rfl rfl rfl ((ev_other _ _ (by decide)).trans ((ev_other _ _ (by decide)).trans ((ev_other _ _ (by decide)).trans ((ev_other _ _ (by decide)).trans ((ev_other _ _ (by decide)).trans ((ev_other _ _ (by decide)).trans ((ev_other _ _ (by decide)).trans ((ev_other _ _ (by decide)).trans (ev_same _ _ _ (by simp only [sz_put]; omega))))))))))) hS ?_
                    show SeqI _ _ _ _ _ _ (Act.put _ (some 69) _) _
                    refine sI_skip rfl (fun _ _ _ h => absurd h.1 (fun e => nomatch e)) (wanted_n (j := 13) rfl rfl rfl ((ev_other _ _ (by decide)).trans ((ev_other _ _ (by decide)).trans ((ev_other _ _ (by decide)).trans ((ev_other _ _ (by decide)).trans ((ev_other _ _ (by decide)).trans ((ev_other _ _ (by decide)).trans ((ev_other _ _ (by decide)).trans ((ev_other _ _ (by decide)).trans ((ev_other _ _ (by decide)).trans ((ev_other _ _ (by decide)).trans ((ev_other _ _ (by decide)).trans ((ev_other _ _ (by decide)).trans ((ev_other _ _ (by decide)).trans ((ev_other _ _ (by decide)).trans ((ev_other _ _ (by decide)).trans ((ev_other _ _ (by decide)).trans ((ev_other _ _ (by decide)).trans ((ev_other _ _ (by decide)).trans ((ev_other _ _ (by decide)).trans (ev_same _ _ _ (by simp only [sz_put]; omega))))))))))))))))))))) (by decide)) hS ?_
                    show SeqI _ _ _ _ _ _ (Act.put _ (some 70) _) _
                    refine sI_read (v := (.bool true)) rfl (fun _ _ _ h => absurd h.1 (fun e => nomatch e)) (wanted_rd rfl) hS (fun wx _ => run_pickT' (.tmp 50) (.const (.bool true)) (.tmp 70) rfl ((ev_other _ _ (by decide)).trans ((ev_other _ _ (by decide)).trans ((ev_other _ _ (by decide)).trans ((ev_other _ _ (by decide)).trans ((ev_other _ _ (by decide)).trans ((ev_other _ _ (by decide)).trans ((ev_other _ _ (by decide)).trans ((ev_other _ _ (by decide)).trans ((ev_other _ _ (by decide)).trans ((ev_other _ _ (by decide)).trans ((ev_other _ _ (by decide)).trans ((ev_other _ _ (by decide)).trans ((ev_other _ _ (by decide)).trans ((ev_other _ _ (by decide)).trans ((ev_other _ _ (by decide)).trans ((ev_other _ _ (by decide)).trans ((ev_other _ _ (by decide)).trans ((ev_other _ _ (by decide)).trans ((ev_other _ _ (by decide)).trans ((ev_other _ _ (by decide)).trans (ev_same _ _ _ (by simp only [sz_put]; omega)))))))))))))))))))))) rfl wx) ?_
                    show SeqI _ _ _ _ _ _ (Act.put _ (some 71) _) _
                    exact sI_end ⟨rfl, (unhide HH).drew, rfl⟩
                  case rest =>
                    rintro a' w6 ⟨h6, rfl⟩
                    have H6 := hide h6
                    clear h6
                    go_frame
                    go_wp2_with fail
                    go_roundw
                    case rel => exact ⟨i + 1, (i : Nat), by omega, rfl, by go_num, isb_less (unhide IB) (unhide MJ) (unhide PI) (by show p.du ≤ t; omega) (unhide LP), unhide H6⟩
                    case measure => simp [intOf] <;> omega
                · by_cases he : p.du = m.du
                  · have heq : (p.du == m.du) = true := by rw [he]; exact beq_self_eq_true _
                    have HEQ := hide he
                    clear he
                    by_cases hl2 : p.se < m.se
                    · have LP := hide (show leP m p = false by have := unhide HEQ; unfold leP; simp only [decide_eq_false_iff_not]; omega)
                      go_wp2_with fail
                      rw [← unhide E5]
                      refine wp_leaves (fun a0 a' w' => StI w g t S (.slice (some ⟨gq, 0, none⟩) n vc) M (.slice ca C.length cc) C w' ∧ a' = (((((((((((((((((((((((((((((((((((a0.put (some 37) (.int .i64 (j : Nat))).put (some 38) (.bool false)).put (some 39) (.bool false)).put (some 40) (.pointer (some ⟨wr.heap.size, 0 + 2, none⟩))).put (some 41) (.int .i64 p.du)).put (some 42) (.pointer (some ⟨g, 2, none⟩))).put (some 43) (.slice (some ⟨gq, 0, none⟩) n vc)).put (some 44) (.int .i64 (j : Nat))).put (some 45) (.pointer (some ⟨gq, 0 + j * 5, none⟩))).put (some 46) (.pointer (some ⟨gq, 0 + j * 5 + 2, none⟩))).put (some 47) (.int .i64 m.du)).put (some 48) (.bool false)).put (some 49) (.bool false)).put (some 50) (.bool false)).put (some 51) (.pointer (some ⟨wr.heap.size, 0 + 2, none⟩))).put (some 52) (.int .i64 p.du)).put (some 53) (.pointer (some ⟨g, 2, none⟩))).put (some 54) (.slice (some ⟨gq, 0, none⟩) n vc)).put (some 55) (.int .i64 (j : Nat))).put (some 56) (.pointer (some ⟨gq, 0 + j * 5, none⟩))).put (some 57) (.pointer (some ⟨gq, 0 + j * 5 + 2, none⟩))).put (some 58) (.int .i64 m.du)).put (some 59) (.bool true)).put (some 60) (.bool true)).put (some 61) (.pointer (some ⟨wr.heap.size, 0 + 3, none⟩))).put (some 62) (.int .i64 p.se)).put (some 63) (.pointer (some ⟨g, 2, none⟩))).put (some 64) (.slice (some ⟨gq, 0, none⟩) n vc)).put (some 65) (.int .i64 (j : Nat))).put (some 66) (.pointer (some ⟨gq, 0 + j * 5, none⟩))).put (some 67) (.pointer (some ⟨gq, 0 + j * 5 + 3, none⟩))).put (some 68) (.int .i64 m.se)).put (some 69) (.bool true)).put (some 70) (.bool true)).put (some 71) (.bool true))) ?reg ?rest
                      case reg =>
                        intro A eA
                        have b9 : A.eval (.tmp 9) = (.int .i64 (j : Nat)) := by rw [eA]; rfl
                        have b11 : A.eval (.tmp 11) = .pointer (some ⟨wr.heap.size, 0, none⟩) := by rw [eA]; rfl
                        have b7 : A.eval (.tmp 7) = .pointer (some ⟨g, 0, none⟩) := by rw [eA]; rfl
                        have hs : 97 ≤ A.tmps.size := by rw [eA]; exact of_decide_eq_true rfl
                        clear eA
                        have hS : PvAt w5.drew wr.heap.size p (.slice ba bn bc) ∧ BuAt w5.drew g t S (.slice (some ⟨gq, 0, none⟩) n vc) ∧ PcAt w5.drew gq (0 + j * 5) m (.slice ma mn mc) := ⟨unhide PV5, (unhide HH).2.1, unhide PM⟩
                        refine region_I (S := fun W => PvAt W wr.heap.size p (.slice ba bn bc) ∧ BuAt W g t S (.slice (some ⟨gq, 0, none⟩) n vc) ∧ PcAt W gq (0 + j * 5) m (.slice ma mn mc)) (.rd 0 (.rd 1 (.rd 2 (.rd 3 (.rd 4 (.rd 5 (.rd 6 (.rd 7 (.rd 8 (.rd 9 (.rd 10 (.rd 11 (.rd 12 (.rd 13 (.rd 14 (.rd 15 (.rd 16 (.rd 17 (.rd 18 (.rd 19 (.rd 20 (.rd 21 (.rd 22 (.rd 23 (.rd 24 (.rd 25 (.rd 26 (.rd 27 (.rd 28 (.rd 29 (.rd 30 (.rd 31 (.rd 32 (.rd 33 (.rd 34 .fin))))))))))))))))))))))))))))))))))) [] (by kernel_rfl) (by kernel_rfl) ?_
                        refine sI_read (v := (.int .i64 (j : Nat))) rfl (fun _ _ _ h => absurd h.1 (fun e => nomatch e)) (wanted_rd rfl) hS (fun wx _ => run_move (.tmp 9) rfl b9 wx) ?_
                        show SeqI _ _ _ _ _ _ (Act.put _ (some 37) _) _
                        refine sI_read (v := (.bool false)) rfl (fun _ _ _ h => absurd h.1 (fun e => nomatch e)) (wanted_rd rfl) hS (fun wx _ => run_lssF (.tmp 37) (.const (.int .i64 0)) rfl (ev_same _ _ _ (by omega)) rfl (by omega) wx) ?_
                        show SeqI _ _ _ _ _ _ (Act.put _ (some 38) _) _
                        refine sI_read (v := (.bool false)) rfl (fun _ _ _ h => absurd h.1 (fun e => nomatch e)) (wanted_rd rfl) hS (fun wx _ => run_move (.tmp 38) rfl (ev_same _ _ _ (by simp only [sz_put]; omega)) wx) ?_
                        show SeqI _ _ _ _ _ _ (Act.put _ (some 39) _) _
                        refine sI_read (v := (.pointer (some ⟨wr.heap.size, 0 + 2, none⟩))) rfl (fun _ _ _ h => absurd h.1 (fun e => nomatch e)) (wanted_g (j := 2) rfl rfl rfl (ev_same _ _ _ (by simp only [sz_put]; omega))) hS (fun wx _ => run_fldP (.tmp 11) 2 rfl ((ev_other _ _ (by decide)).trans ((ev_other _ _ (by decide)).trans ((ev_other _ _ (by decide)).trans b11))) (by omega) wx) ?_
                        show SeqI _ _ _ _ _ _ (Act.put _ (some 40) _) _
                        refine sI_read (v := (.int .i64 p.du)) rfl (fun _ _ _ h => absurd h.1 (fun e => nomatch e)) (wanted_g (j := 2) rfl rfl rfl ((ev_other _ _ (by decide)).trans (ev_same _ _ _ (by simp only [sz_put]; omega)))) hS (fun wx hx => run_lodN (.tmp 40) rfl (ev_same _ _ _ (by simp only [sz_put]; omega)) hx.1.pc.2.2.1) ?_
                        show SeqI _ _ _ _ _ _ (Act.put _ (some 41) _) _
                        refine sI_read (v := (.pointer (some ⟨g, 2, none⟩))) rfl (fun _ _ _ h => absurd h.1 (fun e => nomatch e)) (wanted_g (j := 2) rfl rfl rfl ((ev_other _ _ (by decide)).trans ((ev_other _ _ (by decide)).trans (ev_same _ _ _ (by simp only [sz_put]; omega))))) hS (fun wx _ => run_fldU (.tmp 7) 2 rfl ((ev_other _ _ (by decide)).trans ((ev_other _ _ (by decide)).trans ((ev_other _ _ (by decide)).trans ((ev_other _ _ (by decide)).trans ((ev_other _ _ (by decide)).trans b7))))) (by omega) wx) ?_
                        show SeqI _ _ _ _ _ _ (Act.put _ (some 42) _) _
                        refine sI_read (v := (.slice (some ⟨gq, 0, none⟩) n vc)) rfl (fun _ _ _ h => absurd h.1 (fun e => nomatch e)) (wanted_g (j := 2) rfl rfl rfl ((ev_other _ _ (by decide)).trans ((ev_other _ _ (by decide)).trans ((ev_other _ _ (by decide)).trans (ev_same _ _ _ (by simp only [sz_put]; omega)))))) hS (fun wx hx => run_lodQ (.tmp 42) rfl (ev_same _ _ _ (by simp only [sz_put]; omega)) hx.2.1.cell2) ?_
                        show SeqI _ _ _ _ _ _ (Act.put _ (some 43) _) _
                        refine sI_read (v := (.int .i64 (j : Nat))) rfl (fun _ _ _ h => absurd h.1 (fun e => nomatch e)) (wanted_g (j := 2) rfl rfl rfl ((ev_other _ _ (by decide)).trans ((ev_other _ _ (by decide)).trans ((ev_other _ _ (by decide)).trans ((ev_other _ _ (by decide)).trans (ev_same _ _ _ (by simp only [sz_put]; omega))))))) hS (fun wx _ => run_move (.tmp 9) rfl ((ev_other _ _ (by decide)).trans ((ev_other _ _ (by decide)).trans ((ev_other _ _ (by decide)).trans ((ev_other _ _ (by decide)).trans ((ev_other _ _ (by decide)).trans ((ev_other _ _ (by decide)).trans ((ev_other _ _ (by decide)).trans b9))))))) wx) ?_
                        show SeqI _ _ _ _ _ _ (Act.put _ (some 44) _) _
                        refine sI_read (v := (.pointer (some ⟨gq, 0 + j * 5, none⟩))) rfl (fun _ _ _ h => absurd h.1 (fun e => nomatch e)) (wanted_g (j := 2) rfl rfl rfl ((ev_other _ _ (by decide)).trans ((ev_other _ _ (by decide)).trans ((ev_other _ _ (by decide)).trans ((ev_other _ _ (by decide)).trans ((ev_other _ _ (by decide)).trans (ev_same _ _ _ (by simp only [sz_put]; omega)))))))) hS (fun wx _ => run_ixP (.tmp 43) (.tmp 44) rfl ((ev_other _ _ (by decide)).trans (ev_same _ _ _ (by simp only [sz_put]; omega))) (ev_same _ _ _ (by simp only [sz_put]; omega)) hj wx) ?_
                        show SeqI _ _ _ _ _ _ (Act.put _ (some 45) _) _
                        refine sI_read (v := (.pointer (some ⟨gq, 0 + j * 5 + 2, none⟩))) rfl (fun _ _ _ h => absurd h.1 (fun e => nomatch e)) (wanted_g (j := 2) rfl rfl rfl ((ev_other _ _ (by decide)).trans ((ev_other _ _ (by decide)).trans ((ev_other _ _ (by decide)).trans ((ev_other _ _ (by decide)).trans ((ev_other _ _ (by decide)).trans ((ev_other _ _ (by decide)).trans (ev_same _ _ _ (by simp only [sz_put]; omega))))))))) hS (fun wx _ => run_fldP (.tmp 45) 2 rfl (ev_same _ _ _ (by simp only [sz_put]; omega)) (by omega) wx) ?_
                        show SeqI _ _ _ _ _ _ (Act.put _ (some 46) _) _
                        refine sI_read (v := (.int .i64 m.du)) rfl (fun _ _ _ h => absurd h.1 (fun e => nomatch e)) (wanted_g (j := 2) rfl rfl rfl ((ev_other _ _ (by decide)).trans ((ev_other _ _ (by decide)).trans ((ev_other _ _ (by decide)).trans ((ev_other _ _ (by decide)).trans ((ev_other _ _ (by decide)).trans ((ev_other _ _ (by decide)).trans ((ev_other _ _ (by decide)).trans (ev_same _ _ _ (by simp only [sz_put]; omega)))))))))) hS (fun wx hx => run_lodN (.tmp 46) rfl (ev_same _ _ _ (by simp only [sz_put]; omega)) hx.2.2.2.2.1) ?_
                        show SeqI _ _ _ _ _ _ (Act.put _ (some 47) _) _
                        refine sI_read (v := (.bool false)) rfl (fun _ _ _ h => absurd h.1 (fun e => nomatch e)) (wanted_g (j := 2) rfl rfl rfl ((ev_other _ _ (by decide)).trans ((ev_other _ _ (by decide)).trans ((ev_other _ _ (by decide)).trans ((ev_other _ _ (by decide)).trans ((ev_other _ _ (by decide)).trans ((ev_other _ _ (by decide)).trans ((ev_other _ _ (by decide)).trans ((ev_other _ _ (by decide)).trans (ev_same _ _ _ (by simp only [sz_put]; omega))))))))))) hS (fun wx _ => run_lssF (.tmp 41) (.tmp 47) rfl ((ev_other _ _ (by decide)).trans ((ev_other _ _ (by decide)).trans ((ev_other _ _ (by decide)).trans ((ev_other _ _ (by decide)).trans ((ev_other _ _ (by decide)).trans ((ev_other _ _ (by decide)).trans (ev_same _ _ _ (by simp only [sz_put]; omega)))))))) (ev_same _ _ _ (by simp only [sz_put]; omega)) (by omega) wx) ?_
                        show SeqI _ _ _ _ _ _ (Act.put _ (some 48) _) _
                        refine sI_read (v := (.bool false)) rfl (fun _ _ _ h => absurd h.1 (fun e => nomatch e)) (wanted_rd rfl) hS (fun wx _ => run_pickF (.tmp 39) (.const (.bool true)) (.tmp 48) rfl ((ev_other _ _ (by decide)).trans ((ev_other _ _ (by decide)).trans ((ev_other _ _ (by decide)).trans ((ev_other _ _ (by decide)).trans ((ev_other _ _ (by decide)).trans ((ev_other _ _ (by decide)).trans ((ev_other _ _ (by decide)).trans ((ev_other _ _ (by decide)).trans ((ev_other _ _ (by decide)).trans (ev_same _ _ _ (by simp only [sz_put]; omega))))))))))) (ev_same _ _ _ (by simp only [sz_put]; omega)) wx) ?_
                        show SeqI _ _ _ _ _ _ (Act.put _ (some 49) _) _
                        refine sI_read (v := (.bool false)) rfl (fun _ _ _ h => absurd h.1 (fun e => nomatch e)) (wanted_rd rfl) hS (fun wx _ => run_move (.tmp 49) rfl (ev_same _ _ _ (by simp only [sz_put]; omega)) wx) ?_
                        show SeqI _ _ _ _ _ _ (Act.put _ (some 50) _) _
                        refine sI_read (v := (.pointer (some ⟨wr.heap.size, 0 + 2, none⟩))) rfl (fun _ _ _ h => absurd h.1 (fun e => nomatch e)) (wanted_g (j := 13) rfl rfl rfl (ev_same _ _ _ (by simp only [sz_put]; omega))) hS (fun wx _ => run_fldP (.tmp 11) 2 rfl ((ev_other _ _ (by decide)).trans ((ev_other _ _ (by decide)).trans ((ev_other _ _ (by decide)).trans ((ev_other _ _ (by decide)).trans ((ev_other _ _ (by decide)).trans ((ev_other _ _ (by decide)).trans ((ev_other _ _ (by decide)).trans ((ev_other _ _ (by decide)).trans ((ev_other _ _ (by decide)).trans ((ev_other _ _ (by decide)).trans ((ev_other _ _ (by decide)).trans ((ev_other _ _ (by decide)).trans ((ev_other _ _ (by decide)).trans ((ev_other _ _ (by decide)).trans b11)))))))))))))) (by omega) wx) ?_
                        show SeqI _ _ _ _ _ _ (Act.put _ (some 51) _) _
                        refine sI_read (v := (.int .i64 p.du)) rfl (fun _ _ _ h => absurd h.1 (fun e => nomatch e)) (wanted_g (j := 13) rfl rfl rfl ((ev_other _ _ (by decide)).trans (ev_same _ _ _ (by simp only [sz_put]; omega)))) hS (fun wx hx => run_lodN (.tmp 51) rfl (ev_same _ _ _ (by simp only [sz_put]; omega)) hx.1.pc.2.2.1) ?_
                        show SeqI _ _ _ _ _ _ (Act.put _ (some 52) _) _
                        refine sI_read (v := (.pointer (some ⟨g, 2, none⟩))) rfl (fun _ _ _ h => absurd h.1 (fun e => nomatch e)) (wanted_g (j := 13) rfl rfl rfl ((ev_other _ _ (by decide)).trans ((ev_other _ _ (by decide)).trans (ev_same _ _ _ (by simp only [sz_put]; omega))))) hS (fun wx _ => run_fldU (.tmp 7) 2 rfl ((ev_other _ _ (by decide)).trans ((ev_other _ _ (by decide)).trans ((ev_other _ _ (by decide)).trans ((ev_other _ _ (by decide)).trans ((ev_other _ _ (by decide)).trans ((ev_other _ _ (by decide)).trans ((ev_other _ _ (by decide)).trans ((ev_other _ _ (by decide)).trans ((ev_other _ _ (by decide)).trans ((ev_other _ _ (by decide)).trans ((ev_other _ _ (by decide)).trans ((ev_other _ _ (by decide)).trans ((ev_other _ _ (by decide)).trans ((ev_other _ _ (by decide)).trans ((ev_other _ _ (by decide)).trans ((ev_other _ _ (by decide)).trans b7)))))))))))))))) (by omega) wx) ?_
                        show SeqI _ _ _ _ _ _ (Act.put _ (some 53) _) _
                        refine sI_read (v := (.slice (some ⟨gq, 0, none⟩) n vc)) rfl (fun _ _ _ h => absurd h.1 (fun e => nomatch e)) (wanted_g (j := 13) rfl rfl rfl ((ev_other _ _ (by decide)).trans ((ev_other _ _ (by decide)).trans ((ev_other _ _ (by decide)).trans (ev_same _ _ _ (by simp only [sz_put]; omega)))))) hS (fun wx hx => run_lodQ (.tmp 53) rfl (ev_same _ _ _ (by simp only [sz_put]; omega)) hx.2.1.cell2) ?_
                        show SeqI _ _ _ _ _ _ (Act.put _ (some 54) _) _
                        refine sI_read (v := (.int .i64 (j : Nat))) rfl (fun _ _ _ h => absurd h.1 (fun e => nomatch e)) (wanted_g (j := 13) rfl rfl rfl ((ev_other _ _ (by decide)).trans ((ev_other _ _ (by decide)).trans ((ev_other _ _ (by decide)).trans ((ev_other _ _ (by decide)).trans (ev_same _ _ _ (by simp only [sz_put]; omega))))))) hS (fun wx _ => run_move (.tmp 9) rfl ((ev_other _ _ (by decide)).trans ((ev_other _ _ (by decide)).trans ((ev_other _ _ (by decide)).trans ((ev_other _ _ (by decide)).trans ((ev_other _ _ (by decide)).trans ((ev_other _ _ (by decide)).trans ((ev_other _ _ (by decide)).trans ((ev_other _ _ (by decide)).trans ((ev_other _ _ (by decide)).trans ((ev_other _ _ (by decide)).trans ((ev_other _ _ (by decide)).trans ((ev_other _ _ (by decide)).trans ((ev_other _ _ (by decide)).trans ((ev_other _ _ (by decide)).trans ((ev_other _ _ (by decide)).trans ((ev_other _ _ (by decide)).trans ((ev_other _ _ (by decide)).trans ((ev_other _ _ (by decide)).trans b9)))))))))))))))))) wx) ?_
                        show SeqI _ _ _ _ _ _ (Act.put _ (some 55) _) _
                        refine sI_read (v := (.pointer (some ⟨gq, 0 + j * 5, none⟩))) rfl (fun _ _ _ h => absurd h.1 (fun e => nomatch e)) (wanted_g (j := 13) rfl rfl rfl ((ev_other _ _ (by decide)).trans ((ev_other _ _ (by decide)).trans ((ev_other _ _ (by decide)).trans ((ev_other _ _ (by decide)).trans ((ev_other _ _ (by decide)).trans (ev_same _ _ _ (by simp only [sz_put]; omega)))))))) hS (fun wx _ => run_ixP (.tmp 54) (.tmp 55) rfl ((ev_other _ _ (by decide)).trans (ev_same _ _ _ (by simp only [sz_put]; omega))) (ev_same _ _ _ (by simp only [sz_put]; omega)) hj wx) ?_
                        show SeqI _ _ _ _ _ _ (Act.put _ (some 56) _) _
                        refine sI_read (v := (.pointer (some ⟨gq, 0 + j * 5 + 2, none⟩))) rfl (fun _ _ _ h => absurd h.1 (fun e => nomatch e)) (wanted_g (j := 13) rfl rfl rfl ((ev_other _ _ (by decide)).trans ((ev_other _ _ (by decide)).trans ((ev_other _ _ (by decide)).trans ((ev_other _ _ (by decide)).trans ((ev_other _ _ (by decide)).trans ((ev_other _ _ (by decide)).trans (ev_same _ _ _ (by simp only [sz_put]; omega))))))))) hS (fun wx _ => run_fldP (.tmp 56) 2 rfl (ev_same _ _ _ (by simp only [sz_put]; omega)) (by omega) wx) ?_
                        show SeqI _ _ _ _ _ _ (Act.put _ (some 57) _) _
                        refine sI_read (v := (.int .i64 m.du)) rfl (fun _ _ _ h => absurd h.1 (fun e => nomatch e)) (wanted_g (j := 13) rfl rfl rfl ((ev_other _ _ (by decide)).trans ((ev_other _ _ (by decide)).trans ((ev_other _ _ (by decide)).trans ((ev_other _ _ (by decide)).trans ((ev_other _ _ (by decide)).trans ((ev_other _ _ (by decide)).trans ((ev_other _ _ (by decide)).trans (ev_same _ _ _ (by simp only [sz_put]; omega)))))))))) hS (fun wx hx => run_lodN (.tmp 57) rfl (ev_same _ _ _ (by simp only [sz_put]; omega)) hx.2.2.2.2.1) ?_
                        show SeqI _ _ _ _ _ _ (Act.put _ (some 58) _) _
                        refine sI_read (v := (.bool true)) rfl (fun _ _ _ h => absurd h.1 (fun e => nomatch e)) (wanted_g (j := 13) rfl rfl rfl ((ev_other _ _ (by decide)).trans ((ev_other _ _ (by decide)).trans ((ev_other _ _ (by decide)).trans ((ev_other _ _ (by decide)).trans ((ev_other _ _ (by decide)).trans ((ev_other _ _ (by decide)).trans ((ev_other _ _ (by decide)).trans ((ev_other _ _ (by decide)).trans (ev_same _ _ _ (by simp only [sz_put]; omega))))))))))) hS (fun wx _ => run_eqP (.tmp 52) (.tmp 58) rfl ((ev_other _ _ (by decide)).trans ((ev_other _ _ (by decide)).trans ((ev_other _ _ (by decide)).trans ((ev_other _ _ (by decide)).trans ((ev_other _ _ (by decide)).trans ((ev_other _ _ (by decide)).trans (ev_same _ _ _ (by simp only [sz_put]; omega)))))))) (ev_same _ _ _ (by simp only [sz_put]; omega)) heq wx) ?_
                        show SeqI _ _ _ _ _ _ (Act.put _ (some 59) _) _
                        refine sI_read (v := (.bool true)) rfl (fun _ _ _ h => absurd h.1 (fun e => nomatch e)) (wanted_g (j := 13) rfl rfl rfl ((ev_other _ _ (by decide)).trans ((ev_other _ _ (by decide)).trans ((ev_other _ _ (by decide)).trans ((ev_other _ _ (by decide)).trans ((ev_other _ _ (by decide)).trans ((ev_other _ _ (by decide)).trans ((ev_other _ _ (by decide)).trans ((ev_other _ _ (by decide)).trans ((ev_other _ _ (by decide)).trans (ev_same _ _ _ (by simp only [sz_put]; omega)))))))))))) hS (fun wx _ => run_move (.tmp 59) rfl (ev_same _ _ _ (by simp only [sz_put]; omega)) wx) ?_
                        show SeqI _ _ _ _ _ _ (Act.put _ (some 60) _) _
                        refine sI_read (v := (.pointer (some ⟨wr.heap.size, 0 + 3, none⟩))) rfl (fun _ _ _ h => absurd h.1 (fun e => nomatch e)) (wanted_g (j := 23) rfl rfl rfl (ev_same _ _ _ (by simp only [sz_put]; omega))) hS (fun wx _ => run_fldP (.tmp 11) 3 rfl ((ev_other _ _ (by decide)).trans ((ev_other _ _ (by decide)).trans ((ev_other _ _ (by decide)).trans ((ev_other _ _ (by decide)).trans ((ev_other _ _ (by decide)).trans ((ev_other _ _ (by decide)).trans ((ev_other _ _ (by decide)).trans ((ev_other _ _ (by decide)).trans ((ev_other _ _ (by decide)).trans ((ev_other _ _ (by decide)).trans ((ev_other _ _ (by decide)).trans ((ev_other _ _ (by decide)).trans ((ev_other _ _ (by decide)).trans ((ev_other _ _ (by decide)).trans ((ev_other _ _ (by decide)).trans ((ev_other _ _ (by decide)).trans ((ev_other _ _ (by decide)).trans ((ev_other _ _ (by decide)).trans ((ev_other _ _ (by decide)).trans ((ev_other _ _ (by decide)).trans ((ev_other _ _ (by decide)).trans ((ev_other _ _ (by decide)).trans ((ev_other _ _ (by decide)).trans ((ev_other _ _ (by decide)).trans b11)))))))))))))))))))))))) (by omega) wx) ?_
                        show SeqI _ _ _ _ _ _ (Act.put _ (some 61) _) _
                        refine sI_read (v := (.int .i64 p.se)) rfl (fun _ _ _ h => absurd h.1 (fun e => nomatch e)) (wanted_g (j := 23) rfl rfl rfl ((ev_other _ _ (by decide)).trans (ev_same _ _ _ (by simp only [sz_put]; omega)))) hS (fun wx hx => run_lodN (.tmp 61) rfl (ev_same _ _ _ (by simp only [sz_put]; omega)) hx.1.pc.2.2.2.1) ?_
                        show SeqI _ _ _ _ _ _ (Act.put _ (some 62) _) _
                        refine sI_read (v := (.pointer (some ⟨g, 2, none⟩))) rfl (fun _ _ _ h => absurd h.1 (fun e => nomatch e)) (wanted_g (j := 23) rfl rfl rfl ((ev_other _ _ (by decide)).trans ((ev_other _ _ (by decide)).trans (ev_same _ _ _ (by simp only [sz_put]; omega))))) hS (fun wx _ => run_fldU (.tmp 7) 2 rfl ((ev_other _ _ (by decide)).trans ((ev_other _ _ (by decide)).trans ((ev_other _ _ (by decide)).trans ((ev_other _ _ (by decide)).trans ((ev_other _ _ (by decide)).trans ((ev_other _ _ (by decide)).trans ((ev_other _ _ (by decide)).trans ((ev_other _ _ (by decide)).trans ((ev_other _ _ (by decide)).trans ((ev_other _ _ (by decide)).trans ((ev_other _ _ (by decide)).trans ((ev_other _ _ (by decide)).trans ((ev_other _ _ (by decide)).trans ((ev_other _ _ (by decide)).trans ((ev_other _ _ (by decide)).trans ((ev_other _ _ (by decide)).trans ((ev_other _ _ (by decide)).trans ((ev_other _ _ (by decide)).trans ((ev_other _ _ (by decide)).trans ((ev_other _ _ (by decide)).trans ((ev_other _ _ (by decide)).trans ((ev_other _ _ (by decide)).trans ((ev_other _ _ (by decide)).trans ((ev_other _ _ (by decide)).trans ((ev_other _ _ (by decide)).trans ((ev_other _ _ (by decide)).trans b7)))))))))))))))))))))))))) (by omega) wx) ?_
                        show SeqI _ _ _ _ _ _ (Act.put _ (some 63) _) _
                        refine sI_read (v := (.slice (some ⟨gq, 0, none⟩) n vc)) rfl (fun _ _ _ h => absurd h.1 (fun e => nomatch e)) (wanted_g (j := 23) rfl rfl rfl ((ev_other _ _ (by decide)).trans ((ev_other _ _ (by decide)).trans ((ev_other _ _ (by decide)).trans (ev_same _ _ _ (by simp only [sz_put]; omega)))))) hS (fun wx hx => run_lodQ (.tmp 63) rfl (ev_same _ _ _ (by simp only [sz_put]; omega)) hx.2.1.cell2) ?_
                        show SeqI _ _ _ _ _ _ (Act.put _ (some 64) _) _
                        refine sI_read (v := (.int .i64 (j : Nat))) rfl (fun _ _ _ h => absurd h.1 (fun e => nomatch e)) (wanted_g (j := 23) rfl rfl rfl ((ev_other _ _ (by decide)).trans ((ev_other _ _ (by decide)).trans ((ev_other _ _ (by decide)).trans ((ev_other _ _ (by decide)).trans (ev_same _ _ _ (by simp only [sz_put]; omega))))))) hS (fun wx _ => run_move (.tmp 9) rfl ((ev_other _ _ (by decide)).trans ((ev_other _ _ (by decide)).trans ((ev_other _ _ (by decide)).trans ((ev_other _ _ (by decide)).trans ((ev_other _ _ (by decide)).trans ((ev_other _ _ (by decide)).trans ((ev_other _ _ (by decide)).trans ((ev_other _ _ (by decide)).trans ((ev_other _ _ (by decide)).trans ((ev_other _ _ (by decide)).trans ((ev_other _ _ (by decide)).trans ((ev_other _ _ (by decide)).trans ((ev_other _ _ (by decide)).trans ((ev_other _ _ (by decide)).trans ((ev_other _ _ (by decide)).trans ((ev_other _ _ (by decide)).trans ((ev_other _ _ (by decide)).trans ((ev_other _ _ (by decide)).trans ((ev_other _ _ (by decide)).trans ((ev_other _ _ (by decide)).trans ((ev_other _ _ (by decide)).trans ((ev_other _ _ (by decide)).trans ((ev_other _ _ (by decide)).trans ((ev_other _ _ (by decide)).trans ((ev_other _ _ (by decide)).trans ((ev_other _ _ (by decide)).trans ((ev_other _ _ (by decide)).trans ((ev_other _ _ (by decide)).trans b9)))))))))))))))))))))))))))) wx) ?_
                        show SeqI _ _ _ _ _ _ (Act.put _ (some 65) _) _
                        refine sI_read (v := (.pointer (some ⟨gq, 0 + j * 5, none⟩))) rfl (fun _ _ _ h => absurd h.1 (fun e => nomatch e)) (wanted_g (j := 23) rfl rfl rfl ((ev_other _ _ (by decide)).trans ((ev_other _ _ (by decide)).trans ((ev_other _ _ (by decide)).trans ((ev_other _ _ (by decide)).trans ((ev_other _ _ (by decide)).trans (ev_same _ _ _ (by simp only [sz_put]; omega)))))))) hS (fun wx _ => run_ixP (.tmp 64) (.tmp 65) rfl ((ev_other _ _ (by decide)).trans (ev_same _ _ _ (by simp only [sz_put]; omega))) (ev_same _ _ _ (by simp only [sz_put]; omega)) hj wx) ?_
                        show SeqI _ _ _ _ _ _ (Act.put _ (some 66) _) _
                        refine sI_read (v := (.pointer (some ⟨gq, 0 + j * 5 + 3, none⟩))) rfl (fun _ _ _ h => absurd h.1 (fun e => nomatch e)) (wanted_g (j := 23) rfl rfl rfl ((ev_other _ _ (by decide)).trans ((ev_other _ _ (by decide)).trans ((ev_other _ _ (by decide)).trans ((ev_other _ _ (by decide)).trans ((ev_other _ _ (by decide)).trans ((ev_other _ _ (by decide)).trans (ev_same _ _ _ (by simp only [sz_put]; omega))))))))) hS (fun wx _ => run_fldP (.tmp 66) 3 rfl (ev_same _ _ _ (by simp only [sz_put]; omega)) (by omega) wx) ?_
                        show SeqI _ _ _ _ _ _ (Act.put _ (some 67) _) _
                        refine sI_read (v := (.int .i64 m.se)) rfl (fun _ _ _ h => absurd h.1 (fun e => nomatch e)) (wanted_g (j := 23) rfl rfl rfl ((ev_other _ _ (by decide)).trans ((ev_other _ _ (by decide)).trans ((ev_other _ _ (by decide)).trans ((ev_other _ _ (by decide)).trans ((ev_other _ _ (by decide)).trans ((ev_other _ _ (by decide)).trans ((ev_other _ _ (by decide)).trans (ev_same _ _ _ (by simp only [sz_put]; omega)))))))))) hS (fun wx hx => run_lodN (.tmp 67) rfl (ev_same _ _ _ (by simp only [sz_put]; omega)) hx.2.2.2.2.2.1) ?_
                        show SeqI _ _ _ _ _ _ (Act.put _ (some 68) _) _
                        refine sI_read (v := (.bool true)) rfl (fun _ _ _ h => absurd h.1 (fun e => nomatch e)) (wanted_g (j := 23) rfl rfl rfl ((ev_other _ _ (by decide)).trans ((ev_other _ _ (by decide)).trans ((ev_other _ _ (by decide)).trans ((ev_other _ _ (by decide)).trans ((ev_other _ _ (by decide)).trans ((ev_other _ _ (by decide)).trans ((ev_other _ _ (by decide)).trans ((ev_other _ _ (by decide)).trans (ev_same _ _ _ (by simp only [sz_put]; omega))))))))))) hS (fun wx _ => run_lssT (.tmp 62) (.tmp 68) rfl ((ev_other _ _ (by decide)).trans ((ev_other _ _ (by decide)).trans ((ev_other _ _ (by decide)).trans ((ev_other _ _ (by decide)).trans ((ev_other _ _ (by decide)).trans ((ev_other _ _ (by decide)).trans (ev_same _ _ _ (by simp only [sz_put]; omega)))))))) (ev_same _ _ _ (by simp only [sz_put]; omega)) (by omega) wx) ?_
                        show SeqI _ _ _ _ _ _ (Act.put _ (some 69) _) _
                        refine sI_read (v := (.bool true)) rfl (fun _ _ _ h => absurd h.1 (fun e => nomatch e)) (wanted_g (j := 13) rfl rfl rfl ((ev_other _ _ (by decide)).trans ((ev_other _ _ (by decide)).trans ((ev_other _ _ (by decide)).trans ((ev_other _ _ (by decide)).trans ((ev_other _ _ (by decide)).trans ((ev_other _ _ (by decide)).trans ((ev_other _ _ (by decide)).trans ((ev_other _ _ (by decide)).trans ((ev_other _ _ (by decide)).trans ((ev_other _ _ (by decide)).trans ((ev_other _ _ (by decide)).trans ((ev_other _ _ (by decide)).trans ((ev_other _ _ (by decide)).trans ((ev_other _ _ (by decide)).trans ((ev_other _ _ (by decide)).trans ((ev_other _ _ (by decide)).trans ((ev_other _ _ (by decide)).trans ((ev_other _ _ (by decide)).trans ((ev_other _ _ (by decide)).trans (ev_same _ _ _ (by simp only [sz_put]; omega)))))))))))))))))))))) hS (fun wx _ => run_pickT' (.tmp 60) (.tmp 69) (.const (.bool false)) rfl ((ev_other _ _ (by decide)).trans ((ev_other _ _ (by decide)).trans ((ev_other _ _ (by decide)).trans ((ev_other _ _ (by decide)).trans ((ev_other _ _ (by decide)).trans ((ev_other _ _ (by decide)).trans ((ev_other _ _ (by decide)).trans ((ev_other _ _ (by decide)).trans ((ev_other _ _ (by decide)).trans (ev_same _ _ _ (by simp only [sz_put]; omega))))))))))) (ev_same _ _ _ (by simp only [sz_put]; omega)) wx) ?_
                        show SeqI _ _ _ _ _ _ (Act.put _ (some 70) _) _
                        refine sI_read (v := (.bool true)) rfl (fun _ _ _ h => absurd h.1 (fun e => nomatch e)) (wanted_rd rfl) hS (fun wx _ => run_pickF (.tmp 50) (.const (.bool true)) (.tmp 70) rfl ((ev_other _ _ (by decide)).trans ((ev_other _ _ (by decide)).trans ((ev_other _ _ (by decide)).trans ((ev_other _ _ (by decide)).trans ((ev_other _ _ (by decide)).trans ((ev_other _ _ (by decide)).trans ((ev_other _ _ (by decide)).trans ((ev_other _ _ (by decide)).trans ((ev_other _ _ (by decide)).trans ((ev_other _ _ (by decide)).trans ((ev_other _ _ (by decide)).trans ((ev_other _ _ (by decide)).trans ((ev_other _ _ (by decide)).trans ((ev_other _ _ (by decide)).trans ((ev_other _ _ (by decide)).trans ((ev_other _ _ (by decide)).trans ((ev_other _ _ (by decide)).trans ((ev_other _ _ (by decide)).trans ((ev_other _ _ (by decide)).trans ((ev_other _ _ (by decide)).trans (ev_same _ _ _ (by simp only [sz_put]; omega)))))))))))))))))))))) (ev_same _ _ _ (by simp only [sz_put]; omega)) wx) ?_
                        show SeqI _ _ _ _ _ _ (Act.put _ (some 71) _) _
                        exact sI_end ⟨rfl, (unhide HH).drew, rfl⟩
                      case rest =>
                        rintro a' w6 ⟨h6, rfl⟩
                        have H6 := hide h6
                        clear h6
                        go_frame
                        go_wp2_with fail
                        go_roundw
                        case rel => exact ⟨i + 1, (i : Nat), by omega, rfl, by go_num, isb_less (unhide IB) (unhide MJ) (unhide PI) (by show p.du ≤ t; omega) (unhide LP), unhide H6⟩
                        case measure => simp [intOf] <;> omega
                    · have LP := hide (show leP m p = true by have := unhide HEQ; unfold leP; simp only [decide_eq_true_eq]; omega)
                      go_wp2_with fail
                      rw [← unhide E5]
                      refine wp_leaves (fun a0 a' w' => StI w g t S (.slice (some ⟨gq, 0, none⟩) n vc) M (.slice ca C.length cc) C w' ∧ a' = (((((((((((((((((((((((((((((((((((a0.put (some 37) (.int .i64 (j : Nat))).put (some 38) (.bool false)).put (some 39) (.bool false)).put (some 40) (.pointer (some ⟨wr.heap.size, 0 + 2, none⟩))).put (some 41) (.int .i64 p.du)).put (some 42) (.pointer (some ⟨g, 2, none⟩))).put (some 43) (.slice (some ⟨gq, 0, none⟩) n vc)).put (some 44) (.int .i64 (j : Nat))).put (some 45) (.pointer (some ⟨gq, 0 + j * 5, none⟩))).put (some 46) (.pointer (some ⟨gq, 0 + j * 5 + 2, none⟩))).put (some 47) (.int .i64 m.du)).put (some 48) (.bool false)).put (some 49) (.bool false)).put (some 50) (.bool false)).put (some 51) (.pointer (some ⟨wr.heap.size, 0 + 2, none⟩))).put (some 52) (.int .i64 p.du)).put (some 53) (.pointer (some ⟨g, 2, none⟩))).put (some 54) (.slice (some ⟨gq, 0, none⟩) n vc)).put (some 55) (.int .i64 (j : Nat))).put (some 56) (.pointer (some ⟨gq, 0 + j * 5, none⟩))).put (some 57) (.pointer (some ⟨gq, 0 + j * 5 + 2, none⟩))).put (some 58) (.int .i64 m.du)).put (some 59) (.bool true)).put (some 60) (.bool true)).put (some 61) (.pointer (some ⟨wr.heap.size, 0 + 3, none⟩))).put (some 62) (.int .i64 p.se)).put (some 63) (.pointer (some ⟨g, 2, none⟩))).put (some 64) (.slice (some ⟨gq, 0, none⟩) n vc)).put (some 65) (.int .i64 (j : Nat))).put (some 66) (.pointer (some ⟨gq, 0 + j * 5, none⟩))).put (some 67) (.pointer (some ⟨gq, 0 + j * 5 + 3, none⟩))).put (some 68) (.int .i64 m.se)).put (some 69) (.bool false)).put (some 70) (.bool false)).put (some 71) (.bool false))) ?reg ?rest
                      case reg =>
                        intro A eA
                        have b9 : A.eval (.tmp 9) = (.int .i64 (j : Nat)) := by rw [eA]; rfl
                        have b11 : A.eval (.tmp 11) = .pointer (some ⟨wr.heap.size, 0, none⟩) := by rw [eA]; rfl
                        have b7 : A.eval (.tmp 7) = .pointer (some ⟨g, 0, none⟩) := by rw [eA]; rfl
                        have hs : 97 ≤ A.tmps.size := by rw [eA]; exact of_decide_eq_true rfl
                        clear eA
                        have hS : PvAt w5.drew wr.heap.size p (.slice ba bn bc) ∧ BuAt w5.drew g t S (.slice (some ⟨gq, 0, none⟩) n vc) ∧ PcAt w5.drew gq (0 + j * 5) m (.slice ma mn mc) := ⟨unhide PV5, (unhide HH).2.1, unhide PM⟩
                        refine region_I (S := fun W => PvAt W wr.heap.size p (.slice ba bn bc) ∧ BuAt W g t S (.slice (some ⟨gq, 0, none⟩) n vc) ∧ PcAt W gq (0 + j * 5) m (.slice ma mn mc)) (.rd 0 (.rd 1 (.rd 2 (.rd 3 (.rd 4 (.rd 5 (.rd 6 (.rd 7 (.rd 8 (.rd 9 (.rd 10 (.rd 11 (.rd 12 (.rd 13 (.rd 14 (.rd 15 (.rd 16 (.rd 17 (.rd 18 (.rd 19 (.rd 20 (.rd 21 (.rd 22 (.rd 23 (.rd 24 (.rd 25 (.rd 26 (.rd 27 (.rd 28 (.rd 29 (.rd 30 (.rd 31 (.rd 32 (.rd 33 (.rd 34 .fin))))))))))))))))))))))))))))))))))) [] (by kernel_rfl) (by kernel_rfl) ?_
                        refine sI_read (v := (.int .i64 (j : Nat))) rfl (fun _ _ _ h => absurd h.1 (fun e => nomatch e)) (wanted_rd rfl) hS (fun wx _ => run_move (.tmp 9) rfl b9 wx) ?_
                        show SeqI _ _ _ _ _ _ (Act.put _ (some 37) _) _
                        refine sI_read (v := (.bool false)) rfl (fun _ _ _ h => absurd h.1 (fun e => nomatch e)) (wanted_rd rfl) hS (fun wx _ => run_lssF (.tmp 37) (.const (.int .i64 0)) rfl (ev_same _ _ _ (by omega)) rfl (by omega) wx) ?_
                        show SeqI _ _ _ _ _ _ (Act.put _ (some 38) _) _
                        refine sI_read (v := (.bool false)) rfl (fun _ _ _ h => absurd h.1 (fun e => nomatch e)) (wanted_rd rfl) hS (fun wx _ => run_move (.tmp 38) rfl (ev_same _ _ _ (by simp only [sz_put]; omega)) wx) ?_
                        show SeqI _ _ _ _ _ _ (Act.put _ (some 39) _) _
                        refine sI_read (v := (.pointer (some ⟨wr.heap.size, 0 + 2, none⟩))) rfl (fun _ _ _ h => absurd h.1 (fun e => nomatch e)) (wanted_g (j := 2) rfl rfl rfl (ev_same _ _ _ (by simp only [sz_put]; omega))) hS (fun wx _ => run_fldP (.tmp 11) 2 rfl ((ev_other _ _ (by decide)).trans ((ev_other _ _ (by decide)).trans ((ev_other _ _ (by decide)).trans b11))) (by omega) wx) ?_
                        show SeqI _ _ _ _ _ _ (Act.put _ (some 40) _) _
                        refine sI_read (v := (.int .i64 p.du)) rfl (fun _ _ _ h => absurd h.1 (fun e => nomatch e)) (wanted_g (j := 2) rfl rfl rfl ((ev_other _ _ (by decide)).trans (ev_same _ _ _ (by simp only [sz_put]; omega)))) hS (fun wx hx => run_lodN (.tmp 40) rfl (ev_same _ _ _ (by simp only [sz_put]; omega)) hx.1.pc.2.2.1) ?_
                        show SeqI _ _ _ _ _ _ (Act.put _ (some 41) _) _
                        refine sI_read (v := (.pointer (some ⟨g, 2, none⟩))) rfl (fun _ _ _ h => absurd h.1 (fun e => nomatch e)) (wanted_g (j := 2) rfl rfl rfl ((ev_other _ _ (by decide)).trans ((ev_other _ _ (by decide)).trans (ev_same _ _ _ (by simp only [sz_put]; omega))))) hS (fun wx _ => run_fldU (.tmp 7) 2 rfl ((ev_other _ _ (by decide)).trans ((ev_other _ _ (by decide)).trans ((ev_other _ _ (by decide)).trans ((ev_other _ _ (by decide)).trans ((ev_other _ _ (by decide)).trans b7))))) (by omega) wx) ?_
                        show SeqI _ _ _ _ _ _ (Act.put _ (some 42) _) _
                        refine sI_read (v := (.slice (some ⟨gq, 0, none⟩) n vc)) rfl (fun _ _ _ h => absurd h.1 (fun e => nomatch e)) (wanted_g (j := 2) rfl rfl rfl ((ev_other _ _ (by decide)).trans ((ev_other _ _ (by decide)).trans ((ev_other _ _ (by decide)).trans (ev_same _ _ _ (by simp only [sz_put]; omega)))))) hS (fun wx hx => run_lodQ (.tmp 42) rfl (ev_same _ _ _ (by simp only [sz_put]; omega)) hx.2.1.cell2) ?_
                        show SeqI _ _ _ _ _ _ (Act.put _ (some 43) _) _
                        refine sI_read (v := (.int .i64 (j : Nat))) rfl (fun _ _ _ h => absurd h.1 (fun e => nomatch e)) (wanted_g (j := 2) rfl rfl rfl ((ev_other _ _ (by decide)).trans ((ev_other _ _ (by decide)).trans ((ev_other _ _ (by decide)).trans ((ev_other _ _ (by decide)).trans (ev_same _ _ _ (by simp only [sz_put]; omega))))))) hS (fun wx _ => run_move (.tmp 9) rfl ((ev_other _ _ (by decide)).trans ((ev_other _ _ (by decide)).trans ((ev_other _ _ (by decide)).trans ((ev_other _ _ (by decide)).trans ((ev_other _ _ (by decide)).trans ((ev_other _ _ (by decide)).trans ((ev_other _ _ (by decide)).trans b9))))))) wx) ?_
                        show SeqI _ _ _ _ _ _ (Act.put _ (some 44) _) _
                        refine sI_read (v := (.pointer (some ⟨gq, 0 + j * 5, none⟩))) rfl (fun _ _ _ h => absurd h.1 (fun e => nomatch e)) (wanted_g (j := 2) rfl rfl rfl ((ev_other _ _ (by decide)).trans ((ev_other _ _ (by decide)).trans ((ev_other _ _ (by decide)).trans ((ev_other _ _ (by decide)).trans ((ev_other _ _ (by decide)).trans (ev_same _ _ _ (by simp only [sz_put]; omega)))))))) hS (fun wx _ => run_ixP (.tmp 43) (.tmp 44) rfl ((ev_other _ _ (by decide)).trans (ev_same _ _ _ (by simp only [sz_put]; omega))) (ev_same _ _ _ (by simp only [sz_put]; omega)) hj wx) ?_
                        show SeqI _ _ _ _ _ _ (Act.put _ (some 45) _) _
                        refine sI_read (v := (.pointer (some ⟨gq, 0 + j * 5 + 2, none⟩))) rfl (fun _ _ _ h => absurd h.1 (fun e => nomatch e)) (wanted_g (j := 2) rfl rfl rfl ((ev_other _ _ (by decide)).trans ((ev_other _ _ (by decide)).trans ((ev_other _ _ (by decide)).trans ((ev_other _ _ (by decide)).trans ((ev_other _ _ (by decide)).trans ((ev_other _ _ (by decide)).trans (ev_same _ _ _ (by simp only [sz_put]; omega))))))))) hS (fun wx _ => run_fldP (.tmp 45) 2 rfl (ev_same _ _ _ (by simp only [sz_put]; omega)) (by omega) wx) ?_
                        show SeqI _ _ _ _ _ _ (Act.put _ (some 46) _) _
                        refine sI_read (v := (.int .i64 m.du)) rfl (fun _ _ _ h => absurd h.1 (fun e => nomatch e)) (wanted_g (j := 2) rfl rfl rfl ((ev_other _ _ (by decide)).trans ((ev_other _ _ (by decide)).trans ((ev_other _ _ (by decide)).trans ((ev_other _ _ (by decide)).trans ((ev_other _ _ (by decide)).trans ((ev_other _ _ (by decide)).trans ((ev_other _ _ (by decide)).trans (ev_same _ _ _ (by simp only [sz_put]; omega)))))))))) hS (fun wx hx => run_lodN (.tmp 46) rfl (ev_same _ _ _ (by simp only [sz_put]; omega)) hx.2.2.2.2.1) ?_
                        show SeqI _ _ _ _ _ _ (Act.put _ (some 47) _) _
                        refine sI_read (v := (.bool false)) rfl (fun _ _ _ h => absurd h.1 (fun e => nomatch e)) (wanted_g (j := 2) rfl rfl rfl ((ev_other _ _ (by decide)).trans ((ev_other _ _ (by decide)).trans ((ev_other _ _ (by decide)).trans ((ev_other _ _ (by decide)).trans ((ev_other _ _ (by decide)).trans ((ev_other _ _ (by decide)).trans ((ev_other _ _ (by decide)).trans ((ev_other _ _ (by decide)).trans (ev_same _ _ _ (by simp only [sz_put]; omega))))))))))) hS (fun wx _ => run_lssF (.tmp 41) (.tmp 47) rfl ((ev_other _ _ (by decide)).trans ((ev_other _ _ (by decide)).trans ((ev_other _ _ (by decide)).trans ((ev_other _ _ (by decide)).trans ((ev_other _ _ (by decide)).trans ((ev_other _ _ (by decide)).trans (ev_same _ _ _ (by simp only [sz_put]; omega)))))))) (ev_same _ _ _ (by simp only [sz_put]; omega)) (by omega) wx) ?_
                        show SeqI _ _ _ _ _ _ (Act.put _ (some 48) _) _
                        refine sI_read (v := (.bool false)) rfl (fun _ _ _ h => absurd h.1 (fun e => nomatch e)) (wanted_rd rfl) hS (fun wx _ => run_pickF (.tmp 39) (.const (.bool true)) (.tmp 48) rfl ((ev_other _ _ (by decide)).trans ((ev_other _ _ (by decide)).trans ((ev_other _ _ (by decide)).trans ((ev_other _ _ (by decide)).trans ((ev_other _ _ (by decide)).trans ((ev_other _ _ (by decide)).trans ((ev_other _ _ (by decide)).trans ((ev_other _ _ (by decide)).trans ((ev_other _ _ (by decide)).trans (ev_same _ _ _ (by simp only [sz_put]; omega))))))))))) (ev_same _ _ _ (by simp only [sz_put]; omega)) wx) ?_
                        show SeqI _ _ _ _ _ _ (Act.put _ (some 49) _) _
                        refine sI_read (v := (.bool false)) rfl (fun _ _ _ h => absurd h.1 (fun e => nomatch e)) (wanted_rd rfl) hS (fun wx _ => run_move (.tmp 49) rfl (ev_same _ _ _ (by simp only [sz_put]; omega)) wx) ?_
                        show SeqI _ _ _ _ _ _ (Act.put _ (some 50) _) _
                        refine sI_read (v := (.pointer (some ⟨wr.heap.size, 0 + 2, none⟩))) rfl (fun _ _ _ h => absurd h.1 (fun e => nomatch e)) (wanted_g (j := 13) rfl rfl rfl (ev_same _ _ _ (by simp only [sz_put]; omega))) hS (fun wx _ => run_fldP (.tmp 11) 2 rfl ((ev_other _ _ (by decide)).trans ((ev_other _ _ (by decide)).trans ((ev_other _ _ (by decide)).trans ((ev_other _ _ (by decide)).trans ((ev_other _ _ (by decide)).trans ((ev_other _ _ (by decide)).trans ((ev_other _ _ (by decide)).trans ((ev_other _ _ (by decide)).trans ((ev_other _ _ (by decide)).trans ((ev_other _ _ (by decide)).trans ((ev_other _ _ (by decide)).trans ((ev_other _ _ (by decide)).trans ((ev_other _ _ (by decide)).trans ((ev_other _ _ (by decide)).trans b11)))))))))))))) (by omega) wx) ?_
                        show SeqI _ _ _ _ _ _ (Act.put _ (some 51) _) _
                        refine sI_read (v := (.int .i64 p.du)) rfl (fun _ _ _ h => absurd h.1 (fun e => nomatch e)) (wanted_g (j := 13) rfl rfl rfl ((ev_other _ _ (by decide)).trans (ev_same _ _ _ (by simp only [sz_put]; omega)))) hS (fun wx hx => run_lodN (.tmp 51) rfl (ev_same _ _ _ (by simp only [sz_put]; omega)) hx.1.pc.2.2.1) ?_
                        show SeqI _ _ _ _ _ _ (Act.put _ (some 52) _) _
                        refine sI_read (v := (.pointer (some ⟨g, 2, none⟩))) rfl (fun _ _ _ h => absurd h.1 (fun e => nomatch e)) (wanted_g (j := 13) rfl rfl rfl ((ev_other _ _ (by decide)).trans ((ev_other _ _ (by decide)).trans (ev_same _ _ _ (by simp only [sz_put]; omega))))) hS (fun wx _ => run_fldU (.tmp 7) 2 rfl ((ev_other _ _ (by decide)).trans ((ev_other _ _ (by decide)).trans ((ev_other _ _ (by decide)).trans ((ev_other _ _ (by decide)).trans ((ev_other _ _ (by decide)).trans ((ev_other _ _ (by decide)).trans ((ev_other _ _ (by decide)).trans ((ev_other _ _ (by decide)).trans ((ev_other _ _ (by decide)).trans ((ev_other _ _ (by decide)).trans ((ev_other _ _ (by decide)).trans ((ev_other _ _ (by decide)).trans ((ev_other _ _ (by decide)).trans ((ev_other _ _ (by decide)).trans ((ev_other _ _ (by decide)).trans ((ev_other _ _ (by decide)).trans b7)))))))))))))))) (by omega) wx) ?_
                        show SeqI _ _ _ _ _ _ (Act.put _ (some 53) _) _
                        refine sI_read (v := (.slice (some ⟨gq, 0, none⟩) n vc)) rfl (fun _ _ _ h => absurd h.1 (fun e => nomatch e)) (wanted_g (j := 13) rfl rfl rfl ((ev_other _ _ (by decide)).trans ((ev_other _ _ (by decide)).trans ((ev_other _ _ (by decide)).trans (ev_same _ _ _ (by simp only [sz_put]; omega)))))) hS (fun wx hx => run_lodQ (.tmp 53) rfl (ev_same _ _ _ (by simp only [sz_put]; omega)) hx.2.1.cell2) ?_
                        show SeqI _ _ _ _ _ _ (Act.put _ (some 54) _) _
                        refine sI_read (v := (.int .i64 (j : Nat))) rfl (fun _ _ _ h => absurd h.1 (fun e => nomatch e)) (wanted_g (j := 13) rfl rfl rfl ((ev_other _ _ (by decide)).trans ((ev_other _ _ (by decide)).trans ((ev_other _ _ (by decide)).trans ((ev_other _ _ (by decide)).trans (ev_same _ _ _ (by simp only [sz_put]; omega))))))) hS (fun wx _ => run_move (.tmp 9) rfl ((ev_other _ _ (by decide)).trans ((ev_other _ _ (by decide)).trans ((ev_other _ _ (by decide)).trans ((ev_other _ _ (by decide)).trans ((ev_other _ _ (by decide)).trans ((ev_other _ _ (by decide)).trans ((ev_other _ _ (by decide)).trans ((ev_other _ _ (by decide)).trans ((ev_other _ _ (by decide)).trans ((ev_other _ _ (by decide)).trans ((ev_other _ _ (by decide)).trans ((ev_other _ _ (by decide)).trans ((ev_other _ _ (by decide)).trans ((ev_other _ _ (by decide)).trans ((ev_other _ _ (by decide)).trans ((ev_other _ _ (by decide)).trans ((ev_other _ _ (by decide)).trans ((ev_other _ _ (by decide)).trans b9)))))))))))))))))) wx) ?_
                        show SeqI _ _ _ _ _ _ (Act.put _ (some 55) _) _
                        refine sI_read (v := (.pointer (some ⟨gq, 0 + j * 5, none⟩))) rfl (fun _ _ _ h => absurd h.1 (fun e => nomatch e)) (wanted_g (j := 13) rfl rfl rfl ((ev_other _ _ (by decide)).trans ((ev_other _ _ (by decide)).trans ((ev_other _ _ (by decide)).trans ((ev_other _ _ (by decide)).trans ((ev_other _ _ (by decide)).trans (ev_same _ _ _ (by simp only [sz_put]; omega)))))))) hS (fun wx _ => run_ixP (.tmp 54) (.tmp 55) rfl ((ev_other _ _ (by decide)).trans (ev_same _ _ _ (by simp only [sz_put]; omega))) (ev_same _ _ _ (by simp only [sz_put]; omega)) hj wx) ?_
                        show SeqI _ _ _ _ _ _ (Act.put _ (some 56) _) _
                        refine sI_read (v := (.pointer (some ⟨gq, 0 + j * 5 + 2, none⟩))) rfl (fun _ _ _ h => absurd h.1 (fun e => nomatch e)) (wanted_g (j := 13) rfl rfl rfl ((ev_other _ _ (by decide)).trans ((ev_other _ _ (by decide)).trans ((ev_other _ _ (by decide)).trans ((ev_other _ _ (by decide)).trans ((ev_other _ _ (by decide)).trans ((ev_other _ _ (by decide)).trans (ev_same _ _ _ (by simp only [sz_put]; omega))))))))) hS (fun wx _ => run_fldP (.tmp 56) 2 rfl (ev_same _ _ _ (by simp only [sz_put]; omega)) (by omega) wx) ?_
                        show SeqI _ _ _ _ _ _ (Act.put _ (some 57) _) _
                        refine sI_read (v := (.int .i64 m.du)) rfl (fun _ _ _ h => absurd h.1 (fun e => nomatch e)) (wanted_g (j := 13) rfl rfl rfl ((ev_other _ _ (by decide)).trans ((ev_other _ _ (by decide)).trans ((ev_other _ _ (by decide)).trans ((ev_other _ _ (by decide)).trans ((ev_other _ _ (by decide)).trans ((ev_other _ _ (by decide)).trans ((ev_other _ _ (by decide)).trans (ev_same _ _ _ (by simp only [sz_put]; omega)))))))))) hS (fun wx hx => run_lodN (.tmp 57) rfl (ev_same _ _ _ (by simp only [sz_put]; omega)) hx.2.2.2.2.1) ?_
                        show SeqI _ _ _ _ _ _ (Act.put _ (some 58) _) _
                        refine sI_read (v := (.bool true)) rfl (fun _ _ _ h => absurd h.1 (fun e => nomatch e)) (wanted_g (j := 13) rfl rfl rfl ((ev_other _ _ (by decide)).trans ((ev_other _ _ (by decide)).trans ((ev_other _ _ (by decide)).trans ((ev_other _ _ (by decide)).trans ((ev_other _ _ (by decide)).trans ((ev_other _ _ (by decide)).trans ((ev_other _ _ (by decide)).trans ((ev_other _ _ (by decide)).trans (ev_same _ _ _ (by simp only [sz_put]; omega))))))))))) hS (fun wx _ => run_eqP (.tmp 52) (.tmp 58) rfl ((ev_other _ _ (by decide)).trans ((ev_other _ _ (by decide)).trans ((ev_other _ _ (by decide)).trans ((ev_other _ _ (by decide)).trans ((ev_other _ _ (by decide)).trans ((ev_other _ _ (by decide)).trans (ev_same _ _ _ (by simp only [sz_put]; omega)))))))) (ev_same _ _ _ (by simp only [sz_put]; omega)) heq wx) ?_
                        show SeqI _ _ _ _ _ _ (Act.put _ (some 59) _) _
                        refine sI_read (v := (.bool true)) rfl (fun _ _ _ h => absurd h.1 (fun e => nomatch e)) (wanted_g (j := 13) rfl rfl rfl ((ev_other _ _ (by decide)).trans ((ev_other _ _ (by decide)).trans ((ev_other _ _ (by decide)).trans ((ev_other _ _ (by decide)).trans ((ev_other _ _ (by decide)).trans ((ev_other _ _ (by decide)).trans ((ev_other _ _ (by decide)).trans ((ev_other _ _ (by decide)).trans ((ev_other _ _ (by decide)).trans (ev_same _ _ _ (by simp only [sz_put]; omega)))))))))))) hS (fun wx _ => run_move (.tmp 59) rfl (ev_same _ _ _ (by simp only [sz_put]; omega)) wx) ?_
                        show SeqI _ _ _ _ _ _ (Act.put _ (some 60) _) _
                        refine sI_read (v := (.pointer (some ⟨wr.heap.size, 0 + 3, none⟩))) rfl (fun _ _ _ h => absurd h.1 (fun e => nomatch e)) (wanted_g (j := 23) rfl rfl rfl (ev_same _ _ _ (by simp only [sz_put]; omega))) hS (fun wx _ => run_fldP (.tmp 11) 3 rfl ((ev_other _ _ (by decide)).trans ((ev_other _ _ (by decide)).trans ((ev_other _ _ (by decide)).trans ((ev_other _ _ (by decide)).trans ((ev_other _ _ (by decide)).trans ((ev_other _ _ (by decide)).trans ((ev_other _ _ (by decide)).trans ((ev_other _ _ (by decide)).trans ((ev_other _ _ (by decide)).trans ((ev_other _ _ (by decide)).trans ((ev_other _ _ (by decide)).trans ((ev_other _ _ (by decide)).trans ((ev_other _ _ (by decide)).trans ((ev_other _ _ (by decide)).trans ((ev_other _ _ (by decide)).trans ((ev_other _ _ (by decide)).trans ((ev_other _ _ (by decide)).trans ((ev_other _ _ (by decide)).trans ((ev_other _ _ (by decide)).trans ((ev_other _ _ (by decide)).trans ((ev_other _ _ (by decide)).trans ((ev_other _ _ (by decide)).trans ((ev_other _ _ (by decide)).trans ((ev_other _ _ (by decide)).trans b11)))))))))))))))))))))))) (by omega) wx) ?_
                        show SeqI _ _ _ _ _ _ (Act.put _ (some 61) _) _
                        refine sI_read (v := (.int .i64 p.se)) rfl (fun _ _ _ h => absurd h.1 (fun e => nomatch e)) (wanted_g (j := 23) rfl rfl rfl ((ev_other _ _ (by decide)).trans (ev_same _ _ _ (by simp only [sz_put]; omega)))) hS (fun wx hx => run_lodN (.tmp 61) rfl (ev_same _ _ _ (by simp only [sz_put]; omega)) hx.1.pc.2.2.2.1) ?_
                        show SeqI _ _ _ _ _ _ (Act.put _ (some 62) _) _
                        refine sI_read (v := (.pointer (some ⟨g, 2, none⟩))) rfl (fun _ _ _ h => absurd h.1 (fun e => nomatch e)) (wanted_g (j := 23) rfl rfl rfl ((ev_other _ _ (by decide)).trans ((ev_other _ _ (by decide)).trans (ev_same _ _ _ (by simp only [sz_put]; omega))))) hS (fun wx _ => run_fldU (.tmp 7) 2 rfl ((ev_other _ _ (by decide)).trans ((ev_other _ _ (by decide)).trans ((ev_other _ _ (by decide)).trans ((ev_other _ _ (by decide)).trans ((ev_other _ _ (by decide)).trans ((ev_other _ _ (by decide)).trans ((ev_other _ _ (by decide)).trans ((ev_other _ _ (by decide)).trans ((ev_other _ _ (by decide)).trans ((ev_other _ _ (by decide)).trans ((ev_other _ _ (by decide)).trans ((ev_other _ _ (by decide)).trans ((ev_other _ _ (by decide)).trans ((ev_other _ _ (by decide)).trans ((ev_other _ _ (by decide)).trans ((ev_other _ _ (by decide)).trans ((ev_other _ _ (by decide)).trans ((ev_other _ _ (by decide)).trans ((ev_other _ _ (by decide)).trans ((ev_other _ _ (by decide)).trans ((ev_other _ _ (by decide)).trans ((ev_other _ _ (by decide)).trans ((ev_other _ _ (by decide)).trans ((ev_other _ _ (by decide)).trans ((ev_other _ _ (by decide)).trans ((ev_other _ _ (by decide)).trans b7)))))))))))))))))))))))))) (by omega) wx) ?_
                        show SeqI _ _ _ _ _ _ (Act.put _ (some 63) _) _
                        refine sI_read (v := (.slice (some ⟨gq, 0, none⟩) n vc)) rfl (fun _ _ _ h => absurd h.1 (fun e => nomatch e)) (wanted_g (j := 23) rfl rfl rfl ((ev_other _ _ (by decide)).trans ((ev_other _ _ (by decide)).trans ((ev_other _ _ (by decide)).trans (ev_same _ _ _ (by simp only [sz_put]; omega)))))) hS (fun wx hx => run_lodQ (.tmp 63) rfl (ev_same _ _ _ (by simp only [sz_put]; omega)) hx.2.1.cell2) ?_
                        show SeqI _ _ _ _ _ _ (Act.put _ (some 64) _) _
                        refine sI_read (v := (.int .i64 (j : Nat))) rfl (fun _ _ _ h => absurd h.1 (fun e => nomatch e)) (wanted_g (j := 23) rfl rfl rfl ((ev_other _ _ (by decide)).trans ((ev_other _ _ (by decide)).trans ((ev_other _ _ (by decide)).trans ((ev_other _ _ (by decide)).trans (ev_same _ _ _ (by simp only [sz_put]; omega))))))) hS (fun wx _ => run_move (.tmp 9) rfl ((ev_other _ _ (by decide)).trans ((ev_other _ _ (by decide)).trans ((ev_other _ _ (by decide)).trans ((ev_other _ _ (by decide)).trans ((ev_other _ _ (by decide)).trans ((ev_other _ _ (by decide)).trans ((ev_other _ _ (by decide)).trans ((ev_other _ _ (by decide)).trans ((ev_other _ _ (by decide)).trans ((ev_other _ _ (by decide)).trans ((ev_other _ _ (by decide)).trans ((ev_other _ _ (by decide)).trans ((ev_other _ _ (by decide)).trans ((ev_other _ _ (by decide)).trans ((ev_other _ _ (by decide)).trans ((ev_other _ _ (by decide)).trans ((ev_other _ _ (by decide)).trans ((ev_other _ _ (by decide)).trans ((ev_other _ _ (by decide)).trans ((ev_other _ _ (by decide)).trans ((ev_other _ _ (by decide)).trans ((ev_other _ _ (by decide)).trans ((ev_other _ _ (by decide)).trans ((ev_other _ _ (by decide)).trans ((ev_other _ _ (by decide)).trans ((ev_other _ _ (by decide)).trans ((ev_other _ _ (by decide)).trans ((ev_other _ _ (by decide)).trans b9)))))))))))))))))))))))))))) wx) ?_
                        show SeqI _ _ _ _ _ _ (Act.put _ (some 65) _) _
                        refine sI_read (v := (.pointer (some ⟨gq, 0 + j * 5, none⟩))) rfl (fun _ _ _ h => absurd h.1 (fun e => nomatch e)) (wanted_g (j := 23) rfl rfl rfl ((ev_other _ _ (by decide)).trans ((ev_other _ _ (by decide)).trans ((ev_other _ _ (by decide)).trans ((ev_other _ _ (by decide)).trans ((ev_other _ _ (by decide)).trans (ev_same _ _ _ (by simp only [sz_put]; omega)))))))) hS (fun wx _ => run_ixP (.tmp 64) (.tmp 65) rfl ((ev_other _ _ (by decide)).trans (ev_same _ _ _ (by simp only [sz_put]; omega))) (ev_same _ _ _ (by simp only [sz_put]; omega)) hj wx) ?_
                        show SeqI _ _ _ _ _ _ (Act.put _ (some 66) _) _
                        refine sI_read (v := (.pointer (some ⟨gq, 0 + j * 5 + 3, none⟩))) rfl (fun _ _ _ h => absurd h.1 (fun e => nomatch e)) (wanted_g (j := 23) rfl rfl rfl ((ev_other _ _ (by decide)).trans ((ev_other _ _ (by decide)).trans ((ev_other _ _ (by decide)).trans ((ev_other _ _ (by decide)).trans ((ev_other _ _ (by decide)).trans ((ev_other _ _ (by decide)).trans (ev_same _ _ _ (by simp only [sz_put]; omega))))))))) hS (fun wx _ => run_fldP (.tmp 66) 3 rfl (ev_same _ _ _ (by simp only [sz_put]; omega)) (by omega) wx) ?_
                        show SeqI _ _ _ _ _ _ (Act.put _ (some 67) _) _
                        refine sI_read (v := (.int .i64 m.se)) rfl (fun _ _ _ h => absurd h.1 (fun e => nomatch e)) (wanted_g (j := 23) rfl rfl rfl ((ev_other _ _ (by decide)).trans ((ev_other _ _ (by decide)).trans ((ev_other _ _ (by decide)).trans ((ev_other _ _ (by decide)).trans ((ev_other _ _ (by decide)).trans ((ev_other _ _ (by decide)).trans ((ev_other _ _ (by decide)).trans (ev_same _ _ _ (by simp only [sz_put]; omega)))))))))) hS (fun wx hx => run_lodN (.tmp 67) rfl (ev_same _ _ _ (by simp only [sz_put]; omega)) hx.2.2.2.2.2.1) ?_
                        show SeqI _ _ _ _ _ _ (Act.put _ (some 68) _) _
                        refine sI_read (v := (.bool false)) rfl (fun _ _ _ h => absurd h.1 (fun e => nomatch e)) (wanted_g (j := 23) rfl rfl rfl ((ev_other _ _ (by decide)).trans ((ev_other _ _ (by decide)).trans ((ev_other _ _ (by decide)).trans ((ev_other _ _ (by decide)).trans ((ev_other _ _ (by decide)).trans ((ev_other _ _ (by decide)).trans ((ev_other _ _ (by decide)).trans ((ev_other _ _ (by decide)).trans (ev_same _ _ _ (by simp only [sz_put]; omega))))))))))) hS (fun wx _ => run_lssF (.tmp 62) (.tmp 68) rfl ((ev_other _ _ (by decide)).trans ((ev_other _ _ (by decide)).trans ((ev_other _ _ (by decide)).trans ((ev_other _ _ (by decide)).trans ((ev_other _ _ (by decide)).trans ((ev_other _ _ (by decide)).trans (ev_same _ _ _ (by simp only [sz_put]; omega)))))))) (ev_same _ _ _ (by simp only [sz_put]; omega)) (by omega) wx) ?_
                        show SeqI _ _ _ _ _ _ (Act.put _ (some 69) _) _
                        refine sI_read (v := (.bool false)) rfl (fun _ _ _ h => absurd h.1 (fun e => nomatch e)) (wanted_g (j := 13) rfl rfl rfl ((ev_other _ _ (by decide)).trans ((ev_other _ _ (by decide)).trans ((ev_other _ _ (by decide)).trans ((ev_other _ _ (by decide)).trans ((ev_other _ _ (by decide)).trans ((ev_other _ _ (by decide)).trans ((ev_other _ _ (by decide)).trans ((ev_other _ _ (by decide)).trans ((ev_other _ _ (by decide)).trans ((ev_other _ _ (by decide)).trans ((ev_other _ _ (by decide)).trans ((ev_other _ _ (by decide)).trans ((ev_other _ _ (by decide)).trans ((ev_other _ _ (by decide)).trans ((ev_other _ _ (by decide)).trans ((ev_other _ _ (by decide)).trans ((ev_other _ _ (by decide)).trans ((ev_other _ _ (by decide)).trans ((ev_other _ _ (by decide)).trans (ev_same _ _ _ (by simp only [sz_put]; omega)))))))))))))))))))))) hS (fun wx _ => run_pickT' (.tmp 60) (.tmp 69) (.const (.bool false)) rfl ((ev_other _ _ (by decide)).trans ((ev_other _ _ (by decide)).trans ((ev_other _ _ (by decide)).trans ((ev_other _ _ (by decide)).trans ((ev_other _ _ (by decide)).trans ((ev_other _ _ (by decide)).trans ((ev_other _ _ (by decide)).trans ((ev_other _ _ (by decide)).trans ((ev_other _ _ (by decide)).trans (ev_same _ _ _ (by simp only [sz_put]; omega))))))))))) (ev_same _ _ _ (by simp only [sz_put]; omega)) wx) ?_
                        show SeqI _ _ _ _ _ _ (Act.put _ (some 70) _) _
                        refine sI_read (v := (.bool false)) rfl (fun _ _ _ h => absurd h.1 (fun e => nomatch e)) (wanted_rd rfl) hS (fun wx _ => run_pickF (.tmp 50) (.const (.bool true)) (.tmp 70) rfl ((ev_other _ _ (by decide)).trans ((ev_other _ _ (by decide)).trans ((ev_other _ _ (by decide)).trans ((ev_other _ _ (by decide)).trans ((ev_other _ _ (by decide)).trans ((ev_other _ _ (by decide)).trans ((ev_other _ _ (by decide)).trans ((ev_other _ _ (by decide)).trans ((ev_other _ _ (by decide)).trans ((ev_other _ _ (by decide)).trans ((ev_other _ _ (by decide)).trans ((ev_other _ _ (by decide)).trans ((ev_other _ _ (by decide)).trans ((ev_other _ _ (by decide)).trans ((ev_other _ _ (by decide)).trans ((ev_other _ _ (by decide)).trans ((ev_other _ _ (by decide)).trans ((ev_other _ _ (by decide)).trans ((ev_other _ _ (by decide)).trans ((ev_other _ _ (by decide)).trans (ev_same _ _ _ (by simp only [sz_put]; omega)))))))))))))))))))))) (ev_same _ _ _ (by simp only [sz_put]; omega)) wx) ?_
                        show SeqI _ _ _ _ _ _ (Act.put _ (some 71) _) _
                        exact sI_end ⟨rfl, (unhide HH).drew, rfl⟩
                      case rest =>
                        rintro a' w6 ⟨h6, rfl⟩
                        have H6 := hide h6
                        clear h6
                        go_frame
                        go_wp2_with fail
                        go_roundw
                        case rel => exact ⟨i + 1, (j : Nat), by omega, rfl, by go_num, isb_more (unhide IB) (unhide MJ) (unhide PI) (unhide LP), unhide H6⟩
                        case measure => simp [intOf] <;> omega
                  · have heq : (p.du == m.du) = false := by simp [he]
                    have LP := hide (show leP m p = true by unfold leP; simp only [decide_eq_true_eq]; omega)
                    go_wp2_with fail
                    rw [← unhide E5]
                    refine wp_leaves (fun a0 a' w' => StI w g t S (.slice (some ⟨gq, 0, none⟩) n vc) M (.slice ca C.length cc) C w' ∧ a' = (((((((((((((((((((((((((((((((((((a0.put (some 37) (.int .i64 (j : Nat))).put (some 38) (.bool false)).put (some 39) (.bool false)).put (some 40) (.pointer (some ⟨wr.heap.size, 0 + 2, none⟩))).put (some 41) (.int .i64 p.du)).put (some 42) (.pointer (some ⟨g, 2, none⟩))).put (some 43) (.slice (some ⟨gq, 0, none⟩) n vc)).put (some 44) (.int .i64 (j : Nat))).put (some 45) (.pointer (some ⟨gq, 0 + j * 5, none⟩))).put (some 46) (.pointer (some ⟨gq, 0 + j * 5 + 2, none⟩))).put (some 47) (.int .i64 m.du)).put (some 48) (.bool false)).put (some 49) (.bool false)).put (some 50) (.bool false)).put (some 51) (.pointer (some ⟨wr.heap.size, 0 + 2, none⟩))).put (some 52) (.int .i64 p.du)).put (some 53) (.pointer (some ⟨g, 2, none⟩))).put (some 54) (.slice (some ⟨gq, 0, none⟩) n vc)).put (some 55) (.int .i64 (j : Nat))).put (some 56) (.pointer (some ⟨gq, 0 + j * 5, none⟩))).put (some 57) (.pointer (some ⟨gq, 0 + j * 5 + 2, none⟩))).put (some 58) (.int .i64 m.du)).put (some 59) (.bool false)).put (some 60) (.bool false)).put (some 61) undef).put (some 62) undef).put (some 63) undef).put (some 64) undef).put (some 65) undef).put (some 66) undef).put (some 67) undef).put (some 68) undef).put (some 69) undef).put (some 70) (.bool false)).put (some 71) (.bool false))) ?reg ?rest
                    case reg =>
                      intro A eA
                      have b9 : A.eval (.tmp 9) = (.int .i64 (j : Nat)) := by rw [eA]; rfl
                      have b11 : A.eval (.tmp 11) = .pointer (some ⟨wr.heap.size, 0, none⟩) := by rw [eA]; rfl
                      have b7 : A.eval (.tmp 7) = .pointer (some ⟨g, 0, none⟩) := by rw [eA]; rfl
                      have hs : 97 ≤ A.tmps.size := by rw [eA]; exact of_decide_eq_true rfl
                      clear eA
                      have hS : PvAt w5.drew wr.heap.size p (.slice ba bn bc) ∧ BuAt w5.drew g t S (.slice (some ⟨gq, 0, none⟩) n vc) ∧ PcAt w5.drew gq (0 + j * 5) m (.slice ma mn mc) := ⟨unhide PV5, (unhide HH).2.1, unhide PM⟩
                      refine region_I (S := fun W => PvAt W wr.heap.size p (.slice ba bn bc) ∧ BuAt W g t S (.slice (some ⟨gq, 0, none⟩) n vc) ∧ PcAt W gq (0 + j * 5) m (.slice ma mn mc)) (.rd 0 (.rd 1 (.rd 2 (.rd 3 (.rd 4 (.rd 5 (.rd 6 (.rd 7 (.rd 8 (.rd 9 (.rd 10 (.rd 11 (.rd 12 (.rd 13 (.rd 14 (.rd 15 (.rd 16 (.rd 17 (.rd 18 (.rd 19 (.rd 20 (.rd 21 (.rd 22 (.rd 23 (.rd 24 (.rd 25 (.rd 26 (.rd 27 (.rd 28 (.rd 29 (.rd 30 (.rd 31 (.rd 32 (.rd 33 (.rd 34 .fin))))))))))))))))))))))))))))))))))) [] (by kernel_rfl) (by kernel_rfl) ?_
                      refine sI_read (v := (.int .i64 (j : Nat))) rfl (fun _ _ _ h => absurd h.1 (fun e => nomatch e)) (wanted_rd rfl) hS (fun wx _ => run_move (.tmp 9) rfl b9 wx) ?_
                      show SeqI _ _ _ _ _ _ (Act.put _ (some 37) _) _
                      refine sI_read (v := (.bool false)) rfl (fun _ _ _ h => absurd h.1 (fun e => nomatch e)) (wanted_rd rfl) hS (fun wx _ => run_lssF (.tmp 37) (.const (.int .i64 0)) rfl (ev_same _ _ _ (by omega)) rfl (by omega) wx) ?_
                      show SeqI _ _ _ _ _ _ (Act.put _ (some 38) _) _
                      refine sI_read (v := (.bool false)) rfl (fun _ _ _ h => absurd h.1 (fun e => nomatch e)) (wanted_rd rfl) hS (fun wx _ => run_move (.tmp 38) rfl (ev_same _ _ _ (by simp only [sz_put]; omega)) wx) ?_
                      show SeqI _ _ _ _ _ _ (Act.put _ (some 39) _) _
                      refine sI_read (v := (.pointer (some ⟨wr.heap.size, 0 + 2, none⟩))) rfl (fun _ _ _ h => absurd h.1 (fun e => nomatch e)) (wanted_g (j := 2) rfl rfl rfl (ev_same _ _ _ (by simp only [sz_put]; omega))) hS (fun wx _ => run_fldP (.tmp 11) 2 rfl ((ev_other _ _ (by decide)).trans ((ev_other _ _ (by decide)).trans ((ev_other _ _ (by decide)).trans b11))) (by omega) wx) ?_
                      show SeqI _ _ _ _ _ _ (Act.put _ (some 40) _) _
                      refine sI_read (v := (.int .i64 p.du)) rfl (fun _ _ _ h => absurd h.1 (fun e => nomatch e)) (wanted_g (j := 2) rfl rfl rfl ((ev_other _ _ (by decide)).trans (ev_same _ _ _ (by simp only [sz_put]; omega)))) hS (fun wx hx => run_lodN (.tmp 40) rfl (ev_same _ _ _ (by simp only [sz_put]; omega)) hx.1.pc.2.2.1) ?_
                      show SeqI _ _ _ _ _ _ (Act.put _ (some 41) _) _
                      refine sI_read (v := (.pointer (some ⟨g, 2, none⟩))) rfl (fun _ _ _ h => absurd h.1 (fun e => nomatch e)) (wanted_g (j := 2) rfl rfl rfl ((ev_other _ _ (by decide)).trans ((ev_other _ _ (by decide)).trans (ev_same _ _ _ (by simp only [sz_put]; omega))))) hS (fun wx _ => run_fldU (.tmp 7) 2 rfl ((ev_other _ _ (by decide)).trans ((ev_other _ _ (by decide)).trans ((ev_other _ _ (by decide)).trans ((ev_other _ _ (by decide)).trans ((ev_other _ _ (by decide)).trans b7))))) (by omega) wx) ?_
                      show SeqI _ _ _ _ _ _ (Act.put _ (some 42) _) _
                      refine sI_read (v := (.slice (some ⟨gq, 0, none⟩) n vc)) rfl (fun _ _ _ h => absurd h.1 (fun e => nomatch e)) (wanted_g (j := 2) rfl rfl rfl ((ev_other _ _ (by decide)).trans ((ev_other _ _ (by decide)).trans ((ev_other _ _ (by decide)).trans (ev_same _ _ _ (by simp only [sz_put]; omega)))))) hS (fun wx hx => run_lodQ (.tmp 42) rfl (ev_same _ _ _ (by simp only [sz_put]; omega)) hx.2.1.cell2) ?_
                      show SeqI _ _ _ _ _ _ (Act.put _ (some 43) _) _
                      refine sI_read (v := (.int .i64 (j : Nat))) rfl (fun _ _ _ h => absurd h.1 (fun e => nomatch e)) (wanted_g (j := 2) rfl rfl rfl ((ev_other _ _ (by decide)).trans ((ev_other _ _ (by decide)).trans ((ev_other _ _ (by decide)).trans ((ev_other _ _ (by decide)).trans (ev_same _ _ _ (by simp only [sz_put]; omega))))))) hS (fun wx _ => run_move (.tmp 9) rfl ((ev_other _ _ (by decide)).trans ((ev_other _ _ (by decide)).trans ((ev_other _ _ (by decide)).trans ((ev_other _ _ (by decide)).trans ((ev_other _ _ (by decide)).trans ((ev_other _ _ (by decide)).trans ((ev_other _ _ (by decide)).trans b9))))))) wx) ?_
                      show SeqI _ _ _ _ _ _ (Act.put _ (some 44) _) _
                      refine sI_read (v := (.pointer (some ⟨gq, 0 + j * 5, none⟩))) rfl (fun _ _ _ h => absurd h.1 (fun e => nomatch e)) (wanted_g (j := 2) rfl rfl rfl ((ev_other _ _ (by decide)).trans ((ev_other _ _ (by decide)).trans ((ev_other _ _ (by decide)).trans ((ev_other _ _ (by decide)).trans ((ev_other _ _ (by decide)).trans (ev_same _ _ _ (by simp only [sz_put]; omega)))))))) hS (fun wx _ => run_ixP (.tmp 43) (.tmp 44) rfl ((ev_other _ _ (by decide)).trans (ev_same _ _ _ (by simp only [sz_put]; omega))) (ev_same _ _ _ (by simp only [sz_put]; omega)) hj wx) ?_
                      show SeqI _ _ _ _ _ _ (Act.put _ (some 45) _) _
                      refine sI_read (v := (.pointer (some ⟨gq, 0 + j * 5 + 2, none⟩))) rfl (fun _ _ _ h => absurd h.1 (fun e => nomatch e)) (wanted_g (j := 2) rfl rfl rfl ((ev_other _ _ (by decide)).trans ((ev_other _ _ (by decide)).trans ((ev_other _ _ (by decide)).trans ((ev_other _ _ (by decide)).trans ((ev_other _ _ (by decide)).trans ((ev_other _ _ (by decide)).trans (ev_same _ _ _ (by simp only [sz_put]; omega))))))))) hS (fun wx _ => run_fldP (.tmp 45) 2 rfl (ev_same _ _ _ (by simp only [sz_put]; omega)) (by omega) wx) ?_
                      show SeqI _ _ _ _ _ _ (Act.put _ (some 46) _) _
                      refine sI_read (v := (.int .i64 m.du)) rfl (fun _ _ _ h => absurd h.1 (fun e => nomatch e)) (wanted_g (j := 2) rfl rfl rfl ((ev_other _ _ (by decide)).trans ((ev_other _ _ (by decide)).trans ((ev_other _ _ (by decide)).trans ((ev_other _ _ (by decide)).trans ((ev_other _ _ (by decide)).trans ((ev_other _ _ (by decide)).trans ((ev_other _ _ (by decide)).trans (ev_same _ _ _ (by simp only [sz_put]; omega)))))))))) hS (fun wx hx => run_lodN (.tmp 46) rfl (ev_same _ _ _ (by simp only [sz_put]; omega)) hx.2.2.2.2.1) ?_
                      show SeqI _ _ _ _ _ _ (Act.put _ (some 47) _) _
                      refine sI_read (v := (.bool false)) rfl (fun _ _ _ h => absurd h.1 (fun e => nomatch e)) (wanted_g (j := 2) rfl rfl rfl ((ev_other _ _ (by decide)).trans ((ev_other _ _ (by decide)).trans ((ev_other _ _ (by decide)).trans ((ev_other _ _ (by decide)).trans ((ev_other _ _ (by decide)).trans ((ev_other _ _ (by decide)).trans ((ev_other _ _ (by decide)).trans ((ev_other _ _ (by decide)).trans (ev_same _ _ _ (by simp only [sz_put]; omega))))))))))) hS (fun wx _ => run_lssF (.tmp 41) (.tmp 47) rfl ((ev_other _ _ (by decide)).trans ((ev_other _ _ (by decide)).trans ((ev_other _ _ (by decide)).trans ((ev_other _ _ (by decide)).trans ((ev_other _ _ (by decide)).trans ((ev_other _ _ (by decide)).trans (ev_same _ _ _ (by simp only [sz_put]; omega)))))))) (ev_same _ _ _ (by simp only [sz_put]; omega)) (by omega) wx) ?_
                      show SeqI _ _ _ _ _ _ (Act.put _ (some 48) _) _
                      refine sI_read (v := (.bool false)) rfl (fun _ _ _ h => absurd h.1 (fun e => nomatch e)) (wanted_rd rfl) hS (fun wx _ => run_pickF (.tmp 39) (.const (.bool true)) (.tmp 48) rfl ((ev_other _ _ (by decide)).trans ((ev_other _ _ (by decide)).trans ((ev_other _ _ (by decide)).trans ((ev_other _ _ (by decide)).trans ((ev_other _ _ (by decide)).trans ((ev_other _ _ (by decide)).trans ((ev_other _ _ (by decide)).trans ((ev_other _ _ (by decide)).trans ((ev_other _ _ (by decide)).trans (ev_same _ _ _ (by simp only [sz_put]; omega))))))))))) (ev_same _ _ _ (by simp only [sz_put]; omega)) wx) ?_
                      show SeqI _ _ _ _ _ _ (Act.put _ (some 49) _) _
                      refine sI_read (v := (.bool false)) rfl (fun _ _ _ h => absurd h.1 (fun e => nomatch e)) (wanted_rd rfl) hS (fun wx _ => run_move (.tmp 49) rfl (ev_same _ _ _ (by simp only [sz_put]; omega)) wx) ?_
                      show SeqI _ _ _ _ _ _ (Act.put _ (some 50) _) _
                      refine sI_read (v := (.pointer (some ⟨wr.heap.size, 0 + 2, none⟩))) rfl (fun _ _ _ h => absurd h.1 (fun e => nomatch e)) (wanted_g (j := 13) rfl rfl rfl (ev_same _ _ _ (by simp only [sz_put]; omega))) hS (fun wx _ => run_fldP (.tmp 11) 2 rfl ((ev_other _ _ (by decide)).trans ((ev_other _ _ (by decide)).trans ((ev_other _ _ (by decide)).trans ((ev_other _ _ (by decide)).trans ((ev_other _ _ (by decide)).trans ((ev_other _ _ (by decide)).trans ((ev_other _ _ (by decide)).trans ((ev_other _ _ (by decide)).trans ((ev_other _ _ (by decide)).trans ((ev_other _ _ (by decide)).trans ((ev_other _ _ (by decide)).trans ((ev_other _ _ (by decide)).trans ((ev_other _ _ (by decide)).trans ((ev_other _ _ (by decide)).trans b11)))))))))))))) (by omega) wx) ?_
                      show SeqI _ _ _ _ _ _ (Act.put _ (some 51) _) _
                      refine sI_read (v := (.int .i64 p.du)) rfl (fun _ _ _ h => absurd h.1 (fun e => nomatch e)) (wanted_g (j := 13) rfl rfl rfl ((ev_other _ _ (by decide)).trans (ev_same _ _ _ (by simp only [sz_put]; omega)))) hS (fun wx hx => run_lodN (.tmp 51) rfl (ev_same _ _ _ (by simp only [sz_put]; omega)) hx.1.pc.2.2.1) ?_
                      show SeqI _ _ _ _ _ _ (Act.put _ (some 52) _) _
                      refine sI_read (v := (.pointer (some ⟨g, 2, none⟩))) rfl (fun _ _ _ h => absurd h.1 (fun e => nomatch e)) (wanted_g (j := 13) rfl rfl rfl ((ev_other _ _ (by decide)).trans ((ev_other _ _ (by decide)).trans (ev_same _ _ _ (by simp only [sz_put]; omega))))) hS (fun wx _ => run_fldU (.tmp 7) 2 rfl ((ev_other _ _ (by decide)).trans ((ev_other _ _ (by decide)).trans ((ev_other _ _ (by decide)).trans ((ev_other _ _ (by decide)).trans ((ev_other _ _ (by decide)).trans ((ev_other _ _ (by decide)).trans ((ev_other _ _ (by decide)).trans ((ev_other _ _ (by decide)).trans ((ev_other _ _ (by decide)).trans ((ev_other _ _ (by decide)).trans ((ev_other _ _ (by decide)).trans ((ev_other _ _ (by decide)).trans ((ev_other _ _ (by decide)).trans ((ev_other _ _ (by decide)).trans ((ev_other _ _ (by decide)).trans ((ev_other _ _ (by decide)).trans b7)))))))))))))))) (by omega) wx) ?_
                      show SeqI _ _ _ _ _ _ (Act.put _ (some 53) _) _
                      refine sI_read (v := (.slice (some ⟨gq, 0, none⟩) n vc)) rfl (fun _ _ _ h => absurd h.1 (fun e => nomatch e)) (wanted_g (j := 13) rfl rfl rfl ((ev_other _ _ (by decide)).trans ((ev_other _ _ (by decide)).trans ((ev_other _ _ (by decide)).trans (ev_same _ _ _ (by simp only [sz_put]; omega)))))) hS (fun wx hx => run_lodQ (.tmp 53) rfl (ev_same _ _ _ (by simp only [sz_put]; omega)) hx.2.1.cell2) ?_
                      show SeqI _ _ _ _ _ _ (Act.put _ (some 54) _) _
                      refine sI_read (v := (.int .i64 (j : Nat))) rfl (fun _ _ _ h => absurd h.1 (fun e => nomatch e)) (wanted_g (j := 13) rfl rfl rfl ((ev_other _ _ (by decide)).trans ((ev_other _ _ (by decide)).trans ((ev_other _ _ (by decide)).trans ((ev_other _ _ (by decide)).trans (ev_same _ _ _ (by simp only [sz_put]; omega))))))) hS (fun wx _ => run_move (.tmp 9) rfl ((ev_other _ _ (by decide)).trans ((ev_other _ _ (by decide)).trans ((ev_other _ _ (by decide)).trans ((ev_other _ _ (by decide)).trans ((ev_other _ _ (by decide)).trans ((ev_other _ _ (by decide)).trans ((ev_other _ _ (by decide)).trans ((ev_other _ _ (by decide)).trans ((ev_other _ _ (by decide)).trans ((ev_other _ _ (by decide)).trans ((ev_other _ _ (by decide)).trans ((ev_other _ _ (by decide)).trans ((ev_other _ _ (by decide)).trans ((ev_other _ _ (by decide)).trans ((ev_other _ _ (by decide)).trans ((ev_other _ _ (by decide)).trans ((ev_other _ _ (by decide)).trans ((ev_other _ _ (by decide)).trans b9)))))))))))))))))) wx) ?_
                      show SeqI _ _ _ _ _ _ (Act.put _ (some 55) _) _
                      refine sI_read (v := (.pointer (some ⟨gq, 0 + j * 5, none⟩))) rfl (fun _ _ _ h => absurd h.1 (fun e => nomatch e)) (wanted_g (j := 13) rfl rfl rfl ((ev_other _ _ (by decide)).trans ((ev_other _ _ (by decide)).trans ((ev_other _ _ (by decide)).trans ((ev_other _ _ (by decide)).trans ((ev_other _ _ (by decide)).trans (ev_same _ _ _ (by simp only [sz_put]; omega)))))))) hS (fun wx _ => run_ixP (.tmp 54) (.tmp 55) rfl ((ev_other _ _ (by decide)).trans (ev_same _ _ _ (by simp only [sz_put]; omega))) (ev_same _ _ _ (by simp only [sz_put]; omega)) hj wx) ?_
                      show SeqI _ _ _ _ _ _ (Act.put _ (some 56) _) _
                      refine sI_read (v := (.pointer (some ⟨gq, 0 + j * 5 + 2, none⟩))) rfl (fun _ _ _ h => absurd h.1 (fun e => nomatch e)) (wanted_g (j := 13) rfl rfl rfl ((ev_other _ _ (by decide)).trans ((ev_other _ _ (by decide)).trans ((ev_other _ _ (by decide)).trans ((ev_other _ _ (by decide)).trans ((ev_other _ _ (by decide)).trans ((ev_other _ _ (by decide)).trans (ev_same _ _ _ (by simp only [sz_put]; omega))))))))) hS (fun wx _ => run_fldP (.tmp 56) 2 rfl (ev_same _ _ _ (by simp only [sz_put]; omega)) (by omega) wx) ?_
                      show SeqI _ _ _ _ _ _ (Act.put _ (some 57) _) _
                      refine sI_read (v := (.int .i64 m.du)) rfl (fun _ _ _ h => absurd h.1 (fun e => nomatch e)) (wanted_g (j := 13) rfl rfl rfl ((ev_other _ _ (by decide)).trans ((ev_other _ _ (by decide)).trans ((ev_other _ _ (by decide)).trans ((ev_other _ _ (by decide)).trans ((ev_other _ _ (by decide)).trans ((ev_other _ _ (by decide)).trans ((ev_other _ _ (by decide)).trans (ev_same _ _ _ (by simp only [sz_put]; omega)))))))))) hS (fun wx hx => run_lodN (.tmp 57) rfl (ev_same _ _ _ (by simp only [sz_put]; omega)) hx.2.2.2.2.1) ?_
                      show SeqI _ _ _ _ _ _ (Act.put _ (some 58) _) _
                      refine sI_read (v := (.bool false)) rfl (fun _ _ _ h => absurd h.1 (fun e => nomatch e)) (wanted_g (j := 13) rfl rfl rfl ((ev_other _ _ (by decide)).trans ((ev_other _ _ (by decide)).trans ((ev_other _ _ (by decide)).trans ((ev_other _ _ (by decide)).trans ((ev_other _ _ (by decide)).trans ((ev_other _ _ (by decide)).trans ((ev_other _ _ (by decide)).trans ((ev_other _ _ (by decide)).trans (ev_same _ _ _ (by simp only [sz_put]; omega))))))))))) hS (fun wx _ => run_eqP (.tmp 52) (.tmp 58) rfl ((ev_other _ _ (by decide)).trans ((ev_other _ _ (by decide)).trans ((ev_other _ _ (by decide)).trans ((ev_other _ _ (by decide)).trans ((ev_other _ _ (by decide)).trans ((ev_other _ _ (by decide)).trans (ev_same _ _ _ (by simp only [sz_put]; omega)))))))) (ev_same _ _ _ (by simp only [sz_put]; omega)) heq wx) ?_
                      show SeqI _ _ _ _ _ _ (Act.put _ (some 59) _) _
                      refine sI_read (v := (.bool false)) rfl (fun _ _ _ h => absurd h.1 (fun e => nomatch e)) (wanted_g (j := 13) rfl rfl rfl ((ev_other _ _ (by decide)).trans ((ev_other _ _ (by decide)).trans ((ev_other _ _ (by decide)).trans ((ev_other _ _ (by decide)).trans ((ev_other _ _ (by decide)).trans ((ev_other _ _ (by decide)).trans ((ev_other _ _ (by decide)).trans ((ev_other _ _ (by decide)).trans ((ev_other _ _ (by decide)).trans (ev_same _ _ _ (by simp only [sz_put]; omega)))))))))))) hS (fun wx _ => run_move (.tmp 59) rfl (ev_same _ _ _ (by simp only [sz_put]; omega)) wx) ?_
                      show SeqI _ _ _ _ _ _ (Act.put _ (some 60) _) _
                      refine sI_skip rfl (fun _ _ _ h => absurd h.1 (fun e => nomatch e)) (wanted_n (j := 23) rfl rfl rfl (ev_same _ _ _ (by simp only [sz_put]; omega)) (by decide)) hS ?_
                      show SeqI _ _ _ _ _ _ (Act.put _ (some 61) _) _
                      refine sI_skip rfl (fun _ _ _ h => absurd h.1 (fun e => nomatch e)) (wanted_n (j := 23) rfl rfl rfl ((ev_other _ _ (by decide)).trans (ev_same _ _ _ (by simp only [sz_put]; omega))) (by decide)) hS ?_
                      show SeqI _ _ _ _ _ _ (Act.put _ (some 62) _) _
                      refine sI_skip rfl (fun _ _ _ h => absurd h.1 (fun e => nomatch e)) (wanted_n (j := 23) rfl rfl rfl ((ev_other _ _ (by decide)).trans ((ev_other _ _ (by decide)).trans (ev_same _ _ _ (by simp only [sz_put]; omega)))) (by decide)) hS ?_
                      show SeqI _ _ _ _ _ _ (Act.put _ (some 63) _) _
                      refine sI_skip rfl (fun _ _ _ h => absurd h.1 (fun e => nomatch e)) (wanted_n (j := 23) rfl rfl rfl ((ev_other _ _ (by decide)).trans ((ev_other _ _ (by decide)).trans ((ev_other _ _ (by decide)).trans (ev_same _ _ _ (by simp only [sz_put]; omega))))) (by decide)) hS ?_
                      show SeqI _ _ _ _ _ _ (Act.put _ (some 64) _) _
                      refine sI_skip rfl (fun _ _ _ h => absurd h.1 (fun e => nomatch e)) (wanted_n (j := 23) rfl rfl rfl ((ev_other _ _ (by decide)).trans ((ev_other _ _ (by decide)).trans ((ev_other _ _ (by decide)).trans ((ev_other _ _ (by decide)).trans (ev_same _ _ _ (by simp only [sz_put]; omega)))))) (by decide)) hS ?_
                      show SeqI _ _ _ _ _ _ (Act.put _ (some 65) _) _
                      refine sI_skip rfl (fun _ _ _ h => absurd h.1 (fun e => nomatch e)) (wanted_n (j := 23) rfl rfl rfl ((ev_other _ _ (by decide)).trans ((ev_other _ _ (by decide)).trans ((ev_other _ _ (by decide)).trans ((ev_other _ _ (by decide)).trans ((ev_other _ _ (by decide)).trans (ev_same _ _ _ (by simp only [sz_put]; omega))))))) (by decide)) hS ?_
                      show SeqI _ _ _ _ _ _ (Act.put _ (some 66) _) _
                      refine sI_skip rfl (fun _ _ _ h => absurd h.1 (fun e => nomatch e)) (wanted_n (j := 23) rfl rfl rfl ((ev_other _ _ (by decide)).trans ((ev_other _ _ (by decide)).trans ((ev_other _ _ (by decide)).trans ((ev_other _ _ (by decide)).trans ((ev_other _ _ (by decide)).trans ((ev_other _ _ (by decide)).trans (ev_same _ _ _ (by simp only [sz_put]; omega)))))))) (by decide)) hS ?_
                      show SeqI _ _ _ _ _ _ (Act.put _ (some 67) _) _
                      refine sI_skip rfl (fun _ _ _ h => absurd h.1 (fun e => nomatch e)) (wanted_n (j := 23) rfl rfl rfl ((ev_other _ _ (by decide)).trans ((ev_other _ _ (by decide)).trans ((ev_other _ _ (by decide)).trans ((ev_other _ _ (by decide)).trans ((ev_other _ _ (by decide)).trans ((ev_other _ _ (by decide)).trans ((ev_other _ _ (by decide)).trans (ev_same _ _ _ (by simp only [sz_put]; omega))))))))) (by decide)) hS ?_
                      show SeqI _ _ _ _ _ _ (Act.put _ (some 68) _) _
                      refine sI_skip rfl (fun _ _ _ h => absurd h.1 (fun e => nomatch e)) (wanted_n (j := 23) rfl rfl rfl ((ev_other _ _ (by decide)).trans ((ev_other _ _ (by decide)).trans ((ev_other _ _ (by decide)).trans ((ev_other _ _ (by decide)).trans ((ev_other _ _ (by decide)).trans ((ev_other _ _ (by decide)).trans ((ev_other _ _ (by decide)).trans ((ev_other _ _ (by decide)).trans (ev_same _ _ _ (by simp only [sz_put]; omega)))))))))) (by decide)) hS ?_
                      show SeqI _ _ _ _ _ _ (Act.put _ (some 69) _) _
                      refine sI_read (v := (.bool false)) rfl (fun _ _ _ h => absurd h.1 (fun e => nomatch e)) (wanted_g (j := 13) rfl rfl rfl ((ev_other _ _ (by decide)).trans ((ev_other _ _ (by decide)).trans ((ev_other _ _ (by decide)).trans ((ev_other _ _ (by decide)).trans ((ev_other _ _ (by decide)).trans ((ev_other _ _ (by decide)).trans ((ev_other _ _ (by decide)).trans ((ev_other _ _ (by decide)).trans ((ev_other _ _ (by decide)).trans ((ev_other _ _ (by decide)).trans ((ev_other _ _ (by decide)).trans ((ev_other _ _ (by decide)).trans ((ev_other _ _ (by decide)).trans ((ev_other _ _ (by decide)).trans ((ev_other _ _ (by decide)).trans ((ev_other _ _ (by decide)).trans ((ev_other _ _ (by decide)).trans ((ev_other _ _ (by decide)).trans ((ev_other _ _ (by decide)).trans (ev_same _ _ _ (by simp only [sz_put]; omega)))))))))))))))))))))) hS (fun wx _ => run_pickF (.tmp 60) (.tmp 69) (.const (.bool false)) rfl ((ev_other _ _ (by decide)).trans ((ev_other _ _ (by decide)).trans ((ev_other _ _ (by decide)).trans ((ev_other _ _ (by decide)).trans ((ev_other _ _ (by decide)).trans ((ev_other _ _ (by decide)).trans ((ev_other _ _ (by decide)).trans ((ev_other _ _ (by decide)).trans ((ev_other _ _ (by decide)).trans (ev_same _ _ _ (by simp only [sz_put]; omega))))))))))) rfl wx) ?_
                      show SeqI _ _ _ _ _ _ (Act.put _ (some 70) _) _
                      refine sI_read (v := (.bool false)) rfl (fun _ _ _ h => absurd h.1 (fun e => nomatch e)) (wanted_rd rfl) hS (fun wx _ => run_pickF (.tmp 50) (.const (.bool true)) (.tmp 70) rfl ((ev_other _ _ (by decide)).trans ((ev_other _ _ (by decide)).trans ((ev_other _ _ (by decide)).trans ((ev_other _ _ (by decide)).trans ((ev_other _ _ (by decide)).trans ((ev_other _ _ (by decide)).trans ((ev_other _ _ (by decide)).trans ((ev_other _ _ (by decide)).trans ((ev_other _ _ (by decide)).trans ((ev_other _ _ (by decide)).trans ((ev_other _ _ (by decide)).trans ((ev_other _ _ (by decide)).trans ((ev_other _ _ (by decide)).trans ((ev_other _ _ (by decide)).trans ((ev_other _ _ (by decide)).trans ((ev_other _ _ (by decide)).trans ((ev_other _ _ (by decide)).trans ((ev_other _ _ (by decide)).trans ((ev_other _ _ (by decide)).trans ((ev_other _ _ (by decide)).trans (ev_same _ _ _ (by simp only [sz_put]; omega)))))))))))))))))))))) (ev_same _ _ _ (by simp only [sz_put]; omega)) wx) ?_
                      show SeqI _ _ _ _ _ _ (Act.put _ (some 71) _) _
                      exact sI_end ⟨rfl, (unhide HH).drew, rfl⟩
                    case rest =>
                      rintro a' w6 ⟨h6, rfl⟩
                      have H6 := hide h6
                      clear h6
                      go_frame
                      go_wp2_with fail
                      go_roundw
                      case rel => exact ⟨i + 1, (j : Nat), by omega, rfl, by go_num, isb_more (unhide IB) (unhide MJ) (unhide PI) (unhide LP), unhide H6⟩
                      case measure => simp [intOf] <;> omega
          · have e9 : i = n := by omega
            subst e9
            by_cases hk : k = -1
            · subst hk
              have r1 := hI.1
              have v0 := hI.2.1.cell0; have v1 := hI.2.1.cell1; have v2 := hI.2.1.cell2
              have y0 := r1.cell0; have y1 := r1.cell1; have y2 := r1.cell2; have f0 := r1.free 0; have f1 := r1.free 1; have f2 := r1.free 2
              obtain ⟨w8, e8, m8, k8, z8⟩ := r1.put t S (.slice vq i vc)
              have pp0 := m8.cell0; have pp1 := m8.cell1; have pp2 := m8.cell2
              have R8 := RowP.otherB hI.2.2.1 r1 k8
              have RC8 := RowP.otherB hI.2.2.2.1 r1 k8
              have OB8 : ∀ c, c ∈ M ∨ c ∈ C → OwnB w8 (w.heap.size + 1 + 1) c := fun c hc => OwnB.otherB (hI.2.2.2.2.1 c hc) r1 k8
              have K8 := hide (below_of_kept hI.2.2.2.2.2.1 k8 (by omega) hI.2.2.2.2.2.1.size)
              have E8 := hide e8; have IB := hide hb
              rw [unhide EN] at R8
              have N1 := hide (R8.new (fun c hc => OB8 c (Or.inl hc)) (D := w.heap.size) (by omega) (by omega))
              have N2 := hide (RC8.new (fun c hc => OB8 c (Or.inr hc)) (D := w.heap.size) (by have := hI.2.2.2.2.2.2.1; omega) (by omega))
              clear hI hb e8 m8 k8 z8 R8 RC8 OB8 r1
              go_wp2_with fail
              rw [← unhide E8]
              refine bodyPost_ret (v := .tuple #[.agg #[.int .i64 t, .int .i64 S, .slice vq i vc], .slice ca C.length cc, .int .i64 0]) (by simp [results, Try.results15, go_sem, pp0, pp1, pp2]) rfl ?_
              have hib := unhide IB
              rw [unhide EN] at hib ⊢
              exact stp_yes (b := ⟨N, S, q⟩) (unhide SE) (unhide RN) hib (unhide N1) (unhide N2) (unhide K8)
            · have en := unhide EN
              subst en
              obtain ⟨j, m, rfl, hj1, hj2, hj3⟩ := isb_at hb hk
              have hc := List.getElem?_eq_getElem (show j < M.length by have := unhide EN; omega)
              obtain ⟨c, ec⟩ : ∃ c, c = M[j] := ⟨_, rfl⟩
              rw [← ec] at hc
              obtain ⟨gq, rfl⟩ := own_some (by have h := hI.2.2.1; unfold RowP at h; rw [← unhide EN] at h; exact h) (by omega)
              obtain ⟨r0, r1, r2, r3, r4⟩ := hI.2.2.1.at hc
              have NX := hide (run_next (unhide RN) (by rw [← unhide EN]; exact hb) hc)
              have CM := hide (List.mem_of_getElem? hc)
              obtain ⟨p, ba, bc⟩ := c
              obtain ⟨bn, ebn⟩ : ∃ bn, bn = p.ds.length := ⟨_, rfl⟩
              unfold lpV at r4
              dsimp only at r0 r1 r2 r3 r4
              simp only [Nat.zero_add] at r0 r1 r2 r3 r4
              rw [← ebn] at r4
              obtain ⟨w5, e5, m5, k5, s5⟩ := pv_alloc wr p (.slice ba bn bc)
              have H5 := hI.below k5
              have c2 := hI.2.1.cell2
              have E5 := hide e5; have HH := hide H5
              have PC5 := hide (show PcAt w5 wr.heap.size 0 p (lpV ⟨p, ba, bc⟩) by unfold lpV; dsimp only; rw [← ebn]; exact m5.pc)
              have hCl : C.length ≤ 2513169434843 := by omega
              have EBN := hide ebn
              have hjn : (j : Int) ≠ -1 := by omega
              clear hc ec e5 m5 k5 s5 H5 hI hb hk hj2 ebn
              go_wp2_with (at_builtin; refine wpList_joinR _ rfl _ _ rfl (g + 1) (by rw [← unhide E5]; exact (unhide HH).2.2.2.2.2.2.2.1) _ C rfl (by rw [← unhide E5]; exact (unhide HH).2.2.2.1) wr.heap.size ⟨p, ba, bc⟩ rfl (by rw [← unhide E5]; exact unhide PC5) hCl ?_)
              intro v6 w6 o6 g6
              rw [← unhide E5] at g6
              have h6 := (unhide HH).come o6 g6 (unhide CM)
              obtain ⟨a6, c6, rfl, hc6⟩ := ownS_slice o6
              have el : (C ++ [(⟨p, ba, bc⟩ : Lp)]).length = C.length + 1 := by simp
              have H6 := hide h6
              have EL := hide el
              rw [el] at H6 ⊢
              clear o6 g6 h6 r0 r1 r2 r3 r4 c2 E5 HH PC5 el
              go_wp2_with fail
              have RW := hide (show RowP w6 (w.heap.size + 1 + 1) (.slice (some ⟨gq, 0, none⟩) M.length vc) M from (unhide H6).2.2.1)
              have MC := hide (unhide H6).2.1
              refine wp_leaves (fun a0 a' w' => ∃ wy, w6.drew.grownBy wy (some gq) ∧ Kept g wy w' ∧ w'.heap.size = wy.heap.size ∧ BuAt w' g t S (.slice (some ⟨gq, 0, none⟩) (M.length - 1) vc) ∧ RowP w' (w.heap.size + 1 + 1) (.slice (some ⟨gq, 0, none⟩) (M.length - 1) vc) (M.eraseIdx j) ∧ a' = (((((((((((a0.put (some 86) (.pointer (some ⟨g, 2, none⟩))).put (some 87) (.slice (some ⟨gq, 0, none⟩) M.length vc)).put (some 88) (.int .i64 (j : Nat))).put (some 89) (.slice (some ⟨gq, 0, none⟩) j vc)).put (some 90) (.pointer (some ⟨g, 2, none⟩))).put (some 91) (.slice (some ⟨gq, 0, none⟩) M.length vc)).put (some 92) (.int .i64 (j : Nat))).put (some 93) (.int .i64 (j + 1 : Nat))).put (some 94) (.slice (some (lowA gq 0 (j + 1) vc)) (M.length - (j + 1)) (vc - (j + 1)))).put (some 95) (.slice (some ⟨gq, 0, none⟩) (M.length - 1) vc)).put (some 96) (.pointer (some ⟨g, 2, none⟩)))) ?reg ?rest
              case reg =>
                intro A eA
                have bc : A.eval (.tmp 7) = .pointer (some ⟨g, 0, none⟩) := by rw [eA]; rfl
                have bi : A.eval (.tmp 9) = .int .i64 (j : Nat) := by rw [eA]; rfl
                have hs : 97 ≤ A.tmps.size := by rw [eA]; exact of_decide_eq_true rfl
                clear eA
                have hS : BuAt w6.drew g t S (.slice (some ⟨gq, 0, none⟩) M.length vc) := unhide MC
                have hR : RowP w6.drew (w.heap.size + 1 + 1) (.slice (some ⟨gq, 0, none⟩) M.length vc) M := unhide RW
                refine region_I (S := fun W => BuAt W g t S (.slice (some ⟨gq, 0, none⟩) M.length vc)) (.rd 0 (.rd 1 (.rd 2 (.rd 3 (.rd 4 (.rd 5 (.rd 6 (.rd 7 (.rd 8 (.go 9 (.rd 10 (.go 11 .fin)))))))))))) [11] (by kernel_rfl) (by kernel_rfl) ?_
                refine sI_read (v := (.pointer (some ⟨g, 2, none⟩))) rfl (fun _ _ _ h => absurd h.1 (fun e => nomatch e)) (wanted_rd rfl) hS (fun wx _ => run_fldU (.tmp 7) 2 rfl bc (by omega) wx) ?_
                show SeqI _ _ _ _ _ _ (Act.put _ (some 86) _) _
                refine sI_read (v := (.slice (some ⟨gq, 0, none⟩) M.length vc)) rfl (fun _ _ _ h => absurd h.1 (fun e => nomatch e)) (wanted_rd rfl) hS (fun wx hx => run_lodQ (.tmp 86) rfl (ev_same _ _ _ (by omega)) hx.cell2) ?_
                show SeqI _ _ _ _ _ _ (Act.put _ (some 87) _) _
                refine sI_read (v := (.int .i64 (j : Nat))) rfl (fun _ _ _ h => absurd h.1 (fun e => nomatch e)) (wanted_rd rfl) hS (fun wx _ => run_move (.tmp 9) rfl ((ev_other _ _ (by decide)).trans ((ev_other _ _ (by decide)).trans bi)) wx) ?_
                show SeqI _ _ _ _ _ _ (Act.put _ (some 88) _) _
                refine sI_read (v := (.slice (some ⟨gq, 0, none⟩) j vc)) rfl (fun _ _ _ h => absurd h.1 (fun e => nomatch e)) (wanted_rd rfl) hS (fun wx _ => run_topP (.tmp 87) (.tmp 88) rfl ((ev_other _ _ (by decide)).trans (ev_same _ _ _ (by simp only [sz_put]; omega))) (ev_same _ _ _ (by simp only [sz_put]; omega)) (by omega) (by omega) wx) ?_
                show SeqI _ _ _ _ _ _ (Act.put _ (some 89) _) _
                refine sI_read (v := (.pointer (some ⟨g, 2, none⟩))) rfl (fun _ _ _ h => absurd h.1 (fun e => nomatch e)) (wanted_rd rfl) hS (fun wx _ => run_fldU (.tmp 7) 2 rfl ((ev_other _ _ (by decide)).trans ((ev_other _ _ (by decide)).trans ((ev_other _ _ (by decide)).trans ((ev_other _ _ (by decide)).trans bc)))) (by omega) wx) ?_
                show SeqI _ _ _ _ _ _ (Act.put _ (some 90) _) _
                refine sI_read (v := (.slice (some ⟨gq, 0, none⟩) M.length vc)) rfl (fun _ _ _ h => absurd h.1 (fun e => nomatch e)) (wanted_rd rfl) hS (fun wx hx => run_lodQ (.tmp 90) rfl (ev_same _ _ _ (by simp only [sz_put]; omega)) hx.cell2) ?_
                show SeqI _ _ _ _ _ _ (Act.put _ (some 91) _) _
                refine sI_read (v := (.int .i64 (j : Nat))) rfl (fun _ _ _ h => absurd h.1 (fun e => nomatch e)) (wanted_rd rfl) hS (fun wx _ => run_move (.tmp 9) rfl ((ev_other _ _ (by decide)).trans ((ev_other _ _ (by decide)).trans ((ev_other _ _ (by decide)).trans ((ev_other _ _ (by decide)).trans ((ev_other _ _ (by decide)).trans ((ev_other _ _ (by decide)).trans bi)))))) wx) ?_
                show SeqI _ _ _ _ _ _ (Act.put _ (some 92) _) _
                refine sI_read (v := (.int .i64 (j + 1 : Nat))) rfl (fun _ _ _ h => absurd h.1 (fun e => nomatch e)) (wanted_rd rfl) hS (fun wx _ => (run_addP (.tmp 92) (.const (.int .i64 1)) rfl (ev_same _ _ _ (by simp only [sz_put]; omega)) rfl (by omega) (by omega) wx).trans (by rw [Int.natCast_add]; rfl)) ?_
                show SeqI _ _ _ _ _ _ (Act.put _ (some 93) _) _
                refine sI_read (v := (.slice (some (lowA gq 0 (j + 1) vc)) (M.length - (j + 1)) (vc - (j + 1)))) rfl (fun _ _ _ h => absurd h.1 (fun e => nomatch e)) (wanted_rd rfl) hS (fun wx _ => run_lowP (.tmp 91) (.tmp 93) rfl ((ev_other _ _ (by decide)).trans ((ev_other _ _ (by decide)).trans (ev_same _ _ _ (by simp only [sz_put]; omega)))) (ev_same _ _ _ (by simp only [sz_put]; omega)) (by omega) (by omega) wx) ?_
                show SeqI _ _ _ _ _ _ (Act.put _ (some 94) _) _
                refine sI_do rfl (wanted_rd rfl) (fun K hK => ?_)
                refine ⟨wp_cutP _ (.tmp 89) (.tmp 94) rfl (w.heap.size + 1 + 1) gq vc j M (by omega) (by omega) ((ev_other _ _ (by decide)).trans ((ev_other _ _ (by decide)).trans ((ev_other _ _ (by decide)).trans ((ev_other _ _ (by decide)).trans ((ev_other _ _ (by decide)).trans (ev_same _ _ _ (by simp only [sz_put]; omega))))))) (ev_same _ _ _ (by simp only [sz_put]; omega)) hR ?_⟩
                intro wy r6 g6
                have hS6 : BuAt wy g t S (.slice (some ⟨gq, 0, none⟩) M.length vc) := hS.grown hR g6
                refine hK _ _ (fun _ => hS6) ?_
                clear hK K
                show SeqI _ _ _ _ _ _ (Act.put _ (some 95) _) _
                refine sI_read (v := (.pointer (some ⟨g, 2, none⟩))) rfl (fun _ _ _ h => absurd h.1 (fun e => nomatch e)) (wanted_rd rfl) hS6 (fun wx _ => run_fldU (.tmp 7) 2 rfl ((ev_other _ _ (by decide)).trans ((ev_other _ _ (by decide)).trans ((ev_other _ _ (by decide)).trans ((ev_other _ _ (by decide)).trans ((ev_other _ _ (by decide)).trans ((ev_other _ _ (by decide)).trans ((ev_other _ _ (by decide)).trans ((ev_other _ _ (by decide)).trans ((ev_other _ _ (by decide)).trans ((ev_other _ _ (by decide)).trans bc)))))))))) (by omega) wx) ?_
                show SeqI _ _ _ _ _ _ (Act.put _ (some 96) _) _
                refine sI_do rfl (wanted_rd rfl) (fun K hK => ?_)
                refine wp_storeN _ (.tmp 96) (.tmp 95) rfl (ev_same _ _ _ (by simp only [sz_put]; omega)) ((ev_other _ _ (by decide)).trans (ev_same _ _ _ (by simp only [sz_put]; omega))) hS6 rfl ?_
                intro w7 m7 k7 z7
                refine hK _ _ (fun h => absurd h (by decide)) ?_
                clear hK K
                exact sI_end ⟨rfl, wy, g6, k7, z7, m7, ownS_kept r6 k7 (fun e => by obtain ⟨cur, hc⟩ := ownS_type r6 e; unfold BuAt at hS6; rw [hc] at hS6; cases hS6), rfl⟩
              case rest =>
                rintro a' w8 ⟨w7, g7, k8, z8, m8, r8, rfl⟩
                have h8 := (unhide H6).cut (w6 := w7) ⟨g7.os, g7.tape, g7.output, g7.size, g7.block⟩ k8 m8 r8
                have eM : (M.eraseIdx j).length = M.length - 1 := by rw [List.length_eraseIdx_of_lt hj1]
                rw [← eM] at h8
                have H8 := hide h8
                clear g7 k8 z8 m8 r8 h8
                go_frame
                go_wp2_with fail
                go_roundw
                case rel =>
                  refine ⟨some ⟨gq, 0, none⟩, vc, M.eraseIdx j, C ++ [⟨p, ba, bc⟩], a6, c6, by rw [unhide EL], unhide NX, ?_⟩
                  rw [unhide EL]
                  exact unhide H8
                case measure => simp [lenV] <;> omega

end Go.Proofs.Ythjeedlhlkggkaa
