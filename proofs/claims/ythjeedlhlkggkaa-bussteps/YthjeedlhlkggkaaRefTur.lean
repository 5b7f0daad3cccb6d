/- Contracts of the reference: TurnByte. -/
import Derived.Test.YthjeedlhlkggkaaRefLos
import Derived.Test.YthjeedlhlkggkaaFrameOps
namespace Go.Proofs.Ythjeedlhlkggkaa
open Go.RowKit

/-- A located parcel with a byte turned. -/
def turL (a m : Nat) (c : Lp) : Lp := ⟨turP a m c.p, c.ao, c.cap⟩
theorem turL_V (a m : Nat) (c : Lp) : lpV (turL a m c) = lpV c := by unfold lpV turL; dsimp only; rw [turP_len]
theorem turL_C (a m : Nat) (c : Lp) : lpC (turL a m c) = lpC c := by unfold lpC turL; dsimp only; rw [turP_len]; rfl
theorem lpL_modify (a m : Nat) (L : List Lp) : ∀ i, lpL (L.modify i (turL a m)) = lpL L := by
  induction L with
  | nil => intro i; simp
  | cons c l ih =>
    intro i
    cases i with
    | zero => show lpC (turL a m c) ++ lpL l = _; rw [turL_C]; rfl
    | succ i => show lpC c ++ lpL (l.modify i (turL a m)) = _; rw [ih i]; rfl
theorem these_modify {M : List Lp} {q : List Pc} (h : These M q) (a m i : Nat) : These (M.modify i (turL a m)) (q.modify i (turP a m)) := by
  unfold These at *
  rw [← h]
  clear h
  induction M generalizing i with
  | nil => simp
  | cons c l ih =>
    cases i with
    | zero => rfl
    | succ i => show c.p :: (l.modify i (turL a m)).map Lp.p = c.p :: (l.map Lp.p).modify i (turP a m); rw [ih i]
theorem mem_modify {M : List Lp} {f : Lp → Lp} : ∀ {i : Nat} {d : Lp}, d ∈ M.modify i f → ∃ j c, M[j]? = some c ∧ ((j = i ∧ d = f c) ∨ (j ≠ i ∧ d = c)) := by
  intro i d hd
  obtain ⟨j, hj⟩ := List.getElem?_of_mem hd
  rw [List.getElem?_modify] at hj
  rcases e : M[j]? with _ | c
  · rw [e] at hj; cases hj
  · rw [e] at hj
    simp only [Option.map_eq_map, Option.map_some] at hj
    by_cases ei : i = j
    · rw [if_pos ei] at hj; cases hj; exact ⟨j, c, e, Or.inl ⟨ei.symm, rfl⟩⟩
    · rw [if_neg ei] at hj; cases hj; exact ⟨j, d, e, Or.inr ⟨fun h => ei h.symm, rfl⟩⟩
theorem apart_modify {M : List Lp} (a m i : Nat) (h : ApartL M) : ApartL (M.modify i (turL a m)) := by
  unfold ApartL at *
  rw [List.pairwise_iff_getElem] at *
  intro x y hx hy hxy g hg
  have hx' : x < M.length := by simpa using hx
  have hy' : y < M.length := by simpa using hy
  have ev : ∀ (z : Nat) (hz : z < (M.modify i (turL a m)).length) (hz' : z < M.length), lpV ((M.modify i (turL a m))[z]) = lpV M[z] := by
    intro z hz hz'
    rw [List.getElem_modify]
    split
    · exact turL_V a m _
    · rfl
  rw [ev x hx hx'] at hg
  rw [ev y hy hy']
  exact h x y hx' hy' hxy g hg
theorem gF_set {ds : List Nat} {a : Nat} (ha : a < ds.length) (x : Nat) (i : Nat) : gF (ds.set a x) i = if i = a then x else gF ds i := by
  unfold gF
  rw [List.getD_eq_getElem?_getD, List.getD_eq_getElem?_getD, List.getElem?_set]
  by_cases e : a = i
  · subst e; rw [if_pos rfl, if_pos rfl, if_pos ha]; rfl
  · rw [if_neg e, if_neg (fun h => e h.symm)]
/-- The byte's block, written. -/
theorem OwnB.turn {w : World} {B a m gb : Nat} {c : Lp} (h : OwnB w B c) (ha : a < c.p.ds.length) (hg : c.ao = some ⟨gb, 0, none⟩) : OwnB (w.setCell ⟨gb, a, none⟩ (.int .u8 ((gF c.p.ds a ^^^ m : Nat) : Int))) B (turL a m c) := by
  have V : Vh 5 w gb c.p.ds.length c.cap (bF (gF c.p.ds)) := by
    obtain ⟨r, cap, e, hb, hV⟩ := Vh.of_owns (by omega) h
    unfold lpV at e
    rw [hg] at e
    cases e
    exact hV
  have hB : B ≤ gb := (h.lt gb (by unfold lpV; rw [hg]; rfl)).1
  have V2 := Vh.set V a (.int .u8 ((gF c.p.ds a ^^^ m : Nat) : Int))
  have V3 : Vh 5 (w.setCell ⟨gb, a, none⟩ (.int .u8 ((gF c.p.ds a ^^^ m : Nat) : Int))) gb c.p.ds.length c.cap (bF (gF (turP a m c.p).ds)) := Vh.congr V2 (fun i _ => by
    unfold stW bF bV turP
    dsimp only
    rw [gF_set ha]
    by_cases e : i = a
    · rw [if_pos e, if_pos e]; rfl
    · rw [if_neg e, if_neg e])
  unfold OwnB
  rw [turL_V]
  unfold lpV turL
  dsimp only
  rw [turP_len, hg]
  exact V3.owns hB
theorem OwnQ.turn {w : World} {B a m gb i : Nat} {v : Value} {M : List Lp} {c : Lp} (h : OwnQ w B v M) (hi : M[i]? = some c) (ha : a < c.p.ds.length) (hg : c.ao = some ⟨gb, 0, none⟩) : OwnQ (w.setCell ⟨gb, a, none⟩ (.int .u8 ((gF c.p.ds a ^^^ m : Nat) : Int))) B v (M.modify i (turL a m)) := by
  have hc := h.2.1 c (List.mem_of_getElem? hi)
  have hgb : (lpV c).ownBlock = some gb := by unfold lpV; rw [hg]; rfl
  have k := kept_set w gb a (.int .u8 ((gF c.p.ds a ^^^ m : Nat) : Int))
  refine ⟨?_, fun d hd => ?_, apart_modify a m i h.2.2⟩
  · rw [List.length_modify, lpL_modify]
    refine ownS_kept h.1 k (fun e => ?_)
    obtain ⟨u1, h1⟩ := ownS_type h.1 e
    obtain ⟨u2, h2⟩ := ownS_type hc hgb
    rw [h1] at h2; cases h2
  · obtain ⟨j, d', hj, ⟨rfl, rfl⟩ | ⟨hji, rfl⟩⟩ := mem_modify hd
    · rw [hi] at hj; cases hj
      exact hc.turn ha hg
    · refine ownS_kept (h.2.1 d (List.mem_of_getElem? hj)) k (fun e => ?_)
      have hp := h.2.2
      unfold ApartL at hp
      rw [List.pairwise_iff_getElem] at hp
      obtain ⟨lj, ej⟩ := List.getElem?_eq_some_iff.1 hj
      obtain ⟨li, ei⟩ := List.getElem?_eq_some_iff.1 hi
      rcases Nat.lt_or_gt_of_ne hji with hlt | hlt
      · exact hp j i lj li hlt gb (by rw [ej]; exact e) (by rw [ei]; exact hgb)
      · exact hp i j li lj hlt gb (by rw [ei]; exact hgb) (by rw [ej]; exact e)
theorem tur_no {b : Bs} {s a m : Int} {w w' : World} {e : Nat} (h : turnE b s a m = e) (h0 : e ≠ 0) (k : Below w.heap.size w w') :
    ∃ (ao' : Option Addr) (cap' : Nat) (L' : List Lp), Ending.returned (.tuple #[.agg #[.int .i64 0, .int .i64 0, .slice none 0 0], .int .i64 (e : Nat)]) = .returned (.tuple #[busV (turnS b s a m).now (turnS b s a m).ser (.slice ao' L'.length cap'), .int .i64 (turnE b s a m : Nat)]) ∧ These L' (turnS b s a m).q ∧ BNew w.heap.size w' ao' cap' L' ∧ Below w.heap.size w w' := by
  have hz : turnS b s a m = zeroBs := by unfold turnS; rw [if_neg (by rw [h]; exact h0)]
  rw [hz, h]
  exact ⟨none, 0, [], rfl, rfl, bnew_nil _ _, k⟩
theorem tur_yes {b : Bs} {s a m : Int} {w w' : World} {i : Nat} (he : turnE b s a m = 0) (h : fsP s b.q = i) {ao : Option Addr} {cap n B : Nat} {M : List Lp} (hM : These M b.q) (o : OwnQ w' B (.slice ao n cap) (M.modify i (turL a.toNat m.toNat))) (hn : n = M.length) (hB : w.heap.size ≤ B) (k : Below w.heap.size w w') :
    ∃ (ao' : Option Addr) (cap' : Nat) (L' : List Lp), Ending.returned (.tuple #[.agg #[.int .i64 b.now, .int .i64 b.ser, .slice ao n cap], .int .i64 0]) = .returned (.tuple #[busV (turnS b s a m).now (turnS b s a m).ser (.slice ao' L'.length cap'), .int .i64 (turnE b s a m : Nat)]) ∧ These L' (turnS b s a m).q ∧ BNew w.heap.size w' ao' cap' L' ∧ Below w.heap.size w w' := by
  have hz : turnS b s a m = ⟨b.now, b.ser, b.q.modify i (turP a.toNat m.toNat)⟩ := by unfold turnS; rw [if_pos he, h]
  rw [hz, he]
  have hl : (M.modify i (turL a.toNat m.toNat)).length = n := by rw [List.length_modify, hn]
  rw [← hl] at o
  refine ⟨ao, cap, M.modify i (turL a.toNat m.toNat), ?_, these_modify hM _ _ _, o.new.weak hB, k⟩
  rw [hl]; rfl

set_option maxHeartbeats 4000000 in
theorem refTurn_ok : TuOK 20 := by
  intro b ao cap L s a m w hb ht hr rs ra rm
  obtain ⟨N, S, q⟩ := b
  have hN : L.length ≤ 2513169434843 := by rw [ht.len]; exact hb.2.2.2
  obtain ⟨w1, e1, m1, m2, k1, s1⟩ := bu_pair w N S (.slice ao L.length cap)
  have x0 := m1.cell0; have x1 := m1.cell1; have x2 := m1.cell2
  have C := copyBus_any ⟨N, S, q⟩ ao cap L w1 hb ht (hr.below k1)
  unfold busV at C
  dsimp only at C
  have E1 := hide e1; have M2 := hide m2; have K1 := hide k1; have S1 := hide s1; have HB := hide hb
  have LN := hide (show L.length = q.length from ht.len)
  rw [e1] at x0 x1 x2
  clear e1 m1 m2 k1 s1 hb ht hr
  unfold busV
  dsimp only
  go_enter Try.func20, Try.ntmps20
  go_wp2_with fail
  rw [← unhide E1]
  refine C.mono ?_
  rintro e w2 ⟨v, M, rfl, tM, oM, k2⟩
  obtain ⟨va, vc, rfl, hvc⟩ := oM.slice
  obtain ⟨w3, e3, m3, k3, z3⟩ := bu_alloc w2 N S (.slice va M.length vc)
  have E3 := hide e3
  obtain ⟨g, eg⟩ : ∃ g, g = w2.heap.size := ⟨_, rfl⟩
  have hz : w.heap.size + 1 + 1 ≤ g := by have := unhide S1; have := k2.size; omega
  rw [show w1.heap.size = w.heap.size + 1 + 1 from unhide S1] at oM
  rw [← eg] at m3
  have H3 := hide (show LsI w g N S (.slice va M.length vc) M w3 from ⟨((unhide M2).below k2).below k3, m3, oM.below k3, (unhide K1).trans ((k2.mono (by have := unhide S1; omega)).trans (k3.mono (by omega))), hz⟩)
  have c2 := m3.cell2
  rw [e3] at c2
  have hM : M.length ≤ 2513169434843 := by rw [tM.len, ← unhide LN]; exact hN
  have TM := hide (show These M q from tM); have OK := hide (unhide HB)
  have EG := hide eg; have Z3 := hide z3
  rw [eg] at c2
  clear C e3 m3 k3 z3 k2 oM tM x0 x1 x2
  go_wp2_with fail
  rw [← unhide E3, ← eg]
  clear c2 eg
  go_loopw [18] (fun is wr => ∃ i : Nat, i ≤ M.length ∧ is = .int .i64 (i : Nat) ∧ (∀ j c, j < i → M[j]? = some c → c.p.se ≠ s) ∧ LsI w g N S (.slice va M.length vc) M wr) (fun is _ => M.length - (intOf is).toNat)
  case atStart => exact ⟨0, Nat.zero_le _, rfl, fun j c h => absurd h (by omega), unhide H3⟩
  case round =>
    obtain ⟨i, hi, rfl, hne, hI⟩ := hrel
    rename World => wr
    by_cases hin : i < M.length
    · have hc := List.getElem?_eq_getElem hin
      obtain ⟨c, ec⟩ : ∃ c, c = M[i] := ⟨_, rfl⟩
      rw [← ec] at hc
      obtain ⟨gq, rfl⟩ := own_some hI.2.2.1.1 (by omega)
      obtain ⟨x, o, ea, hq⟩ := hI.2.2.1.rd (by omega)
      cases ea
      obtain ⟨p0, p1, p2, p3, p4⟩ := hq i c hc
      have po := (unhide OK).2.2.1 c.p ((unhide TM).mem (List.mem_of_getElem? hc))
      have HC := hide hc; have PO := hide po
      obtain ⟨⟨fr, to, du, se, ds⟩, ba, bc⟩ := c
      unfold lpV at p4
      dsimp only at p0 p1 p2 p3 p4
      simp only [Nat.zero_add] at p0 p1 p2 p3 p4
      obtain ⟨w4, e4, m4, k4, s4⟩ := pv_alloc wr ⟨fr, to, du, se, ds⟩ (.slice ba ds.length bc)
      dsimp only at e4
      have d3 := m4.cells.2.2.2.1; have d4 := m4.cells.2.2.2.2
      dsimp only at d3 d4
      rw [e4] at d3 d4
      have H4 := hI.below k4
      have t4 := H4.2.2.1.rd (by omega)
      have E4 := hide e4; have HH := hide H4; have NE := hide hne
      have hds : ds.length ≤ 140737488351232 := po.2.2.2.2.2
      clear hc ec hq e4 m4 k4 s4 H4 hI hne po t4
      by_cases he : se = s
      · subst he
        have el : q.length = M.length := (unhide TM).len.symm
        have FS := hide (show fsP se q = i from fsP_is (fun j p hj hp => by
          have e2 := (unhide TM).at (List.getElem?_eq_getElem (show j < M.length by omega))
          have : p = M[j].p := Option.some.inj (hp.symm.trans e2)
          rw [this]
          exact unhide NE j _ hj (List.getElem?_eq_getElem (by omega))) (fun p hp => by
          have e2 := (unhide TM).at (unhide HC)
          have : p = _ := Option.some.inj (hp.symm.trans e2)
          rw [this]) (by omega))
        have QI := hide (show q[fsP se q]? = some ⟨fr, to, du, se, ds⟩ by rw [unhide FS]; exact (unhide TM).at (unhide HC))
        have r4 := (unhide HH).1
        have y0 := r4.cell0; have y1 := r4.cell1; have y2 := r4.cell2; have f0 := r4.free 0; have f1 := r4.free 1; have f2 := r4.free 2
        obtain ⟨w8, e8, m8, k8, z8⟩ := r4.put 0 0 (.slice none 0 0)
        have pp0 := m8.cell0; have pp1 := m8.cell1; have pp2 := m8.cell2
        have K8 := hide (below_of_kept (unhide HH).2.2.2.1 k8 (by omega) (unhide HH).2.2.2.1.size)
        have E8 := hide e8
        rw [unhide E4] at y0 y1 y2 f0 f1 f2
        clear e8 m8 k8 z8 r4
        by_cases h0 : a < 0
        · go_wp2_with fail
          rw [← unhide E4, ← unhide E8]
          refine bodyPost_ret (v := .tuple #[.agg #[.int .i64 0, .int .i64 0, .slice none 0 0], .int .i64 3]) (by simp [results, Try.results20, go_sem, pp0, pp1, pp2]) rfl ?_
          refine tur_no (b := ⟨N, S, q⟩) (e := 3) ?_ (by decide) (unhide K8)
          unfold turnE
          dsimp only
          rw [unhide QI]
          dsimp only
          rw [if_pos (by omega)]
        · by_cases h1 : (ds.length : Int) ≤ a
          · go_wp2_with fail
            rw [← unhide E4, ← unhide E8]
            refine bodyPost_ret (v := .tuple #[.agg #[.int .i64 0, .int .i64 0, .slice none 0 0], .int .i64 3]) (by simp [results, Try.results20, go_sem, pp0, pp1, pp2]) rfl ?_
            refine tur_no (b := ⟨N, S, q⟩) (e := 3) ?_ (by decide) (unhide K8)
            unfold turnE
            dsimp only
            rw [unhide QI]
            dsimp only
            rw [if_pos (by omega)]
          · by_cases h2 : m < 0
            · go_wp2_with fail
              rw [← unhide E4, ← unhide E8]
              refine bodyPost_ret (v := .tuple #[.agg #[.int .i64 0, .int .i64 0, .slice none 0 0], .int .i64 3]) (by simp [results, Try.results20, go_sem, pp0, pp1, pp2]) rfl ?_
              refine tur_no (b := ⟨N, S, q⟩) (e := 3) ?_ (by decide) (unhide K8)
              unfold turnE
              dsimp only
              rw [unhide QI]
              dsimp only
              rw [if_pos (by omega)]
            · by_cases h3 : 255 < m
              · go_wp2_with fail
                rw [← unhide E4, ← unhide E8]
                refine bodyPost_ret (v := .tuple #[.agg #[.int .i64 0, .int .i64 0, .slice none 0 0], .int .i64 3]) (by simp [results, Try.results20, go_sem, pp0, pp1, pp2]) rfl ?_
                refine tur_no (b := ⟨N, S, q⟩) (e := 3) ?_ (by decide) (unhide K8)
                unfold turnE
                dsimp only
                rw [unhide QI]
                dsimp only
                rw [if_pos (by omega)]
              · obtain ⟨A, rfl⟩ : ∃ A : Nat, a = (A : Int) := ⟨a.toNat, by omega⟩
                obtain ⟨K, rfl⟩ : ∃ K : Nat, m = (K : Int) := ⟨m.toNat, by omega⟩
                have hA : A < ds.length := by omega
                have hK : K < 256 := by omega
                have TE := hide (show turnE ⟨N, S, q⟩ se (A : Int) (K : Int) = 0 by
                  unfold turnE
                  dsimp only
                  rw [unhide QI]
                  dsimp only
                  rw [if_neg (by omega)])
                have hB := (unhide HH).2.2.1.2.1 _ (List.mem_of_getElem? (unhide HC))
                obtain ⟨gb, rfl⟩ := own_some hB (by show 0 < ds.length; omega)
                have vb : Vh 5 w4 gb ds.length bc (bF (gF ds)) := by
                  obtain ⟨r, cap9, e, hb9, hV⟩ := Vh.of_owns (by show 1 ≤ ds.length; omega) hB
                  unfold lpV at e
                  cases e
                  exact hV
                have z1 := vb.cell hA; have z2 := vb.free A
                unfold bF bV at z1
                have hx : gF ds A < 256 := gF_lt (unhide PO).2.2.2.2.1 A
                have hxo := u8_xor_nat (gF ds A) K hx hK
                have c2 := (unhide HH).2.1.cell2
                obtain ⟨x2, o2, ea2, hq2⟩ := (unhide HH).2.2.1.rd (by omega)
                cases ea2
                obtain ⟨_, _, _, _, q4⟩ := hq2 i _ (unhide HC)
                unfold lpV at q4
                dsimp only at q4
                simp only [Nat.zero_add] at q4
                have hh := unhide HH
                have hgb : w.heap.size + 1 + 1 ≤ gb := (hB.lt gb rfl).1
                have kz := kept_set w4 gb A (.int .u8 ((gF ds A ^^^ K : Nat) : Int))
                obtain ⟨w9, e9⟩ : ∃ w9, w9 = w4.setCell ⟨gb, A, none⟩ (.int .u8 ((gF ds A ^^^ K : Nat) : Int)) := ⟨_, rfl⟩
                have O9 := hh.2.2.1.turn (a := A) (m := K) (unhide HC) hA rfl
                rw [← e9] at O9 kz
                have ng : g ≠ gb := fun e => by
                  have h1 := hh.2.1
                  obtain ⟨u1, h2⟩ := ownS_type hB (show (lpV ⟨⟨fr, to, du, se, ds⟩, some ⟨gb, 0, none⟩, bc⟩).ownBlock = some gb from rfl)
                  unfold BuAt at h1
                  rw [e, h2] at h1
                  cases h1
                have r9 := hh.1.kept kz (by omega)
                have m9 := hh.2.1.kept kz ng
                have v0 := m9.cell0; have v1 := m9.cell1; have v2 := m9.cell2
                have yy0 := r9.cell0; have yy1 := r9.cell1; have yy2 := r9.cell2; have ff0 := r9.free 0; have ff1 := r9.free 1; have ff2 := r9.free 2
                obtain ⟨wb, eb, mb, kb, zb⟩ := r9.put N S (.slice (some ⟨gq, 0, none⟩) M.length vc)
                have qq0 := mb.cell0; have qq1 := mb.cell1; have qq2 := mb.cell2
                have OB := hide (O9.bus r9 kb)
                have K9 := below_of_kept hh.2.2.2.1 kz (by omega) hh.2.2.2.1.size
                have KB := hide (below_of_kept K9 kb (by omega) K9.size)
                have E9 := hide e9; have EB := hide eb
                rw [unhide E4] at c2 q4 z1 z2
                rw [e9, unhide E4] at v0 v1 v2 yy0 yy1 yy2 ff0 ff1 ff2
                clear hq2 hh kz O9 r9 m9 e9 mb kb zb eb K9 hB vb y0 y1 y2 f0 f1 f2 ng h0 h1 h2 h3
                have hA' : (A : Int) < (ds.length : Nat) := by omega
                have hK' : ¬ (255 : Int) < (K : Nat) := by omega
                go_wp2_with fail
                rw [← unhide E4, ← unhide E9, ← unhide EB]
                refine bodyPost_ret (v := .tuple #[.agg #[.int .i64 N, .int .i64 S, .slice (some ⟨gq, 0, none⟩) M.length vc], .int .i64 0]) (by simp [results, Try.results20, go_sem, qq0, qq1, qq2]) rfl ?_
                exact tur_yes (b := ⟨N, S, q⟩) (unhide TE) (unhide FS) (unhide TM) (unhide OB) rfl (by omega) (unhide KB)
      · have tb : (se == s) = false := by simp [he]
        have tb2 : (se != s) = true := by simp [he]
        go_wp2_with fail
        rw [← unhide E4]
        go_roundw
        case rel =>
          refine ⟨i + 1, by omega, by go_num, fun j c hj hc => ?_, unhide HH⟩
          by_cases ej : j = i
          · subst ej
            have := Option.some.inj (hc.symm.trans (unhide HC))
            rw [this]; exact he
          · exact unhide NE j c (by omega) hc
        case measure => simp [intOf] <;> omega
    · have e9 : i = M.length := by omega
      subst e9
      have y0 := hI.1.cell0; have y1 := hI.1.cell1; have y2 := hI.1.cell2; have f0 := hI.1.free 0; have f1 := hI.1.free 1; have f2 := hI.1.free 2
      obtain ⟨w8, e8, m8, k8, z8⟩ := hI.1.put 0 0 (.slice none 0 0)
      have pp0 := m8.cell0; have pp1 := m8.cell1; have pp2 := m8.cell2
      have K8 := hide (below_of_kept hI.2.2.2.1 k8 (by omega) hI.2.2.2.1.size)
      have E8 := hide e8; have NE := hide hne
      clear e8 m8 k8 z8 hI hne
      go_wp2_with fail
      rw [← unhide E8]
      refine bodyPost_ret (v := .tuple #[.agg #[.int .i64 0, .int .i64 0, .slice none 0 0], .int .i64 7]) (by simp [results, Try.results20, go_sem, pp0, pp1, pp2]) rfl ?_
      refine tur_no (b := ⟨N, S, q⟩) (e := 7) ?_ (by decide) (unhide K8)
      unfold turnE
      dsimp only
      rcases e : q[fsP s q]? with _ | p
      · rfl
      · have el : q.length = M.length := (unhide TM).len.symm
        have hlt : fsP s q < M.length := by have h2 := (List.getElem?_eq_some_iff.1 e).1; omega
        have e2 := (unhide TM).at (List.getElem?_eq_getElem hlt)
        exact absurd (fsP_at e2) (unhide NE _ _ hlt (List.getElem?_eq_getElem hlt))

end Go.Proofs.Ythjeedlhlkggkaa
