/- Contracts of the reference: SameParcels and SameBus of two alike; bytes copied. -/
import Derived.Test.YthjeedlhlkggkaaBusOps
namespace Go.Proofs.Ythjeedlhlkggkaa
open Go.RowKit

/-- Two parcels that are read. -/
def PQ (p : Pc) (x o : Nat) (u : Value) (y r : Nat) (v : Value) (w : World) : Prop := PcAt w x o p u ∧ PcAt w y r p v
theorem PQ.below {p : Pc} {x o y r : Nat} {u v : Value} {w w' : World} (h : PQ p x o u y r v w) (k : Below w.heap.size w w') : PQ p x o u y r v w' := ⟨h.1.below k, h.2.below k⟩
theorem PQ.kept {p : Pc} {x o y r z : Nat} {u v : Value} {w w' : World} (h : PQ p x o u y r v w) (k : Kept z w w') (h1 : x ≠ z) (h2 : y ≠ z) : PQ p x o u y r v w' :=
  ⟨h.1.same (k.block x h.1.lt h1), h.2.same (k.block y h.2.lt h2)⟩
theorem PvAt.cells {w : World} {b : Nat} {p : Pc} {v : Value} (h : PvAt w b p v) : w.cell? ⟨b, 0, none⟩ = some (.int .i64 p.fr) ∧ w.cell? ⟨b, 1, none⟩ = some (.int .i64 p.to) ∧ w.cell? ⟨b, 2, none⟩ = some (.int .i64 p.du) ∧ w.cell? ⟨b, 3, none⟩ = some (.int .i64 p.se) ∧ w.cell? ⟨b, 4, none⟩ = some v := by
  have := h.pc
  unfold PcAt at this
  simp only [Nat.zero_add] at this
  exact this

set_option maxHeartbeats 2000000 in
theorem sameParcels_any (q : List Pc) (ao : Option Addr) (cap : Nat) (L : List Lp) (ao2 : Option Addr) (cap2 : Nat) (L2 : List Lp) (w : World) (hl : q.length ≤ 2513169434843) (h1 : These L q) (h2 : These L2 q) (r1 : BRd w ao cap L) (r2 : BRd w ao2 cap2 L2) :
    Calls Try.prog 16 #[.slice ao L.length cap, .slice ao2 L2.length cap2] w fun e w' => e = .returned (.bool true) ∧ Below w.heap.size w w' := by
  obtain ⟨n, en⟩ : ∃ n, n = q.length := ⟨_, rfl⟩
  have n1 : L.length = n := by rw [h1.len, en]
  have n2 : L2.length = n := by rw [h2.len, en]
  rw [n1, n2]
  rw [← en] at hl
  have H1 := hide h1; have H2 := hide h2; have R1 := hide r1; have R2 := hide r2; have N1 := hide n1; have N2 := hide n2; have EN := hide en
  clear h1 h2 r1 r2 n1 n2 en
  go_enter Try.func16, Try.ntmps16
  go_wp2_with fail
  go_loopw [15] (fun is wr => ∃ i : Nat, i ≤ n ∧ is = .int .i64 (i : Nat) ∧ Below w.heap.size w wr) (fun is _ => n - (intOf is).toNat)
  case atStart => exact ⟨0, Nat.zero_le _, rfl, Below.refl _ _⟩
  case round =>
    obtain ⟨i, hi, rfl, kr⟩ := hrel
    rename World => wr
    by_cases hin : i < n
    · have i1 : i < L.length := by rw [unhide N1]; exact hin
      have i2 : i < L2.length := by rw [unhide N2]; exact hin
      have e1 := List.getElem?_eq_getElem i1; have e2 := List.getElem?_eq_getElem i2
      obtain ⟨c, ec⟩ : ∃ c, c = L[i] := ⟨_, rfl⟩
      obtain ⟨d, ed⟩ : ∃ d, d = L2[i] := ⟨_, rfl⟩
      rw [← ec] at e1
      rw [← ed] at e2
      have ep : c.p = d.p := Option.some.inj (((unhide H1).at e1).symm.trans ((unhide H2).at e2))
      have q1 := (unhide R1).below kr; have q2 := (unhide R2).below kr
      obtain ⟨x, o, rfl, f1⟩ := q1.1 (by omega)
      obtain ⟨y, r, rfl, f2⟩ := q2.1 (by omega)
      have g1 := f1 i c e1; have g2 := f2 i d e2
      have s1 := q1.2.2 c (List.mem_of_getElem? e1); have s2 := q2.2.2 d (List.mem_of_getElem? e2)
      obtain ⟨p, ba, bc⟩ := c
      obtain ⟨p2, ba2, bc2⟩ := d
      dsimp only at ep
      subst ep
      unfold lpV at g1 g2
      dsimp only at g1 g2
      obtain ⟨s1, _⟩ := s1
      obtain ⟨s2, _⟩ := s2
      dsimp only at s1 s2
      have HS := hide (show PQ p x (o + i * 5) (.slice ba p.ds.length bc) y (r + i * 5) (.slice ba2 p.ds.length bc2) wr from ⟨g1, g2⟩)
      have S1 := hide s1; have S2 := hide s2; have KR := hide kr
      obtain ⟨ds, eds⟩ : ∃ ds, p.ds = ds := ⟨_, rfl⟩
      rw [eds] at HS S1 S2
      clear ec ed e1 e2 q1 q2 f1 f2 g1 g2 s1 s2 kr
      go_wp2_with fail
      refine wp_leaves (fun a0 a' w' => ∃ g g2, PvAt w' g p (.slice ba ds.length bc) ∧ PvAt w' g2 p (.slice ba2 ds.length bc2) ∧ Below wr.heap.size wr w' ∧ a' = ((((((((((a0.put (some 18) (.slice (some ⟨x, o, none⟩) n cap)).put (some 19) (.int .i64 (i : Nat))).put (some 20) (.pointer (some ⟨x, o + i * 5, none⟩))).put (some 21) (pcV p (.slice ba ds.length bc))).put (some 22) (.slice (some ⟨y, r, none⟩) n cap2)).put (some 23) (.int .i64 (i : Nat))).put (some 24) (.pointer (some ⟨y, r + i * 5, none⟩))).put (some 25) (pcV p (.slice ba2 ds.length bc2))).put (some 6) (.pointer (some ⟨g, 0, none⟩))).put (some 7) (.pointer (some ⟨g2, 0, none⟩)))) ?reg ?rest
      case reg =>
        intro A eA
        have b0 : A.eval (.tmp 0) = .slice (some ⟨x, o, none⟩) n cap := by rw [eA]; rfl
        have b1 : A.eval (.tmp 1) = .slice (some ⟨y, r, none⟩) n cap2 := by rw [eA]; rfl
        have b5 : A.eval (.tmp 5) = .int .i64 (i : Nat) := by rw [eA]; rfl
        have hs : 62 ≤ A.tmps.size := by rw [eA]; exact of_decide_eq_true rfl
        clear eA
        have hS : PQ p x (o + i * 5) (.slice ba ds.length bc) y (r + i * 5) (.slice ba2 ds.length bc2) wr.drew := unhide HS
        have l1 : x < wr.heap.size := (unhide HS).1.lt
        have l2 : y < wr.heap.size := (unhide HS).2.lt
        refine region_I (S := PQ p x (o + i * 5) (.slice ba ds.length bc) y (r + i * 5) (.slice ba2 ds.length bc2)) (.rd 0 (.rd 1 (.rd 2 (.rd 3 (.rd 4 (.rd 5 (.rd 6 (.rd 7 (.two 8 9 (.go 9 (.go 10 (.go 11 .fin))) (.go 8 (.go 10 (.go 11 .fin)))))))))))) [11] (by kernel_rfl) (by kernel_rfl) ?_
        refine sI_read (v := (.slice (some ⟨x, o, none⟩) n cap)) rfl (fun _ _ _ h => absurd h.1 (fun e => nomatch e)) (wanted_rd rfl) hS (fun wx _ => run_move (.tmp 0) rfl b0 wx) ?_
        show SeqI _ _ _ _ _ _ (Act.put _ (some 18) _) _
        refine sI_read (v := (.int .i64 (i : Nat))) rfl (fun _ _ _ h => absurd h.1 (fun e => nomatch e)) (wanted_rd rfl) hS (fun wx _ => run_move (.tmp 5) rfl ((ev_other _ _ (by decide)).trans b5) wx) ?_
        show SeqI _ _ _ _ _ _ (Act.put _ (some 19) _) _
        refine sI_read (v := (.pointer (some ⟨x, o + i * 5, none⟩))) rfl (fun _ _ _ h => absurd h.1 (fun e => nomatch e)) (wanted_rd rfl) hS (fun wx _ => run_ixP (.tmp 18) (.tmp 19) rfl ((ev_other _ _ (by decide)).trans (ev_same _ _ _ (by omega))) (ev_same _ _ _ (by simp only [sz_put]; omega)) hin wx) ?_
        show SeqI _ _ _ _ _ _ (Act.put _ (some 20) _) _
        refine sI_read (v := (pcV p (.slice ba ds.length bc))) rfl (fun _ _ _ h => absurd h.1 (fun e => nomatch e)) (wanted_rd rfl) hS (fun wx hx => run_lodP (.tmp 20) rfl (ev_same _ _ _ (by simp only [sz_put]; omega)) hx.1) ?_
        show SeqI _ _ _ _ _ _ (Act.put _ (some 21) _) _
        refine sI_read (v := (.slice (some ⟨y, r, none⟩) n cap2)) rfl (fun _ _ _ h => absurd h.1 (fun e => nomatch e)) (wanted_rd rfl) hS (fun wx _ => run_move (.tmp 1) rfl ((ev_other _ _ (by decide)).trans ((ev_other _ _ (by decide)).trans ((ev_other _ _ (by decide)).trans ((ev_other _ _ (by decide)).trans b1)))) wx) ?_
        show SeqI _ _ _ _ _ _ (Act.put _ (some 22) _) _
        refine sI_read (v := (.int .i64 (i : Nat))) rfl (fun _ _ _ h => absurd h.1 (fun e => nomatch e)) (wanted_rd rfl) hS (fun wx _ => run_move (.tmp 5) rfl ((ev_other _ _ (by decide)).trans ((ev_other _ _ (by decide)).trans ((ev_other _ _ (by decide)).trans ((ev_other _ _ (by decide)).trans ((ev_other _ _ (by decide)).trans b5))))) wx) ?_
        show SeqI _ _ _ _ _ _ (Act.put _ (some 23) _) _
        refine sI_read (v := (.pointer (some ⟨y, r + i * 5, none⟩))) rfl (fun _ _ _ h => absurd h.1 (fun e => nomatch e)) (wanted_rd rfl) hS (fun wx _ => run_ixP (.tmp 22) (.tmp 23) rfl ((ev_other _ _ (by decide)).trans (ev_same _ _ _ (by simp only [sz_put]; omega))) (ev_same _ _ _ (by simp only [sz_put]; omega)) hin wx) ?_
        show SeqI _ _ _ _ _ _ (Act.put _ (some 24) _) _
        refine sI_read (v := (pcV p (.slice ba2 ds.length bc2))) rfl (fun _ _ _ h => absurd h.1 (fun e => nomatch e)) (wanted_rd rfl) hS (fun wx hx => run_lodP (.tmp 24) rfl (ev_same _ _ _ (by simp only [sz_put]; omega)) hx.2) ?_
        show SeqI _ _ _ _ _ _ (Act.put _ (some 25) _) _
        refine sI_two rfl rfl (wanted_rd rfl) (wanted_rd rfl) ?_ ?_
        · intro K hK
          refine wp_allocP _ rfl ?_
          intro w3 m3 k3 z3
          refine hK _ _ (fun _ => (PQ.below hS k3)) ?_
          clear hK K
          show SeqI _ _ _ _ _ _ (Act.put _ (some 6) _) _
          refine sI_do rfl (wanted_rd rfl) (fun K hK => ?_)
          refine wp_allocP _ rfl ?_
          intro w4 m4 k4 z4
          refine hK _ _ (fun _ => (PQ.below (PQ.below hS k3) k4)) ?_
          clear hK K
          show SeqI _ _ _ _ _ _ (Act.put _ (some 7) _) _
          refine sI_do rfl (wanted_rd rfl) (fun K hK => ?_)
          refine wp_storeP _ (.tmp 6) (.tmp 21) rfl ((ev_other _ _ (by decide)).trans (ev_same _ _ _ (by simp only [sz_put]; omega))) ((ev_other _ _ (by decide)).trans ((ev_other _ _ (by decide)).trans ((ev_other _ _ (by decide)).trans ((ev_other _ _ (by decide)).trans ((ev_other _ _ (by decide)).trans ((ev_other _ _ (by decide)).trans (ev_same _ _ _ (by simp only [sz_put]; omega)))))))) (m3.below k4) rfl ?_
          intro w5 m5 k5 z5
          refine hK _ _ (fun _ => (PQ.kept (PQ.below (PQ.below hS k3) k4) k5 (Nat.ne_of_lt l1) (Nat.ne_of_lt l2))) ?_
          clear hK K
          refine sI_do rfl (wanted_rd rfl) (fun K hK => ?_)
          refine wp_storeP _ (.tmp 7) (.tmp 25) rfl (ev_same _ _ _ (by simp only [sz_put]; omega)) ((ev_other _ _ (by decide)).trans ((ev_other _ _ (by decide)).trans (ev_same _ _ _ (by simp only [sz_put]; omega)))) (m4.kept k5 (by omega)) rfl ?_
          intro w6 m6 k6 z6
          refine hK _ _ (fun h => absurd h (by decide)) ?_
          clear hK K
          have K34 : Below wr.heap.size wr w4 := (below_drew (Below.refl _ _)).trans (show Below wr.heap.size wr.drew w4 from k3.trans (k4.mono k3.size))
          have zd : wr.drew.heap.size = wr.heap.size := rfl
          exact sI_end ⟨rfl, _, _, m5.kept k6 (by omega), m6, below_of_kept (below_of_kept K34 k5 (by omega) K34.size) k6 (by omega) (below_of_kept K34 k5 (by omega) K34.size).size, rfl⟩
        · intro K hK
          refine wp_allocP _ rfl ?_
          intro w3 m3 k3 z3
          refine hK _ _ (fun _ => (PQ.below hS k3)) ?_
          clear hK K
          show SeqI _ _ _ _ _ _ (Act.put _ (some 7) _) _
          refine sI_do rfl (wanted_rd rfl) (fun K hK => ?_)
          refine wp_allocP _ rfl ?_
          intro w4 m4 k4 z4
          refine hK _ _ (fun _ => (PQ.below (PQ.below hS k3) k4)) ?_
          clear hK K
          show SeqI _ _ _ _ _ _ (Act.put _ (some 6) _) _
          rw [put_swap _ 7 6 _ _ (by decide)]
          refine sI_do rfl (wanted_rd rfl) (fun K hK => ?_)
          refine wp_storeP _ (.tmp 6) (.tmp 21) rfl ((ev_other _ _ (by decide)).trans (ev_same _ _ _ (by simp only [sz_put]; omega))) ((ev_other _ _ (by decide)).trans ((ev_other _ _ (by decide)).trans ((ev_other _ _ (by decide)).trans ((ev_other _ _ (by decide)).trans ((ev_other _ _ (by decide)).trans ((ev_other _ _ (by decide)).trans (ev_same _ _ _ (by simp only [sz_put]; omega)))))))) m4 rfl ?_
          intro w5 m5 k5 z5
          refine hK _ _ (fun _ => (PQ.kept (PQ.below (PQ.below hS k3) k4) k5 (Nat.ne_of_lt (Nat.lt_of_lt_of_le l1 k3.size)) (Nat.ne_of_lt (Nat.lt_of_lt_of_le l2 k3.size)))) ?_
          clear hK K
          refine sI_do rfl (wanted_rd rfl) (fun K hK => ?_)
          refine wp_storeP _ (.tmp 7) (.tmp 25) rfl (ev_same _ _ _ (by simp only [sz_put]; omega)) ((ev_other _ _ (by decide)).trans ((ev_other _ _ (by decide)).trans (ev_same _ _ _ (by simp only [sz_put]; omega)))) ((m3.below k4).kept k5 (by omega)) rfl ?_
          intro w6 m6 k6 z6
          refine hK _ _ (fun h => absurd h (by decide)) ?_
          clear hK K
          have K34 : Below wr.heap.size wr w4 := (below_drew (Below.refl _ _)).trans (show Below wr.heap.size wr.drew w4 from k3.trans (k4.mono k3.size))
          have zd : wr.drew.heap.size = wr.heap.size := rfl
          exact sI_end ⟨rfl, _, _, m5.kept k6 (by omega), m6, below_of_kept (below_of_kept K34 k5 (by omega) K34.size) k6 (by omega) (below_of_kept K34 k5 (by omega) K34.size).size, rfl⟩
      case rest =>
        rintro a' w2 ⟨g, g2, m1, m2, k2, rfl⟩
        obtain ⟨p0, p1, p2, p3, p4⟩ := m1.cells
        obtain ⟨t0, t1, t2, t3, t4⟩ := m2.cells
        have v1 := run_convB w2 ba ds.length bc (gF ds) ((unhide S1).below k2).rd
        have v2 := run_convB w2 ba2 ds.length bc2 (gF ds) ((unhide S2).below k2).rd
        have K2 := hide ((unhide KR).trans (k2.mono (unhide KR).size))
        obtain ⟨fr, to, du, se, ds2⟩ := p
        dsimp only at p0 p1 p2 p3 t0 t1 t2 t3
        clear m1 m2 k2
        go_frame
        go_wp2_with fail
        go_roundw
        case rel => exact ⟨i + 1, by omega, by go_num, unhide K2⟩
        case measure => simp [intOf] <;> omega
    · have e9 : i = n := by omega
      subst e9
      go_wp2_with fail
      go_ret
      exact ⟨rfl, kr⟩

end Go.Proofs.Ythjeedlhlkggkaa
