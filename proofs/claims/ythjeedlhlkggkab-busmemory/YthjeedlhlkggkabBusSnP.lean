/- The contract of Send (package bus). -/
import Derived.Test.YthjeedlhlkggkabBusPrt
import Derived.Test.YthjeedlhlkggkabBusDel
import Derived.Test.YthjeedlhlkggkabRefTur
namespace Go.Proofs.Ythjeedlhlkggkab
open Go.RowKit

/-- What Send reads while it appends. -/
def SdI (w : World) (gp : Nat) (N S : Int) (u : Value) (p : Pc) (r : Value) (W : World) : Prop := BuAt W w.heap.size N S u ∧ PvAt W gp p r
theorem SdI.below {w W W' : World} {gp : Nat} {N S : Int} {u r : Value} {p : Pc} (h : SdI w gp N S u p r W) (k : Below W.heap.size W W') : SdI w gp N S u p r W' := ⟨h.1.below k, h.2.below k⟩
theorem run_incP {f : Operand → Value} {o : Oper} (x y : Operand) (ho : o.op = .binOp .add 3 x y 3) {u : Int} (hx : f x = .int .i64 u) (hy : f y = .int .i64 1) (r : R64 u) (w : World) : (execOp f o).run Try.prog w = .ok (.value (.int .i64 (wrapS u))) w := by
  unfold R64 at r
  have e : IntKind.i64.wrap (u + 1) = wrapS u := by rw [IntKind.wrap_i64]; unfold wrapS; split <;> omega
  unfold execOp
  rw [ho]
  dsimp only
  rw [hx, hy]
  go_simp
theorem run_buildU {f : Operand → Value} {o : Oper} (x y z : Operand) (ho : o.op = .build 25 #[(0, x), (1, y), (2, z)]) {N S : Int} {ao : Option Addr} {n c : Nat} (h0 : f x = .int .i64 N) (h1 : f y = .int .i64 S) (h2 : f z = .slice ao n c) (w : World) :
    (execOp f o).run Try.prog w = .ok (.value (busV N S (.slice ao n c))) w := by
  unfold execOp
  rw [ho]
  unfold busV
  go_simp

set_option maxHeartbeats 4000000 in
set_option maxRecDepth 100000 in
theorem busSend_ok : SeOK 12 := by
  intro b ao cap L f t d bo bc ds w hb ht hr rf rt rd hs hbc h256 hlen
  obtain ⟨N, S, q⟩ := b
  have hN : L.length ≤ 2513169434843 := by rw [ht.len]; exact hb.2.2.2
  have OK := hide (show ∀ c, c ∈ L → PcOK c.p from fun c hc => hb.2.2.1 c.p (ht.mem hc))
  obtain ⟨w1, e1, m1, m2, k1, s1⟩ := bu_pair w N S (.slice ao L.length cap)
  have C1 := busLink_any f t w1
  have C2 := busWithin_any d 1000 w1
  have C3 := busWithin_any N 1099511627776 w1
  have x0 := m1.cell0; have x1 := m1.cell1; have x2 := m1.cell2
  have y0 := m2.cell0; have y1 := m2.cell1; have y2 := m2.cell2; have f0 := m2.free 0; have f1 := m2.free 1; have f2 := m2.free 2
  obtain ⟨w8, e8, m8, k8, z8⟩ := m2.put 0 0 (.slice none 0 0)
  have p0 := m8.cell0; have p1 := m8.cell1; have p2 := m8.cell2
  have E8 := hide e8; have K8 := hide (below_of_kept k1 k8 (by omega) k1.size)
  have E1 := hide e1; have M1 := hide m1; have M2 := hide m2; have K1 := hide k1; have S1 := hide s1; have HT := hide (show L.map Lp.p = q from ht); have HR := hide (hr.below k1); have SR := hide (hs.below k1)
  have LN := hide (show L.length = q.length from ht.len)
  have RS := hide (show R64 S from hb.2.1)
  clear e1 m1 m2 k1 s1 hb ht hr hs e8 m8 k8 z8
  unfold busV
  dsimp only
  go_enter Try.func12, Try.ntmps12
  by_cases hL : (0 ≤ f ∧ f ≤ 3) ∧ (0 ≤ t ∧ t ≤ 3) ∧ f ≠ t
  · rw [decide_eq_true hL] at C1
    have HL := hide hL
    clear hL
    go_wp2_with fail
    rw [← unhide E1]
    refine C1.mono ?_
    rintro e wx ⟨rfl, ex⟩
    obtain rfl : w1 = wx := ex.symm
    clear ex
    by_cases hD : 0 ≤ d ∧ d ≤ 1000
    · rw [decide_eq_true hD] at C2
      have HD := hide hD
      clear hD
      go_wp2_with fail
      refine C2.mono ?_
      rintro e wx ⟨rfl, ex⟩
      obtain rfl : w1 = wx := ex.symm
      clear ex
      by_cases hT : 0 ≤ N ∧ N ≤ 1099511627776
      · rw [decide_eq_true hT] at C3
        have HTT := hide hT
        clear hT
        go_wp2_with fail
        refine C3.mono ?_
        rintro e wx ⟨rfl, ex⟩
        obtain rfl : w1 = wx := ex.symm
        clear ex
        by_cases h5 : 220 < ds.length
        · have h5z : (220 : Int) < (ds.length : Int) := by omega
          go_wp2_with fail
          rw [← unhide E8]
          refine bodyPost_ret (v := .tuple #[.agg #[.int .i64 0, .int .i64 0, .slice none 0 0], .int .i64 1]) (by simp [results, Try.results12, go_sem, p0, p1, p2]) rfl ?_
          exact snd_no (b := ⟨N, S, q⟩) (e := 1) (by unfold sendE; dsimp only; have hL := unhide HL; have hD := unhide HD; have hT := unhide HTT; rw [if_neg (by omega), if_pos (by omega)]) (by decide) (unhide K8)
        · have h5z : ¬ (220 : Int) < (ds.length : Int) := by omega
          by_cases h6 : 400 ≤ L.length
          · have h6z : (400 : Int) ≤ (L.length : Int) := by omega
            go_wp2_with fail
            rw [← unhide E8]
            refine bodyPost_ret (v := .tuple #[.agg #[.int .i64 0, .int .i64 0, .slice none 0 0], .int .i64 6]) (by simp [results, Try.results12, go_sem, p0, p1, p2]) rfl ?_
            exact snd_no (b := ⟨N, S, q⟩) (e := 6) (by unfold sendE; dsimp only; have hL := unhide HL; have hD := unhide HD; have hT := unhide HTT; have := unhide LN; rw [if_neg (by omega), if_neg (by omega), if_pos (by omega)]) (by decide) (unhide K8)
          · have h6z : ¬ (400 : Int) ≤ (L.length : Int) := by omega
            have h140 : ds.length ≤ 140737488351232 := by omega
            have SE := hide (show sendE N q.length f t d ds.length = 0 by have hL := unhide HL; have hD := unhide HD; have hT := unhide HTT; unfold sendE; rw [if_neg (by omega), if_neg (by omega), if_neg (by have := unhide LN; omega)])
            go_wp2_with fail
            have hL := unhide HL; have hD := unhide HD; have hT := unhide HTT
            clear C1 C2 C3 p0 p1 p2 y0 y1 y2 f0 f1 f2 x0 x1 x2
            refine wp_leaves (fun a0 a' w' => ∃ (a3 : Option Addr) (c3 gp : Nat), PvAt w' gp ⟨f, t, N + d, S, ds⟩ (.slice a3 ds.length c3) ∧ OwnB w' w1.heap.size ⟨⟨f, t, N + d, S, ds⟩, a3, c3⟩ ∧ Below w1.heap.size w1 w' ∧ w1.heap.size ≤ gp ∧ a' = ((((((((((((a0.put (some 38) (.int .i64 f)).put (some 39) (.int .i64 t)).put (some 40) (.pointer (some ⟨w.heap.size, 0, none⟩))).put (some 41) (.int .i64 N)).put (some 42) (.int .i64 d)).put (some 43) (.int .i64 (N + d))).put (some 44) (.pointer (some ⟨w.heap.size, 1, none⟩))).put (some 45) (.int .i64 S)).put (some 46) (.slice bo ds.length bc)).put (some 12) (.pointer (some ⟨gp, 0, none⟩))).put (some 47) (.slice a3 ds.length c3)).put (some 48) (pcV ⟨f, t, N + d, S, ds⟩ (.slice a3 ds.length c3)))) ?reg ?rest
            case reg =>
              intro A eA
              have b1 : A.eval (.tmp 1) = .int .i64 f := by rw [eA]; rfl
              have b2 : A.eval (.tmp 2) = .int .i64 t := by rw [eA]; rfl
              have b3 : A.eval (.tmp 3) = .slice bo ds.length bc := by rw [eA]; rfl
              have b4 : A.eval (.tmp 4) = .int .i64 d := by rw [eA]; rfl
              have b5 : A.eval (.tmp 5) = .pointer (some ⟨w.heap.size, 0, none⟩) := by rw [eA]; rfl
              have hs : 61 ≤ A.tmps.size := by rw [eA]; exact of_decide_eq_true rfl
              clear eA
              have hS : BuAt w1.drew w.heap.size N S (.slice ao L.length cap) := unhide M1
              have hB : Sr w1.drew bo ds.length bc (bF (gF ds)) := unhide SR
              refine region_I (S := fun W => BuAt W w.heap.size N S (.slice ao L.length cap)) (.rd 0 (.rd 1 (.rd 2 (.rd 3 (.rd 4 (.rd 5 (.rd 6 (.rd 7 (.rd 8 (.two 9 11 (.rd 10 (.go 11 (.go 12 .fin))) (.go 9 (.rd 10 (.go 12 .fin))))))))))))) [] (by kernel_rfl) (by kernel_rfl) ?_
              refine sI_read (v := (.int .i64 f)) rfl (fun _ _ _ h => absurd h.1 (fun e => nomatch e)) (wanted_rd rfl) hS (fun wx _ => run_move (.tmp 1) rfl b1 wx) ?_
              show SeqI _ _ _ _ _ _ (Act.put _ (some 38) _) _
              refine sI_read (v := (.int .i64 t)) rfl (fun _ _ _ h => absurd h.1 (fun e => nomatch e)) (wanted_rd rfl) hS (fun wx _ => run_move (.tmp 2) rfl ((ev_other _ _ (by decide)).trans b2) wx) ?_
              show SeqI _ _ _ _ _ _ (Act.put _ (some 39) _) _
              refine sI_read (v := (.pointer (some ⟨w.heap.size, 0, none⟩))) rfl (fun _ _ _ h => absurd h.1 (fun e => nomatch e)) (wanted_rd rfl) hS (fun wx _ => run_fldU (.tmp 5) 0 rfl ((ev_other _ _ (by decide)).trans ((ev_other _ _ (by decide)).trans b5)) (by omega) wx) ?_
              show SeqI _ _ _ _ _ _ (Act.put _ (some 40) _) _
              refine sI_read (v := (.int .i64 N)) rfl (fun _ _ _ h => absurd h.1 (fun e => nomatch e)) (wanted_rd rfl) hS (fun wx hx => run_lodN (.tmp 40) rfl (ev_same _ _ _ (by simp only [sz_put]; omega)) hx.cell0) ?_
              show SeqI _ _ _ _ _ _ (Act.put _ (some 41) _) _
              refine sI_read (v := (.int .i64 d)) rfl (fun _ _ _ h => absurd h.1 (fun e => nomatch e)) (wanted_rd rfl) hS (fun wx _ => run_move (.tmp 4) rfl ((ev_other _ _ (by decide)).trans ((ev_other _ _ (by decide)).trans ((ev_other _ _ (by decide)).trans ((ev_other _ _ (by decide)).trans b4)))) wx) ?_
              show SeqI _ _ _ _ _ _ (Act.put _ (some 42) _) _
              refine sI_read (v := (.int .i64 (N + d))) rfl (fun _ _ _ h => absurd h.1 (fun e => nomatch e)) (wanted_rd rfl) hS (fun wx _ => run_addP (.tmp 41) (.tmp 42) rfl ((ev_other _ _ (by decide)).trans (ev_same _ _ _ (by simp only [sz_put]; omega))) (ev_same _ _ _ (by simp only [sz_put]; omega)) (by omega) (by omega) wx) ?_
              show SeqI _ _ _ _ _ _ (Act.put _ (some 43) _) _
              refine sI_read (v := (.pointer (some ⟨w.heap.size, 1, none⟩))) rfl (fun _ _ _ h => absurd h.1 (fun e => nomatch e)) (wanted_rd rfl) hS (fun wx _ => run_fldU (.tmp 5) 1 rfl ((ev_other _ _ (by decide)).trans ((ev_other _ _ (by decide)).trans ((ev_other _ _ (by decide)).trans ((ev_other _ _ (by decide)).trans ((ev_other _ _ (by decide)).trans ((ev_other _ _ (by decide)).trans b5)))))) (by omega) wx) ?_
              show SeqI _ _ _ _ _ _ (Act.put _ (some 44) _) _
              refine sI_read (v := (.int .i64 S)) rfl (fun _ _ _ h => absurd h.1 (fun e => nomatch e)) (wanted_rd rfl) hS (fun wx hx => run_lodN (.tmp 44) rfl (ev_same _ _ _ (by simp only [sz_put]; omega)) hx.cell1) ?_
              show SeqI _ _ _ _ _ _ (Act.put _ (some 45) _) _
              refine sI_read (v := (.slice bo ds.length bc)) rfl (fun _ _ _ h => absurd h.1 (fun e => nomatch e)) (wanted_rd rfl) hS (fun wx _ => run_move (.tmp 3) rfl ((ev_other _ _ (by decide)).trans ((ev_other _ _ (by decide)).trans ((ev_other _ _ (by decide)).trans ((ev_other _ _ (by decide)).trans ((ev_other _ _ (by decide)).trans ((ev_other _ _ (by decide)).trans ((ev_other _ _ (by decide)).trans ((ev_other _ _ (by decide)).trans b3)))))))) wx) ?_
              show SeqI _ _ _ _ _ _ (Act.put _ (some 46) _) _
              refine sI_two rfl rfl (wanted_rd rfl) (wanted_rd rfl) ?_ ?_
              · intro K hK
                refine wp_call1 _ 23 (.tmp 46) _ rfl (ev_same _ _ _ (by simp only [sz_put]; omega)) (by go_simp) (busOwn_any bo bc ds _ hB h140) ?_
                rintro e w2 ⟨a3, c3, rfl, o3, k2⟩
                have h2 := hS.below k2
                refine ⟨_, rfl, ?_⟩
                refine hK _ _ (fun _ => h2) ?_
                clear hK K
                show SeqI _ _ _ _ _ _ (Act.put _ (some 47) _) _
                refine sI_read (v := (pcV ⟨f, t, N + d, S, ds⟩ (.slice a3 ds.length c3))) rfl (fun _ _ _ h => absurd h.1 (fun e => nomatch e)) (wanted_rd rfl) h2 (fun wx _ => run_buildPc (.tmp 38) (.tmp 39) (.tmp 43) (.tmp 45) (.tmp 47) rfl ds ((ev_other _ _ (by decide)).trans ((ev_other _ _ (by decide)).trans ((ev_other _ _ (by decide)).trans ((ev_other _ _ (by decide)).trans ((ev_other _ _ (by decide)).trans ((ev_other _ _ (by decide)).trans ((ev_other _ _ (by decide)).trans ((ev_other _ _ (by decide)).trans ((ev_other _ _ (by decide)).trans (ev_same _ _ _ (by omega))))))))))) ((ev_other _ _ (by decide)).trans ((ev_other _ _ (by decide)).trans ((ev_other _ _ (by decide)).trans ((ev_other _ _ (by decide)).trans ((ev_other _ _ (by decide)).trans ((ev_other _ _ (by decide)).trans ((ev_other _ _ (by decide)).trans ((ev_other _ _ (by decide)).trans (ev_same _ _ _ (by simp only [sz_put]; omega)))))))))) ((ev_other _ _ (by decide)).trans ((ev_other _ _ (by decide)).trans ((ev_other _ _ (by decide)).trans ((ev_other _ _ (by decide)).trans (ev_same _ _ _ (by simp only [sz_put]; omega)))))) ((ev_other _ _ (by decide)).trans ((ev_other _ _ (by decide)).trans (ev_same _ _ _ (by simp only [sz_put]; omega)))) (ev_same _ _ _ (by simp only [sz_put]; omega)) wx) ?_
                show SeqI _ _ _ _ _ _ (Act.put _ (some 48) _) _
                refine sI_do rfl (wanted_rd rfl) (fun K hK => ?_)
                refine wp_allocP _ rfl ?_
                intro w3 m3 k3 z3
                have h3 := h2.below k3
                refine hK _ _ (fun _ => h3) ?_
                clear hK K
                show SeqI _ _ _ _ _ _ (Act.put _ (some 12) _) _
                refine sI_do rfl (wanted_rd rfl) (fun K hK => ?_)
                refine wp_storeP _ (.tmp 12) (.tmp 48) rfl (ev_same _ _ _ (by simp only [sz_put]; omega)) ((ev_other _ _ (by decide)).trans (ev_same _ _ _ (by simp only [sz_put]; omega))) m3 rfl ?_
                intro w4 m4 k4 z4
                have ez : w1.drew.heap.size = w1.heap.size := rfl
                have hk2 := k2.size
                have hk3 := k3.size
                have hlt := hS.lt
                have h4 := h3.kept k4 (by omega)
                refine hK _ _ (fun _ => h4) ?_
                clear hK K
                exact sI_end ⟨rfl, a3, c3, w2.heap.size, m4, (show OwnB w4 w1.heap.size ⟨⟨f, t, N + d, S, ds⟩, a3, c3⟩ from ownS_kept (ownS_below o3 k3) k4 (fun e => by have := (o3.lt _ e).2; omega)), below_of_kept ((below_drew (Below.refl _ _)).trans (show Below w1.heap.size w1.drew w3 from k2.trans (k3.mono k2.size))) k4 (by omega) (by omega), by omega, (by rw [put_swap _ 48 12 _ _ (by decide), put_swap _ 47 12 _ _ (by decide)])⟩
              · intro K hK
                refine wp_allocP _ rfl ?_
                intro w2 m2 k2 z2
                have h2 := hS.below k2
                refine hK _ _ (fun _ => h2) ?_
                clear hK K
                show SeqI _ _ _ _ _ _ (Act.put _ (some 12) _) _
                refine sI_do rfl (wanted_rd rfl) (fun K hK => ?_)
                refine wp_call1 _ 23 (.tmp 46) _ rfl ((ev_other _ _ (by decide)).trans (ev_same _ _ _ (by simp only [sz_put]; omega))) (by go_simp) (busOwn_any bo bc ds _ (hB.below k2) h140) ?_
                rintro e w3 ⟨a3, c3, rfl, o3, k3⟩
                have h3 := h2.below k3
                refine ⟨_, rfl, ?_⟩
                refine hK _ _ (fun _ => h3) ?_
                clear hK K
                show SeqI _ _ _ _ _ _ (Act.put _ (some 47) _) _
                refine sI_read (v := (pcV ⟨f, t, N + d, S, ds⟩ (.slice a3 ds.length c3))) rfl (fun _ _ _ h => absurd h.1 (fun e => nomatch e)) (wanted_rd rfl) h3 (fun wx _ => run_buildPc (.tmp 38) (.tmp 39) (.tmp 43) (.tmp 45) (.tmp 47) rfl ds ((ev_other _ _ (by decide)).trans ((ev_other _ _ (by decide)).trans ((ev_other _ _ (by decide)).trans ((ev_other _ _ (by decide)).trans ((ev_other _ _ (by decide)).trans ((ev_other _ _ (by decide)).trans ((ev_other _ _ (by decide)).trans ((ev_other _ _ (by decide)).trans ((ev_other _ _ (by decide)).trans ((ev_other _ _ (by decide)).trans (ev_same _ _ _ (by omega)))))))))))) ((ev_other _ _ (by decide)).trans ((ev_other _ _ (by decide)).trans ((ev_other _ _ (by decide)).trans ((ev_other _ _ (by decide)).trans ((ev_other _ _ (by decide)).trans ((ev_other _ _ (by decide)).trans ((ev_other _ _ (by decide)).trans ((ev_other _ _ (by decide)).trans ((ev_other _ _ (by decide)).trans (ev_same _ _ _ (by simp only [sz_put]; omega))))))))))) ((ev_other _ _ (by decide)).trans ((ev_other _ _ (by decide)).trans ((ev_other _ _ (by decide)).trans ((ev_other _ _ (by decide)).trans ((ev_other _ _ (by decide)).trans (ev_same _ _ _ (by simp only [sz_put]; omega))))))) ((ev_other _ _ (by decide)).trans ((ev_other _ _ (by decide)).trans ((ev_other _ _ (by decide)).trans (ev_same _ _ _ (by simp only [sz_put]; omega))))) (ev_same _ _ _ (by simp only [sz_put]; omega)) wx) ?_
                show SeqI _ _ _ _ _ _ (Act.put _ (some 48) _) _
                refine sI_do rfl (wanted_rd rfl) (fun K hK => ?_)
                refine wp_storeP _ (.tmp 12) (.tmp 48) rfl ((ev_other _ _ (by decide)).trans ((ev_other _ _ (by decide)).trans (ev_same _ _ _ (by simp only [sz_put]; omega)))) (ev_same _ _ _ (by simp only [sz_put]; omega)) (m2.below k3) rfl ?_
                intro w4 m4 k4 z4
                have ez : w1.drew.heap.size = w1.heap.size := rfl
                have hk2 := k2.size
                have hk3 := k3.size
                have hlt := hS.lt
                have h4 := h3.kept k4 (by omega)
                refine hK _ _ (fun _ => h4) ?_
                clear hK K
                exact sI_end ⟨rfl, a3, c3, w1.drew.heap.size, m4, (show OwnB w4 w1.heap.size ⟨⟨f, t, N + d, S, ds⟩, a3, c3⟩ from ownS_base (ownS_kept o3 k4 (fun e => by have := (o3.lt _ e).1; omega)) (by omega)), below_of_kept ((below_drew (Below.refl _ _)).trans (show Below w1.heap.size w1.drew w3 from k2.trans (k3.mono k2.size))) k4 (by omega) (by omega), by omega, rfl⟩
            case rest =>
              rintro a' w7 ⟨a3, c3, gp, m7, o7, k7, g7, rfl⟩
              have s1 := unhide S1
              have MB7 := hide ((unhide M1).below k7); have MR7 := hide ((unhide M2).below k7); have PV7 := hide m7; have BR7 := hide ((unhide HR).below k7)
              rw [s1] at o7
              have OB7 := hide o7; have K7 := hide ((unhide K1).trans (k7.mono (by omega))); have GP7 := hide (show w.heap.size + 1 + 1 ≤ gp by omega); have Z7 := hide (show w.heap.size + 1 + 1 ≤ w7.heap.size by have := k7.size; omega)
              clear m7 o7 k7 g7 s1 hL hD hT
              go_frame
              go_wp2_with fail
              refine wp_leaves (fun a0 a' w' => ∃ (va : Option Addr) (vc : Nat) (a6 : Option Addr) (c6 : Nat) (M : List Lp) (gr : Nat), M.map Lp.p = L.map Lp.p ∧ BuAt w' (w.heap.size + 1) N (wrapS S) (.slice a6 (M.length + 1) c6) ∧ OwnQ w' (w.heap.size + 1 + 1) (.slice a6 (M.length + 1) c6) (M ++ [⟨⟨f, t, N + d, S, ds⟩, a3, c3⟩]) ∧ Below w.heap.size w w' ∧ a' = (((((((((((((a0.put (some 49) (.pointer (some ⟨w.heap.size, 0, none⟩))).put (some 50) (.int .i64 N)).put (some 51) (.pointer (some ⟨w.heap.size, 1, none⟩))).put (some 52) (.int .i64 S)).put (some 53) (.int .i64 (wrapS S))).put (some 54) (.pointer (some ⟨w.heap.size, 2, none⟩))).put (some 55) (.slice ao L.length cap)).put (some 57) (pcV ⟨f, t, N + d, S, ds⟩ (.slice a3 ds.length c3))).put (some 56) (.slice va M.length vc)).put (some 58) (.slice (some ⟨gr, 0, none⟩) 1 1)).put (some 59) (.slice a6 (M.length + 1) c6)).put (some 60) (busV N (wrapS S) (.slice a6 (M.length + 1) c6))).put (some 11) (.int .i64 0))) ?reg ?rest
              case reg =>
                intro A eA
                have b5 : A.eval (.tmp 5) = .pointer (some ⟨w.heap.size, 0, none⟩) := by rw [eA]; rfl
                have b10 : A.eval (.tmp 10) = .pointer (some ⟨w.heap.size + 1, 0, none⟩) := by rw [eA]; rfl
                have b12 : A.eval (.tmp 12) = .pointer (some ⟨gp, 0, none⟩) := by rw [eA]; rfl
                have hs : 61 ≤ A.tmps.size := by rw [eA]; exact of_decide_eq_true rfl
                clear eA
                have hS : SdI w gp N S (.slice ao L.length cap) ⟨f, t, N + d, S, ds⟩ (.slice a3 ds.length c3) w7.drew := ⟨unhide MB7, unhide PV7⟩
                have hO : OwnB w7.drew (w.heap.size + 1 + 1) ⟨⟨f, t, N + d, S, ds⟩, a3, c3⟩ := unhide OB7
                have hr : BuAt w7.drew (w.heap.size + 1) 0 0 (.slice none 0 0) := unhide MR7
                have hBr : BRd w7.drew ao cap L := unhide BR7
                have ez : w7.drew.heap.size = w7.heap.size := rfl
                have hz7 := unhide Z7
                have hgp := unhide GP7
                refine region_I (S := fun W => SdI w gp N S (.slice ao L.length cap) ⟨f, t, N + d, S, ds⟩ (.slice a3 ds.length c3) W) (.rd 0 (.rd 1 (.rd 2 (.rd 3 (.rd 4 (.rd 5 (.rd 6 (.rd 8 (.two 7 9 (.go 9 (.go 10 (.rd 11 (.go 12 (.rd 13 .fin))))) (.go 7 (.go 10 (.rd 11 (.go 12 (.rd 13 .fin)))))))))))))) [] (by kernel_rfl) (by kernel_rfl) ?_
                refine sI_read (v := (.pointer (some ⟨w.heap.size, 0, none⟩))) rfl (fun _ _ _ h => absurd h.1 (fun e => nomatch e)) (wanted_rd rfl) hS (fun wx _ => run_fldU (.tmp 5) 0 rfl b5 (by omega) wx) ?_
                show SeqI _ _ _ _ _ _ (Act.put _ (some 49) _) _
                refine sI_read (v := (.int .i64 N)) rfl (fun _ _ _ h => absurd h.1 (fun e => nomatch e)) (wanted_rd rfl) hS (fun wx hx => run_lodN (.tmp 49) rfl (ev_same _ _ _ (by omega)) hx.1.cell0) ?_
                show SeqI _ _ _ _ _ _ (Act.put _ (some 50) _) _
                refine sI_read (v := (.pointer (some ⟨w.heap.size, 1, none⟩))) rfl (fun _ _ _ h => absurd h.1 (fun e => nomatch e)) (wanted_rd rfl) hS (fun wx _ => run_fldU (.tmp 5) 1 rfl ((ev_other _ _ (by decide)).trans ((ev_other _ _ (by decide)).trans b5)) (by omega) wx) ?_
                show SeqI _ _ _ _ _ _ (Act.put _ (some 51) _) _
                refine sI_read (v := (.int .i64 S)) rfl (fun _ _ _ h => absurd h.1 (fun e => nomatch e)) (wanted_rd rfl) hS (fun wx hx => run_lodN (.tmp 51) rfl (ev_same _ _ _ (by simp only [sz_put]; omega)) hx.1.cell1) ?_
                show SeqI _ _ _ _ _ _ (Act.put _ (some 52) _) _
                refine sI_read (v := (.int .i64 (wrapS S))) rfl (fun _ _ _ h => absurd h.1 (fun e => nomatch e)) (wanted_rd rfl) hS (fun wx _ => run_incP (.tmp 52) (.const (.int .i64 1)) rfl (ev_same _ _ _ (by simp only [sz_put]; omega)) rfl (unhide RS) wx) ?_
                show SeqI _ _ _ _ _ _ (Act.put _ (some 53) _) _
                refine sI_read (v := (.pointer (some ⟨w.heap.size, 2, none⟩))) rfl (fun _ _ _ h => absurd h.1 (fun e => nomatch e)) (wanted_rd rfl) hS (fun wx _ => run_fldU (.tmp 5) 2 rfl ((ev_other _ _ (by decide)).trans ((ev_other _ _ (by decide)).trans ((ev_other _ _ (by decide)).trans ((ev_other _ _ (by decide)).trans ((ev_other _ _ (by decide)).trans b5))))) (by omega) wx) ?_
                show SeqI _ _ _ _ _ _ (Act.put _ (some 54) _) _
                refine sI_read (v := (.slice ao L.length cap)) rfl (fun _ _ _ h => absurd h.1 (fun e => nomatch e)) (wanted_rd rfl) hS (fun wx hx => run_lodQ (.tmp 54) rfl (ev_same _ _ _ (by simp only [sz_put]; omega)) hx.1.cell2) ?_
                show SeqI _ _ _ _ _ _ (Act.put _ (some 55) _) _
                refine sI_read (v := (pcV ⟨f, t, N + d, S, ds⟩ (.slice a3 ds.length c3))) rfl (fun _ _ _ h => absurd h.1 (fun e => nomatch e)) (wanted_rd rfl) hS (fun wx hx => run_lodP (.tmp 12) rfl ((ev_other _ _ (by decide)).trans ((ev_other _ _ (by decide)).trans ((ev_other _ _ (by decide)).trans ((ev_other _ _ (by decide)).trans ((ev_other _ _ (by decide)).trans ((ev_other _ _ (by decide)).trans ((ev_other _ _ (by decide)).trans b12))))))) hx.2.pc) ?_
                show SeqI _ _ _ _ _ _ (Act.put _ (some 57) _) _
                refine sI_two rfl rfl (wanted_rd rfl) (wanted_rd rfl) ?_ ?_
                · intro K hK
                  refine wp_call1 _ 20 (.tmp 55) _ rfl ((ev_other _ _ (by decide)).trans (ev_same _ _ _ (by simp only [sz_put]; omega))) (by go_simp) (busCopied_any ao cap L _ (unhide OK) hN hBr) ?_
                  rintro e w8 ⟨va, vc, M, rfl, tM, oM, k8⟩
                  have h8 : SdI w gp N S (.slice ao L.length cap) ⟨f, t, N + d, S, ds⟩ (.slice a3 ds.length c3) w8 := hS.below k8
                  have n8 := k8.size
                  refine ⟨_, rfl, ?_⟩
                  refine hK _ _ (fun _ => h8) ?_
                  clear hK K
                  show SeqI _ _ _ _ _ _ (Act.put _ (some 56) _) _
                  refine sI_do rfl (wanted_rd rfl) (fun K hK => ?_)
                  refine wp_onePc _ (.tmp 57) rfl ((ev_other _ _ (by decide)).trans (ev_same _ _ _ (by simp only [sz_put]; omega))) ?_
                  intro w9 m9 k9 z9
                  have h9 : SdI w gp N S (.slice ao L.length cap) ⟨f, t, N + d, S, ds⟩ (.slice a3 ds.length c3) w9 := h8.below k9
                  have n9 := k9.size
                  refine hK _ _ (fun _ => h9) ?_
                  clear hK K
                  show SeqI _ _ _ _ _ _ (Act.put _ (some 58) _) _
                  refine sI_do rfl (wanted_rd rfl) (fun K hK => ?_)
                  have hq := (show OwnQ w9 (w.heap.size + 1 + 1) (.slice va M.length vc) M from OwnQ.base (oM.below k9) (by omega))
                  refine ⟨wp_joinP _ (.tmp 56) (.tmp 58) rfl (w.heap.size + 1 + 1) (by omega) _ M ((ev_other _ _ (by decide)).trans (ev_same _ _ _ (by simp only [sz_put]; omega))) hq _ ⟨⟨f, t, N + d, S, ds⟩, a3, c3⟩ (ev_same _ _ _ (by simp only [sz_put]; omega)) m9.pc (ownS_base ((hO.below k8).below k9) (by omega)) (fun c hc g9 hg e => by have u1 := ((oM.2.1 c hc).lt g9 hg).1; have u2 := (hO.lt g9 e).2; omega) (by rw [show M.length = (M.map Lp.p).length by simp, tM]; simp; omega) ?_⟩
                  intro v10 w10 o10 k10 g10
                  obtain ⟨a6, c6, rfl, hc6⟩ := o10.slice
                  rw [show (M ++ [(⟨⟨f, t, N + d, S, ds⟩, a3, c3⟩ : Lp)]).length = M.length + 1 by simp] at o10 ⊢
                  have h10 : SdI w gp N S (.slice ao L.length cap) ⟨f, t, N + d, S, ds⟩ (.slice a3 ds.length c3) w10 := ⟨h9.1.grown hq.1 g10, h9.2.same (g10.block gp h9.2.lt (fun e => by have u1 := (oM.1.lt gp e.symm).1; have u2 := hS.2.lt; omega))⟩
                  have r10 : BuAt w10 (w.heap.size + 1) 0 0 (.slice none 0 0) := BuAt.grown ((hr.below k8).below k9) hq.1 g10
                  refine hK _ _ (fun _ => h10) ?_
                  clear hK K
                  show SeqI _ _ _ _ _ _ (Act.put _ (some 59) _) _
                  refine sI_read (v := (busV N (wrapS S) (.slice a6 (M.length + 1) c6))) rfl (fun _ _ _ h => absurd h.1 (fun e => nomatch e)) (wanted_rd rfl) h10 (fun wx _ => run_buildU (.tmp 50) (.tmp 53) (.tmp 59) rfl ((ev_other _ _ (by decide)).trans ((ev_other _ _ (by decide)).trans ((ev_other _ _ (by decide)).trans ((ev_other _ _ (by decide)).trans ((ev_other _ _ (by decide)).trans ((ev_other _ _ (by decide)).trans ((ev_other _ _ (by decide)).trans ((ev_other _ _ (by decide)).trans ((ev_other _ _ (by decide)).trans (ev_same _ _ _ (by simp only [sz_put]; omega))))))))))) ((ev_other _ _ (by decide)).trans ((ev_other _ _ (by decide)).trans ((ev_other _ _ (by decide)).trans ((ev_other _ _ (by decide)).trans ((ev_other _ _ (by decide)).trans ((ev_other _ _ (by decide)).trans (ev_same _ _ _ (by simp only [sz_put]; omega)))))))) (ev_same _ _ _ (by simp only [sz_put]; omega)) wx) ?_
                  show SeqI _ _ _ _ _ _ (Act.put _ (some 60) _) _
                  refine sI_do rfl (wanted_rd rfl) (fun K hK => ?_)
                  refine wp_storeU _ (.tmp 10) (.tmp 60) rfl ((ev_other _ _ (by decide)).trans ((ev_other _ _ (by decide)).trans ((ev_other _ _ (by decide)).trans ((ev_other _ _ (by decide)).trans ((ev_other _ _ (by decide)).trans ((ev_other _ _ (by decide)).trans ((ev_other _ _ (by decide)).trans ((ev_other _ _ (by decide)).trans ((ev_other _ _ (by decide)).trans ((ev_other _ _ (by decide)).trans ((ev_other _ _ (by decide)).trans ((ev_other _ _ (by decide)).trans b10)))))))))))) (ev_same _ _ _ (by simp only [sz_put]; omega)) r10 rfl ?_
                  intro w11 m11 k11 z11
                  have h11 : SdI w gp N S (.slice ao L.length cap) ⟨f, t, N + d, S, ds⟩ (.slice a3 ds.length c3) w11 := ⟨h10.1.kept k11 (by omega), h10.2.kept k11 (by omega)⟩
                  refine hK _ _ (fun _ => h11) ?_
                  clear hK K
                  refine sI_read (v := (.int .i64 0)) rfl (fun _ _ _ h => absurd h.1 (fun e => nomatch e)) (wanted_rd rfl) h11 (fun wx _ => run_assign (.const (.int .i64 0)) rfl rfl wx) ?_
                  show SeqI _ _ _ _ _ _ (Act.put _ (some 11) _) _
                  have kA : Below w.heap.size w w9 := (unhide K7).trans ((below_drew (Below.refl _ _)).trans (show Below w.heap.size w7.drew w9 from (k8.mono (by omega)).trans (k9.mono (by omega))))
                  have kB : Below w.heap.size w w10 := kA.trans (k10.mono (by omega))
                  exact sI_end ⟨rfl, va, vc, a6, c6, M, w8.heap.size, tM, m11, o10.bus r10 k11, below_of_kept kB k11 (by omega) kB.size, rfl⟩
                · intro K hK
                  refine wp_onePc _ (.tmp 57) rfl (ev_same _ _ _ (by simp only [sz_put]; omega)) ?_
                  intro w8 m8 k8 z8
                  have h8 : SdI w gp N S (.slice ao L.length cap) ⟨f, t, N + d, S, ds⟩ (.slice a3 ds.length c3) w8 := hS.below k8
                  have n8 := k8.size
                  refine hK _ _ (fun _ => h8) ?_
                  clear hK K
                  show SeqI _ _ _ _ _ _ (Act.put _ (some 58) _) _
                  refine sI_do rfl (wanted_rd rfl) (fun K hK => ?_)
                  refine wp_call1 _ 20 (.tmp 55) _ rfl ((ev_other _ _ (by decide)).trans ((ev_other _ _ (by decide)).trans (ev_same _ _ _ (by simp only [sz_put]; omega)))) (by go_simp) (busCopied_any ao cap L _ (unhide OK) hN (hBr.below k8)) ?_
                  rintro e w9 ⟨va, vc, M, rfl, tM, oM, k9⟩
                  have h9 : SdI w gp N S (.slice ao L.length cap) ⟨f, t, N + d, S, ds⟩ (.slice a3 ds.length c3) w9 := h8.below k9
                  have n9 := k9.size
                  refine ⟨_, rfl, ?_⟩
                  refine hK _ _ (fun _ => h9) ?_
                  clear hK K
                  show SeqI _ _ _ _ _ _ (Act.put _ (some 56) _) _
                  refine sI_do rfl (wanted_rd rfl) (fun K hK => ?_)
                  have hq := (show OwnQ w9 (w.heap.size + 1 + 1) (.slice va M.length vc) M from OwnQ.base oM (by omega))
                  refine ⟨wp_joinP _ (.tmp 56) (.tmp 58) rfl (w.heap.size + 1 + 1) (by omega) _ M (ev_same _ _ _ (by simp only [sz_put]; omega)) hq _ ⟨⟨f, t, N + d, S, ds⟩, a3, c3⟩ ((ev_other _ _ (by decide)).trans (ev_same _ _ _ (by simp only [sz_put]; omega))) (m8.below k9).pc (ownS_base ((hO.below k8).below k9) (by omega)) (fun c hc g9 hg e => by have u1 := ((oM.2.1 c hc).lt g9 hg).1; have u2 := ((hO.below k8).lt g9 e).2; omega) (by rw [show M.length = (M.map Lp.p).length by simp, tM]; simp; omega) ?_⟩
                  intro v10 w10 o10 k10 g10
                  obtain ⟨a6, c6, rfl, hc6⟩ := o10.slice
                  rw [show (M ++ [(⟨⟨f, t, N + d, S, ds⟩, a3, c3⟩ : Lp)]).length = M.length + 1 by simp] at o10 ⊢
                  have h10 : SdI w gp N S (.slice ao L.length cap) ⟨f, t, N + d, S, ds⟩ (.slice a3 ds.length c3) w10 := ⟨h9.1.grown hq.1 g10, h9.2.same (g10.block gp h9.2.lt (fun e => by have u1 := (oM.1.lt gp e.symm).1; have u2 := hS.2.lt; omega))⟩
                  have r10 : BuAt w10 (w.heap.size + 1) 0 0 (.slice none 0 0) := BuAt.grown ((hr.below k8).below k9) hq.1 g10
                  refine hK _ _ (fun _ => h10) ?_
                  clear hK K
                  show SeqI _ _ _ _ _ _ (Act.put _ (some 59) _) _
                  refine sI_read (v := (busV N (wrapS S) (.slice a6 (M.length + 1) c6))) rfl (fun _ _ _ h => absurd h.1 (fun e => nomatch e)) (wanted_rd rfl) h10 (fun wx _ => run_buildU (.tmp 50) (.tmp 53) (.tmp 59) rfl ((ev_other _ _ (by decide)).trans ((ev_other _ _ (by decide)).trans ((ev_other _ _ (by decide)).trans ((ev_other _ _ (by decide)).trans ((ev_other _ _ (by decide)).trans ((ev_other _ _ (by decide)).trans ((ev_other _ _ (by decide)).trans ((ev_other _ _ (by decide)).trans ((ev_other _ _ (by decide)).trans (ev_same _ _ _ (by simp only [sz_put]; omega))))))))))) ((ev_other _ _ (by decide)).trans ((ev_other _ _ (by decide)).trans ((ev_other _ _ (by decide)).trans ((ev_other _ _ (by decide)).trans ((ev_other _ _ (by decide)).trans ((ev_other _ _ (by decide)).trans (ev_same _ _ _ (by simp only [sz_put]; omega)))))))) (ev_same _ _ _ (by simp only [sz_put]; omega)) wx) ?_
                  show SeqI _ _ _ _ _ _ (Act.put _ (some 60) _) _
                  refine sI_do rfl (wanted_rd rfl) (fun K hK => ?_)
                  refine wp_storeU _ (.tmp 10) (.tmp 60) rfl ((ev_other _ _ (by decide)).trans ((ev_other _ _ (by decide)).trans ((ev_other _ _ (by decide)).trans ((ev_other _ _ (by decide)).trans ((ev_other _ _ (by decide)).trans ((ev_other _ _ (by decide)).trans ((ev_other _ _ (by decide)).trans ((ev_other _ _ (by decide)).trans ((ev_other _ _ (by decide)).trans ((ev_other _ _ (by decide)).trans ((ev_other _ _ (by decide)).trans ((ev_other _ _ (by decide)).trans b10)))))))))))) (ev_same _ _ _ (by simp only [sz_put]; omega)) r10 rfl ?_
                  intro w11 m11 k11 z11
                  have h11 : SdI w gp N S (.slice ao L.length cap) ⟨f, t, N + d, S, ds⟩ (.slice a3 ds.length c3) w11 := ⟨h10.1.kept k11 (by omega), h10.2.kept k11 (by omega)⟩
                  refine hK _ _ (fun _ => h11) ?_
                  clear hK K
                  refine sI_read (v := (.int .i64 0)) rfl (fun _ _ _ h => absurd h.1 (fun e => nomatch e)) (wanted_rd rfl) h11 (fun wx _ => run_assign (.const (.int .i64 0)) rfl rfl wx) ?_
                  show SeqI _ _ _ _ _ _ (Act.put _ (some 11) _) _
                  have kA : Below w.heap.size w w9 := (unhide K7).trans ((below_drew (Below.refl _ _)).trans (show Below w.heap.size w7.drew w9 from (k8.mono (by omega)).trans (k9.mono (by omega))))
                  have kB : Below w.heap.size w w10 := kA.trans (k10.mono (by omega))
                  exact sI_end ⟨rfl, va, vc, a6, c6, M, w7.drew.heap.size, tM, m11, o10.bus r10 k11, below_of_kept kB k11 (by omega) kB.size, (by rw [put_swap _ 58 56 _ _ (by decide)])⟩
              case rest =>
                rintro a' w9 ⟨va, vc, a6, c6, M, gr, tM, m9, o9, k9, rfl⟩
                have q0 := m9.cell0; have q1 := m9.cell1; have q2 := m9.cell2
                have TM := hide tM; have O9 := hide o9; have K9 := hide k9
                clear tM o9 k9 m9
                go_frame
                go_wp2_with fail
                refine bodyPost_ret (v := .tuple #[.agg #[.int .i64 N, .int .i64 (wrapS S), .slice a6 (M.length + 1) c6], .int .i64 0]) (by simp [results, Try.results12, go_sem, q0, q1, q2]) rfl ?_
                exact snd_yes (b := ⟨N, S, q⟩) (unhide SE) (L := M ++ [⟨⟨f, t, N + d, S, ds⟩, a3, c3⟩]) (by rw [show (M ++ [(⟨⟨f, t, N + d, S, ds⟩, a3, c3⟩ : Lp)]).length = M.length + 1 by simp]; exact unhide O9) (by omega) (show These _ _ by unfold These; rw [List.map_append, unhide TM]; show _ ++ _ = _; rw [show L.map Lp.p = q from unhide HT]; rfl) (unhide K9) rfl (by simp)
      · rw [decide_eq_false hT] at C3
        have HTT := hide hT
        clear hT
        go_wp2_with fail
        refine C3.mono ?_
        rintro e wx ⟨rfl, ex⟩
        obtain rfl : w1 = wx := ex.symm
        clear ex
        go_wp2_with fail
        rw [← unhide E8]
        refine bodyPost_ret (v := .tuple #[.agg #[.int .i64 0, .int .i64 0, .slice none 0 0], .int .i64 3]) (by simp [results, Try.results12, go_sem, p0, p1, p2]) rfl ?_
        exact snd_no (b := ⟨N, S, q⟩) (e := 3) (by unfold sendE; dsimp only; have hT := unhide HTT; rw [if_pos (by omega)]) (by decide) (unhide K8)
    · rw [decide_eq_false hD] at C2
      have HD := hide hD
      clear hD
      go_wp2_with fail
      refine C2.mono ?_
      rintro e wx ⟨rfl, ex⟩
      obtain rfl : w1 = wx := ex.symm
      clear ex
      go_wp2_with fail
      rw [← unhide E8]
      refine bodyPost_ret (v := .tuple #[.agg #[.int .i64 0, .int .i64 0, .slice none 0 0], .int .i64 3]) (by simp [results, Try.results12, go_sem, p0, p1, p2]) rfl ?_
      exact snd_no (b := ⟨N, S, q⟩) (e := 3) (by unfold sendE; dsimp only; have hD := unhide HD; rw [if_pos (by omega)]) (by decide) (unhide K8)
  · rw [decide_eq_false hL] at C1
    have HL := hide hL
    clear hL
    go_wp2_with fail
    rw [← unhide E1]
    refine C1.mono ?_
    rintro e wx ⟨rfl, ex⟩
    obtain rfl : w1 = wx := ex.symm
    clear ex
    go_wp2_with fail
    rw [← unhide E8]
    refine bodyPost_ret (v := .tuple #[.agg #[.int .i64 0, .int .i64 0, .slice none 0 0], .int .i64 3]) (by simp [results, Try.results12, go_sem, p0, p1, p2]) rfl ?_
    exact snd_no (b := ⟨N, S, q⟩) (e := 3) (by unfold sendE; dsimp only; have hL := unhide HL; rw [if_pos (by omega)]) (by decide) (unhide K8)

end Go.Proofs.Ythjeedlhlkggkab
