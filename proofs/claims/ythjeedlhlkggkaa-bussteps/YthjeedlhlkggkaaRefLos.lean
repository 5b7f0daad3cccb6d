/- Contracts of the reference: Lose. -/
import Derived.Test.YthjeedlhlkggkaaRefSnd
import Derived.Test.YthjeedlhlkggkaaBusCut
namespace Go.Proofs.Ythjeedlhlkggkaa
open Go.RowKit

/-- What lies in memory while a bus is gone through. -/
def LsI (w : World) (g : Nat) (N S : Int) (v : Value) (M : List Lp) (W : World) : Prop :=
  BuAt W (w.heap.size + 1) 0 0 (.slice none 0 0) ∧ BuAt W g N S v ∧ OwnQ W (w.heap.size + 1 + 1) v M ∧ Below w.heap.size w W ∧ w.heap.size + 1 + 1 ≤ g
section
variable {w W W' : World} {g : Nat} {N S : Int} {v : Value} {M : List Lp}
theorem LsI.below (h : LsI w g N S v M W) (k : Below W.heap.size W W') : LsI w g N S v M W' :=
  ⟨h.1.below k, h.2.1.below k, h.2.2.1.below k, h.2.2.2.1.trans (k.mono h.2.2.2.1.size), h.2.2.2.2⟩
end
theorem own_some {w : World} {t : TypeId} {B n cap s : Nat} {ao : Option Addr} {xs : List Value} (h : w.ownsRow B t s (.slice ao n cap) n xs) (hn : 0 < n) : ∃ g, ao = some ⟨g, 0, none⟩ := by
  rcases h.2 with ⟨_, h0⟩ | ⟨g, c, cur, e, _⟩
  · omega
  · cases e; exact ⟨g, rfl⟩
theorem los_no {b : Bs} {s : Int} {w w' : World} (h : ¬ fsP s b.q < b.q.length) (k : Below w.heap.size w w') :
    ∃ (ao' : Option Addr) (cap' : Nat) (L' : List Lp), Ending.returned (.tuple #[.agg #[.int .i64 0, .int .i64 0, .slice none 0 0], .int .i64 7]) = .returned (.tuple #[busV (loseS b s).now (loseS b s).ser (.slice ao' L'.length cap'), .int .i64 (loseE b s : Nat)]) ∧ These L' (loseS b s).q ∧ BNew w.heap.size w' ao' cap' L' ∧ Below w.heap.size w w' := by
  have hz : loseS b s = zeroBs := by unfold loseS; rw [if_neg h]
  have he : loseE b s = 7 := by unfold loseE; rw [if_neg h]
  rw [hz, he]
  exact ⟨none, 0, [], rfl, rfl, bnew_nil _ _, k⟩
theorem these_erase {M : List Lp} {q : List Pc} (h : These M q) (i : Nat) : These (M.eraseIdx i) (q.eraseIdx i) := by
  unfold These at *
  rw [← h]
  rw [List.eraseIdx_eq_take_drop_succ, List.eraseIdx_eq_take_drop_succ, List.map_append, List.map_take, List.map_drop]
theorem los_yes {b : Bs} {s : Int} {w w' : World} {i : Nat} (h : fsP s b.q = i) (hi : i < b.q.length) {ao : Option Addr} {cap n B : Nat} {M : List Lp} (hM : These M b.q) (o : OwnQ w' B (.slice ao n cap) (M.eraseIdx i)) (hn : n = (M.eraseIdx i).length) (hB : w.heap.size ≤ B) (k : Below w.heap.size w w') :
    ∃ (ao' : Option Addr) (cap' : Nat) (L' : List Lp), Ending.returned (.tuple #[.agg #[.int .i64 b.now, .int .i64 b.ser, .slice ao n cap], .int .i64 0]) = .returned (.tuple #[busV (loseS b s).now (loseS b s).ser (.slice ao' L'.length cap'), .int .i64 (loseE b s : Nat)]) ∧ These L' (loseS b s).q ∧ BNew w.heap.size w' ao' cap' L' ∧ Below w.heap.size w w' := by
  have hz : loseS b s = ⟨b.now, b.ser, b.q.eraseIdx i⟩ := by unfold loseS; rw [h, if_pos hi]
  have he : loseE b s = 0 := by unfold loseE; rw [h, if_pos hi]
  rw [hz, he]
  subst hn
  exact ⟨ao, cap, _, rfl, these_erase hM i, o.new.weak hB, k⟩

set_option maxHeartbeats 4000000 in
theorem refLose_ok : LoOK 18 := by
  intro b ao cap L s w hb ht hr rs
  obtain ⟨N, S, q⟩ := b
  have hN : L.length ≤ 2513169434843 := by rw [ht.len]; exact hb.2.2.2
  obtain ⟨w1, e1, m1, m2, k1, s1⟩ := bu_pair w N S (.slice ao L.length cap)
  have x0 := m1.cell0; have x1 := m1.cell1; have x2 := m1.cell2
  have C := copyBus_any ⟨N, S, q⟩ ao cap L w1 hb ht (hr.below k1)
  unfold busV at C
  dsimp only at C
  have E1 := hide e1; have M2 := hide m2; have K1 := hide k1; have S1 := hide s1; have HB := hide hb
  have LN := hide (show L.length = q.length from ht.len)
  rw [e1] at x0 x1 x2
  clear e1 m1 m2 k1 s1 hb ht hr
  unfold busV
  dsimp only
  go_enter Try.func18, Try.ntmps18
  go_wp2_with fail
  rw [← unhide E1]
  refine C.mono ?_
  rintro e w2 ⟨v, M, rfl, tM, oM, k2⟩
  obtain ⟨va, vc, rfl, hvc⟩ := oM.slice
  obtain ⟨w3, e3, m3, k3, z3⟩ := bu_alloc w2 N S (.slice va M.length vc)
  have E3 := hide e3
  obtain ⟨g, eg⟩ : ∃ g, g = w2.heap.size := ⟨_, rfl⟩
  have hz : w.heap.size + 1 + 1 ≤ g := by have := unhide S1; have := k2.size; omega
  rw [show w1.heap.size = w.heap.size + 1 + 1 from unhide S1] at oM
  rw [← eg] at m3
  have H3 := hide (show LsI w g N S (.slice va M.length vc) M w3 from ⟨((unhide M2).below k2).below k3, m3, oM.below k3, (unhide K1).trans ((k2.mono (by have := unhide S1; omega)).trans (k3.mono (by omega))), hz⟩)
  have c2 := m3.cell2
  rw [e3] at c2
  have hM : M.length ≤ 2513169434843 := by rw [tM.len, ← unhide LN]; exact hN
  have TM := hide (show These M q from tM); have OK := hide (unhide HB)
  have EG := hide eg; have Z3 := hide z3
  rw [eg] at c2
  clear C e3 m3 k3 z3 k2 oM tM x0 x1 x2
  go_wp2_with fail
  rw [← unhide E3, ← eg]
  clear c2 eg
  go_loopw [14] (fun is wr => ∃ i : Nat, i ≤ M.length ∧ is = .int .i64 (i : Nat) ∧ (∀ j c, j < i → M[j]? = some c → c.p.se ≠ s) ∧ LsI w g N S (.slice va M.length vc) M wr) (fun is _ => M.length - (intOf is).toNat)
  case atStart => exact ⟨0, Nat.zero_le _, rfl, fun j c h => absurd h (by omega), unhide H3⟩
  case round =>
    obtain ⟨i, hi, rfl, hne, hI⟩ := hrel
    rename World => wr
    by_cases hin : i < M.length
    · have hc := List.getElem?_eq_getElem hin
      obtain ⟨c, ec⟩ : ∃ c, c = M[i] := ⟨_, rfl⟩
      rw [← ec] at hc
      obtain ⟨gq, rfl⟩ := own_some hI.2.2.1.1 (by omega)
      obtain ⟨x, o, ea, hq⟩ := hI.2.2.1.rd (by omega)
      cases ea
      obtain ⟨p0, p1, p2, p3, p4⟩ := hq i c hc
      have CS := hide (show ∀ s', c.p.se = s' → M[i]? = some c ∧ c.p.se = s' from fun s' h => ⟨hc, h⟩)
      have HC := hide hc
      obtain ⟨⟨fr, to, du, se, ds⟩, ba, bc⟩ := c
      unfold lpV at p4
      dsimp only at p0 p1 p2 p3 p4
      simp only [Nat.zero_add] at p0 p1 p2 p3 p4
      obtain ⟨w4, e4, m4, k4, s4⟩ := pv_alloc wr ⟨fr, to, du, se, ds⟩ (.slice ba ds.length bc)
      dsimp only at e4
      have d3 := m4.cells.2.2.2.1
      dsimp only at d3
      rw [e4] at d3
      have H4 := hI.below k4
      have E4 := hide e4; have HH := hide H4; have NE := hide hne
      clear hc ec hq e4 m4 k4 s4 H4 hI hne CS
      by_cases he : se = s
      · subst he
        go_wp2_with fail
        rw [← unhide E4]
        clear d3 p0 p1 p2 p3 p4
        have RW := hide (show RowP w4 (w.heap.size + 1 + 1) (.slice (some ⟨gq, 0, none⟩) M.length vc) M from (unhide HH).2.2.1.1)
        have MC := hide (unhide HH).2.1
        refine wp_leaves (fun a0 a' w' => ∃ wy, w4.drew.grownBy wy (some gq) ∧ Kept g wy w' ∧ w'.heap.size = wy.heap.size ∧ BuAt w' g N S (.slice (some ⟨gq, 0, none⟩) (M.length - 1) vc) ∧ RowP w' (w.heap.size + 1 + 1) (.slice (some ⟨gq, 0, none⟩) (M.length - 1) vc) (M.eraseIdx i) ∧ a' = (((((((((((a0.put (some 23) (.pointer (some ⟨g, 2, none⟩))).put (some 24) (.slice (some ⟨gq, 0, none⟩) M.length vc)).put (some 25) (.int .i64 (i : Nat))).put (some 26) (.slice (some ⟨gq, 0, none⟩) i vc)).put (some 27) (.pointer (some ⟨g, 2, none⟩))).put (some 28) (.slice (some ⟨gq, 0, none⟩) M.length vc)).put (some 29) (.int .i64 (i : Nat))).put (some 30) (.int .i64 (i + 1 : Nat))).put (some 31) (.slice (some (lowA gq 0 (i + 1) vc)) (M.length - (i + 1)) (vc - (i + 1)))).put (some 32) (.slice (some ⟨gq, 0, none⟩) (M.length - 1) vc)).put (some 33) (.pointer (some ⟨g, 2, none⟩)))) ?reg ?rest
        case reg =>
          intro A eA
          have bc : A.eval (.tmp 6) = .pointer (some ⟨g, 0, none⟩) := by rw [eA]; rfl
          have bi : A.eval (.tmp 7) = .int .i64 (i : Nat) := by rw [eA]; rfl
          have hs : 37 ≤ A.tmps.size := by rw [eA]; exact of_decide_eq_true rfl
          clear eA
          have hS : BuAt w4.drew g N S (.slice (some ⟨gq, 0, none⟩) M.length vc) := unhide MC
          have hR : RowP w4.drew (w.heap.size + 1 + 1) (.slice (some ⟨gq, 0, none⟩) M.length vc) M := unhide RW
          refine region_I (S := fun W => BuAt W g N S (.slice (some ⟨gq, 0, none⟩) M.length vc)) (.rd 0 (.rd 1 (.rd 2 (.rd 3 (.rd 4 (.rd 5 (.rd 6 (.rd 7 (.rd 8 (.go 9 (.rd 10 (.go 11 .fin)))))))))))) [11] (by kernel_rfl) (by kernel_rfl) ?_
          refine sI_read (v := (.pointer (some ⟨g, 2, none⟩))) rfl (fun _ _ _ h => absurd h.1 (fun e => nomatch e)) (wanted_rd rfl) hS (fun wx _ => run_fldU (.tmp 6) 2 rfl bc (by omega) wx) ?_
          show SeqI _ _ _ _ _ _ (Act.put _ (some 23) _) _
          refine sI_read (v := (.slice (some ⟨gq, 0, none⟩) M.length vc)) rfl (fun _ _ _ h => absurd h.1 (fun e => nomatch e)) (wanted_rd rfl) hS (fun wx hx => run_lodQ (.tmp 23) rfl (ev_same _ _ _ (by omega)) hx.cell2) ?_
          show SeqI _ _ _ _ _ _ (Act.put _ (some 24) _) _
          refine sI_read (v := (.int .i64 (i : Nat))) rfl (fun _ _ _ h => absurd h.1 (fun e => nomatch e)) (wanted_rd rfl) hS (fun wx _ => run_move (.tmp 7) rfl ((ev_other _ _ (by decide)).trans ((ev_other _ _ (by decide)).trans bi)) wx) ?_
          show SeqI _ _ _ _ _ _ (Act.put _ (some 25) _) _
          refine sI_read (v := (.slice (some ⟨gq, 0, none⟩) i vc)) rfl (fun _ _ _ h => absurd h.1 (fun e => nomatch e)) (wanted_rd rfl) hS (fun wx _ => run_topP (.tmp 24) (.tmp 25) rfl ((ev_other _ _ (by decide)).trans (ev_same _ _ _ (by simp only [sz_put]; omega))) (ev_same _ _ _ (by simp only [sz_put]; omega)) (by omega) (by omega) wx) ?_
          show SeqI _ _ _ _ _ _ (Act.put _ (some 26) _) _
          refine sI_read (v := (.pointer (some ⟨g, 2, none⟩))) rfl (fun _ _ _ h => absurd h.1 (fun e => nomatch e)) (wanted_rd rfl) hS (fun wx _ => run_fldU (.tmp 6) 2 rfl ((ev_other _ _ (by decide)).trans ((ev_other _ _ (by decide)).trans ((ev_other _ _ (by decide)).trans ((ev_other _ _ (by decide)).trans bc)))) (by omega) wx) ?_
          show SeqI _ _ _ _ _ _ (Act.put _ (some 27) _) _
          refine sI_read (v := (.slice (some ⟨gq, 0, none⟩) M.length vc)) rfl (fun _ _ _ h => absurd h.1 (fun e => nomatch e)) (wanted_rd rfl) hS (fun wx hx => run_lodQ (.tmp 27) rfl (ev_same _ _ _ (by simp only [sz_put]; omega)) hx.cell2) ?_
          show SeqI _ _ _ _ _ _ (Act.put _ (some 28) _) _
          refine sI_read (v := (.int .i64 (i : Nat))) rfl (fun _ _ _ h => absurd h.1 (fun e => nomatch e)) (wanted_rd rfl) hS (fun wx _ => run_move (.tmp 7) rfl ((ev_other _ _ (by decide)).trans ((ev_other _ _ (by decide)).trans ((ev_other _ _ (by decide)).trans ((ev_other _ _ (by decide)).trans ((ev_other _ _ (by decide)).trans ((ev_other _ _ (by decide)).trans bi)))))) wx) ?_
          show SeqI _ _ _ _ _ _ (Act.put _ (some 29) _) _
          refine sI_read (v := (.int .i64 (i + 1 : Nat))) rfl (fun _ _ _ h => absurd h.1 (fun e => nomatch e)) (wanted_rd rfl) hS (fun wx _ => (run_addP (.tmp 29) (.const (.int .i64 1)) rfl (ev_same _ _ _ (by simp only [sz_put]; omega)) rfl (by omega) (by omega) wx).trans (by rw [Int.natCast_add]; rfl)) ?_
          show SeqI _ _ _ _ _ _ (Act.put _ (some 30) _) _
          refine sI_read (v := (.slice (some (lowA gq 0 (i + 1) vc)) (M.length - (i + 1)) (vc - (i + 1)))) rfl (fun _ _ _ h => absurd h.1 (fun e => nomatch e)) (wanted_rd rfl) hS (fun wx _ => run_lowP (.tmp 28) (.tmp 30) rfl ((ev_other _ _ (by decide)).trans ((ev_other _ _ (by decide)).trans (ev_same _ _ _ (by simp only [sz_put]; omega)))) (ev_same _ _ _ (by simp only [sz_put]; omega)) (by omega) (by omega) wx) ?_
          show SeqI _ _ _ _ _ _ (Act.put _ (some 31) _) _
          refine sI_do rfl (wanted_rd rfl) (fun K hK => ?_)
          refine ⟨wp_cutP _ (.tmp 26) (.tmp 31) rfl (w.heap.size + 1 + 1) gq vc i M (by omega) (by omega) ((ev_other _ _ (by decide)).trans ((ev_other _ _ (by decide)).trans ((ev_other _ _ (by decide)).trans ((ev_other _ _ (by decide)).trans ((ev_other _ _ (by decide)).trans (ev_same _ _ _ (by simp only [sz_put]; omega))))))) (ev_same _ _ _ (by simp only [sz_put]; omega)) hR ?_⟩
          intro wy r6 g6
          have hS6 : BuAt wy g N S (.slice (some ⟨gq, 0, none⟩) M.length vc) := hS.grown hR g6
          refine hK _ _ (fun _ => hS6) ?_
          clear hK K
          show SeqI _ _ _ _ _ _ (Act.put _ (some 32) _) _
          refine sI_read (v := (.pointer (some ⟨g, 2, none⟩))) rfl (fun _ _ _ h => absurd h.1 (fun e => nomatch e)) (wanted_rd rfl) hS6 (fun wx _ => run_fldU (.tmp 6) 2 rfl ((ev_other _ _ (by decide)).trans ((ev_other _ _ (by decide)).trans ((ev_other _ _ (by decide)).trans ((ev_other _ _ (by decide)).trans ((ev_other _ _ (by decide)).trans ((ev_other _ _ (by decide)).trans ((ev_other _ _ (by decide)).trans ((ev_other _ _ (by decide)).trans ((ev_other _ _ (by decide)).trans ((ev_other _ _ (by decide)).trans bc)))))))))) (by omega) wx) ?_
          show SeqI _ _ _ _ _ _ (Act.put _ (some 33) _) _
          refine sI_do rfl (wanted_rd rfl) (fun K hK => ?_)
          refine wp_storeN _ (.tmp 33) (.tmp 32) rfl (ev_same _ _ _ (by simp only [sz_put]; omega)) ((ev_other _ _ (by decide)).trans (ev_same _ _ _ (by simp only [sz_put]; omega))) hS6 rfl ?_
          intro w7 m7 k7 z7
          refine hK _ _ (fun h => absurd h (by decide)) ?_
          clear hK K
          exact sI_end ⟨rfl, wy, g6, k7, z7, m7, ownS_kept r6 k7 (fun e => by obtain ⟨cur, hc⟩ := ownS_type r6 e; unfold BuAt at hS6; rw [hc] at hS6; cases hS6), rfl⟩
        case rest =>
          rintro a' w7 ⟨w6, g6, k7, z7, m7, r7, rfl⟩
          have hh := unhide HH
          have lq : (unhide RW).lt gq rfl = (unhide RW).lt gq rfl := rfl
          have hgq := ((unhide RW).lt gq rfl).1
          have R7 := (hh.1.same (g6.block _ hh.1.lt (fun e => by cases e; omega))).kept k7 (by omega)
          have O7 : OwnQ w7 (w.heap.size + 1 + 1) (.slice (some ⟨gq, 0, none⟩) (M.length - 1) vc) (M.eraseIdx i) := by
            refine ⟨r7, fun c hc => ?_, hh.2.2.1.2.2.sublist (List.eraseIdx_sublist ..)⟩
            have ob := hh.2.2.1.2.1 c (List.mem_of_mem_eraseIdx hc)
            refine ownS_kept (ownS_grown ob ⟨g6.os, g6.tape, g6.output, g6.size, g6.block⟩ (fun b hb e => ?_)) k7 (fun e => ?_)
            · cases e
              obtain ⟨u1, hu1⟩ := ownS_type ob hb
              obtain ⟨u2, hu2⟩ := ownS_type (unhide RW) (show Value.ownBlock (.slice (some ⟨gq, 0, none⟩) M.length vc) = some gq from rfl)
              rw [hu1] at hu2; cases hu2
            · obtain ⟨u1, hu1⟩ := ownS_type ob e
              have := (unhide MC)
              unfold BuAt at this
              rw [hu1] at this; cases this
          have K7 : Below w.heap.size w w7 := below_of_kept (hh.2.2.2.1.trans (show Below w.heap.size w4 w6 from ⟨g6.os, g6.tape, g6.output, g6.size, fun k hk => g6.block k (by have := hh.2.2.2.1.size; show k < w4.heap.size; omega) (fun e => by cases e; omega)⟩)) k7 (by omega) (by have := hh.2.2.2.1.size; have := g6.size; have e : w4.drew.heap.size = w4.heap.size := rfl; omega)
          have v0 := m7.cell0; have v1 := m7.cell1; have v2 := m7.cell2
          have y0 := R7.cell0; have y1 := R7.cell1; have y2 := R7.cell2; have f0 := R7.free 0; have f1 := R7.free 1; have f2 := R7.free 2
          obtain ⟨w8, e8, m8, k8, z8⟩ := R7.put N S (.slice (some ⟨gq, 0, none⟩) (M.length - 1) vc)
          have pp0 := m8.cell0; have pp1 := m8.cell1; have pp2 := m8.cell2
          have O8 := hide (O7.bus R7 k8)
          have K8 := hide (below_of_kept K7 k8 (by omega) K7.size)
          have E8 := hide e8
          clear hh R7 O7 K7 e8 m8 k8 z8 g6 k7 z7 m7 r7 lq
          go_frame
          go_wp2_with fail
          rw [← unhide E8]
          refine bodyPost_ret (v := .tuple #[.agg #[.int .i64 N, .int .i64 S, .slice (some ⟨gq, 0, none⟩) (M.length - 1) vc], .int .i64 0]) (by simp [results, Try.results18, go_sem, pp0, pp1, pp2]) rfl ?_
          have el : q.length = M.length := (unhide TM).len.symm
          refine los_yes (b := ⟨N, S, q⟩) (i := i) (fsP_is (fun j p hj hp => ?_) (fun p hp => ?_) (by show i ≤ q.length; omega)) (by show i < q.length; omega) (unhide TM) (unhide O8) (by rw [List.length_eraseIdx_of_lt hin]) (by omega) (unhide K8)
          · have e2 := (unhide TM).at (List.getElem?_eq_getElem (show j < M.length by omega))
            have : p = M[j].p := Option.some.inj (hp.symm.trans e2)
            rw [this]
            exact unhide NE j _ hj (List.getElem?_eq_getElem (by omega))
          · have e2 := (unhide TM).at (unhide HC)
            have : p = _ := Option.some.inj (hp.symm.trans e2)
            rw [this]
      · have tb : (se == s) = false := by simp [he]
        go_wp2_with fail
        rw [← unhide E4]
        go_roundw
        case rel =>
          refine ⟨i + 1, by omega, by go_num, fun j c hj hc => ?_, unhide HH⟩
          by_cases ej : j = i
          · subst ej
            have := Option.some.inj (hc.symm.trans (unhide HC))
            rw [this]; exact he
          · exact unhide NE j c (by omega) hc
        case measure => simp [intOf] <;> omega
    · have e9 : i = M.length := by omega
      subst e9
      have y0 := hI.1.cell0; have y1 := hI.1.cell1; have y2 := hI.1.cell2; have f0 := hI.1.free 0; have f1 := hI.1.free 1; have f2 := hI.1.free 2
      obtain ⟨w8, e8, m8, k8, z8⟩ := hI.1.put 0 0 (.slice none 0 0)
      have pp0 := m8.cell0; have pp1 := m8.cell1; have pp2 := m8.cell2
      have K8 := hide (below_of_kept hI.2.2.2.1 k8 (by omega) hI.2.2.2.1.size)
      have E8 := hide e8; have NE := hide hne
      clear e8 m8 k8 z8 hI hne
      go_wp2_with fail
      rw [← unhide E8]
      refine bodyPost_ret (v := .tuple #[.agg #[.int .i64 0, .int .i64 0, .slice none 0 0], .int .i64 7]) (by simp [results, Try.results18, go_sem, pp0, pp1, pp2]) rfl ?_
      refine los_no (b := ⟨N, S, q⟩) (fun h => ?_) (unhide K8)
      have el : q.length = M.length := (unhide TM).len.symm
      have hlt : fsP s q < M.length := by have h2 : fsP s q < q.length := h; omega
      have e2 := (unhide TM).at (List.getElem?_eq_getElem hlt)
      exact unhide NE _ _ hlt (List.getElem?_eq_getElem hlt) (fsP_at e2)

end Go.Proofs.Ythjeedlhlkggkaa
