/- Contracts of the reference: Send. -/
import Derived.Test.YthjeedlhlkggkaaRefBus3
import Derived.Test.YthjeedlhlkggkaaBusNew
namespace Go.Proofs.Ythjeedlhlkggkaa
open Go.RowKit

/-- A bus in a variable, and a result. -/
theorem bu_pair (w : World) (N S : Int) (u : Value) : ∃ w1, w1 = ((w.alloc (.cells #[.int .i64 N, .int .i64 S, u] 24)).alloc (.cells #[.int .i64 0, .int .i64 0, .slice none 0 0] 24)) ∧ BuAt w1 w.heap.size N S u ∧ BuAt w1 (w.heap.size + 1) 0 0 (.slice none 0 0) ∧ Below w.heap.size w w1 ∧ w1.heap.size = w.heap.size + 1 + 1 := by
  obtain ⟨w1, e1, m1, k1, s1⟩ := bu_alloc w N S u
  obtain ⟨w2, e2, m2, k2, s2⟩ := bu_alloc w1 0 0 (.slice none 0 0)
  subst e1
  rw [s1] at m2
  exact ⟨w2, e2, m1.below k2, m2, k1.trans (k2.mono (by omega)), by omega⟩
theorem snd_no {b : Bs} {f t d : Int} {ds : List Nat} {w w' : World} {e : Nat} (he : sendE b.now b.q.length f t d ds.length = e) (h0 : e ≠ 0) (k : Below w.heap.size w w') :
    ∃ (ao' : Option Addr) (cap' : Nat) (L' : List Lp), Ending.returned (.tuple #[.agg #[.int .i64 0, .int .i64 0, .slice none 0 0], .int .i64 (e : Nat)]) = .returned (.tuple #[busV (sendS b f t ds d).now (sendS b f t ds d).ser (.slice ao' L'.length cap'), .int .i64 (sendE b.now b.q.length f t d ds.length : Nat)]) ∧ These L' (sendS b f t ds d).q ∧ BNew w.heap.size w' ao' cap' L' ∧ Below w.heap.size w w' := by
  have hz : sendS b f t ds d = zeroBs := by unfold sendS; rw [if_neg (by rw [he]; exact h0)]
  rw [hz, he]
  exact ⟨none, 0, [], rfl, rfl, bnew_nil _ _, k⟩
theorem snd_yes {b : Bs} {f t d : Int} {ds : List Nat} {w w' : World} (he : sendE b.now b.q.length f t d ds.length = 0) {ao : Option Addr} {cap : Nat} {L : List Lp} {B : Nat} (o : OwnQ w' B (.slice ao L.length cap) L) (hB : w.heap.size ≤ B) (ht : These L (b.q ++ [⟨f, t, b.now + d, b.ser, ds⟩])) (k : Below w.heap.size w w') {X : Int} (hX : X = wrapS b.ser) {n : Nat} (hn : L.length = n) :
    ∃ (ao' : Option Addr) (cap' : Nat) (L' : List Lp), Ending.returned (.tuple #[.agg #[.int .i64 b.now, .int .i64 X, .slice ao n cap], .int .i64 0]) = .returned (.tuple #[busV (sendS b f t ds d).now (sendS b f t ds d).ser (.slice ao' L'.length cap'), .int .i64 (sendE b.now b.q.length f t d ds.length : Nat)]) ∧ These L' (sendS b f t ds d).q ∧ BNew w.heap.size w' ao' cap' L' ∧ Below w.heap.size w w' := by
  have hz : sendS b f t ds d = ⟨b.now, wrapS b.ser, b.q ++ [⟨f, t, b.now + d, b.ser, ds⟩]⟩ := by unfold sendS; rw [if_pos he]
  rw [hz, he, hX, ← hn]
  exact ⟨ao, cap, L, rfl, ht, o.new.weak hB, k⟩
/-- What Send reads while it appends. -/
def SnI (w : World) (g : Nat) (N S : Int) (u v : Value) (W : World) : Prop := BuAt W w.heap.size N S u ∧ BuAt W g N S v

set_option maxHeartbeats 4000000 in
theorem refSend_ok : SeOK 12 := by
  intro b ao cap L f t d bo bc ds w hb ht hr rf rt rd hs hbc h256 hlen
  obtain ⟨N, S, q⟩ := b
  have hN : L.length ≤ 2513169434843 := by rw [ht.len]; exact hb.2.2.2
  obtain ⟨w1, e1, m1, m2, k1, s1⟩ := bu_pair w N S (.slice ao L.length cap)
  have x0 := m1.cell0; have x1 := m1.cell1; have x2 := m1.cell2
  have y0 := m2.cell0; have y1 := m2.cell1; have y2 := m2.cell2; have f0 := m2.free 0; have f1 := m2.free 1; have f2 := m2.free 2
  have FIN := hide (fun (e : Nat) (w5 : World) (h1 : sendE N q.length f t d ds.length = e) (h2 : e ≠ 0) (h3 : Below w.heap.size w w5) => snd_no (b := ⟨N, S, q⟩) (w := w) (w' := w5) h1 h2 h3)
  have p0 := m2.cell0; have p1 := m2.cell1; have p2 := m2.cell2
  have E1 := hide e1; have M1 := hide m1; have M2 := hide m2; have K1 := hide k1; have S1 := hide s1; have HB := hide hb; have HT := hide ht; have HR := hide (hr.below k1); have SR := hide (hs.below k1)
  have LN := hide (show L.length = q.length from ht.len)
  have RS := hide hb.2.1
  rw [e1] at x0 x1 x2 y0 y1 y2 f0 f1 f2
  clear e1 m1 m2 k1 s1 hb ht hr hs
  unfold busV
  dsimp only
  go_enter Try.func12, Try.ntmps12
  by_cases h0 : f < 0
  · go_wp2_with fail
    rw [← unhide E1]
    refine bodyPost_ret (v := .tuple #[.agg #[.int .i64 0, .int .i64 0, .slice none 0 0], .int .i64 3]) (by simp [results, Try.results12, go_sem, p0, p1, p2]) rfl (unhide FIN 3 _ (by unfold sendE; rw [if_pos (by omega)]) (by decide) (unhide K1))
  · by_cases h1 : 3 < f
    · go_wp2_with fail
      rw [← unhide E1]
      refine bodyPost_ret (v := .tuple #[.agg #[.int .i64 0, .int .i64 0, .slice none 0 0], .int .i64 3]) (by simp [results, Try.results12, go_sem, p0, p1, p2]) rfl (unhide FIN 3 _ (by unfold sendE; rw [if_pos (by omega)]) (by decide) (unhide K1))
    · by_cases h2 : t < 0
      · go_wp2_with fail
        rw [← unhide E1]
        refine bodyPost_ret (v := .tuple #[.agg #[.int .i64 0, .int .i64 0, .slice none 0 0], .int .i64 3]) (by simp [results, Try.results12, go_sem, p0, p1, p2]) rfl (unhide FIN 3 _ (by unfold sendE; rw [if_pos (by omega)]) (by decide) (unhide K1))
      · by_cases h3 : 3 < t
        · go_wp2_with fail
          rw [← unhide E1]
          refine bodyPost_ret (v := .tuple #[.agg #[.int .i64 0, .int .i64 0, .slice none 0 0], .int .i64 3]) (by simp [results, Try.results12, go_sem, p0, p1, p2]) rfl (unhide FIN 3 _ (by unfold sendE; rw [if_pos (by omega)]) (by decide) (unhide K1))
        · by_cases h4 : f = t
          · subst h4
            go_wp2_with fail
            rw [← unhide E1]
            refine bodyPost_ret (v := .tuple #[.agg #[.int .i64 0, .int .i64 0, .slice none 0 0], .int .i64 3]) (by simp [results, Try.results12, go_sem, p0, p1, p2]) rfl (unhide FIN 3 _ (by unfold sendE; rw [if_pos (by omega)]) (by decide) (unhide K1))
          · have tb : (f == t) = false := by simp [h4]
            by_cases h5 : d < 0
            · go_wp2_with fail
              rw [← unhide E1]
              refine bodyPost_ret (v := .tuple #[.agg #[.int .i64 0, .int .i64 0, .slice none 0 0], .int .i64 3]) (by simp [results, Try.results12, go_sem, p0, p1, p2]) rfl (unhide FIN 3 _ (by unfold sendE; rw [if_pos (by omega)]) (by decide) (unhide K1))
            · by_cases h6 : 1000 < d
              · go_wp2_with fail
                rw [← unhide E1]
                refine bodyPost_ret (v := .tuple #[.agg #[.int .i64 0, .int .i64 0, .slice none 0 0], .int .i64 3]) (by simp [results, Try.results12, go_sem, p0, p1, p2]) rfl (unhide FIN 3 _ (by unfold sendE; rw [if_pos (by omega)]) (by decide) (unhide K1))
              · by_cases h7 : N < 0
                · go_wp2_with fail
                  rw [← unhide E1]
                  refine bodyPost_ret (v := .tuple #[.agg #[.int .i64 0, .int .i64 0, .slice none 0 0], .int .i64 3]) (by simp [results, Try.results12, go_sem, p0, p1, p2]) rfl (unhide FIN 3 _ (by unfold sendE; rw [if_pos (by omega)]) (by decide) (unhide K1))
                · by_cases h8 : 1099511627776 < N
                  · go_wp2_with fail
                    rw [← unhide E1]
                    refine bodyPost_ret (v := .tuple #[.agg #[.int .i64 0, .int .i64 0, .slice none 0 0], .int .i64 3]) (by simp [results, Try.results12, go_sem, p0, p1, p2]) rfl (unhide FIN 3 _ (by unfold sendE; rw [if_pos (by omega)]) (by decide) (unhide K1))
                  · by_cases h9 : 220 < ds.length
                    · have h9' : (220 : Int) < (ds.length : Nat) := by omega
                      go_wp2_with fail
                      rw [← unhide E1]
                      refine bodyPost_ret (v := .tuple #[.agg #[.int .i64 0, .int .i64 0, .slice none 0 0], .int .i64 1]) (by simp [results, Try.results12, go_sem, p0, p1, p2]) rfl (unhide FIN 1 _ (by unfold sendE; rw [if_neg (by omega)]; rw [if_pos h9]) (by decide) (unhide K1))
                    · have h9' : ¬ (220 : Int) < (ds.length : Nat) := by omega
                      by_cases h10 : 400 ≤ L.length
                      · have h10' : (400 : Int) ≤ (L.length : Nat) := by omega
                        go_wp2_with fail
                        rw [← unhide E1]
                        refine bodyPost_ret (v := .tuple #[.agg #[.int .i64 0, .int .i64 0, .slice none 0 0], .int .i64 6]) (by simp [results, Try.results12, go_sem, p0, p1, p2]) rfl (unhide FIN 6 _ (by unfold sendE; have := unhide LN; rw [if_neg (by omega)]; rw [if_neg h9, if_pos (by omega)]) (by decide) (unhide K1))
                      · have h10' : ¬ (400 : Int) ≤ (L.length : Nat) := by omega
                        have HE := hide (show sendE N q.length f t d ds.length = 0 by have := unhide LN; unfold sendE; rw [if_neg (by omega), if_neg h9, if_neg (by omega)])
                        have C := copyBus_any ⟨N, S, q⟩ ao cap L w1 (unhide HB) (unhide HT) (unhide HR)
                        unfold busV at C
                        dsimp only at C
                        go_wp2_with fail
                        rw [← unhide E1]
                        refine C.mono ?_
                        rintro e w2 ⟨v, M, rfl, tM, oM, k2⟩
                        obtain ⟨va, vc, rfl, hvc⟩ := oM.slice
                        obtain ⟨w3, e3, m3, k3, z3⟩ := bu_alloc w2 N S (.slice va M.length vc)
                        have E3 := hide e3
                        obtain ⟨g, eg⟩ : ∃ g, g = w2.heap.size := ⟨_, rfl⟩
                        have hz : w.heap.size + 1 + 1 ≤ g := by have := unhide S1; have := k2.size; omega
                        have hz3 : w.heap.size + 1 + 1 ≤ w3.heap.size := by omega
                        have MX := hide (((unhide M1).below k2).below k3); have MR := hide (((unhide M2).below k2).below k3)
                        rw [← eg] at m3
                        have MC := hide m3; have OM := hide (oM.below k3)
                        have KK := hide (show Below (w.heap.size) w w3 from (unhide K1).trans ((k2.mono (by have := unhide S1; omega)).trans (k3.mono (by omega))))
                        have SR3 := hide (((unhide SR).below k2).below k3)
                        have hM : M.length ≤ 2513169434843 := by rw [tM.len, ← unhide LN]; exact hN
                        have TM := hide tM; have EG := hide eg
                        rw [show w1.heap.size = w.heap.size + 1 + 1 from unhide S1] at OM
                        clear C e3 m3 k3 z3 k2 oM tM x0 x1 x2 y0 y1 y2 f0 f1 f2 p0 p1 p2 h9' h10'
                        go_wp2_with fail
                        rw [← unhide E3, ← eg]
                        clear eg
                        refine wp_leaves (fun a0 a' w' => ∃ (a3 : Option Addr) (c3 : Nat) (a6 : Option Addr) (c6 : Nat) (g5 : Nat), BuAt w' g N S (.slice a6 (M.length + 1) c6) ∧ BuAt w' (w.heap.size + 1) 0 0 (.slice none 0 0) ∧ OwnQ w' (w.heap.size + 1 + 1) (.slice a6 (M.length + 1) c6) (M ++ [⟨⟨f, t, N + d, S, ds⟩, a3, c3⟩]) ∧ Below w.heap.size w3 w' ∧ a' = ((((((((((((((((a0.put (some 62) (.pointer (some ⟨g, 2, none⟩))).put (some 63) (.slice va M.length vc)).put (some 64) (.int .i64 f)).put (some 65) (.int .i64 t)).put (some 66) (.pointer (some ⟨w.heap.size, 0, none⟩))).put (some 67) (.int .i64 N)).put (some 68) (.int .i64 d)).put (some 69) (.int .i64 (N + d))).put (some 70) (.pointer (some ⟨w.heap.size, 1, none⟩))).put (some 71) (.int .i64 S)).put (some 72) (.slice bo ds.length bc)).put (some 73) (.slice a3 ds.length c3)).put (some 74) (pcV ⟨f, t, N + d, S, ds⟩ (.slice a3 ds.length c3))).put (some 75) (.slice (some ⟨g5, 0, none⟩) 1 1)).put (some 76) (.slice a6 (M.length + 1) c6)).put (some 77) (.pointer (some ⟨g, 2, none⟩)))) ?reg ?rest
                        case reg =>
                          intro A eA
                          have b1 : A.eval (.tmp 1) = .int .i64 f := by rw [eA]; rfl
                          have b2 : A.eval (.tmp 2) = .int .i64 t := by rw [eA]; rfl
                          have b3 : A.eval (.tmp 3) = .slice bo ds.length bc := by rw [eA]; rfl
                          have b4 : A.eval (.tmp 4) = .int .i64 d := by rw [eA]; rfl
                          have b5 : A.eval (.tmp 5) = .pointer (some ⟨w.heap.size, 0, none⟩) := by rw [eA]; rfl
                          have b12 : A.eval (.tmp 12) = .pointer (some ⟨g, 0, none⟩) := by rw [eA]; rfl
                          have hs : 83 ≤ A.tmps.size := by rw [eA]; exact of_decide_eq_true rfl
                          clear eA
                          have hS : SnI w g N S (.slice ao L.length cap) (.slice va M.length vc) w3.drew := ⟨unhide MX, unhide MC⟩
                          have hQ : OwnQ w3.drew (w.heap.size + 1 + 1) (.slice va M.length vc) M := unhide OM
                          have hRes : BuAt w3.drew (w.heap.size + 1) 0 0 (.slice none 0 0) := unhide MR
                          refine region_I (S := SnI w g N S (.slice ao L.length cap) (.slice va M.length vc)) (.rd 0 (.rd 1 (.rd 2 (.rd 3 (.rd 4 (.rd 5 (.rd 6 (.rd 7 (.rd 8 (.rd 9 (.rd 10 (.go 11 (.rd 12 (.go 13 (.go 14 (.rd 15 (.go 16 .fin))))))))))))))))) [16] (by kernel_rfl) (by kernel_rfl) ?_
                          refine sI_read (v := (.pointer (some ⟨g, 2, none⟩))) rfl (fun _ _ _ h => absurd h.1 (fun e => nomatch e)) (wanted_rd rfl) hS (fun wx _ => run_fldU (.tmp 12) 2 rfl b12 (by omega) wx) ?_
                          show SeqI _ _ _ _ _ _ (Act.put _ (some 62) _) _
                          refine sI_read (v := (.slice va M.length vc)) rfl (fun _ _ _ h => absurd h.1 (fun e => nomatch e)) (wanted_rd rfl) hS (fun wx hx => run_lodQ (.tmp 62) rfl (ev_same _ _ _ (by omega)) hx.2.cell2) ?_
                          show SeqI _ _ _ _ _ _ (Act.put _ (some 63) _) _
                          refine sI_read (v := (.int .i64 f)) rfl (fun _ _ _ h => absurd h.1 (fun e => nomatch e)) (wanted_rd rfl) hS (fun wx _ => run_move (.tmp 1) rfl ((ev_other _ _ (by decide)).trans ((ev_other _ _ (by decide)).trans b1)) wx) ?_
                          show SeqI _ _ _ _ _ _ (Act.put _ (some 64) _) _
                          refine sI_read (v := (.int .i64 t)) rfl (fun _ _ _ h => absurd h.1 (fun e => nomatch e)) (wanted_rd rfl) hS (fun wx _ => run_move (.tmp 2) rfl ((ev_other _ _ (by decide)).trans ((ev_other _ _ (by decide)).trans ((ev_other _ _ (by decide)).trans b2))) wx) ?_
                          show SeqI _ _ _ _ _ _ (Act.put _ (some 65) _) _
                          refine sI_read (v := (.pointer (some ⟨w.heap.size, 0, none⟩))) rfl (fun _ _ _ h => absurd h.1 (fun e => nomatch e)) (wanted_rd rfl) hS (fun wx _ => run_fldU (.tmp 5) 0 rfl ((ev_other _ _ (by decide)).trans ((ev_other _ _ (by decide)).trans ((ev_other _ _ (by decide)).trans ((ev_other _ _ (by decide)).trans b5)))) (by omega) wx) ?_
                          show SeqI _ _ _ _ _ _ (Act.put _ (some 66) _) _
                          refine sI_read (v := (.int .i64 N)) rfl (fun _ _ _ h => absurd h.1 (fun e => nomatch e)) (wanted_rd rfl) hS (fun wx hx => run_lodN (.tmp 66) rfl (ev_same _ _ _ (by simp only [sz_put]; omega)) hx.1.cell0) ?_
                          show SeqI _ _ _ _ _ _ (Act.put _ (some 67) _) _
                          refine sI_read (v := (.int .i64 d)) rfl (fun _ _ _ h => absurd h.1 (fun e => nomatch e)) (wanted_rd rfl) hS (fun wx _ => run_move (.tmp 4) rfl ((ev_other _ _ (by decide)).trans ((ev_other _ _ (by decide)).trans ((ev_other _ _ (by decide)).trans ((ev_other _ _ (by decide)).trans ((ev_other _ _ (by decide)).trans ((ev_other _ _ (by decide)).trans b4)))))) wx) ?_
                          show SeqI _ _ _ _ _ _ (Act.put _ (some 68) _) _
                          refine sI_read (v := (.int .i64 (N + d))) rfl (fun _ _ _ h => absurd h.1 (fun e => nomatch e)) (wanted_rd rfl) hS (fun wx _ => run_addP (.tmp 67) (.tmp 68) rfl ((ev_other _ _ (by decide)).trans (ev_same _ _ _ (by simp only [sz_put]; omega))) (ev_same _ _ _ (by simp only [sz_put]; omega)) (by omega) (by omega) wx) ?_
                          show SeqI _ _ _ _ _ _ (Act.put _ (some 69) _) _
                          refine sI_read (v := (.pointer (some ⟨w.heap.size, 1, none⟩))) rfl (fun _ _ _ h => absurd h.1 (fun e => nomatch e)) (wanted_rd rfl) hS (fun wx _ => run_fldU (.tmp 5) 1 rfl ((ev_other _ _ (by decide)).trans ((ev_other _ _ (by decide)).trans ((ev_other _ _ (by decide)).trans ((ev_other _ _ (by decide)).trans ((ev_other _ _ (by decide)).trans ((ev_other _ _ (by decide)).trans ((ev_other _ _ (by decide)).trans ((ev_other _ _ (by decide)).trans b5)))))))) (by omega) wx) ?_
                          show SeqI _ _ _ _ _ _ (Act.put _ (some 70) _) _
                          refine sI_read (v := (.int .i64 S)) rfl (fun _ _ _ h => absurd h.1 (fun e => nomatch e)) (wanted_rd rfl) hS (fun wx hx => run_lodN (.tmp 70) rfl (ev_same _ _ _ (by simp only [sz_put]; omega)) hx.1.cell1) ?_
                          show SeqI _ _ _ _ _ _ (Act.put _ (some 71) _) _
                          refine sI_read (v := (.slice bo ds.length bc)) rfl (fun _ _ _ h => absurd h.1 (fun e => nomatch e)) (wanted_rd rfl) hS (fun wx _ => run_move (.tmp 3) rfl ((ev_other _ _ (by decide)).trans ((ev_other _ _ (by decide)).trans ((ev_other _ _ (by decide)).trans ((ev_other _ _ (by decide)).trans ((ev_other _ _ (by decide)).trans ((ev_other _ _ (by decide)).trans ((ev_other _ _ (by decide)).trans ((ev_other _ _ (by decide)).trans ((ev_other _ _ (by decide)).trans ((ev_other _ _ (by decide)).trans b3)))))))))) wx) ?_
                          show SeqI _ _ _ _ _ _ (Act.put _ (some 72) _) _
                          refine sI_do rfl (wanted_rd rfl) (fun K hK => ?_)
                          refine ⟨wp_join _ (.const (.slice none 0 0)) (.tmp 72) rfl w3.heap.size (Nat.le_refl _) (.slice none 0 0) 0 [] rfl (World.ownsRow_nil _ _ _ _) bo ds.length bc (bF (gF ds)) (ev_same _ _ _ (by simp only [sz_put]; omega)) (unhide SR3) (fun i _ => rfl) (by omega) ?_⟩
                          intro v3 w4 o3 k3
                          rw [Nat.zero_add, List.nil_append] at o3
                          obtain ⟨a3, c3, rfl, hc3⟩ := ownS_slice o3
                          have hS3 : SnI w g N S (.slice ao L.length cap) (.slice va M.length vc) w4 := ⟨hS.1.below k3, hS.2.below k3⟩
                          have q3 := hQ.below k3; have r3 := hRes.below k3
                          refine hK _ _ (fun _ => hS3) ?_
                          clear hK K
                          show SeqI _ _ _ _ _ _ (Act.put _ (some 73) _) _
                          refine sI_read (v := (pcV ⟨f, t, N + d, S, ds⟩ (.slice a3 ds.length c3))) rfl (fun _ _ _ h => absurd h.1 (fun e => nomatch e)) (wanted_rd rfl) hS3 (fun wx _ => run_buildPc (.tmp 64) (.tmp 65) (.tmp 69) (.tmp 71) (.tmp 73) rfl ds ((ev_other _ _ (by decide)).trans ((ev_other _ _ (by decide)).trans ((ev_other _ _ (by decide)).trans ((ev_other _ _ (by decide)).trans ((ev_other _ _ (by decide)).trans ((ev_other _ _ (by decide)).trans ((ev_other _ _ (by decide)).trans ((ev_other _ _ (by decide)).trans ((ev_other _ _ (by decide)).trans (ev_same _ _ _ (by simp only [sz_put]; omega))))))))))) ((ev_other _ _ (by decide)).trans ((ev_other _ _ (by decide)).trans ((ev_other _ _ (by decide)).trans ((ev_other _ _ (by decide)).trans ((ev_other _ _ (by decide)).trans ((ev_other _ _ (by decide)).trans ((ev_other _ _ (by decide)).trans ((ev_other _ _ (by decide)).trans (ev_same _ _ _ (by simp only [sz_put]; omega)))))))))) ((ev_other _ _ (by decide)).trans ((ev_other _ _ (by decide)).trans ((ev_other _ _ (by decide)).trans ((ev_other _ _ (by decide)).trans (ev_same _ _ _ (by simp only [sz_put]; omega)))))) ((ev_other _ _ (by decide)).trans ((ev_other _ _ (by decide)).trans (ev_same _ _ _ (by simp only [sz_put]; omega)))) (ev_same _ _ _ (by simp only [sz_put]; omega)) wx) ?_
                          show SeqI _ _ _ _ _ _ (Act.put _ (some 74) _) _
                          refine sI_do rfl (wanted_rd rfl) (fun K hK => ?_)
                          refine wp_onePc _ (.tmp 74) rfl (ev_same _ _ _ (by simp only [sz_put]; omega)) ?_
                          intro w5 m5 k5 z5
                          have hS5 : SnI w g N S (.slice ao L.length cap) (.slice va M.length vc) w5 := ⟨hS3.1.below k5, hS3.2.below k5⟩
                          have q5 := q3.below k5; have r5 := r3.below k5
                          have o5 : OwnB w5 w3.heap.size ⟨⟨f, t, N + d, S, ds⟩, a3, c3⟩ := ownS_below o3 k5
                          refine hK _ _ (fun _ => hS5) ?_
                          clear hK K
                          show SeqI _ _ _ _ _ _ (Act.put _ (some 75) _) _
                          refine sI_do rfl (wanted_rd rfl) (fun K hK => ?_)
                          refine ⟨wp_joinP _ (.tmp 63) (.tmp 75) rfl (w.heap.size + 1 + 1) (by have := k5.size; have := k3.size; have := hz3; show _ ≤ w5.heap.size; have e : w3.drew.heap.size = w3.heap.size := rfl; omega) _ M ((ev_other _ _ (by decide)).trans ((ev_other _ _ (by decide)).trans ((ev_other _ _ (by decide)).trans ((ev_other _ _ (by decide)).trans ((ev_other _ _ (by decide)).trans ((ev_other _ _ (by decide)).trans ((ev_other _ _ (by decide)).trans ((ev_other _ _ (by decide)).trans ((ev_other _ _ (by decide)).trans ((ev_other _ _ (by decide)).trans ((ev_other _ _ (by decide)).trans ((ev_other _ _ (by decide)).trans (ev_same _ _ _ (by simp only [sz_put]; omega)))))))))))))) q5 _ ⟨⟨f, t, N + d, S, ds⟩, a3, c3⟩ (ev_same _ _ _ (by simp only [sz_put]; omega)) m5.pc (ownS_base o5 (by omega)) (fun c hc x hx e => by have h1 := ((hQ.2.1 c hc).lt x hx).2; have h2 := (o5.lt x e).1; have e : w3.drew.heap.size = w3.heap.size := rfl; omega) (by omega) ?_⟩
                          intro v6 w6 o6 k6 g6
                          obtain ⟨a6, c6, rfl, hc6⟩ := o6.slice
                          rw [show (M ++ [(⟨⟨f, t, N + d, S, ds⟩, a3, c3⟩ : Lp)]).length = M.length + 1 by simp] at o6 ⊢
                          have hS6 : SnI w g N S (.slice ao L.length cap) (.slice va M.length vc) w6 := ⟨hS5.1.under k6 (by omega), hS5.2.grown q5.1 g6⟩
                          have r6 := r5.under k6 (by omega)
                          refine hK _ _ (fun _ => hS6) ?_
                          clear hK K
                          show SeqI _ _ _ _ _ _ (Act.put _ (some 76) _) _
                          refine sI_read (v := (.pointer (some ⟨g, 2, none⟩))) rfl (fun _ _ _ h => absurd h.1 (fun e => nomatch e)) (wanted_rd rfl) hS6 (fun wx _ => run_fldU (.tmp 12) 2 rfl ((ev_other _ _ (by decide)).trans ((ev_other _ _ (by decide)).trans ((ev_other _ _ (by decide)).trans ((ev_other _ _ (by decide)).trans ((ev_other _ _ (by decide)).trans ((ev_other _ _ (by decide)).trans ((ev_other _ _ (by decide)).trans ((ev_other _ _ (by decide)).trans ((ev_other _ _ (by decide)).trans ((ev_other _ _ (by decide)).trans ((ev_other _ _ (by decide)).trans ((ev_other _ _ (by decide)).trans ((ev_other _ _ (by decide)).trans ((ev_other _ _ (by decide)).trans ((ev_other _ _ (by decide)).trans b12))))))))))))))) (by omega) wx) ?_
                          show SeqI _ _ _ _ _ _ (Act.put _ (some 77) _) _
                          refine sI_do rfl (wanted_rd rfl) (fun K hK => ?_)
                          refine wp_storeN _ (.tmp 77) (.tmp 76) rfl (ev_same _ _ _ (by simp only [sz_put]; omega)) ((ev_other _ _ (by decide)).trans (ev_same _ _ _ (by simp only [sz_put]; omega))) hS6.2 rfl ?_
                          intro w7 m7 k7 z7
                          refine hK _ _ (fun h => absurd h (by decide)) ?_
                          clear hK K
                          have kA : Below (w.heap.size + 1 + 1) w3 w6 := (below_drew (Below.refl _ _)).trans ((show Below (w.heap.size + 1 + 1) w3.drew w5 from (k3.mono hz3).trans (k5.mono (Nat.le_trans hz3 k3.size))).trans k6)
                          exact sI_end ⟨rfl, a3, c3, a6, c6, _, m7, r6.kept k7 (by omega), o6.bus hS6.2 k7, below_of_kept (kA.mono (by omega)) k7 (by omega) (by have := kA.size; omega), rfl⟩
                        case rest =>
                          rintro a' w4 ⟨a3, c3, a6, c6, g5, m4, r4, o4, k4, rfl⟩
                          have u1 := m4.cell1; have uf := m4.free 1
                          obtain ⟨X, eX⟩ : ∃ X, X = wrapS S := ⟨_, rfl⟩
                          obtain ⟨w5, e5, m5, k5, z5⟩ := m4.put1 X
                          have v0 := m5.cell0; have v1 := m5.cell1; have v2 := m5.cell2
                          have r5 := r4.kept k5 (by omega)
                          have y0 := r5.cell0; have y1 := r5.cell1; have y2 := r5.cell2; have f0 := r5.free 0; have f1 := r5.free 1; have f2 := r5.free 2
                          obtain ⟨w6, e6, m6, k6, z6⟩ := r5.put N X (.slice a6 (M.length + 1) c6)
                          have p0 := m6.cell0; have p1 := m6.cell1; have p2 := m6.cell2
                          have O6 := hide ((o4.bus m4 k5).bus r5 k6)
                          have K5 := below_of_kept ((unhide KK).trans k4) k5 (by omega) ((unhide KK).trans k4).size
                          have K6 := hide (below_of_kept K5 k6 (by omega) K5.size)
                          have T6 := hide (show These (M ++ [(⟨⟨f, t, N + d, S, ds⟩, a3, c3⟩ : Lp)]) (q ++ [⟨f, t, N + d, S, ds⟩]) by unfold These; rw [List.map_append, show M.map Lp.p = q from unhide TM]; rfl)
                          have E5 := hide e5; have E6 := hide e6; have EX := hide eX
                          rw [e5] at v0 v1 v2 y0 y1 y2 f0 f1 f2
                          clear m4 r4 o4 k4 e5 m5 k5 z5 r5 e6 m6 k6 z6 K5
                          go_frame
                          by_cases hS : S = 9223372036854775807
                          · have hX : X = wrap64 9223372036854775808 := by rw [eX]; unfold wrapS; rw [if_pos hS]; unfold wrap64; omega
                            subst hS hX
                            clear eX
                            go_wp2_with fail
                            rw [← unhide E5, ← unhide E6]
                            refine bodyPost_ret (v := .tuple #[.agg #[.int .i64 N, .int .i64 (wrap64 9223372036854775808), .slice a6 (M.length + 1) c6], .int .i64 0]) (by simp [results, Try.results12, go_sem, p0, p1, p2]) rfl ?_
                            exact snd_yes (b := ⟨N, 9223372036854775807, q⟩) (unhide HE) (L := M ++ [⟨⟨f, t, N + d, 9223372036854775807, ds⟩, a3, c3⟩]) (by rw [show (M ++ [(⟨⟨f, t, N + d, 9223372036854775807, ds⟩, a3, c3⟩ : Lp)]).length = M.length + 1 by simp]; exact unhide O6) (by omega) (unhide T6) (unhide K6) (unhide EX) (by simp)
                          · have hX : X = S + 1 := by rw [eX]; unfold wrapS; rw [if_neg hS]
                            subst hX
                            clear eX
                            have RS1 := unhide RS
                            unfold R64 at RS1
                            have hs1 : S + 1 ≤ 9223372036854775807 := by omega
                            go_wp2_with fail
                            rw [← unhide E5, ← unhide E6]
                            refine bodyPost_ret (v := .tuple #[.agg #[.int .i64 N, .int .i64 (S + 1), .slice a6 (M.length + 1) c6], .int .i64 0]) (by simp [results, Try.results12, go_sem, p0, p1, p2]) rfl ?_
                            exact snd_yes (b := ⟨N, S, q⟩) (unhide HE) (L := M ++ [⟨⟨f, t, N + d, S, ds⟩, a3, c3⟩]) (by rw [show (M ++ [(⟨⟨f, t, N + d, S, ds⟩, a3, c3⟩ : Lp)]).length = M.length + 1 by simp]; exact unhide O6) (by omega) (unhide T6) (unhide K6) (unhide EX) (by simp)

end Go.Proofs.Ythjeedlhlkggkaa
