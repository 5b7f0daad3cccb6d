/- The walk of BusLinks, whatever the bus is made of. -/
import Derived.Test.YthjeedlhlkggkaaLawsU5
namespace Go.Proofs.Ythjeedlhlkggkaa
open Go.RowKit

theorem run_get3 {f : Operand → Value} {o : Oper} (x : Operand) (i : Nat) (ho : o.op = .extract x i) {a b c : Value} (hx : f x = .tuple #[a, b, c]) {v : Value} (hv : #[a, b, c][i]? = some v) (w : World) : (execOp f o).run Try.prog w = .ok (.value v) w := by
  unfold execOp
  rw [ho]
  dsimp only
  rw [hx]
  go_simp
theorem enter_stepU (p q : Value) (w : World) : (callFunc 14 #[p, q]).run Try.prog w = .ok (.enter 14 #[p, q]) w := by go_simp
theorem LdAt.block {w : World} {t : TypeId} {b : Nat} {l : Ld} (h : w.heap[b]? = some (.cells #[.int .i64 l.fr, .int .i64 l.to, .int .i64 l.dl, .slice l.ao l.ds.length l.cap] t (0, 0))) : LdAt w b 0 l := by
  unfold LdAt World.cell?
  simp [h]
theorem ld_alloc (w : World) (l : Ld) : ∃ w1, w1 = w.alloc (.cells #[.int .i64 l.fr, .int .i64 l.to, .int .i64 l.dl, .slice l.ao l.ds.length l.cap] 53) ∧ LdAt w1 w.heap.size 0 l ∧ Below w.heap.size w w1 ∧ w1.heap.size = w.heap.size + 1 :=
  ⟨_, rfl, LdAt.block (t := 53) (by show (w.heap.push _)[w.heap.size]? = _; rw [Array.getElem?_push_size]), al_below w _, al_size w _⟩
theorem LdAt.zero {w : World} {b : Nat} {l : Ld} (h : LdAt w b 0 l) : w.cell? ⟨b, 0, none⟩ = some (.int .i64 l.fr) ∧ w.cell? ⟨b, 1, none⟩ = some (.int .i64 l.to) ∧ w.cell? ⟨b, 2, none⟩ = some (.int .i64 l.dl) ∧ w.cell? ⟨b, 3, none⟩ = some (.slice l.ao l.ds.length l.cap) := by
  unfold LdAt at h
  simp only [Nat.zero_add] at h
  exact h

set_option maxRecDepth 100000 in
set_option maxHeartbeats 8000000 in
theorem busLinks_by (hS : SeOK 9) (hP : SpOK' 14) (ao : Option Addr) (cap : Nat) (D : List Ld) (t : Int) {w : World} (hD : ∀ l, l ∈ D → LdOK l) (hr : LRd w ao D) (hlen : D.length ≤ 9223372036854775807) :
    Calls Try.prog 8 #[.slice ao D.length cap, .int .i64 t] w fun e w' => e = .returned (.bool true) ∧ Below w.heap.size w w' := by
  obtain ⟨T, eT⟩ : ∃ T, T = spF t 1200 := ⟨_, rfl⟩
  have hT : T < 1200 := by have := spF_lt t (n := 1200) (by omega); omega
  obtain ⟨kk, ekk⟩ : ∃ kk, kk = min D.length 100 := ⟨_, rfl⟩
  have hkD : kk ≤ D.length := by omega
  obtain ⟨b, eb⟩ : ∃ b : Bs, b = ⟨0, (kk : Nat), ldQ D kk⟩ := ⟨_, rfl⟩
  have hb : BsOK b := by rw [eb]; exact ldQ_ok hkD (fun l hl => (hD l hl).2.2.2.1) (by omega)
  have l1 : stepE 0 (T : Nat) = 0 := by unfold stepE; rw [if_neg (by omega)]
  obtain ⟨cc, ec⟩ : ∃ cc : Bs, cc = stepS b (T : Nat) := ⟨_, rfl⟩
  obtain ⟨P, eP⟩ : ∃ P, P = comeS b (T : Nat) := ⟨_, rfl⟩
  have PM := hide (show ∀ p, p ∈ P → p ∈ ldQ D kk from fun p hp => by
    rw [eP, eb] at hp
    unfold comeS at hp
    rw [if_pos (by exact l1)] at hp
    exact (List.mem_filter.1 (srtP_mem.1 hp)).1)
  have hPl : P.length ≤ 2513169434843 := by rw [eP]; exact (comeS_ok hb).2
  have CL := loaded_any hS ao cap D w hD hr hlen kk ekk
  have CSTEP := hide (fun (a1 : Option Addr) (c1 : Nat) (L1l : List Lp) (t1 : These L1l b.q) (w4 : World) (r1 : BRd w4 a1 c1 L1l) => (by
    have CS := hP b a1 c1 L1l (T : Nat) w4 hb t1 r1 (by unfold R64; omega)
    rw [← ec, ← eP, show b.now = 0 by rw [eb], show b.ser = (kk : Nat) by rw [eb], l1] at CS
    exact CS : Calls Try.prog 14 #[busV 0 (kk : Nat) (.slice a1 L1l.length c1), .int .i64 (T : Nat)] w4 _))
  have HD := hide hD; have HR := hide hr; have EKK := hide ekk; have ET := hide eT; have BQ := hide (show b.q = ldQ D kk by rw [eb]); have HKD := hide hkD
  unfold busV at CL
  clear hD hr eT ekk eb hb l1 ec eP hkD
  go_enter Try.func8, Try.ntmps8
  go_wp2_with fail
  refine CL.mono ?_
  rintro e w1 ⟨a1, c1, L1l, rfl, t1, r1, k1⟩
  obtain ⟨w2, e2, m2, k2, s2⟩ := bu_alloc w1 0 (kk : Nat) (.slice a1 L1l.length c1)
  have CR := runs_any hS hP w2
  have E2 := hide e2; have M2 := hide m2; have R2 := hide (r1.below k2)
  have CSTEP := hide (unhide CSTEP a1 c1 L1l (by rw [unhide BQ]; exact t1))
  have K2 := hide (k1.trans (k2.mono k1.size))
  clear CL t1 r1 k1 e2 m2 k2 s2
  go_wp2_with fail
  rw [← unhide E2]
  refine CR.mono ?_
  rintro e W ⟨rfl, k3⟩
  have MW := hide ((unhide M2).below k3); have RW := hide ((unhide R2).below k3); have K3 := hide ((unhide K2).trans (k3.mono (unhide K2).size))
  obtain ⟨g5, eg5⟩ : ∃ g5, g5 = w1.heap.size := ⟨_, rfl⟩
  rw [← eg5] at MW
  clear CR k3
  go_wp2_with fail
  rw [← eg5]
  clear eg5
  refine wp_leaves (fun a0 a' w' => ∃ (a6 : Option Addr) (c6 : Nat) (L6 : List Lp) (pa : Option Addr) (pc : Nat) (PL : List Lp) (g8 : Nat), These PL P ∧ BRd w' pa pc PL ∧ Below W.heap.size W w' ∧ a' = (((((((((((a0.put (some 27) (busV 0 (kk : Nat) (.slice a1 L1l.length c1))).put (some 28) (.int .i64 t)).put (some 7) (.pointer (some ⟨g8, 0, none⟩))).put (some 29) (.int .i64 (T : Nat))).put (some 30) (.tuple #[busV cc.now cc.ser (.slice a6 L6.length c6), .slice pa PL.length pc, .int .i64 0])).put (some 26) (.tuple #[busV cc.now cc.ser (.slice a6 L6.length c6), .slice pa PL.length pc, .int .i64 0])).put (some 31) (busV cc.now cc.ser (.slice a6 L6.length c6))).put (some 32) (.slice pa PL.length pc)).put (some 33) (.int .i64 0)).put (some 8) (.slice pa PL.length pc)).put (some 9) (.int .i64 0))) ?reg ?rest
  case reg =>
    intro A eA
    have b1 : A.eval (.tmp 1) = .int .i64 t := by rw [eA]; rfl
    have b5 : A.eval (.tmp 5) = .pointer (some ⟨g5, 0, none⟩) := by rw [eA]; rfl
    have hs : 100 ≤ A.tmps.size := by rw [eA]; exact of_decide_eq_true rfl
    clear eA
    have h0 : BuAt W.drew g5 0 (kk : Nat) (.slice a1 L1l.length c1) := unhide MW
    have hBr : BRd W.drew a1 c1 L1l := unhide RW
    have l1 : g5 < W.heap.size := (unhide MW).lt
    refine region_I (S := fun W => BuAt W g5 0 (kk : Nat) (.slice a1 L1l.length c1)) (.rd 0 (.rd 1 (.two 2 8 (.two 3 8 (.rd 4 (.rd 5 (.rd 6 (.rd 7 (.go 8 (.go 9 (.rd 10 (.rd 11 .fin)))))))) (.go 3 (.rd 4 (.rd 5 (.rd 6 (.rd 7 (.go 9 (.rd 10 (.rd 11 .fin))))))))) (.go 2 (.go 3 (.rd 4 (.rd 5 (.rd 6 (.rd 7 (.go 9 (.rd 10 (.rd 11 .fin)))))))))))) [] (by kernel_rfl) (by kernel_rfl) ?_
    refine sI_read (v := (busV 0 (kk : Nat) (.slice a1 L1l.length c1))) rfl (fun _ _ _ h => absurd h.1 (fun e => nomatch e)) (wanted_rd rfl) h0 (fun wx hx => run_lodU (.tmp 5) rfl b5 hx) ?_
    show SeqI _ _ _ _ _ _ (Act.put _ (some 27) _) _
    refine sI_read (v := (.int .i64 t)) rfl (fun _ _ _ h => absurd h.1 (fun e => nomatch e)) (wanted_rd rfl) h0 (fun wx _ => run_move (.tmp 1) rfl ((ev_other _ _ (by decide)).trans b1) wx) ?_
    show SeqI _ _ _ _ _ _ (Act.put _ (some 28) _) _
    refine sI_two rfl rfl (wanted_rd rfl) (wanted_rd rfl) ?_ ?_
    · intro K hK
      refine wp_call2 _ 23 (.tmp 28) (.const (.int .i64 1200)) _ rfl (ev_same _ _ _ (by simp only [sz_put]; omega)) rfl (enter_spot _ _ _) (spF_any t 1200 (by omega) (by omega) _) ?_
      rw [← unhide ET]
      rintro e wq ⟨rfl, hq⟩
      obtain rfl : W.drew = wq := hq.symm
      refine ⟨_, rfl, ?_⟩
      refine hK _ _ (fun _ => h0) ?_
      clear hK K
      show SeqI _ _ _ _ _ _ (Act.put _ (some 29) _) _
      refine sI_two rfl rfl (wanted_rd rfl) (wanted_rd rfl) ?_ ?_
      · intro K hK
        refine wp_call2 _ 14 (.tmp 27) (.tmp 29) _ rfl ((ev_other _ _ (by decide)).trans ((ev_other _ _ (by decide)).trans (ev_same _ _ _ (by omega)))) (ev_same _ _ _ (by simp only [sz_put]; omega)) (enter_stepU _ _ _) (unhide CSTEP _ hBr) ?_
        rintro e w1 ⟨a6, c6, L6, pa, pc, PL, rfl, t6, n6, tp, n1, k1⟩
        have h1 := h0.below k1
        have j1 : Below W.drew.heap.size W.drew w1 := (Below.refl W.drew.heap.size W.drew).trans (k1.mono (Below.refl W.drew.heap.size W.drew).size)
        refine ⟨_, rfl, ?_⟩
        refine hK _ _ (fun _ => h1) ?_
        clear hK K
        show SeqI _ _ _ _ _ _ (Act.put _ (some 30) _) _
        refine sI_read (v := (.tuple #[busV cc.now cc.ser (.slice a6 L6.length c6), .slice pa PL.length pc, .int .i64 0])) rfl (fun _ _ _ h => absurd h.1 (fun e => nomatch e)) (wanted_rd rfl) h1 (fun wx _ => run_move (.tmp 30) rfl (ev_same _ _ _ (by simp only [sz_put]; omega)) wx) ?_
        show SeqI _ _ _ _ _ _ (Act.put _ (some 26) _) _
        refine sI_read (v := (busV cc.now cc.ser (.slice a6 L6.length c6))) rfl (fun _ _ _ h => absurd h.1 (fun e => nomatch e)) (wanted_rd rfl) h1 (fun wx _ => run_get3 (.tmp 26) 0 rfl (ev_same _ _ _ (by simp only [sz_put]; omega)) rfl wx) ?_
        show SeqI _ _ _ _ _ _ (Act.put _ (some 31) _) _
        refine sI_read (v := (.slice pa PL.length pc)) rfl (fun _ _ _ h => absurd h.1 (fun e => nomatch e)) (wanted_rd rfl) h1 (fun wx _ => run_get3 (.tmp 26) 1 rfl ((ev_other _ _ (by decide)).trans (ev_same _ _ _ (by simp only [sz_put]; omega))) rfl wx) ?_
        show SeqI _ _ _ _ _ _ (Act.put _ (some 32) _) _
        refine sI_read (v := (.int .i64 0)) rfl (fun _ _ _ h => absurd h.1 (fun e => nomatch e)) (wanted_rd rfl) h1 (fun wx _ => run_get3 (.tmp 26) 2 rfl ((ev_other _ _ (by decide)).trans ((ev_other _ _ (by decide)).trans (ev_same _ _ _ (by simp only [sz_put]; omega)))) rfl wx) ?_
        show SeqI _ _ _ _ _ _ (Act.put _ (some 33) _) _
        refine sI_do rfl (wanted_rd rfl) (fun K hK => ?_)
        refine wp_allocU _ rfl ?_
        intro w2 m2 k2 z2
        have h2 := h1.below k2
        have j2 : Below W.drew.heap.size W.drew w2 := j1.trans (k2.mono j1.size)
        have hg : W.heap.size ≤ w1.heap.size := j1.size
        have lb := k2
        refine hK _ _ (fun _ => h2) ?_
        clear hK K
        show SeqI _ _ _ _ _ _ (Act.put _ (some 7) _) _
        refine sI_do rfl (wanted_rd rfl) (fun K hK => ?_)
        refine wp_storeU _ (.tmp 7) (.tmp 31) rfl (ev_same _ _ _ (by simp only [sz_put]; omega)) ((ev_other _ _ (by decide)).trans ((ev_other _ _ (by decide)).trans ((ev_other _ _ (by decide)).trans (ev_same _ _ _ (by simp only [sz_put]; omega))))) m2 rfl ?_
        intro w3 m3 k3 z3
        have h3 := h2.kept k3 (by omega)
        refine hK _ _ (fun _ => h3) ?_
        clear hK K
        refine sI_read (v := (.slice pa PL.length pc)) rfl (fun _ _ _ h => absurd h.1 (fun e => nomatch e)) (wanted_rd rfl) h3 (fun wx _ => run_assign (.tmp 32) rfl ((ev_other _ _ (by decide)).trans ((ev_other _ _ (by decide)).trans (ev_same _ _ _ (by simp only [sz_put]; omega)))) wx) ?_
        show SeqI _ _ _ _ _ _ (Act.put _ (some 8) _) _
        refine sI_read (v := (.int .i64 0)) rfl (fun _ _ _ h => absurd h.1 (fun e => nomatch e)) (wanted_rd rfl) h3 (fun wx _ => run_assign (.tmp 33) rfl ((ev_other _ _ (by decide)).trans ((ev_other _ _ (by decide)).trans (ev_same _ _ _ (by simp only [sz_put]; omega)))) wx) ?_
        show SeqI _ _ _ _ _ _ (Act.put _ (some 9) _) _
        have jj : Below W.heap.size W w3 := below_of_kept ((below_drew (Below.refl _ _)).trans (show Below W.heap.size W.drew w2 from j2)) k3 hg (show W.heap.size ≤ w2.heap.size from j2.size)
        exact sI_end ⟨rfl, a6, c6, L6, pa, pc, PL, w1.heap.size, tp, (n1.below (below_of_kept lb k3 (Nat.le_refl _) lb.size)).1, jj, (by rw [put_swap _ 33 7 _ _ (by decide), put_swap _ 32 7 _ _ (by decide), put_swap _ 31 7 _ _ (by decide), put_swap _ 26 7 _ _ (by decide), put_swap _ 30 7 _ _ (by decide), put_swap _ 29 7 _ _ (by decide)]; first | done | rfl)⟩
      · intro K hK
        refine wp_allocU _ rfl ?_
        intro w1 m1 k1 z1
        have h1 := h0.below k1
        have j1 : Below W.drew.heap.size W.drew w1 := (Below.refl W.drew.heap.size W.drew).trans (k1.mono (Below.refl W.drew.heap.size W.drew).size)
        have hg : W.heap.size ≤ W.drew.heap.size := (Below.refl W.drew.heap.size W.drew).size
        refine hK _ _ (fun _ => h1) ?_
        clear hK K
        show SeqI _ _ _ _ _ _ (Act.put _ (some 7) _) _
        refine sI_do rfl (wanted_rd rfl) (fun K hK => ?_)
        refine wp_call2 _ 14 (.tmp 27) (.tmp 29) _ rfl ((ev_other _ _ (by decide)).trans ((ev_other _ _ (by decide)).trans ((ev_other _ _ (by decide)).trans (ev_same _ _ _ (by omega))))) ((ev_other _ _ (by decide)).trans (ev_same _ _ _ (by simp only [sz_put]; omega))) (enter_stepU _ _ _) (unhide CSTEP _ (hBr.below j1)) ?_
        rintro e w2 ⟨a6, c6, L6, pa, pc, PL, rfl, t6, n6, tp, n2, k2⟩
        have h2 := h1.below k2
        have j2 : Below W.drew.heap.size W.drew w2 := j1.trans (k2.mono j1.size)
        have m2 := m1.below k2
        refine ⟨_, rfl, ?_⟩
        refine hK _ _ (fun _ => h2) ?_
        clear hK K
        show SeqI _ _ _ _ _ _ (Act.put _ (some 30) _) _
        refine sI_read (v := (.tuple #[busV cc.now cc.ser (.slice a6 L6.length c6), .slice pa PL.length pc, .int .i64 0])) rfl (fun _ _ _ h => absurd h.1 (fun e => nomatch e)) (wanted_rd rfl) h2 (fun wx _ => run_move (.tmp 30) rfl (ev_same _ _ _ (by simp only [sz_put]; omega)) wx) ?_
        show SeqI _ _ _ _ _ _ (Act.put _ (some 26) _) _
        refine sI_read (v := (busV cc.now cc.ser (.slice a6 L6.length c6))) rfl (fun _ _ _ h => absurd h.1 (fun e => nomatch e)) (wanted_rd rfl) h2 (fun wx _ => run_get3 (.tmp 26) 0 rfl (ev_same _ _ _ (by simp only [sz_put]; omega)) rfl wx) ?_
        show SeqI _ _ _ _ _ _ (Act.put _ (some 31) _) _
        refine sI_read (v := (.slice pa PL.length pc)) rfl (fun _ _ _ h => absurd h.1 (fun e => nomatch e)) (wanted_rd rfl) h2 (fun wx _ => run_get3 (.tmp 26) 1 rfl ((ev_other _ _ (by decide)).trans (ev_same _ _ _ (by simp only [sz_put]; omega))) rfl wx) ?_
        show SeqI _ _ _ _ _ _ (Act.put _ (some 32) _) _
        refine sI_read (v := (.int .i64 0)) rfl (fun _ _ _ h => absurd h.1 (fun e => nomatch e)) (wanted_rd rfl) h2 (fun wx _ => run_get3 (.tmp 26) 2 rfl ((ev_other _ _ (by decide)).trans ((ev_other _ _ (by decide)).trans (ev_same _ _ _ (by simp only [sz_put]; omega)))) rfl wx) ?_
        show SeqI _ _ _ _ _ _ (Act.put _ (some 33) _) _
        refine sI_do rfl (wanted_rd rfl) (fun K hK => ?_)
        refine wp_storeU _ (.tmp 7) (.tmp 31) rfl ((ev_other _ _ (by decide)).trans ((ev_other _ _ (by decide)).trans ((ev_other _ _ (by decide)).trans ((ev_other _ _ (by decide)).trans ((ev_other _ _ (by decide)).trans (ev_same _ _ _ (by simp only [sz_put]; omega))))))) ((ev_other _ _ (by decide)).trans ((ev_other _ _ (by decide)).trans (ev_same _ _ _ (by simp only [sz_put]; omega)))) m2 rfl ?_
        intro w3 m3 k3 z3
        have h3 := h2.kept k3 (by omega)
        refine hK _ _ (fun _ => h3) ?_
        clear hK K
        refine sI_read (v := (.slice pa PL.length pc)) rfl (fun _ _ _ h => absurd h.1 (fun e => nomatch e)) (wanted_rd rfl) h3 (fun wx _ => run_assign (.tmp 32) rfl ((ev_other _ _ (by decide)).trans (ev_same _ _ _ (by simp only [sz_put]; omega))) wx) ?_
        show SeqI _ _ _ _ _ _ (Act.put _ (some 8) _) _
        refine sI_read (v := (.int .i64 0)) rfl (fun _ _ _ h => absurd h.1 (fun e => nomatch e)) (wanted_rd rfl) h3 (fun wx _ => run_assign (.tmp 33) rfl ((ev_other _ _ (by decide)).trans (ev_same _ _ _ (by simp only [sz_put]; omega))) wx) ?_
        show SeqI _ _ _ _ _ _ (Act.put _ (some 9) _) _
        have jj : Below W.heap.size W w3 := below_of_kept ((below_drew (Below.refl _ _)).trans (show Below W.heap.size W.drew w2 from j2)) k3 hg (show W.heap.size ≤ w2.heap.size from j2.size)
        exact sI_end ⟨rfl, a6, c6, L6, pa, pc, PL, W.drew.heap.size, tp, (n2.kept k3 (by omega)).1, jj, (by rw [put_swap _ 29 7 _ _ (by decide)]; first | done | rfl)⟩
    · intro K hK
      refine wp_allocU _ rfl ?_
      intro w1 m1 k1 z1
      have h1 := h0.below k1
      have j1 : Below W.drew.heap.size W.drew w1 := (Below.refl W.drew.heap.size W.drew).trans (k1.mono (Below.refl W.drew.heap.size W.drew).size)
      have hg : W.heap.size ≤ W.drew.heap.size := (Below.refl W.drew.heap.size W.drew).size
      refine hK _ _ (fun _ => h1) ?_
      clear hK K
      show SeqI _ _ _ _ _ _ (Act.put _ (some 7) _) _
      refine sI_do rfl (wanted_rd rfl) (fun K hK => ?_)
      refine wp_call2 _ 23 (.tmp 28) (.const (.int .i64 1200)) _ rfl ((ev_other _ _ (by decide)).trans (ev_same _ _ _ (by simp only [sz_put]; omega))) rfl (enter_spot _ _ _) (spF_any t 1200 (by omega) (by omega) _) ?_
      rw [← unhide ET]
      rintro e wq ⟨rfl, hq⟩
      obtain rfl : w1 = wq := hq.symm
      refine ⟨_, rfl, ?_⟩
      refine hK _ _ (fun _ => h1) ?_
      clear hK K
      show SeqI _ _ _ _ _ _ (Act.put _ (some 29) _) _
      refine sI_do rfl (wanted_rd rfl) (fun K hK => ?_)
      refine wp_call2 _ 14 (.tmp 27) (.tmp 29) _ rfl ((ev_other _ _ (by decide)).trans ((ev_other _ _ (by decide)).trans ((ev_other _ _ (by decide)).trans (ev_same _ _ _ (by omega))))) (ev_same _ _ _ (by simp only [sz_put]; omega)) (enter_stepU _ _ _) (unhide CSTEP _ (hBr.below j1)) ?_
      rintro e w2 ⟨a6, c6, L6, pa, pc, PL, rfl, t6, n6, tp, n2, k2⟩
      have h2 := h1.below k2
      have j2 : Below W.drew.heap.size W.drew w2 := j1.trans (k2.mono j1.size)
      have m2 := m1.below k2
      refine ⟨_, rfl, ?_⟩
      refine hK _ _ (fun _ => h2) ?_
      clear hK K
      show SeqI _ _ _ _ _ _ (Act.put _ (some 30) _) _
      refine sI_read (v := (.tuple #[busV cc.now cc.ser (.slice a6 L6.length c6), .slice pa PL.length pc, .int .i64 0])) rfl (fun _ _ _ h => absurd h.1 (fun e => nomatch e)) (wanted_rd rfl) h2 (fun wx _ => run_move (.tmp 30) rfl (ev_same _ _ _ (by simp only [sz_put]; omega)) wx) ?_
      show SeqI _ _ _ _ _ _ (Act.put _ (some 26) _) _
      refine sI_read (v := (busV cc.now cc.ser (.slice a6 L6.length c6))) rfl (fun _ _ _ h => absurd h.1 (fun e => nomatch e)) (wanted_rd rfl) h2 (fun wx _ => run_get3 (.tmp 26) 0 rfl (ev_same _ _ _ (by simp only [sz_put]; omega)) rfl wx) ?_
      show SeqI _ _ _ _ _ _ (Act.put _ (some 31) _) _
      refine sI_read (v := (.slice pa PL.length pc)) rfl (fun _ _ _ h => absurd h.1 (fun e => nomatch e)) (wanted_rd rfl) h2 (fun wx _ => run_get3 (.tmp 26) 1 rfl ((ev_other _ _ (by decide)).trans (ev_same _ _ _ (by simp only [sz_put]; omega))) rfl wx) ?_
      show SeqI _ _ _ _ _ _ (Act.put _ (some 32) _) _
      refine sI_read (v := (.int .i64 0)) rfl (fun _ _ _ h => absurd h.1 (fun e => nomatch e)) (wanted_rd rfl) h2 (fun wx _ => run_get3 (.tmp 26) 2 rfl ((ev_other _ _ (by decide)).trans ((ev_other _ _ (by decide)).trans (ev_same _ _ _ (by simp only [sz_put]; omega)))) rfl wx) ?_
      show SeqI _ _ _ _ _ _ (Act.put _ (some 33) _) _
      refine sI_do rfl (wanted_rd rfl) (fun K hK => ?_)
      refine wp_storeU _ (.tmp 7) (.tmp 31) rfl ((ev_other _ _ (by decide)).trans ((ev_other _ _ (by decide)).trans ((ev_other _ _ (by decide)).trans ((ev_other _ _ (by decide)).trans ((ev_other _ _ (by decide)).trans ((ev_other _ _ (by decide)).trans (ev_same _ _ _ (by simp only [sz_put]; omega)))))))) ((ev_other _ _ (by decide)).trans ((ev_other _ _ (by decide)).trans (ev_same _ _ _ (by simp only [sz_put]; omega)))) m2 rfl ?_
      intro w3 m3 k3 z3
      have h3 := h2.kept k3 (by omega)
      refine hK _ _ (fun _ => h3) ?_
      clear hK K
      refine sI_read (v := (.slice pa PL.length pc)) rfl (fun _ _ _ h => absurd h.1 (fun e => nomatch e)) (wanted_rd rfl) h3 (fun wx _ => run_assign (.tmp 32) rfl ((ev_other _ _ (by decide)).trans (ev_same _ _ _ (by simp only [sz_put]; omega))) wx) ?_
      show SeqI _ _ _ _ _ _ (Act.put _ (some 8) _) _
      refine sI_read (v := (.int .i64 0)) rfl (fun _ _ _ h => absurd h.1 (fun e => nomatch e)) (wanted_rd rfl) h3 (fun wx _ => run_assign (.tmp 33) rfl ((ev_other _ _ (by decide)).trans (ev_same _ _ _ (by simp only [sz_put]; omega))) wx) ?_
      show SeqI _ _ _ _ _ _ (Act.put _ (some 9) _) _
      have jj : Below W.heap.size W w3 := below_of_kept ((below_drew (Below.refl _ _)).trans (show Below W.heap.size W.drew w2 from j2)) k3 hg (show W.heap.size ≤ w2.heap.size from j2.size)
      exact sI_end ⟨rfl, a6, c6, L6, pa, pc, PL, W.drew.heap.size, tp, (n2.kept k3 (by omega)).1, jj, rfl⟩
  case rest =>
    rintro a' w9 ⟨a6, c6, L6, pa, pc, PL, g8, tp, rp, j9, rfl⟩
    obtain ⟨n, en⟩ : ∃ n, n = PL.length := ⟨_, rfl⟩
    have hn : n ≤ 2513169434843 := by rw [en, tp.len]; exact hPl
    have K9 := hide ((unhide K3).trans (j9.mono (unhide K3).size)); have TP := hide tp; have R9 := hide rp; have EN := hide en
    rw [← en]
    clear tp rp j9 en
    go_frame
    go_wp2_with fail
    go_loopw [38] (fun is wr => ∃ i : Nat, i ≤ n ∧ is = .int .i64 (i : Nat) ∧ Below w9.heap.size w9 wr) (fun is _ => n - (intOf is).toNat)
    case atStart => exact ⟨0, Nat.zero_le _, rfl, Below.refl _ _⟩
    case round =>
      obtain ⟨i, hi, rfl, kr⟩ := hrel
      rename World => wr
      by_cases hin : i < n
      · have i9 : i < PL.length := by rw [← unhide EN]; exact hin
        have h9 := List.getElem?_eq_getElem i9
        obtain ⟨cx, ecx⟩ : ∃ cx, cx = PL[i] := ⟨_, rfl⟩
        rw [← ecx] at h9
        have br := (unhide R9).below kr
        obtain ⟨rb, ro, rfl, hq⟩ := br.1 (by omega)
        have px := hq i cx h9
        have sx := br.2.2 cx (List.mem_of_getElem? h9)
        have hp := unhide PM cx.p ((unhide TP).mem (List.mem_of_getElem? h9))
        obtain ⟨j, hj⟩ := List.getElem?_of_mem hp
        obtain ⟨l, hl, epl⟩ := ldQ_at (unhide HKD) hj
        have jD := (List.getElem?_eq_some_iff.1 hl).1
        have LR := ((unhide HR).below (unhide K9)).below kr
        obtain ⟨x, o, eao, hq2⟩ := LR.1 (by omega)
        subst eao
        obtain ⟨l0, l1, l2, l3⟩ := hq2 j l hl
        have sl := LR.2 l (List.mem_of_getElem? hl)
        obtain ⟨fr, to, dl, ds, ba, bc⟩ := l
        obtain ⟨p, xa, xc⟩ := cx
        dsimp only at epl sl l0 l1 l2 l3
        subst epl
        obtain ⟨F, eF⟩ : ∃ F, F = spF fr 4 := ⟨_, rfl⟩
        obtain ⟨Tt, eTt⟩ : ∃ Tt, Tt = spF to 3 := ⟨_, rfl⟩
        obtain ⟨E, eD⟩ : ∃ E, E = spF dl 1001 := ⟨_, rfl⟩
        have hF : F < 4 := by have := spF_lt fr (n := 4) (by omega); omega
        have hTt : Tt < 3 := by have := spF_lt to (n := 3) (by omega); omega
        unfold lpV ldP at px
        unfold ldP at sx
        dsimp only at px sx
        rw [← eF, ← eTt, ← eD] at px
        obtain ⟨G, eG⟩ : ∃ G, G = (F + 1 + Tt) % 4 := ⟨_, rfl⟩
        rw [← eG] at px
        have EG := hide eG
        clear eG
        obtain ⟨dt, edt⟩ : ∃ dt, dt = ds.take 220 := ⟨_, rfl⟩
        obtain ⟨m2, em2⟩ : ∃ m2, m2 = dt.length := ⟨_, rfl⟩
        rw [← edt] at px sx
        have sx : Sr wr xa m2 xc (bF (gF dt)) := by rw [em2]; exact sx.1
        rw [← em2] at px
        have EDT := hide edt; have EM2 := hide em2
        clear edt em2
        obtain ⟨f0, f1, f2, f3, f4⟩ := px
        dsimp only at f0 f1 f2 f3 f4
        obtain ⟨wa, ea, ma, ka, sa⟩ := pv_alloc wr ⟨(F : Nat), (G : Nat), (E : Nat), (j : Nat), dt⟩ (.slice xa m2 xc)
        dsimp only at ea
        obtain ⟨wb, eb, mb, kb, sb⟩ := ld_alloc wa ⟨fr, to, dl, ds, ba, bc⟩
        dsimp only at eb
        have jb : Below wr.heap.size wr wb := ka.trans (kb.mono (by omega))
        have kab := kb
        obtain ⟨d0, d1, d2, d3, d4⟩ := ma.cells
        obtain ⟨y0, y1, y2, y3⟩ := mb.zero
        dsimp only at d0 d1 d2 d3 d4 y0 y1 y2 y3
        have ll0 := at_below l0 ka; have ll1 := at_below l1 ka; have ll2 := at_below l2 ka; have ll3 := at_below l3 ka
        have EA := hide ea; have EB := hide eb; have SA := hide sa
        have HXX := hide (ma.pc.below kb); have HLL := hide mb; have JB := hide jb; have KR := hide kr
        have SX := hide (sx.below jb); have SL := hide (sl.1.below jb)
        have hlb : ds.length ≤ bc := sl.2
        have EF := hide eF; have ETt := hide eTt; have ED := hide eD
        rw [eb, ea] at y0 y1 y2 y3
        rw [ea] at d0 d1 d2 d3 d4 ll0 ll1 ll2 ll3
        have hsa : (wr.alloc (.cells #[.int .i64 (F : Nat), .int .i64 (G : Nat), .int .i64 (E : Nat), .int .i64 (j : Nat), .slice xa m2 xc] 50)).heap.size = wr.heap.size + 1 := by rw [← ea]; exact sa
        rw [hsa] at y0 y1 y2 y3
        have hj1 : ¬ ((j : Nat) : Int) < 0 := by omega
        have hj2 : ((j : Nat) : Int) < (D.length : Nat) := by omega
        have gl : wa.heap.size = wr.heap.size + 1 := sa
        rw [gl] at HLL
        have KW2 := hide (show Below w9.heap.size w9 wb from kr.trans (jb.mono kr.size))
        clear h9 ecx br hq sx hp hj hl LR hq2 sl ea eb ma mb ka kb sa sb jb kr eF eTt eD hsa kab l0 l1 l2 l3 gl
        by_cases hl2 : 220 < ds.length
        · have hl2' : (220 : Int) < (ds.length : Nat) := by omega
          obtain rfl : m2 = 220 := by rw [unhide EM2, unhide EDT, List.length_take]; omega
          have hbc1 : (220 : Int) ≤ (bc : Nat) := by omega
          obtain ⟨bx, eba⟩ : ∃ bx, ba = some bx := by
            rcases unhide SL with ⟨_, h0, _⟩ | ⟨bx, h0, _⟩
            · omega
            · exact ⟨bx, h0⟩
          subst eba
          have HS2 := hide (show PcAt wb.drew wr.heap.size 0 ⟨(F : Nat), (G : Nat), (E : Nat), (j : Nat), dt⟩ (.slice xa 220 xc) ∧ LdAt wb.drew (wr.heap.size + 1) 0 ⟨fr, to, dl, ds, some bx, bc⟩ ∧ Rd wb.drew xa 220 (bF (gF ds)) ∧ Rd wb.drew (some bx) 220 (bF (gF ds)) from ⟨unhide HXX, unhide HLL, (show Rd wb xa 220 (bF (gF ds)) from (unhide SX).rd.congr (fun i hi => by unfold bF; rw [unhide EDT, gF_take hi])), (show Rd wb (some bx) 220 (bF (gF ds)) from ((unhide SL).less (by omega)).rd)⟩)
          go_wp2_with fail
          rw [← unhide EA, ← unhide EB]
          refine (spF_any fr 4 (by omega) (by omega) _).mono ?_
          rw [← unhide EF]
          rintro e w2 ⟨rfl, hw2⟩
          obtain rfl : wb = w2 := hw2.symm
          rw [unhide EB, unhide EA]
          go_wp2_with fail
          rw [← unhide EA, ← unhide EB]
          clear d0 d1 d2 d3 d4 y0 y1 y2 y3 f0 f1 f2 f3 f4 ll0 ll1 ll2 ll3 EA EB
          refine wp_leaves (fun a0 a' w' => Below w9.heap.size w9 w' ∧ a' = ((((((((((((((((((((((((((((((((a0.put (some 67) (.pointer (some ⟨wr.heap.size, 0 + 0, none⟩))).put (some 68) (.int .i64 (F : Nat))).put (some 69) (.int .i64 (F : Nat))).put (some 70) (.bool false)).put (some 71) (.bool false)).put (some 72) (.pointer (some ⟨wr.heap.size, 0 + 1, none⟩))).put (some 73) (.int .i64 (G : Nat))).put (some 74) (.int .i64 (F : Nat))).put (some 75) (.int .i64 (F + 1 : Nat))).put (some 76) (.pointer (some ⟨wr.heap.size + 1, 0 + 1, none⟩))).put (some 77) (.int .i64 to)).put (some 78) (.int .i64 (Tt : Nat))).put (some 79) (.int .i64 (F + 1 + Tt : Nat))).put (some 80) (.int .i64 (G : Nat))).put (some 81) (.bool false)).put (some 82) (.bool false)).put (some 83) (.bool false)).put (some 84) (.pointer (some ⟨wr.heap.size, 0 + 4, none⟩))).put (some 85) (.slice xa 220 xc)).put (some 86) (.string (sB (gF ds) 220))).put (some 87) (.slice (some bx) 220 bc)).put (some 88) (.string (sB (gF ds) 220))).put (some 89) (.bool false)).put (some 90) (.bool false)).put (some 91) (.bool false)).put (some 92) (.pointer (some ⟨wr.heap.size, 0 + 2, none⟩))).put (some 93) (.int .i64 (E : Nat))).put (some 94) (.pointer (some ⟨wr.heap.size + 1, 0 + 2, none⟩))).put (some 95) (.int .i64 dl)).put (some 96) (.int .i64 (E : Nat))).put (some 97) (.bool false)).put (some 98) (.bool false))) ?reg ?rest
          case reg =>
            intro A eA
            have b11 : A.eval (.tmp 11) = .pointer (some ⟨wr.heap.size, 0, none⟩) := by rw [eA]; rfl
            have b12 : A.eval (.tmp 12) = .pointer (some ⟨wr.heap.size + 1, 0, none⟩) := by rw [eA]; rfl
            have b13 : A.eval (.tmp 13) = .int .i64 (F : Nat) := by rw [eA]; rfl
            have b14 : A.eval (.tmp 14) = .slice (some bx) 220 bc := by rw [eA]; rfl
            have hs : 100 ≤ A.tmps.size := by rw [eA]; exact of_decide_eq_true rfl
            clear eA
            have hS : PcAt wb.drew wr.heap.size 0 ⟨(F : Nat), (G : Nat), (E : Nat), (j : Nat), dt⟩ (.slice xa 220 xc) ∧ LdAt wb.drew (wr.heap.size + 1) 0 ⟨fr, to, dl, ds, some bx, bc⟩ ∧ Rd wb.drew xa 220 (bF (gF ds)) ∧ Rd wb.drew (some bx) 220 (bF (gF ds)) := unhide HS2
            refine region_I (S := fun W => PcAt W wr.heap.size 0 ⟨(F : Nat), (G : Nat), (E : Nat), (j : Nat), dt⟩ (.slice xa 220 xc) ∧ LdAt W (wr.heap.size + 1) 0 ⟨fr, to, dl, ds, some bx, bc⟩ ∧ Rd W xa 220 (bF (gF ds)) ∧ Rd W (some bx) 220 (bF (gF ds))) (.rd 0 (.rd 1 (.rd 2 (.rd 3 (.rd 4 (.rd 5 (.rd 6 (.rd 7 (.rd 8 (.rd 9 (.rd 10 (.go 11 (.rd 12 (.rd 13 (.rd 14 (.rd 15 (.rd 16 (.rd 17 (.rd 18 (.rd 19 (.rd 20 (.rd 21 (.rd 22 (.rd 23 (.rd 24 (.rd 25 (.rd 26 (.rd 27 (.rd 28 (.go 29 (.rd 30 (.rd 31 .fin)))))))))))))))))))))))))))))))) [] (by kernel_rfl) (by kernel_rfl) ?_
            refine sI_read (v := (.pointer (some ⟨wr.heap.size, 0 + 0, none⟩))) rfl (fun _ _ _ h => absurd h.1 (fun e => nomatch e)) (wanted_rd rfl) hS (fun wx _ => run_fldP (.tmp 11) 0 rfl b11 (by omega) wx) ?_
            show SeqI _ _ _ _ _ _ (Act.put _ (some 67) _) _
            refine sI_read (v := (.int .i64 (F : Nat))) rfl (fun _ _ _ h => absurd h.1 (fun e => nomatch e)) (wanted_rd rfl) hS (fun wx hx => run_lodN (.tmp 67) rfl (ev_same _ _ _ (by omega)) hx.1.1) ?_
            show SeqI _ _ _ _ _ _ (Act.put _ (some 68) _) _
            refine sI_read (v := (.int .i64 (F : Nat))) rfl (fun _ _ _ h => absurd h.1 (fun e => nomatch e)) (wanted_rd rfl) hS (fun wx _ => run_move (.tmp 13) rfl ((ev_other _ _ (by decide)).trans ((ev_other _ _ (by decide)).trans b13)) wx) ?_
            show SeqI _ _ _ _ _ _ (Act.put _ (some 69) _) _
            refine sI_read (v := (.bool false)) rfl (fun _ _ _ h => absurd h.1 (fun e => nomatch e)) (wanted_rd rfl) hS (fun wx _ => run_neI (.tmp 68) (.tmp 69) rfl ((ev_other _ _ (by decide)).trans (ev_same _ _ _ (by simp only [sz_put]; omega))) (ev_same _ _ _ (by simp only [sz_put]; omega)) wx) ?_
            show SeqI _ _ _ _ _ _ (Act.put _ (some 70) _) _
            refine sI_read (v := (.bool false)) rfl (fun _ _ _ h => absurd h.1 (fun e => nomatch e)) (wanted_rd rfl) hS (fun wx _ => run_move (.tmp 70) rfl (ev_same _ _ _ (by simp only [sz_put]; omega)) wx) ?_
            show SeqI _ _ _ _ _ _ (Act.put _ (some 71) _) _
            refine sI_read (v := (.pointer (some ⟨wr.heap.size, 0 + 1, none⟩))) rfl (fun _ _ _ h => absurd h.1 (fun e => nomatch e)) (wanted_g (j := 4) rfl rfl rfl (ev_same _ _ _ (by simp only [sz_put]; omega))) hS (fun wx _ => run_fldP (.tmp 11) 1 rfl ((ev_other _ _ (by decide)).trans ((ev_other _ _ (by decide)).trans ((ev_other _ _ (by decide)).trans ((ev_other _ _ (by decide)).trans ((ev_other _ _ (by decide)).trans b11))))) (by omega) wx) ?_
            show SeqI _ _ _ _ _ _ (Act.put _ (some 72) _) _
            refine sI_read (v := (.int .i64 (G : Nat))) rfl (fun _ _ _ h => absurd h.1 (fun e => nomatch e)) (wanted_g (j := 4) rfl rfl rfl ((ev_other _ _ (by decide)).trans (ev_same _ _ _ (by simp only [sz_put]; omega)))) hS (fun wx hx => run_lodN (.tmp 72) rfl (ev_same _ _ _ (by simp only [sz_put]; omega)) hx.1.2.1) ?_
            show SeqI _ _ _ _ _ _ (Act.put _ (some 73) _) _
            refine sI_read (v := (.int .i64 (F : Nat))) rfl (fun _ _ _ h => absurd h.1 (fun e => nomatch e)) (wanted_g (j := 4) rfl rfl rfl ((ev_other _ _ (by decide)).trans ((ev_other _ _ (by decide)).trans (ev_same _ _ _ (by simp only [sz_put]; omega))))) hS (fun wx _ => run_move (.tmp 13) rfl ((ev_other _ _ (by decide)).trans ((ev_other _ _ (by decide)).trans ((ev_other _ _ (by decide)).trans ((ev_other _ _ (by decide)).trans ((ev_other _ _ (by decide)).trans ((ev_other _ _ (by decide)).trans ((ev_other _ _ (by decide)).trans b13))))))) wx) ?_
            show SeqI _ _ _ _ _ _ (Act.put _ (some 74) _) _
            refine sI_read (v := (.int .i64 (F + 1 : Nat))) rfl (fun _ _ _ h => absurd h.1 (fun e => nomatch e)) (wanted_g (j := 4) rfl rfl rfl ((ev_other _ _ (by decide)).trans ((ev_other _ _ (by decide)).trans ((ev_other _ _ (by decide)).trans (ev_same _ _ _ (by simp only [sz_put]; omega)))))) hS (fun wx _ => (run_addP (.tmp 74) (.const (.int .i64 1)) rfl (ev_same _ _ _ (by simp only [sz_put]; omega)) rfl (by omega) (by omega) wx).trans (by rw [Int.natCast_add]; rfl)) ?_
            show SeqI _ _ _ _ _ _ (Act.put _ (some 75) _) _
            refine sI_read (v := (.pointer (some ⟨wr.heap.size + 1, 0 + 1, none⟩))) rfl (fun _ _ _ h => absurd h.1 (fun e => nomatch e)) (wanted_g (j := 4) rfl rfl rfl ((ev_other _ _ (by decide)).trans ((ev_other _ _ (by decide)).trans ((ev_other _ _ (by decide)).trans ((ev_other _ _ (by decide)).trans (ev_same _ _ _ (by simp only [sz_put]; omega))))))) hS (fun wx _ => run_fldL (.tmp 12) 1 rfl ((ev_other _ _ (by decide)).trans ((ev_other _ _ (by decide)).trans ((ev_other _ _ (by decide)).trans ((ev_other _ _ (by decide)).trans ((ev_other _ _ (by decide)).trans ((ev_other _ _ (by decide)).trans ((ev_other _ _ (by decide)).trans ((ev_other _ _ (by decide)).trans ((ev_other _ _ (by decide)).trans b12))))))))) (by omega) wx) ?_
            show SeqI _ _ _ _ _ _ (Act.put _ (some 76) _) _
            refine sI_read (v := (.int .i64 to)) rfl (fun _ _ _ h => absurd h.1 (fun e => nomatch e)) (wanted_g (j := 4) rfl rfl rfl ((ev_other _ _ (by decide)).trans ((ev_other _ _ (by decide)).trans ((ev_other _ _ (by decide)).trans ((ev_other _ _ (by decide)).trans ((ev_other _ _ (by decide)).trans (ev_same _ _ _ (by simp only [sz_put]; omega)))))))) hS (fun wx hx => run_lodN (.tmp 76) rfl (ev_same _ _ _ (by simp only [sz_put]; omega)) hx.2.1.2.1) ?_
            show SeqI _ _ _ _ _ _ (Act.put _ (some 77) _) _
            refine sI_do rfl (wanted_g (j := 4) rfl rfl rfl ((ev_other _ _ (by decide)).trans ((ev_other _ _ (by decide)).trans ((ev_other _ _ (by decide)).trans ((ev_other _ _ (by decide)).trans ((ev_other _ _ (by decide)).trans ((ev_other _ _ (by decide)).trans (ev_same _ _ _ (by simp only [sz_put]; omega))))))))) (fun K hK => ?_)
            refine wp_call2 _ 23 (.tmp 77) (.const (.int .i64 3)) _ rfl (ev_same _ _ _ (by simp only [sz_put]; omega)) rfl (enter_spot _ _ _) (spF_any to 3 (by omega) (by omega) _) ?_
            rw [← unhide ETt]
            rintro e wq ⟨rfl, hq⟩
            obtain rfl : wb.drew = wq := hq.symm
            refine ⟨_, rfl, ?_⟩
            refine hK _ _ (fun _ => hS) ?_
            clear hK K
            show SeqI _ _ _ _ _ _ (Act.put _ (some 78) _) _
            refine sI_read (v := (.int .i64 (F + 1 + Tt : Nat))) rfl (fun _ _ _ h => absurd h.1 (fun e => nomatch e)) (wanted_g (j := 4) rfl rfl rfl ((ev_other _ _ (by decide)).trans ((ev_other _ _ (by decide)).trans ((ev_other _ _ (by decide)).trans ((ev_other _ _ (by decide)).trans ((ev_other _ _ (by decide)).trans ((ev_other _ _ (by decide)).trans ((ev_other _ _ (by decide)).trans (ev_same _ _ _ (by simp only [sz_put]; omega)))))))))) hS (fun wx _ => (run_addP (.tmp 75) (.tmp 78) rfl ((ev_other _ _ (by decide)).trans ((ev_other _ _ (by decide)).trans ((ev_other _ _ (by decide)).trans (ev_same _ _ _ (by simp only [sz_put]; omega))))) (ev_same _ _ _ (by simp only [sz_put]; omega)) (by omega) (by omega) wx).trans (by rw [← Int.natCast_add])) ?_
            show SeqI _ _ _ _ _ _ (Act.put _ (some 79) _) _
            refine sI_read (v := (.int .i64 (G : Nat))) rfl (fun _ _ _ h => absurd h.1 (fun e => nomatch e)) (wanted_g (j := 4) rfl rfl rfl ((ev_other _ _ (by decide)).trans ((ev_other _ _ (by decide)).trans ((ev_other _ _ (by decide)).trans ((ev_other _ _ (by decide)).trans ((ev_other _ _ (by decide)).trans ((ev_other _ _ (by decide)).trans ((ev_other _ _ (by decide)).trans ((ev_other _ _ (by decide)).trans (ev_same _ _ _ (by simp only [sz_put]; omega))))))))))) hS (fun wx _ => (run_rem4 (.tmp 79) (.const (.int .i64 4)) rfl (ev_same _ _ _ (by simp only [sz_put]; omega)) rfl (by omega) wx).trans (by rw [← unhide EG])) ?_
            show SeqI _ _ _ _ _ _ (Act.put _ (some 80) _) _
            refine sI_read (v := (.bool false)) rfl (fun _ _ _ h => absurd h.1 (fun e => nomatch e)) (wanted_g (j := 4) rfl rfl rfl ((ev_other _ _ (by decide)).trans ((ev_other _ _ (by decide)).trans ((ev_other _ _ (by decide)).trans ((ev_other _ _ (by decide)).trans ((ev_other _ _ (by decide)).trans ((ev_other _ _ (by decide)).trans ((ev_other _ _ (by decide)).trans ((ev_other _ _ (by decide)).trans ((ev_other _ _ (by decide)).trans (ev_same _ _ _ (by simp only [sz_put]; omega)))))))))))) hS (fun wx _ => run_neI (.tmp 73) (.tmp 80) rfl ((ev_other _ _ (by decide)).trans ((ev_other _ _ (by decide)).trans ((ev_other _ _ (by decide)).trans ((ev_other _ _ (by decide)).trans ((ev_other _ _ (by decide)).trans ((ev_other _ _ (by decide)).trans ((ev_other _ _ (by decide)).trans (ev_same _ _ _ (by simp only [sz_put]; omega))))))))) (ev_same _ _ _ (by simp only [sz_put]; omega)) wx) ?_
            show SeqI _ _ _ _ _ _ (Act.put _ (some 81) _) _
            refine sI_read (v := (.bool false)) rfl (fun _ _ _ h => absurd h.1 (fun e => nomatch e)) (wanted_rd rfl) hS (fun wx _ => run_pickF (.tmp 71) (.const (.bool true)) (.tmp 81) rfl ((ev_other _ _ (by decide)).trans ((ev_other _ _ (by decide)).trans ((ev_other _ _ (by decide)).trans ((ev_other _ _ (by decide)).trans ((ev_other _ _ (by decide)).trans ((ev_other _ _ (by decide)).trans ((ev_other _ _ (by decide)).trans ((ev_other _ _ (by decide)).trans ((ev_other _ _ (by decide)).trans ((ev_other _ _ (by decide)).trans (ev_same _ _ _ (by simp only [sz_put]; omega)))))))))))) (ev_same _ _ _ (by simp only [sz_put]; omega)) wx) ?_
            show SeqI _ _ _ _ _ _ (Act.put _ (some 82) _) _
            refine sI_read (v := (.bool false)) rfl (fun _ _ _ h => absurd h.1 (fun e => nomatch e)) (wanted_rd rfl) hS (fun wx _ => run_move (.tmp 82) rfl (ev_same _ _ _ (by simp only [sz_put]; omega)) wx) ?_
            show SeqI _ _ _ _ _ _ (Act.put _ (some 83) _) _
            refine sI_read (v := (.pointer (some ⟨wr.heap.size, 0 + 4, none⟩))) rfl (fun _ _ _ h => absurd h.1 (fun e => nomatch e)) (wanted_g (j := 16) rfl rfl rfl (ev_same _ _ _ (by simp only [sz_put]; omega))) hS (fun wx _ => run_fldP (.tmp 11) 4 rfl ((ev_other _ _ (by decide)).trans ((ev_other _ _ (by decide)).trans ((ev_other _ _ (by decide)).trans ((ev_other _ _ (by decide)).trans ((ev_other _ _ (by decide)).trans ((ev_other _ _ (by decide)).trans ((ev_other _ _ (by decide)).trans ((ev_other _ _ (by decide)).trans ((ev_other _ _ (by decide)).trans ((ev_other _ _ (by decide)).trans ((ev_other _ _ (by decide)).trans ((ev_other _ _ (by decide)).trans ((ev_other _ _ (by decide)).trans ((ev_other _ _ (by decide)).trans ((ev_other _ _ (by decide)).trans ((ev_other _ _ (by decide)).trans ((ev_other _ _ (by decide)).trans b11))))))))))))))))) (by omega) wx) ?_
            show SeqI _ _ _ _ _ _ (Act.put _ (some 84) _) _
            refine sI_read (v := (.slice xa 220 xc)) rfl (fun _ _ _ h => absurd h.1 (fun e => nomatch e)) (wanted_g (j := 16) rfl rfl rfl ((ev_other _ _ (by decide)).trans (ev_same _ _ _ (by simp only [sz_put]; omega)))) hS (fun wx hx => run_lodS (.tmp 84) rfl (ev_same _ _ _ (by simp only [sz_put]; omega)) hx.1.2.2.2.2) ?_
            show SeqI _ _ _ _ _ _ (Act.put _ (some 85) _) _
            refine sI_read (v := (.string (sB (gF ds) 220))) rfl (fun _ _ _ h => absurd h.1 (fun e => nomatch e)) (wanted_g (j := 16) rfl rfl rfl ((ev_other _ _ (by decide)).trans ((ev_other _ _ (by decide)).trans (ev_same _ _ _ (by simp only [sz_put]; omega))))) hS (fun wx hx => run_convO (.tmp 85) rfl (ev_same _ _ _ (by simp only [sz_put]; omega)) hx.2.2.1) ?_
            show SeqI _ _ _ _ _ _ (Act.put _ (some 86) _) _
            refine sI_read (v := (.slice (some bx) 220 bc)) rfl (fun _ _ _ h => absurd h.1 (fun e => nomatch e)) (wanted_g (j := 16) rfl rfl rfl ((ev_other _ _ (by decide)).trans ((ev_other _ _ (by decide)).trans ((ev_other _ _ (by decide)).trans (ev_same _ _ _ (by simp only [sz_put]; omega)))))) hS (fun wx _ => run_move (.tmp 14) rfl ((ev_other _ _ (by decide)).trans ((ev_other _ _ (by decide)).trans ((ev_other _ _ (by decide)).trans ((ev_other _ _ (by decide)).trans ((ev_other _ _ (by decide)).trans ((ev_other _ _ (by decide)).trans ((ev_other _ _ (by decide)).trans ((ev_other _ _ (by decide)).trans ((ev_other _ _ (by decide)).trans ((ev_other _ _ (by decide)).trans ((ev_other _ _ (by decide)).trans ((ev_other _ _ (by decide)).trans ((ev_other _ _ (by decide)).trans ((ev_other _ _ (by decide)).trans ((ev_other _ _ (by decide)).trans ((ev_other _ _ (by decide)).trans ((ev_other _ _ (by decide)).trans ((ev_other _ _ (by decide)).trans ((ev_other _ _ (by decide)).trans ((ev_other _ _ (by decide)).trans b14)))))))))))))))))))) wx) ?_
            show SeqI _ _ _ _ _ _ (Act.put _ (some 87) _) _
            refine sI_read (v := (.string (sB (gF ds) 220))) rfl (fun _ _ _ h => absurd h.1 (fun e => nomatch e)) (wanted_g (j := 16) rfl rfl rfl ((ev_other _ _ (by decide)).trans ((ev_other _ _ (by decide)).trans ((ev_other _ _ (by decide)).trans ((ev_other _ _ (by decide)).trans (ev_same _ _ _ (by simp only [sz_put]; omega))))))) hS (fun wx hx => run_convO (.tmp 87) rfl (ev_same _ _ _ (by simp only [sz_put]; omega)) hx.2.2.2) ?_
            show SeqI _ _ _ _ _ _ (Act.put _ (some 88) _) _
            refine sI_read (v := (.bool false)) rfl (fun _ _ _ h => absurd h.1 (fun e => nomatch e)) (wanted_g (j := 16) rfl rfl rfl ((ev_other _ _ (by decide)).trans ((ev_other _ _ (by decide)).trans ((ev_other _ _ (by decide)).trans ((ev_other _ _ (by decide)).trans ((ev_other _ _ (by decide)).trans (ev_same _ _ _ (by simp only [sz_put]; omega)))))))) hS (fun wx _ => run_neqSF (.tmp 86) (.tmp 88) rfl ((ev_other _ _ (by decide)).trans ((ev_other _ _ (by decide)).trans (ev_same _ _ _ (by simp only [sz_put]; omega)))) (ev_same _ _ _ (by simp only [sz_put]; omega)) rfl wx) ?_
            show SeqI _ _ _ _ _ _ (Act.put _ (some 89) _) _
            refine sI_read (v := (.bool false)) rfl (fun _ _ _ h => absurd h.1 (fun e => nomatch e)) (wanted_rd rfl) hS (fun wx _ => run_pickF (.tmp 83) (.const (.bool true)) (.tmp 89) rfl ((ev_other _ _ (by decide)).trans ((ev_other _ _ (by decide)).trans ((ev_other _ _ (by decide)).trans ((ev_other _ _ (by decide)).trans ((ev_other _ _ (by decide)).trans ((ev_other _ _ (by decide)).trans (ev_same _ _ _ (by simp only [sz_put]; omega)))))))) (ev_same _ _ _ (by simp only [sz_put]; omega)) wx) ?_
            show SeqI _ _ _ _ _ _ (Act.put _ (some 90) _) _
            refine sI_read (v := (.bool false)) rfl (fun _ _ _ h => absurd h.1 (fun e => nomatch e)) (wanted_rd rfl) hS (fun wx _ => run_move (.tmp 90) rfl (ev_same _ _ _ (by simp only [sz_put]; omega)) wx) ?_
            show SeqI _ _ _ _ _ _ (Act.put _ (some 91) _) _
            refine sI_read (v := (.pointer (some ⟨wr.heap.size, 0 + 2, none⟩))) rfl (fun _ _ _ h => absurd h.1 (fun e => nomatch e)) (wanted_g (j := 24) rfl rfl rfl (ev_same _ _ _ (by simp only [sz_put]; omega))) hS (fun wx _ => run_fldP (.tmp 11) 2 rfl ((ev_other _ _ (by decide)).trans ((ev_other _ _ (by decide)).trans ((ev_other _ _ (by decide)).trans ((ev_other _ _ (by decide)).trans ((ev_other _ _ (by decide)).trans ((ev_other _ _ (by decide)).trans ((ev_other _ _ (by decide)).trans ((ev_other _ _ (by decide)).trans ((ev_other _ _ (by decide)).trans ((ev_other _ _ (by decide)).trans ((ev_other _ _ (by decide)).trans ((ev_other _ _ (by decide)).trans ((ev_other _ _ (by decide)).trans ((ev_other _ _ (by decide)).trans ((ev_other _ _ (by decide)).trans ((ev_other _ _ (by decide)).trans ((ev_other _ _ (by decide)).trans ((ev_other _ _ (by decide)).trans ((ev_other _ _ (by decide)).trans ((ev_other _ _ (by decide)).trans ((ev_other _ _ (by decide)).trans ((ev_other _ _ (by decide)).trans ((ev_other _ _ (by decide)).trans ((ev_other _ _ (by decide)).trans ((ev_other _ _ (by decide)).trans b11))))))))))))))))))))))))) (by omega) wx) ?_
            show SeqI _ _ _ _ _ _ (Act.put _ (some 92) _) _
            refine sI_read (v := (.int .i64 (E : Nat))) rfl (fun _ _ _ h => absurd h.1 (fun e => nomatch e)) (wanted_g (j := 24) rfl rfl rfl ((ev_other _ _ (by decide)).trans (ev_same _ _ _ (by simp only [sz_put]; omega)))) hS (fun wx hx => run_lodN (.tmp 92) rfl (ev_same _ _ _ (by simp only [sz_put]; omega)) hx.1.2.2.1) ?_
            show SeqI _ _ _ _ _ _ (Act.put _ (some 93) _) _
            refine sI_read (v := (.pointer (some ⟨wr.heap.size + 1, 0 + 2, none⟩))) rfl (fun _ _ _ h => absurd h.1 (fun e => nomatch e)) (wanted_g (j := 24) rfl rfl rfl ((ev_other _ _ (by decide)).trans ((ev_other _ _ (by decide)).trans (ev_same _ _ _ (by simp only [sz_put]; omega))))) hS (fun wx _ => run_fldL (.tmp 12) 2 rfl ((ev_other _ _ (by decide)).trans ((ev_other _ _ (by decide)).trans ((ev_other _ _ (by decide)).trans ((ev_other _ _ (by decide)).trans ((ev_other _ _ (by decide)).trans ((ev_other _ _ (by decide)).trans ((ev_other _ _ (by decide)).trans ((ev_other _ _ (by decide)).trans ((ev_other _ _ (by decide)).trans ((ev_other _ _ (by decide)).trans ((ev_other _ _ (by decide)).trans ((ev_other _ _ (by decide)).trans ((ev_other _ _ (by decide)).trans ((ev_other _ _ (by decide)).trans ((ev_other _ _ (by decide)).trans ((ev_other _ _ (by decide)).trans ((ev_other _ _ (by decide)).trans ((ev_other _ _ (by decide)).trans ((ev_other _ _ (by decide)).trans ((ev_other _ _ (by decide)).trans ((ev_other _ _ (by decide)).trans ((ev_other _ _ (by decide)).trans ((ev_other _ _ (by decide)).trans ((ev_other _ _ (by decide)).trans ((ev_other _ _ (by decide)).trans ((ev_other _ _ (by decide)).trans ((ev_other _ _ (by decide)).trans b12))))))))))))))))))))))))))) (by omega) wx) ?_
            show SeqI _ _ _ _ _ _ (Act.put _ (some 94) _) _
            refine sI_read (v := (.int .i64 dl)) rfl (fun _ _ _ h => absurd h.1 (fun e => nomatch e)) (wanted_g (j := 24) rfl rfl rfl ((ev_other _ _ (by decide)).trans ((ev_other _ _ (by decide)).trans ((ev_other _ _ (by decide)).trans (ev_same _ _ _ (by simp only [sz_put]; omega)))))) hS (fun wx hx => run_lodN (.tmp 94) rfl (ev_same _ _ _ (by simp only [sz_put]; omega)) hx.2.1.2.2.1) ?_
            show SeqI _ _ _ _ _ _ (Act.put _ (some 95) _) _
            refine sI_do rfl (wanted_g (j := 24) rfl rfl rfl ((ev_other _ _ (by decide)).trans ((ev_other _ _ (by decide)).trans ((ev_other _ _ (by decide)).trans ((ev_other _ _ (by decide)).trans (ev_same _ _ _ (by simp only [sz_put]; omega))))))) (fun K hK => ?_)
            refine wp_call2 _ 23 (.tmp 95) (.const (.int .i64 1001)) _ rfl (ev_same _ _ _ (by simp only [sz_put]; omega)) rfl (enter_spot _ _ _) (spF_any dl 1001 (by omega) (by omega) _) ?_
            rw [← unhide ED]
            rintro e wq ⟨rfl, hq⟩
            obtain rfl : wb.drew = wq := hq.symm
            refine ⟨_, rfl, ?_⟩
            refine hK _ _ (fun _ => hS) ?_
            clear hK K
            show SeqI _ _ _ _ _ _ (Act.put _ (some 96) _) _
            refine sI_read (v := (.bool false)) rfl (fun _ _ _ h => absurd h.1 (fun e => nomatch e)) (wanted_g (j := 24) rfl rfl rfl ((ev_other _ _ (by decide)).trans ((ev_other _ _ (by decide)).trans ((ev_other _ _ (by decide)).trans ((ev_other _ _ (by decide)).trans ((ev_other _ _ (by decide)).trans (ev_same _ _ _ (by simp only [sz_put]; omega)))))))) hS (fun wx _ => run_neI (.tmp 93) (.tmp 96) rfl ((ev_other _ _ (by decide)).trans ((ev_other _ _ (by decide)).trans ((ev_other _ _ (by decide)).trans (ev_same _ _ _ (by simp only [sz_put]; omega))))) (ev_same _ _ _ (by simp only [sz_put]; omega)) wx) ?_
            show SeqI _ _ _ _ _ _ (Act.put _ (some 97) _) _
            refine sI_read (v := (.bool false)) rfl (fun _ _ _ h => absurd h.1 (fun e => nomatch e)) (wanted_rd rfl) hS (fun wx _ => run_pickF (.tmp 91) (.const (.bool true)) (.tmp 97) rfl ((ev_other _ _ (by decide)).trans ((ev_other _ _ (by decide)).trans ((ev_other _ _ (by decide)).trans ((ev_other _ _ (by decide)).trans ((ev_other _ _ (by decide)).trans ((ev_other _ _ (by decide)).trans (ev_same _ _ _ (by simp only [sz_put]; omega)))))))) (ev_same _ _ _ (by simp only [sz_put]; omega)) wx) ?_
            show SeqI _ _ _ _ _ _ (Act.put _ (some 98) _) _
            exact sI_end ⟨rfl, below_drew (unhide KW2), rfl⟩
          case rest =>
            rintro a' w6 ⟨k6, rfl⟩
            have K6 := hide k6
            clear k6
            go_frame
            go_wp2_with fail
            go_roundw
            case rel => exact ⟨i + 1, by omega, by go_num, unhide K6⟩
            case measure => simp [intOf] <;> omega
        · have hl2' : ¬ (220 : Int) < (ds.length : Nat) := by omega
          have et : dt = ds := by rw [unhide EDT]; exact List.take_of_length_le (by omega)
          obtain rfl : m2 = ds.length := by rw [unhide EM2, et]
          have HS2 := hide (show PcAt wb.drew wr.heap.size 0 ⟨(F : Nat), (G : Nat), (E : Nat), (j : Nat), dt⟩ (.slice xa ds.length xc) ∧ LdAt wb.drew (wr.heap.size + 1) 0 ⟨fr, to, dl, ds, ba, bc⟩ ∧ Rd wb.drew xa ds.length (bF (gF ds)) ∧ Rd wb.drew ba ds.length (bF (gF ds)) from ⟨unhide HXX, unhide HLL, (show Rd wb xa ds.length (bF (gF ds)) by have h := (unhide SX).rd; rw [et] at h; exact h), (show Rd wb ba ds.length (bF (gF ds)) from (unhide SL).rd)⟩)
          clear et
          go_wp2_with fail
          rw [← unhide EA, ← unhide EB]
          refine (spF_any fr 4 (by omega) (by omega) _).mono ?_
          rw [← unhide EF]
          rintro e w2 ⟨rfl, hw2⟩
          obtain rfl : wb = w2 := hw2.symm
          rw [unhide EB, unhide EA]
          go_wp2_with fail
          rw [← unhide EA, ← unhide EB]
          clear d0 d1 d2 d3 d4 y0 y1 y2 y3 f0 f1 f2 f3 f4 ll0 ll1 ll2 ll3 EA EB
          refine wp_leaves (fun a0 a' w' => Below w9.heap.size w9 w' ∧ a' = ((((((((((((((((((((((((((((((((a0.put (some 67) (.pointer (some ⟨wr.heap.size, 0 + 0, none⟩))).put (some 68) (.int .i64 (F : Nat))).put (some 69) (.int .i64 (F : Nat))).put (some 70) (.bool false)).put (some 71) (.bool false)).put (some 72) (.pointer (some ⟨wr.heap.size, 0 + 1, none⟩))).put (some 73) (.int .i64 (G : Nat))).put (some 74) (.int .i64 (F : Nat))).put (some 75) (.int .i64 (F + 1 : Nat))).put (some 76) (.pointer (some ⟨wr.heap.size + 1, 0 + 1, none⟩))).put (some 77) (.int .i64 to)).put (some 78) (.int .i64 (Tt : Nat))).put (some 79) (.int .i64 (F + 1 + Tt : Nat))).put (some 80) (.int .i64 (G : Nat))).put (some 81) (.bool false)).put (some 82) (.bool false)).put (some 83) (.bool false)).put (some 84) (.pointer (some ⟨wr.heap.size, 0 + 4, none⟩))).put (some 85) (.slice xa ds.length xc)).put (some 86) (.string (sB (gF ds) ds.length))).put (some 87) (.slice ba ds.length bc)).put (some 88) (.string (sB (gF ds) ds.length))).put (some 89) (.bool false)).put (some 90) (.bool false)).put (some 91) (.bool false)).put (some 92) (.pointer (some ⟨wr.heap.size, 0 + 2, none⟩))).put (some 93) (.int .i64 (E : Nat))).put (some 94) (.pointer (some ⟨wr.heap.size + 1, 0 + 2, none⟩))).put (some 95) (.int .i64 dl)).put (some 96) (.int .i64 (E : Nat))).put (some 97) (.bool false)).put (some 98) (.bool false))) ?reg ?rest
          case reg =>
            intro A eA
            have b11 : A.eval (.tmp 11) = .pointer (some ⟨wr.heap.size, 0, none⟩) := by rw [eA]; rfl
            have b12 : A.eval (.tmp 12) = .pointer (some ⟨wr.heap.size + 1, 0, none⟩) := by rw [eA]; rfl
            have b13 : A.eval (.tmp 13) = .int .i64 (F : Nat) := by rw [eA]; rfl
            have b14 : A.eval (.tmp 14) = .slice ba ds.length bc := by rw [eA]; rfl
            have hs : 100 ≤ A.tmps.size := by rw [eA]; exact of_decide_eq_true rfl
            clear eA
            have hS : PcAt wb.drew wr.heap.size 0 ⟨(F : Nat), (G : Nat), (E : Nat), (j : Nat), dt⟩ (.slice xa ds.length xc) ∧ LdAt wb.drew (wr.heap.size + 1) 0 ⟨fr, to, dl, ds, ba, bc⟩ ∧ Rd wb.drew xa ds.length (bF (gF ds)) ∧ Rd wb.drew ba ds.length (bF (gF ds)) := unhide HS2
            refine region_I (S := fun W => PcAt W wr.heap.size 0 ⟨(F : Nat), (G : Nat), (E : Nat), (j : Nat), dt⟩ (.slice xa ds.length xc) ∧ LdAt W (wr.heap.size + 1) 0 ⟨fr, to, dl, ds, ba, bc⟩ ∧ Rd W xa ds.length (bF (gF ds)) ∧ Rd W ba ds.length (bF (gF ds))) (.rd 0 (.rd 1 (.rd 2 (.rd 3 (.rd 4 (.rd 5 (.rd 6 (.rd 7 (.rd 8 (.rd 9 (.rd 10 (.go 11 (.rd 12 (.rd 13 (.rd 14 (.rd 15 (.rd 16 (.rd 17 (.rd 18 (.rd 19 (.rd 20 (.rd 21 (.rd 22 (.rd 23 (.rd 24 (.rd 25 (.rd 26 (.rd 27 (.rd 28 (.go 29 (.rd 30 (.rd 31 .fin)))))))))))))))))))))))))))))))) [] (by kernel_rfl) (by kernel_rfl) ?_
            refine sI_read (v := (.pointer (some ⟨wr.heap.size, 0 + 0, none⟩))) rfl (fun _ _ _ h => absurd h.1 (fun e => nomatch e)) (wanted_rd rfl) hS (fun wx _ => run_fldP (.tmp 11) 0 rfl b11 (by omega) wx) ?_
            show SeqI _ _ _ _ _ _ (Act.put _ (some 67) _) _
            refine sI_read (v := (.int .i64 (F : Nat))) rfl (fun _ _ _ h => absurd h.1 (fun e => nomatch e)) (wanted_rd rfl) hS (fun wx hx => run_lodN (.tmp 67) rfl (ev_same _ _ _ (by omega)) hx.1.1) ?_
            show SeqI _ _ _ _ _ _ (Act.put _ (some 68) _) _
            refine sI_read (v := (.int .i64 (F : Nat))) rfl (fun _ _ _ h => absurd h.1 (fun e => nomatch e)) (wanted_rd rfl) hS (fun wx _ => run_move (.tmp 13) rfl ((ev_other _ _ (by decide)).trans ((ev_other _ _ (by decide)).trans b13)) wx) ?_
            show SeqI _ _ _ _ _ _ (Act.put _ (some 69) _) _
            refine sI_read (v := (.bool false)) rfl (fun _ _ _ h => absurd h.1 (fun e => nomatch e)) (wanted_rd rfl) hS (fun wx _ => run_neI (.tmp 68) (.tmp 69) rfl ((ev_other _ _ (by decide)).trans (ev_same _ _ _ (by simp only [sz_put]; omega))) (ev_same _ _ _ (by simp only [sz_put]; omega)) wx) ?_
            show SeqI _ _ _ _ _ _ (Act.put _ (some 70) _) _
            refine sI_read (v := (.bool false)) rfl (fun _ _ _ h => absurd h.1 (fun e => nomatch e)) (wanted_rd rfl) hS (fun wx _ => run_move (.tmp 70) rfl (ev_same _ _ _ (by simp only [sz_put]; omega)) wx) ?_
            show SeqI _ _ _ _ _ _ (Act.put _ (some 71) _) _
            refine sI_read (v := (.pointer (some ⟨wr.heap.size, 0 + 1, none⟩))) rfl (fun _ _ _ h => absurd h.1 (fun e => nomatch e)) (wanted_g (j := 4) rfl rfl rfl (ev_same _ _ _ (by simp only [sz_put]; omega))) hS (fun wx _ => run_fldP (.tmp 11) 1 rfl ((ev_other _ _ (by decide)).trans ((ev_other _ _ (by decide)).trans ((ev_other _ _ (by decide)).trans ((ev_other _ _ (by decide)).trans ((ev_other _ _ (by decide)).trans b11))))) (by omega) wx) ?_
            show SeqI _ _ _ _ _ _ (Act.put _ (some 72) _) _
            refine sI_read (v := (.int .i64 (G : Nat))) rfl (fun _ _ _ h => absurd h.1 (fun e => nomatch e)) (wanted_g (j := 4) rfl rfl rfl ((ev_other _ _ (by decide)).trans (ev_same _ _ _ (by simp only [sz_put]; omega)))) hS (fun wx hx => run_lodN (.tmp 72) rfl (ev_same _ _ _ (by simp only [sz_put]; omega)) hx.1.2.1) ?_
            show SeqI _ _ _ _ _ _ (Act.put _ (some 73) _) _
            refine sI_read (v := (.int .i64 (F : Nat))) rfl (fun _ _ _ h => absurd h.1 (fun e => nomatch e)) (wanted_g (j := 4) rfl rfl rfl ((ev_other _ _ (by decide)).trans ((ev_other _ _ (by decide)).trans (ev_same _ _ _ (by simp only [sz_put]; omega))))) hS (fun wx _ => run_move (.tmp 13) rfl ((ev_other _ _ (by decide)).trans ((ev_other _ _ (by decide)).trans ((ev_other _ _ (by decide)).trans ((ev_other _ _ (by decide)).trans ((ev_other _ _ (by decide)).trans ((ev_other _ _ (by decide)).trans ((ev_other _ _ (by decide)).trans b13))))))) wx) ?_
            show SeqI _ _ _ _ _ _ (Act.put _ (some 74) _) _
            refine sI_read (v := (.int .i64 (F + 1 : Nat))) rfl (fun _ _ _ h => absurd h.1 (fun e => nomatch e)) (wanted_g (j := 4) rfl rfl rfl ((ev_other _ _ (by decide)).trans ((ev_other _ _ (by decide)).trans ((ev_other _ _ (by decide)).trans (ev_same _ _ _ (by simp only [sz_put]; omega)))))) hS (fun wx _ => (run_addP (.tmp 74) (.const (.int .i64 1)) rfl (ev_same _ _ _ (by simp only [sz_put]; omega)) rfl (by omega) (by omega) wx).trans (by rw [Int.natCast_add]; rfl)) ?_
            show SeqI _ _ _ _ _ _ (Act.put _ (some 75) _) _
            refine sI_read (v := (.pointer (some ⟨wr.heap.size + 1, 0 + 1, none⟩))) rfl (fun _ _ _ h => absurd h.1 (fun e => nomatch e)) (wanted_g (j := 4) rfl rfl rfl ((ev_other _ _ (by decide)).trans ((ev_other _ _ (by decide)).trans ((ev_other _ _ (by decide)).trans ((ev_other _ _ (by decide)).trans (ev_same _ _ _ (by simp only [sz_put]; omega))))))) hS (fun wx _ => run_fldL (.tmp 12) 1 rfl ((ev_other _ _ (by decide)).trans ((ev_other _ _ (by decide)).trans ((ev_other _ _ (by decide)).trans ((ev_other _ _ (by decide)).trans ((ev_other _ _ (by decide)).trans ((ev_other _ _ (by decide)).trans ((ev_other _ _ (by decide)).trans ((ev_other _ _ (by decide)).trans ((ev_other _ _ (by decide)).trans b12))))))))) (by omega) wx) ?_
            show SeqI _ _ _ _ _ _ (Act.put _ (some 76) _) _
            refine sI_read (v := (.int .i64 to)) rfl (fun _ _ _ h => absurd h.1 (fun e => nomatch e)) (wanted_g (j := 4) rfl rfl rfl ((ev_other _ _ (by decide)).trans ((ev_other _ _ (by decide)).trans ((ev_other _ _ (by decide)).trans ((ev_other _ _ (by decide)).trans ((ev_other _ _ (by decide)).trans (ev_same _ _ _ (by simp only [sz_put]; omega)))))))) hS (fun wx hx => run_lodN (.tmp 76) rfl (ev_same _ _ _ (by simp only [sz_put]; omega)) hx.2.1.2.1) ?_
            show SeqI _ _ _ _ _ _ (Act.put _ (some 77) _) _
            refine sI_do rfl (wanted_g (j := 4) rfl rfl rfl ((ev_other _ _ (by decide)).trans ((ev_other _ _ (by decide)).trans ((ev_other _ _ (by decide)).trans ((ev_other _ _ (by decide)).trans ((ev_other _ _ (by decide)).trans ((ev_other _ _ (by decide)).trans (ev_same _ _ _ (by simp only [sz_put]; omega))))))))) (fun K hK => ?_)
            refine wp_call2 _ 23 (.tmp 77) (.const (.int .i64 3)) _ rfl (ev_same _ _ _ (by simp only [sz_put]; omega)) rfl (enter_spot _ _ _) (spF_any to 3 (by omega) (by omega) _) ?_
            rw [← unhide ETt]
            rintro e wq ⟨rfl, hq⟩
            obtain rfl : wb.drew = wq := hq.symm
            refine ⟨_, rfl, ?_⟩
            refine hK _ _ (fun _ => hS) ?_
            clear hK K
            show SeqI _ _ _ _ _ _ (Act.put _ (some 78) _) _
            refine sI_read (v := (.int .i64 (F + 1 + Tt : Nat))) rfl (fun _ _ _ h => absurd h.1 (fun e => nomatch e)) (wanted_g (j := 4) rfl rfl rfl ((ev_other _ _ (by decide)).trans ((ev_other _ _ (by decide)).trans ((ev_other _ _ (by decide)).trans ((ev_other _ _ (by decide)).trans ((ev_other _ _ (by decide)).trans ((ev_other _ _ (by decide)).trans ((ev_other _ _ (by decide)).trans (ev_same _ _ _ (by simp only [sz_put]; omega)))))))))) hS (fun wx _ => (run_addP (.tmp 75) (.tmp 78) rfl ((ev_other _ _ (by decide)).trans ((ev_other _ _ (by decide)).trans ((ev_other _ _ (by decide)).trans (ev_same _ _ _ (by simp only [sz_put]; omega))))) (ev_same _ _ _ (by simp only [sz_put]; omega)) (by omega) (by omega) wx).trans (by rw [← Int.natCast_add])) ?_
            show SeqI _ _ _ _ _ _ (Act.put _ (some 79) _) _
            refine sI_read (v := (.int .i64 (G : Nat))) rfl (fun _ _ _ h => absurd h.1 (fun e => nomatch e)) (wanted_g (j := 4) rfl rfl rfl ((ev_other _ _ (by decide)).trans ((ev_other _ _ (by decide)).trans ((ev_other _ _ (by decide)).trans ((ev_other _ _ (by decide)).trans ((ev_other _ _ (by decide)).trans ((ev_other _ _ (by decide)).trans ((ev_other _ _ (by decide)).trans ((ev_other _ _ (by decide)).trans (ev_same _ _ _ (by simp only [sz_put]; omega))))))))))) hS (fun wx _ => (run_rem4 (.tmp 79) (.const (.int .i64 4)) rfl (ev_same _ _ _ (by simp only [sz_put]; omega)) rfl (by omega) wx).trans (by rw [← unhide EG])) ?_
            show SeqI _ _ _ _ _ _ (Act.put _ (some 80) _) _
            refine sI_read (v := (.bool false)) rfl (fun _ _ _ h => absurd h.1 (fun e => nomatch e)) (wanted_g (j := 4) rfl rfl rfl ((ev_other _ _ (by decide)).trans ((ev_other _ _ (by decide)).trans ((ev_other _ _ (by decide)).trans ((ev_other _ _ (by decide)).trans ((ev_other _ _ (by decide)).trans ((ev_other _ _ (by decide)).trans ((ev_other _ _ (by decide)).trans ((ev_other _ _ (by decide)).trans ((ev_other _ _ (by decide)).trans (ev_same _ _ _ (by simp only [sz_put]; omega)))))))))))) hS (fun wx _ => run_neI (.tmp 73) (.tmp 80) rfl ((ev_other _ _ (by decide)).trans ((ev_other _ _ (by decide)).trans ((ev_other _ _ (by decide)).trans ((ev_other _ _ (by decide)).trans ((ev_other _ _ (by decide)).trans ((ev_other _ _ (by decide)).trans ((ev_other _ _ (by decide)).trans (ev_same _ _ _ (by simp only [sz_put]; omega))))))))) (ev_same _ _ _ (by simp only [sz_put]; omega)) wx) ?_
            show SeqI _ _ _ _ _ _ (Act.put _ (some 81) _) _
            refine sI_read (v := (.bool false)) rfl (fun _ _ _ h => absurd h.1 (fun e => nomatch e)) (wanted_rd rfl) hS (fun wx _ => run_pickF (.tmp 71) (.const (.bool true)) (.tmp 81) rfl ((ev_other _ _ (by decide)).trans ((ev_other _ _ (by decide)).trans ((ev_other _ _ (by decide)).trans ((ev_other _ _ (by decide)).trans ((ev_other _ _ (by decide)).trans ((ev_other _ _ (by decide)).trans ((ev_other _ _ (by decide)).trans ((ev_other _ _ (by decide)).trans ((ev_other _ _ (by decide)).trans ((ev_other _ _ (by decide)).trans (ev_same _ _ _ (by simp only [sz_put]; omega)))))))))))) (ev_same _ _ _ (by simp only [sz_put]; omega)) wx) ?_
            show SeqI _ _ _ _ _ _ (Act.put _ (some 82) _) _
            refine sI_read (v := (.bool false)) rfl (fun _ _ _ h => absurd h.1 (fun e => nomatch e)) (wanted_rd rfl) hS (fun wx _ => run_move (.tmp 82) rfl (ev_same _ _ _ (by simp only [sz_put]; omega)) wx) ?_
            show SeqI _ _ _ _ _ _ (Act.put _ (some 83) _) _
            refine sI_read (v := (.pointer (some ⟨wr.heap.size, 0 + 4, none⟩))) rfl (fun _ _ _ h => absurd h.1 (fun e => nomatch e)) (wanted_g (j := 16) rfl rfl rfl (ev_same _ _ _ (by simp only [sz_put]; omega))) hS (fun wx _ => run_fldP (.tmp 11) 4 rfl ((ev_other _ _ (by decide)).trans ((ev_other _ _ (by decide)).trans ((ev_other _ _ (by decide)).trans ((ev_other _ _ (by decide)).trans ((ev_other _ _ (by decide)).trans ((ev_other _ _ (by decide)).trans ((ev_other _ _ (by decide)).trans ((ev_other _ _ (by decide)).trans ((ev_other _ _ (by decide)).trans ((ev_other _ _ (by decide)).trans ((ev_other _ _ (by decide)).trans ((ev_other _ _ (by decide)).trans ((ev_other _ _ (by decide)).trans ((ev_other _ _ (by decide)).trans ((ev_other _ _ (by decide)).trans ((ev_other _ _ (by decide)).trans ((ev_other _ _ (by decide)).trans b11))))))))))))))))) (by omega) wx) ?_
            show SeqI _ _ _ _ _ _ (Act.put _ (some 84) _) _
            refine sI_read (v := (.slice xa ds.length xc)) rfl (fun _ _ _ h => absurd h.1 (fun e => nomatch e)) (wanted_g (j := 16) rfl rfl rfl ((ev_other _ _ (by decide)).trans (ev_same _ _ _ (by simp only [sz_put]; omega)))) hS (fun wx hx => run_lodS (.tmp 84) rfl (ev_same _ _ _ (by simp only [sz_put]; omega)) hx.1.2.2.2.2) ?_
            show SeqI _ _ _ _ _ _ (Act.put _ (some 85) _) _
            refine sI_read (v := (.string (sB (gF ds) ds.length))) rfl (fun _ _ _ h => absurd h.1 (fun e => nomatch e)) (wanted_g (j := 16) rfl rfl rfl ((ev_other _ _ (by decide)).trans ((ev_other _ _ (by decide)).trans (ev_same _ _ _ (by simp only [sz_put]; omega))))) hS (fun wx hx => run_convO (.tmp 85) rfl (ev_same _ _ _ (by simp only [sz_put]; omega)) hx.2.2.1) ?_
            show SeqI _ _ _ _ _ _ (Act.put _ (some 86) _) _
            refine sI_read (v := (.slice ba ds.length bc)) rfl (fun _ _ _ h => absurd h.1 (fun e => nomatch e)) (wanted_g (j := 16) rfl rfl rfl ((ev_other _ _ (by decide)).trans ((ev_other _ _ (by decide)).trans ((ev_other _ _ (by decide)).trans (ev_same _ _ _ (by simp only [sz_put]; omega)))))) hS (fun wx _ => run_move (.tmp 14) rfl ((ev_other _ _ (by decide)).trans ((ev_other _ _ (by decide)).trans ((ev_other _ _ (by decide)).trans ((ev_other _ _ (by decide)).trans ((ev_other _ _ (by decide)).trans ((ev_other _ _ (by decide)).trans ((ev_other _ _ (by decide)).trans ((ev_other _ _ (by decide)).trans ((ev_other _ _ (by decide)).trans ((ev_other _ _ (by decide)).trans ((ev_other _ _ (by decide)).trans ((ev_other _ _ (by decide)).trans ((ev_other _ _ (by decide)).trans ((ev_other _ _ (by decide)).trans ((ev_other _ _ (by decide)).trans ((ev_other _ _ (by decide)).trans ((ev_other _ _ (by decide)).trans ((ev_other _ _ (by decide)).trans ((ev_other _ _ (by decide)).trans ((ev_other _ _ (by decide)).trans b14)))))))))))))))))))) wx) ?_
            show SeqI _ _ _ _ _ _ (Act.put _ (some 87) _) _
            refine sI_read (v := (.string (sB (gF ds) ds.length))) rfl (fun _ _ _ h => absurd h.1 (fun e => nomatch e)) (wanted_g (j := 16) rfl rfl rfl ((ev_other _ _ (by decide)).trans ((ev_other _ _ (by decide)).trans ((ev_other _ _ (by decide)).trans ((ev_other _ _ (by decide)).trans (ev_same _ _ _ (by simp only [sz_put]; omega))))))) hS (fun wx hx => run_convO (.tmp 87) rfl (ev_same _ _ _ (by simp only [sz_put]; omega)) hx.2.2.2) ?_
            show SeqI _ _ _ _ _ _ (Act.put _ (some 88) _) _
            refine sI_read (v := (.bool false)) rfl (fun _ _ _ h => absurd h.1 (fun e => nomatch e)) (wanted_g (j := 16) rfl rfl rfl ((ev_other _ _ (by decide)).trans ((ev_other _ _ (by decide)).trans ((ev_other _ _ (by decide)).trans ((ev_other _ _ (by decide)).trans ((ev_other _ _ (by decide)).trans (ev_same _ _ _ (by simp only [sz_put]; omega)))))))) hS (fun wx _ => run_neqSF (.tmp 86) (.tmp 88) rfl ((ev_other _ _ (by decide)).trans ((ev_other _ _ (by decide)).trans (ev_same _ _ _ (by simp only [sz_put]; omega)))) (ev_same _ _ _ (by simp only [sz_put]; omega)) rfl wx) ?_
            show SeqI _ _ _ _ _ _ (Act.put _ (some 89) _) _
            refine sI_read (v := (.bool false)) rfl (fun _ _ _ h => absurd h.1 (fun e => nomatch e)) (wanted_rd rfl) hS (fun wx _ => run_pickF (.tmp 83) (.const (.bool true)) (.tmp 89) rfl ((ev_other _ _ (by decide)).trans ((ev_other _ _ (by decide)).trans ((ev_other _ _ (by decide)).trans ((ev_other _ _ (by decide)).trans ((ev_other _ _ (by decide)).trans ((ev_other _ _ (by decide)).trans (ev_same _ _ _ (by simp only [sz_put]; omega)))))))) (ev_same _ _ _ (by simp only [sz_put]; omega)) wx) ?_
            show SeqI _ _ _ _ _ _ (Act.put _ (some 90) _) _
            refine sI_read (v := (.bool false)) rfl (fun _ _ _ h => absurd h.1 (fun e => nomatch e)) (wanted_rd rfl) hS (fun wx _ => run_move (.tmp 90) rfl (ev_same _ _ _ (by simp only [sz_put]; omega)) wx) ?_
            show SeqI _ _ _ _ _ _ (Act.put _ (some 91) _) _
            refine sI_read (v := (.pointer (some ⟨wr.heap.size, 0 + 2, none⟩))) rfl (fun _ _ _ h => absurd h.1 (fun e => nomatch e)) (wanted_g (j := 24) rfl rfl rfl (ev_same _ _ _ (by simp only [sz_put]; omega))) hS (fun wx _ => run_fldP (.tmp 11) 2 rfl ((ev_other _ _ (by decide)).trans ((ev_other _ _ (by decide)).trans ((ev_other _ _ (by decide)).trans ((ev_other _ _ (by decide)).trans ((ev_other _ _ (by decide)).trans ((ev_other _ _ (by decide)).trans ((ev_other _ _ (by decide)).trans ((ev_other _ _ (by decide)).trans ((ev_other _ _ (by decide)).trans ((ev_other _ _ (by decide)).trans ((ev_other _ _ (by decide)).trans ((ev_other _ _ (by decide)).trans ((ev_other _ _ (by decide)).trans ((ev_other _ _ (by decide)).trans ((ev_other _ _ (by decide)).trans ((ev_other _ _ (by decide)).trans ((ev_other _ _ (by decide)).trans ((ev_other _ _ (by decide)).trans ((ev_other _ _ (by decide)).trans ((ev_other _ _ (by decide)).trans ((ev_other _ _ (by decide)).trans ((ev_other _ _ (by decide)).trans ((ev_other _ _ (by decide)).trans ((ev_other _ _ (by decide)).trans ((ev_other _ _ (by decide)).trans b11))))))))))))))))))))))))) (by omega) wx) ?_
            show SeqI _ _ _ _ _ _ (Act.put _ (some 92) _) _
            refine sI_read (v := (.int .i64 (E : Nat))) rfl (fun _ _ _ h => absurd h.1 (fun e => nomatch e)) (wanted_g (j := 24) rfl rfl rfl ((ev_other _ _ (by decide)).trans (ev_same _ _ _ (by simp only [sz_put]; omega)))) hS (fun wx hx => run_lodN (.tmp 92) rfl (ev_same _ _ _ (by simp only [sz_put]; omega)) hx.1.2.2.1) ?_
            show SeqI _ _ _ _ _ _ (Act.put _ (some 93) _) _
            refine sI_read (v := (.pointer (some ⟨wr.heap.size + 1, 0 + 2, none⟩))) rfl (fun _ _ _ h => absurd h.1 (fun e => nomatch e)) (wanted_g (j := 24) rfl rfl rfl ((ev_other _ _ (by decide)).trans ((ev_other _ _ (by decide)).trans (ev_same _ _ _ (by simp only [sz_put]; omega))))) hS (fun wx _ => run_fldL (.tmp 12) 2 rfl ((ev_other _ _ (by decide)).trans ((ev_other _ _ (by decide)).trans ((ev_other _ _ (by decide)).trans ((ev_other _ _ (by decide)).trans ((ev_other _ _ (by decide)).trans ((ev_other _ _ (by decide)).trans ((ev_other _ _ (by decide)).trans ((ev_other _ _ (by decide)).trans ((ev_other _ _ (by decide)).trans ((ev_other _ _ (by decide)).trans ((ev_other _ _ (by decide)).trans ((ev_other _ _ (by decide)).trans ((ev_other _ _ (by decide)).trans ((ev_other _ _ (by decide)).trans ((ev_other _ _ (by decide)).trans ((ev_other _ _ (by decide)).trans ((ev_other _ _ (by decide)).trans ((ev_other _ _ (by decide)).trans ((ev_other _ _ (by decide)).trans ((ev_other _ _ (by decide)).trans ((ev_other _ _ (by decide)).trans ((ev_other _ _ (by decide)).trans ((ev_other _ _ (by decide)).trans ((ev_other _ _ (by decide)).trans ((ev_other _ _ (by decide)).trans ((ev_other _ _ (by decide)).trans ((ev_other _ _ (by decide)).trans b12))))))))))))))))))))))))))) (by omega) wx) ?_
            show SeqI _ _ _ _ _ _ (Act.put _ (some 94) _) _
            refine sI_read (v := (.int .i64 dl)) rfl (fun _ _ _ h => absurd h.1 (fun e => nomatch e)) (wanted_g (j := 24) rfl rfl rfl ((ev_other _ _ (by decide)).trans ((ev_other _ _ (by decide)).trans ((ev_other _ _ (by decide)).trans (ev_same _ _ _ (by simp only [sz_put]; omega)))))) hS (fun wx hx => run_lodN (.tmp 94) rfl (ev_same _ _ _ (by simp only [sz_put]; omega)) hx.2.1.2.2.1) ?_
            show SeqI _ _ _ _ _ _ (Act.put _ (some 95) _) _
            refine sI_do rfl (wanted_g (j := 24) rfl rfl rfl ((ev_other _ _ (by decide)).trans ((ev_other _ _ (by decide)).trans ((ev_other _ _ (by decide)).trans ((ev_other _ _ (by decide)).trans (ev_same _ _ _ (by simp only [sz_put]; omega))))))) (fun K hK => ?_)
            refine wp_call2 _ 23 (.tmp 95) (.const (.int .i64 1001)) _ rfl (ev_same _ _ _ (by simp only [sz_put]; omega)) rfl (enter_spot _ _ _) (spF_any dl 1001 (by omega) (by omega) _) ?_
            rw [← unhide ED]
            rintro e wq ⟨rfl, hq⟩
            obtain rfl : wb.drew = wq := hq.symm
            refine ⟨_, rfl, ?_⟩
            refine hK _ _ (fun _ => hS) ?_
            clear hK K
            show SeqI _ _ _ _ _ _ (Act.put _ (some 96) _) _
            refine sI_read (v := (.bool false)) rfl (fun _ _ _ h => absurd h.1 (fun e => nomatch e)) (wanted_g (j := 24) rfl rfl rfl ((ev_other _ _ (by decide)).trans ((ev_other _ _ (by decide)).trans ((ev_other _ _ (by decide)).trans ((ev_other _ _ (by decide)).trans ((ev_other _ _ (by decide)).trans (ev_same _ _ _ (by simp only [sz_put]; omega)))))))) hS (fun wx _ => run_neI (.tmp 93) (.tmp 96) rfl ((ev_other _ _ (by decide)).trans ((ev_other _ _ (by decide)).trans ((ev_other _ _ (by decide)).trans (ev_same _ _ _ (by simp only [sz_put]; omega))))) (ev_same _ _ _ (by simp only [sz_put]; omega)) wx) ?_
            show SeqI _ _ _ _ _ _ (Act.put _ (some 97) _) _
            refine sI_read (v := (.bool false)) rfl (fun _ _ _ h => absurd h.1 (fun e => nomatch e)) (wanted_rd rfl) hS (fun wx _ => run_pickF (.tmp 91) (.const (.bool true)) (.tmp 97) rfl ((ev_other _ _ (by decide)).trans ((ev_other _ _ (by decide)).trans ((ev_other _ _ (by decide)).trans ((ev_other _ _ (by decide)).trans ((ev_other _ _ (by decide)).trans ((ev_other _ _ (by decide)).trans (ev_same _ _ _ (by simp only [sz_put]; omega)))))))) (ev_same _ _ _ (by simp only [sz_put]; omega)) wx) ?_
            show SeqI _ _ _ _ _ _ (Act.put _ (some 98) _) _
            exact sI_end ⟨rfl, below_drew (unhide KW2), rfl⟩
          case rest =>
            rintro a' w6 ⟨k6, rfl⟩
            have K6 := hide k6
            clear k6
            go_frame
            go_wp2_with fail
            go_roundw
            case rel => exact ⟨i + 1, by omega, by go_num, unhide K6⟩
            case measure => simp [intOf] <;> omega
      · have e9 : i = n := by omega
        subst e9
        have KR := hide kr
        clear kr
        go_wp2_with fail
        go_ret
        exact ⟨rfl, (unhide K9).trans ((unhide KR).mono (unhide K9).size)⟩

end Go.Proofs.Ythjeedlhlkggkaa
