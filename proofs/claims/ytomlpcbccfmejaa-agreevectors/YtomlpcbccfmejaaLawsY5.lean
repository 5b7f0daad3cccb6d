/- The walk of AgreeVectors, whatever Vectors is made of. -/
import Derived.Test.YtomlpcbccfmejaaLawsY3
import Derived.Test.YtomlpcbccfmejaaRefAgr2
namespace Go.Proofs.Ytomlpcbccfmejaa
open Go.RowKit

theorem enter_rvec (v u t : Value) (w : World) : (callFunc 13 #[v, u, t]).run Try.prog w = .ok (.enter 13 #[v, u, t]) w := by go_simp
def v55 (_ : Nat) : Int := 5
theorem v55_R (i : Nat) : R64 (v55 i) := by unfold v55 R64; omega
theorem five_grid (L : Nat → Int) : gridV (vcF v55 (-1) L) = .agg (gridC (fun _ s => v55 s)) := gridV_congr (fun i j hi hj => vc_true hi hj (by omega))
theorem run_eqlG {f : Operand → Value} {o : Oper} (x y : Operand) (ho : o.op = .binOp .eql 28 x y 28) {X : Nat → Nat → Int} (hx : f x = gridV X) (hy : f y = gridV X) (w : World) :
    (execOp f o).run Try.prog w = .ok (.value (.bool true)) w := by
  have e := run_eq16 X w
  rw [gridV_cells] at e hx hy
  generalize gridC X = T at *
  unfold execOp
  rw [ho]
  dsimp only
  rw [hx, hy]
  go_simp
theorem run_eqlN {f : Operand → Value} {o : Oper} (x y : Operand) (ho : o.op = .binOp .eql 3 x y 3) {u : Int} (hx : f x = .int .i64 u) (hy : f y = .int .i64 u) (w : World) :
    (execOp f o).run Try.prog w = .ok (.value (.bool true)) w := by
  unfold execOp
  rw [ho]
  dsimp only
  rw [hx, hy]
  go_simp

set_option maxRecDepth 100000 in
set_option maxHeartbeats 4000000 in
theorem agreeVectors_by (hVc : VcOK 12) {w : World} (v : Nat → Int) (bad : Int) (lo : Option Addr) (ln lc : Nat) (g : Nat → Int) (rv : ∀ i, R64 (v i)) (rb : R64 bad) (ar : ArgS w lo ln lc g) (hrc : ln ≤ lc) :
    Calls Try.prog 5 #[fourV v, .int .i64 bad, .slice lo ln lc] w fun e w' => e = .returned (.bool true) ∧ Below w.heap.size w w' := by
  obtain ⟨hs, hl, hg⟩ := ar
  obtain ⟨w1, e1, mA, k1, s1⟩ := f4_alloc w v
  have LS := hide (show Sr w lo ln lc (iF g) from hs); have E1 := hide e1; have MA := hide mA; have K1 := hide k1; have HV := hide hVc; have RV := hide rv; have RB := hide rb; have RG := hide hg
  clear hs e1 mA k1 s1 hVc rv rb hg
  have hfour : fourV v = .agg #[.int .i64 (v 0), .int .i64 (v 1), .int .i64 (v 2), .int .i64 (v 3)] := rfl
  rw [hfour]
  clear hfour
  go_enter Try.func5, Try.ntmps5
  go_wp2_with fail
  rw [← unhide E1]
  refine wp_leaves (fun a0 a' w' => ∃ (al : Option Addr) (cl pb : Nat), (G16 w' pb (vcF v bad (liF g ln)) ∧ F4 w' w.heap.size v ∧ Below w.heap.size w w') ∧ a' = ((((((a0.put (some 9) (fourV v)).put (some 10) (.int .i64 bad)).put (some 11) (.slice lo ln lc)).put (some 12) (.slice al ln cl)).put (some 13) (gridV (vcF v bad (liF g ln)))).put (some 7) (.pointer (some ⟨pb, 0, none⟩)))) ?reg ?rest
  case reg =>
    intro A eA
    have b3 : A.eval (.tmp 3) = .pointer (some ⟨w.heap.size, 0, none⟩) := by rw [eA]; rfl
    have b1 : A.eval (.tmp 1) = .int .i64 bad := by rw [eA]; rfl
    have b2 : A.eval (.tmp 2) = .slice lo ln lc := by rw [eA]; rfl
    have hz : 28 ≤ A.tmps.size := by rw [eA]; exact of_decide_eq_true rfl
    have f0 : F4 w1.drew w.heap.size v := unhide MA
    have j0 : Below w.heap.size w w1.drew := below_drew (unhide K1)
    have s0 := (unhide LS).below j0
    clear eA
    refine region_I (S := fun u => F4 u w.heap.size v) (.rd 0 (.rd 1 (.rd 2 (.two 3 5 (.two 4 5 (.go 5 (.go 6 .fin)) (.go 4 (.go 6 .fin))) (.go 3 (.go 4 (.go 6 .fin))))))) [] (by kernel_rfl) (by kernel_rfl) ?_
    refine sI_read (v := (fourV v)) rfl (fun _ _ _ h => absurd h.1 (fun e => nomatch e)) (wanted_rd rfl) f0 (fun wx hx => run_load4 (.tmp 3) rfl b3 hx) ?_
    show SeqI _ _ _ _ _ _ (Act.put _ (some 9) _) _
    refine sI_read (v := (.int .i64 bad)) rfl (fun _ _ _ h => absurd h.1 (fun e => nomatch e)) (wanted_rd rfl) f0 (fun wx _ => run_move (.tmp 1) rfl ((ev_other _ _ (by decide)).trans b1) wx) ?_
    show SeqI _ _ _ _ _ _ (Act.put _ (some 10) _) _
    refine sI_read (v := (.slice lo ln lc)) rfl (fun _ _ _ h => absurd h.1 (fun e => nomatch e)) (wanted_rd rfl) f0 (fun wx _ => run_move (.tmp 2) rfl ((ev_other _ _ (by decide)).trans ((ev_other _ _ (by decide)).trans b2)) wx) ?_
    show SeqI _ _ _ _ _ _ (Act.put _ (some 11) _) _
    refine sI_two rfl rfl (wanted_rd rfl) (wanted_rd rfl) ?_ ?_
    · intro K hK
      refine ⟨wp_joinI _ (.const (.slice none 0 0)) (.tmp 11) rfl _ (Nat.le_refl _) (.slice none 0 0) 0 [] rfl (World.ownsRow_nil _ _ _ _) lo ln lc (iF g) (ev_same _ _ _ (by simp only [sz_put]; omega)) s0 (fun i _ => rfl) (by omega) ?_⟩
      intro vv w2 oo k2
      rw [Nat.zero_add, List.nil_append] at oo
      obtain ⟨al, cl, rfl, q2, n2⟩ := owns_sr oo
      have j2 : Below w.heap.size w w2 := j0.trans (k2.mono j0.size)
      have f2 := f0.below k2
      refine hK _ _ (fun _ => f2) ?_
      clear hK K
      show SeqI _ _ _ _ _ _ (Act.put _ (some 12) _) _
      refine sI_two rfl rfl (wanted_rd rfl) (wanted_rd rfl) ?_ ?_
      · intro K hK
        refine wp_call3 _ 12 (.tmp 9) (.tmp 10) (.tmp 12) #[27, 3, 22] rfl ((ev_other _ _ (by decide)).trans ((ev_other _ _ (by decide)).trans ((ev_other _ _ (by decide)).trans (ev_same _ _ _ (by omega))))) ((ev_other _ _ (by decide)).trans ((ev_other _ _ (by decide)).trans (ev_same _ _ _ (by simp only [sz_put]; omega)))) (ev_same _ _ _ (by simp only [sz_put]; omega)) (enter_vec _ _ _ _) (unhide HV v bad al ln cl g _ (unhide RV) (unhide RB) (unhide RG) hl n2 q2) ?_
        rintro ee w3 ⟨rfl, k3⟩
        have j3 : Below w.heap.size w w3 := j2.trans (k3.mono j2.size)
        have f3 := f2.below k3
        refine ⟨_, rfl, hK _ _ (fun _ => f3) ?_⟩
        clear hK K
        show SeqI _ _ _ _ _ _ (Act.put _ (some 13) _) _
        refine sI_do rfl (wanted_rd rfl) (fun K hK => ?_)
        refine wp_allocG _ rfl ?_
        intro w4 m4 k4 z4
        have j4 : Below w.heap.size w w4 := j3.trans (k4.mono j3.size)
        have f4 := f3.below k4
        refine hK _ _ (fun _ => f4) ?_
        clear hK K
        show SeqI _ _ _ _ _ _ (Act.put _ (some 7) _) _
        refine sI_do rfl (wanted_rd rfl) (fun K hK => ?_)
        refine wp_storeG _ (.tmp 7) (.tmp 13) rfl (ev_same _ _ _ (by simp only [sz_put]; omega)) ((ev_other _ _ (by decide)).trans (ev_same _ _ _ (by simp only [sz_put]; omega))) m4 rfl ?_
        intro w9 m9 k9
        have j9 : Below w.heap.size w w9 := below_of_kept j4 k9 j3.size j4.size
        have f9 : F4 w9 w.heap.size v := f4.kept k9 (Nat.ne_of_lt (f3.lt))
        refine hK _ _ (fun _ => f9) ?_
        clear hK K
        refine sI_end ?_
        exact ⟨rfl, al, cl, _, ⟨m9, f9, j9⟩, rfl⟩
      · intro K hK
        refine wp_allocG _ rfl ?_
        intro w3 m3 k3 z3
        have j3 : Below w.heap.size w w3 := j2.trans (k3.mono j2.size)
        have f3 := f2.below k3
        refine hK _ _ (fun _ => f3) ?_
        clear hK K
        show SeqI _ _ _ _ _ _ (Act.put _ (some 7) _) _
        refine sI_do rfl (wanted_rd rfl) (fun K hK => ?_)
        refine wp_call3 _ 12 (.tmp 9) (.tmp 10) (.tmp 12) #[27, 3, 22] rfl ((ev_other _ _ (by decide)).trans ((ev_other _ _ (by decide)).trans ((ev_other _ _ (by decide)).trans ((ev_other _ _ (by decide)).trans (ev_same _ _ _ (by omega)))))) ((ev_other _ _ (by decide)).trans ((ev_other _ _ (by decide)).trans ((ev_other _ _ (by decide)).trans (ev_same _ _ _ (by simp only [sz_put]; omega))))) ((ev_other _ _ (by decide)).trans (ev_same _ _ _ (by simp only [sz_put]; omega))) (enter_vec _ _ _ _) (unhide HV v bad al ln cl g _ (unhide RV) (unhide RB) (unhide RG) hl n2 (q2.below k3)) ?_
        rintro ee w4 ⟨rfl, k4⟩
        have j4 : Below w.heap.size w w4 := j3.trans (k4.mono j3.size)
        have f4 := f3.below k4
        refine ⟨_, rfl, hK _ _ (fun _ => f4) ?_⟩
        clear hK K
        show SeqI _ _ _ _ _ _ (Act.put _ (some 13) _) _
        refine sI_do rfl (wanted_rd rfl) (fun K hK => ?_)
        refine wp_storeG _ (.tmp 7) (.tmp 13) rfl ((ev_other _ _ (by decide)).trans (ev_same _ _ _ (by simp only [sz_put]; omega))) (ev_same _ _ _ (by simp only [sz_put]; omega)) (m3.below k4) rfl ?_
        intro w9 m9 k9
        have j9 : Below w.heap.size w w9 := below_of_kept j4 k9 j2.size j4.size
        have f9 : F4 w9 w.heap.size v := f4.kept k9 (Nat.ne_of_lt f2.lt)
        refine hK _ _ (fun _ => f9) ?_
        clear hK K
        refine sI_end ?_
        exact ⟨rfl, al, cl, _, ⟨m9, f9, j9⟩, put_comm _ (by decide) _ _⟩
    · intro K hK
      refine wp_allocG _ rfl ?_
      intro w2 m2 k2 z2
      have j2 : Below w.heap.size w w2 := j0.trans (k2.mono j0.size)
      have f2 := f0.below k2
      refine hK _ _ (fun _ => f2) ?_
      clear hK K
      show SeqI _ _ _ _ _ _ (Act.put _ (some 7) _) _
      have s2 := s0.below k2
      refine sI_do rfl (wanted_rd rfl) (fun K hK => ?_)
      refine ⟨wp_joinI _ (.const (.slice none 0 0)) (.tmp 11) rfl _ (Nat.le_refl _) (.slice none 0 0) 0 [] rfl (World.ownsRow_nil _ _ _ _) lo ln lc (iF g) ((ev_other _ _ (by decide)).trans (ev_same _ _ _ (by simp only [sz_put]; omega))) s2 (fun i _ => rfl) (by omega) ?_⟩
      intro vv w3 oo k3
      rw [Nat.zero_add, List.nil_append] at oo
      obtain ⟨al, cl, rfl, q3, n3⟩ := owns_sr oo
      have j3 : Below w.heap.size w w3 := j2.trans (k3.mono j2.size)
      have f3 := f2.below k3
      refine hK _ _ (fun _ => f3) ?_
      clear hK K
      show SeqI _ _ _ _ _ _ (Act.put _ (some 12) _) _
      refine sI_do rfl (wanted_rd rfl) (fun K hK => ?_)
      refine wp_call3 _ 12 (.tmp 9) (.tmp 10) (.tmp 12) #[27, 3, 22] rfl ((ev_other _ _ (by decide)).trans ((ev_other _ _ (by decide)).trans ((ev_other _ _ (by decide)).trans ((ev_other _ _ (by decide)).trans (ev_same _ _ _ (by omega)))))) ((ev_other _ _ (by decide)).trans ((ev_other _ _ (by decide)).trans ((ev_other _ _ (by decide)).trans (ev_same _ _ _ (by simp only [sz_put]; omega))))) (ev_same _ _ _ (by simp only [sz_put]; omega)) (enter_vec _ _ _ _) (unhide HV v bad al ln cl g _ (unhide RV) (unhide RB) (unhide RG) hl n3 q3) ?_
      rintro ee w4 ⟨rfl, k4⟩
      have j4 : Below w.heap.size w w4 := j3.trans (k4.mono j3.size)
      have f4 := f3.below k4
      refine ⟨_, rfl, hK _ _ (fun _ => f4) ?_⟩
      clear hK K
      show SeqI _ _ _ _ _ _ (Act.put _ (some 13) _) _
      refine sI_do rfl (wanted_rd rfl) (fun K hK => ?_)
      refine wp_storeG _ (.tmp 7) (.tmp 13) rfl ((ev_other _ _ (by decide)).trans ((ev_other _ _ (by decide)).trans (ev_same _ _ _ (by simp only [sz_put]; omega)))) (ev_same _ _ _ (by simp only [sz_put]; omega)) ((m2.below k3).below k4) rfl ?_
      intro w9 m9 k9
      have j9 : Below w.heap.size w w9 := below_of_kept j4 k9 j0.size j4.size
      have f9 : F4 w9 w.heap.size v := f4.kept k9 (Nat.ne_of_lt f0.lt)
      refine hK _ _ (fun _ => f9) ?_
      clear hK K
      refine sI_end ?_
      exact ⟨rfl, al, cl, _, ⟨m9, f9, j9⟩, (by rw [put_comm _ (show 7 ≠ 12 by decide), put_comm _ (show 7 ≠ 13 by decide)])⟩
  case rest =>
    rintro a' w5 ⟨al, cl, pb, ⟨m5, f5, k5⟩, rfl⟩
    have G5 := hide m5; have F5 := hide f5; have K5 := hide k5
    clear m5 f5 k5
    go_frame
    go_wp2_with fail
    refine (unhide HV v55 (-1) none 0 0 (fun _ => 0) _ v55_R (by unfold R64; omega) (fun _ => R64_nought) (by omega) (by omega) (Or.inl ⟨rfl, rfl, rfl⟩)).mono ?_
    rintro e w6 ⟨rfl, k6⟩
    rw [five_grid]
    have g7 := G16.new w6 (fun _ s => v55 s)
    have c03 : (w6.alloc (.cells (gridC (fun _ s => v55 s)) 28)).cell? ⟨w6.heap.size, 0 * 4 + 3, none⟩ = some (.int .i64 5) := g7.cell (i := 0) (j := 3) (by omega) (by omega)
    have st := grid_new w6 (gridC (fun _ s => v55 s)) rfl (by simp [gridC, Value.oneCell'])
    have sT : (gridC (fun _ s => v55 s)).size = 16 := rfl
    have A7 := al_below w6 (.cells (gridC (fun _ s => v55 s)) 28)
    have K6 := (unhide K5).trans (k6.mono (unhide K5).size)
    have G7 := hide (((unhide G5).below k6).below A7); have F7 := hide (((unhide F5).below k6).below A7); have K7 := hide (K6.trans (A7.mono K6.size)); have N7 := hide c03
    generalize gridC (fun _ s => v55 s) = T at *
    clear g7 A7 K6 k6 G5 F5 K5 c03
    obtain ⟨X, eX⟩ : ∃ X, vcF v bad (liF g ln) = X := ⟨_, rfl⟩
    rw [eX] at G7 ⊢
    have EX := hide eX
    clear eX
    go_wp2_with fail
    clear st sT
    obtain ⟨nb, enb⟩ : ∃ nb, w6.heap.size = nb := ⟨_, rfl⟩
    rw [enb] at N7 ⊢
    obtain ⟨w8, e8⟩ : ∃ w8, w6.alloc (.cells T 28) = w8 := ⟨_, rfl⟩
    rw [e8] at N7 G7 F7 K7 ⊢
    clear e8 enb
    refine wp_leaves (fun a0 a' w' => Below w.heap.size w w' ∧ a' = (((((((((((((a0.put (some 16) (gridV X)).put (some 17) (fourV v)).put (some 18) (.int .i64 bad)).put (some 19) (.slice lo ln lc)).put (some 20) (gridV X)).put (some 21) (.bool true)).put (some 22) (.bool true)).put (some 23) (.pointer (some ⟨nb, 0 * 4, none⟩))).put (some 24) (.pointer (some ⟨nb, 0 * 4 + 3, none⟩))).put (some 25) (.int .i64 5)).put (some 26) (.bool true)).put (some 27) (.bool true)).put (some 6) (.bool true))) ?reg3 ?rest3
    case reg3 =>
      intro A eA
      have b7 : A.eval (.tmp 7) = .pointer (some ⟨pb, 0, none⟩) := by rw [eA]; rfl
      have b8 : A.eval (.tmp 8) = .pointer (some ⟨nb, 0, none⟩) := by rw [eA]; rfl
      have b3 : A.eval (.tmp 3) = .pointer (some ⟨w.heap.size, 0, none⟩) := by rw [eA]; rfl
      have b1 : A.eval (.tmp 1) = .int .i64 bad := by rw [eA]; rfl
      have b2 : A.eval (.tmp 2) = .slice lo ln lc := by rw [eA]; rfl
      have hz : 28 ≤ A.tmps.size := by rw [eA]; exact of_decide_eq_true rfl
      clear eA
      have hS : F4 w8.drew w.heap.size v ∧ G16 w8.drew pb X ∧ w8.drew.cell? ⟨nb, 0 * 4 + 3, none⟩ = some (.int .i64 5) := ⟨unhide F7, unhide G7, unhide N7⟩
      have j8 : Below w.heap.size w w8.drew := below_drew (unhide K7)
      refine region_I (S := fun u => F4 u w.heap.size v ∧ G16 u pb X ∧ u.cell? ⟨nb, 0 * 4 + 3, none⟩ = some (.int .i64 5)) (.rd 0 (.rd 1 (.rd 2 (.rd 3 (.go 4 (.rd 5 (.rd 6 (.rd 7 (.rd 8 (.rd 9 (.rd 10 (.rd 11 (.rd 12 .fin))))))))))))) [] (by kernel_rfl) (by kernel_rfl) ?_
      refine sI_read (v := (gridV X)) rfl (fun _ _ _ h => absurd h.1 (fun e => nomatch e)) (wanted_rd rfl) hS (fun wx hx => run_loadG (.tmp 7) rfl b7 hx.2.1) ?_
      show SeqI _ _ _ _ _ _ (Act.put _ (some 16) _) _
      refine sI_read (v := (fourV v)) rfl (fun _ _ _ h => absurd h.1 (fun e => nomatch e)) (wanted_rd rfl) hS (fun wx hx => run_load4 (.tmp 3) rfl ((ev_other _ _ (by decide)).trans b3) hx.1) ?_
      show SeqI _ _ _ _ _ _ (Act.put _ (some 17) _) _
      refine sI_read (v := (.int .i64 bad)) rfl (fun _ _ _ h => absurd h.1 (fun e => nomatch e)) (wanted_rd rfl) hS (fun wx _ => run_move (.tmp 1) rfl ((ev_other _ _ (by decide)).trans ((ev_other _ _ (by decide)).trans b1)) wx) ?_
      show SeqI _ _ _ _ _ _ (Act.put _ (some 18) _) _
      refine sI_read (v := (.slice lo ln lc)) rfl (fun _ _ _ h => absurd h.1 (fun e => nomatch e)) (wanted_rd rfl) hS (fun wx _ => run_move (.tmp 2) rfl ((ev_other _ _ (by decide)).trans ((ev_other _ _ (by decide)).trans ((ev_other _ _ (by decide)).trans b2))) wx) ?_
      show SeqI _ _ _ _ _ _ (Act.put _ (some 19) _) _
      refine sI_do rfl (wanted_rd rfl) (fun K hK => ?_)
      refine wp_call3 _ 13 (.tmp 17) (.tmp 18) (.tmp 19) #[27, 3, 22] rfl ((ev_other _ _ (by decide)).trans ((ev_other _ _ (by decide)).trans (ev_same _ _ _ (by simp only [sz_put]; omega)))) ((ev_other _ _ (by decide)).trans (ev_same _ _ _ (by simp only [sz_put]; omega))) (ev_same _ _ _ (by simp only [sz_put]; omega)) (enter_rvec _ _ _ _) (refVectors_ok v bad lo ln lc g _ (unhide RV) (unhide RB) (unhide RG) hl hrc ((unhide LS).below j8)) ?_
      rintro ee w9 ⟨rfl, k9⟩
      rw [unhide EX]
      have hS9 : F4 w9 w.heap.size v ∧ G16 w9 pb X ∧ w9.cell? ⟨nb, 0 * 4 + 3, none⟩ = some (.int .i64 5) := ⟨hS.1.below k9, hS.2.1.below k9, at_below hS.2.2 k9⟩
      refine ⟨_, rfl, hK _ _ (fun _ => hS9) ?_⟩
      clear hK K
      show SeqI _ _ _ _ _ _ (Act.put _ (some 20) _) _
      refine sI_read (v := (.bool true)) rfl (fun _ _ _ h => absurd h.1 (fun e => nomatch e)) (wanted_rd rfl) hS9 (fun wx _ => run_eqlG (.tmp 16) (.tmp 20) rfl ((ev_other _ _ (by decide)).trans ((ev_other _ _ (by decide)).trans ((ev_other _ _ (by decide)).trans ((ev_other _ _ (by decide)).trans (ev_same _ _ _ (by omega)))))) (ev_same _ _ _ (by simp only [sz_put]; omega)) wx) ?_
      show SeqI _ _ _ _ _ _ (Act.put _ (some 21) _) _
      refine sI_read (v := (.bool true)) rfl (fun _ _ _ h => absurd h.1 (fun e => nomatch e)) (wanted_rd rfl) hS9 (fun wx _ => run_move (.tmp 21) rfl (ev_same _ _ _ (by simp only [sz_put]; omega)) wx) ?_
      show SeqI _ _ _ _ _ _ (Act.put _ (some 22) _) _
      refine sI_read (v := (.pointer (some ⟨nb, 0 * 4, none⟩))) rfl (fun _ _ _ h => absurd h.1 (fun e => nomatch e)) (wanted_g rfl rfl rfl (ev_same _ _ _ (by simp only [sz_put]; omega))) hS9 (fun wx _ => run_at16 (.tmp 8) (.const (.int .i64 0)) rfl ((ev_other _ _ (by decide)).trans ((ev_other _ _ (by decide)).trans ((ev_other _ _ (by decide)).trans ((ev_other _ _ (by decide)).trans ((ev_other _ _ (by decide)).trans ((ev_other _ _ (by decide)).trans ((ev_other _ _ (by decide)).trans b8))))))) rfl (show 0 < 4 by decide) wx) ?_
      show SeqI _ _ _ _ _ _ (Act.put _ (some 23) _) _
      refine sI_read (v := (.pointer (some ⟨nb, 0 * 4 + 3, none⟩))) rfl (fun _ _ _ h => absurd h.1 (fun e => nomatch e)) (wanted_g rfl rfl rfl ((ev_other _ _ (by decide)).trans (ev_same _ _ _ (by simp only [sz_put]; omega)))) hS9 (fun wx _ => run_at4 (.tmp 23) (.const (.int .i64 3)) rfl (ev_same _ _ _ (by simp only [sz_put]; omega)) rfl (show 3 < 4 by decide) wx) ?_
      show SeqI _ _ _ _ _ _ (Act.put _ (some 24) _) _
      refine sI_read (v := (.int .i64 5)) rfl (fun _ _ _ h => absurd h.1 (fun e => nomatch e)) (wanted_g rfl rfl rfl ((ev_other _ _ (by decide)).trans ((ev_other _ _ (by decide)).trans (ev_same _ _ _ (by simp only [sz_put]; omega))))) hS9 (fun wx hx => run_ldI (.tmp 24) rfl (ev_same _ _ _ (by simp only [sz_put]; omega)) hx.2.2) ?_
      show SeqI _ _ _ _ _ _ (Act.put _ (some 25) _) _
      refine sI_read (v := (.bool true)) rfl (fun _ _ _ h => absurd h.1 (fun e => nomatch e)) (wanted_g rfl rfl rfl ((ev_other _ _ (by decide)).trans ((ev_other _ _ (by decide)).trans ((ev_other _ _ (by decide)).trans (ev_same _ _ _ (by simp only [sz_put]; omega)))))) hS9 (fun wx _ => run_eqlN (.tmp 25) (.const (.int .i64 5)) rfl (ev_same _ _ _ (by simp only [sz_put]; omega)) rfl wx) ?_
      show SeqI _ _ _ _ _ _ (Act.put _ (some 26) _) _
      refine sI_read (v := (.bool true)) rfl (fun _ _ _ h => absurd h.1 (fun e => nomatch e)) (wanted_rd rfl) hS9 (fun wx _ => run_pickT' (.tmp 22) (.tmp 26) (.const (.bool false)) rfl ((ev_other _ _ (by decide)).trans ((ev_other _ _ (by decide)).trans ((ev_other _ _ (by decide)).trans ((ev_other _ _ (by decide)).trans (ev_same _ _ _ (by simp only [sz_put]; omega)))))) (ev_same _ _ _ (by simp only [sz_put]; omega)) wx) ?_
      show SeqI _ _ _ _ _ _ (Act.put _ (some 27) _) _
      refine sI_read (v := (.bool true)) rfl (fun _ _ _ h => absurd h.1 (fun e => nomatch e)) (wanted_rd rfl) hS9 (fun wx _ => run_assign (.tmp 27) rfl (ev_same _ _ _ (by simp only [sz_put]; omega)) wx) ?_
      show SeqI _ _ _ _ _ _ (Act.put _ (some 6) _) _
      refine sI_end ?_
      exact ⟨rfl, j8.trans (k9.mono j8.size), rfl⟩
    case rest3 =>
      rintro a' w9 ⟨k9, rfl⟩
      have K9 := hide k9
      clear k9
      go_frame
      go_wp2_with fail
      go_ret
      exact ⟨rfl, unhide K9⟩

end Go.Proofs.Ytomlpcbccfmejaa
