/- The walk of MemberRolls, whatever Begin, Count and Good are made of. (Written by tools/gen_memlaws.py.) -/
import Derived.Test.YtbgdjldmplkecaaMemEq
import Derived.Test.YtbgdjldmplkecaaRefMem
namespace Go.Proofs.Ytbgdjldmplkecaa
open Go.RowKit

theorem enter_beg (w : World) : (callFunc 8 #[]).run Try.prog w = .ok (.enter 8 #[]) w := by go_simp
theorem enter_rbeg (w : World) : (callFunc 9 #[]).run Try.prog w = .ok (.enter 9 #[]) w := by go_simp
theorem enter_cnt (v : Value) (w : World) : (callFunc 10 #[v]).run Try.prog w = .ok (.enter 10 #[v]) w := by go_simp
theorem enter_rcnt (v : Value) (w : World) : (callFunc 11 #[v]).run Try.prog w = .ok (.enter 11 #[v]) w := by go_simp
theorem enter_gd (v : Value) (w : World) : (callFunc 12 #[v]).run Try.prog w = .ok (.enter 12 #[v]) w := by go_simp
theorem enter_rgd (v : Value) (w : World) : (callFunc 13 #[v]).run Try.prog w = .ok (.enter 13 #[v]) w := by go_simp

set_option maxRecDepth 100000 in
set_option maxHeartbeats 2000000 in
theorem memberRolls_by (hB : BgOK 8) (hC : CtOK 10) (hG : GrOK 12) {w : World} (r : Rl) (rr : ∀ i, i < 4 → R64 (r.M i) ∧ R64 (r.J i)) :
    Calls Try.prog 3 #[rollV r] w fun e w' => e = .returned (.bool true) ∧ Below w.heap.size w w' := by
  have HB := hide hB; have HC := hide hC; have HG := hide hG; have RR := hide rr
  obtain ⟨w1, e1, m1, k1, z1⟩ := r_alloc w r
  have E1 := hide e1; have M1 := hide m1; have K1 := hide k1
  clear e1 m1 k1 z1 hB hC hG rr
  unfold rollV
  go_enter Try.func3, Try.ntmps3
  go_wp2_with fail
  rw [← unhide E1]
  refine wp_leaves (fun a0 a' w' => Below w.heap.size w w' ∧ a' = ((((((((((((((((((a0.put (some 3) (rollV beginR)).put (some 4) (rollV beginR)).put (some 5) (.bool true)).put (some 6) (.bool true)).put (some 7) (rollV r)).put (some 9) (rollV r)).put (some 8) (.int .i64 ((cn r.I 4 : Nat) : Int))).put (some 10) (.int .i64 ((cn r.I 4 : Nat) : Int))).put (some 11) (.bool true)).put (some 12) (.bool true)).put (some 13) (.bool true)).put (some 14) (rollV r)).put (some 16) (rollV r)).put (some 15) (.bool (gdA r))).put (some 17) (.bool (gdA r))).put (some 18) (.bool true)).put (some 19) (.bool true)).put (some 2) (.bool true))) ?reg1 ?rest1
  case reg1 =>
    intro A0 eA
    have b1 : A0.eval (.tmp 1) = .pointer (some ⟨w.heap.size, 0, none⟩) := by rw [eA]; rfl
    have hz : 20 ≤ A0.tmps.size := by rw [eA]; exact of_decide_eq_true rfl
    clear eA
    have hS : RAt w1.drew w.heap.size r := unhide M1
    have k0 : Below w.heap.size w w1.drew := below_drew (unhide K1)
    refine region_I (S := fun u => RAt u w.heap.size r) (.go 0 (.go 1 (.rd 2 (.rd 3 (.rd 4 (.rd 6 (.go 5 (.go 7 (.rd 8 (.rd 9 (.rd 10 (.rd 11 (.rd 13 (.go 12 (.go 14 (.rd 15 (.rd 16 (.rd 17 .fin)))))))))))))))))) [] (by kernel_rfl) (by kernel_rfl) ?_
    refine sI_do rfl (wanted_rd rfl) (fun K hK => ?_)
    refine wp_call0 _ 8 #[] rfl (enter_beg _) ((unhide HB) _) ?_
    rintro e w10 ⟨rfl, k10⟩
    have hS10 := hS.below k10
    have k10' := k0.trans (k10.mono k0.size)
    refine ⟨_, rfl, hK _ _ (fun _ => hS10) ?_⟩
    clear hK K
    show SeqI _ _ _ _ _ _ (Act.put _ (some 3) _) _
    refine sI_do rfl (wanted_rd rfl) (fun K hK => ?_)
    refine wp_call0 _ 9 #[] rfl (enter_rbeg _) (refBegin_ok _) ?_
    rintro e w11 ⟨rfl, k11⟩
    have hS11 := hS10.below k11
    have k11' := k10'.trans (k11.mono k10'.size)
    refine ⟨_, rfl, hK _ _ (fun _ => hS11) ?_⟩
    clear hK K
    show SeqI _ _ _ _ _ _ (Act.put _ (some 4) _) _
    refine sI_read (v := (.bool true)) rfl (fun _ _ _ h => absurd h.1 (fun e => nomatch e)) (wanted_rd rfl) hS11 (fun wx _ => run_eqlRl (.tmp 3) (.tmp 4) rfl ((ev_other _ _ (by decide)).trans (ev_same _ _ _ (by omega))) (ev_same _ _ _ (by simp only [sz_put]; omega)) wx) ?_
    show SeqI _ _ _ _ _ _ (Act.put _ (some 5) _) _
    refine sI_read (v := (.bool true)) rfl (fun _ _ _ h => absurd h.1 (fun e => nomatch e)) (wanted_rd rfl) hS11 (fun wx _ => run_move (.tmp 5) rfl (ev_same _ _ _ (by simp only [sz_put]; omega)) wx) ?_
    show SeqI _ _ _ _ _ _ (Act.put _ (some 6) _) _
    refine sI_read (v := (rollV r)) rfl (fun _ _ _ h => absurd h.1 (fun e => nomatch e)) (wanted_g rfl rfl rfl (ev_same _ _ _ (by simp only [sz_put]; omega))) hS11 (fun wx hx => run_loadRl (.tmp 1) rfl ((ev_other _ _ (by decide)).trans ((ev_other _ _ (by decide)).trans ((ev_other _ _ (by decide)).trans ((ev_other _ _ (by decide)).trans b1)))) hx) ?_
    show SeqI _ _ _ _ _ _ (Act.put _ (some 7) _) _
    refine sI_read (v := (rollV r)) rfl (fun _ _ _ h => absurd h.1 (fun e => nomatch e)) (wanted_g rfl rfl rfl ((ev_other _ _ (by decide)).trans (ev_same _ _ _ (by simp only [sz_put]; omega)))) hS11 (fun wx hx => run_loadRl (.tmp 1) rfl ((ev_other _ _ (by decide)).trans ((ev_other _ _ (by decide)).trans ((ev_other _ _ (by decide)).trans ((ev_other _ _ (by decide)).trans ((ev_other _ _ (by decide)).trans b1))))) hx) ?_
    show SeqI _ _ _ _ _ _ (Act.put _ (some 9) _) _
    refine sI_do rfl (wanted_g rfl rfl rfl ((ev_other _ _ (by decide)).trans ((ev_other _ _ (by decide)).trans (ev_same _ _ _ (by simp only [sz_put]; omega))))) (fun K hK => ?_)
    refine wp_call1 _ 10 (.tmp 7) _ rfl ((ev_other _ _ (by decide)).trans (ev_same _ _ _ (by simp only [sz_put]; omega))) (enter_cnt _ _) ((unhide HC) r _) ?_
    rintro e w12 ⟨rfl, k12⟩
    have hS12 := hS11.below k12
    have k12' := k11'.trans (k12.mono k11'.size)
    refine ⟨_, rfl, hK _ _ (fun _ => hS12) ?_⟩
    clear hK K
    show SeqI _ _ _ _ _ _ (Act.put _ (some 8) _) _
    refine sI_do rfl (wanted_g rfl rfl rfl ((ev_other _ _ (by decide)).trans ((ev_other _ _ (by decide)).trans ((ev_other _ _ (by decide)).trans (ev_same _ _ _ (by simp only [sz_put]; omega)))))) (fun K hK => ?_)
    refine wp_call1 _ 11 (.tmp 9) _ rfl ((ev_other _ _ (by decide)).trans (ev_same _ _ _ (by simp only [sz_put]; omega))) (enter_rcnt _ _) (refCount_ok r _) ?_
    rintro e w13 ⟨rfl, k13⟩
    have hS13 := hS12.below k13
    have k13' := k12'.trans (k13.mono k12'.size)
    refine ⟨_, rfl, hK _ _ (fun _ => hS13) ?_⟩
    clear hK K
    show SeqI _ _ _ _ _ _ (Act.put _ (some 10) _) _
    refine sI_read (v := (.bool true)) rfl (fun _ _ _ h => absurd h.1 (fun e => nomatch e)) (wanted_g rfl rfl rfl ((ev_other _ _ (by decide)).trans ((ev_other _ _ (by decide)).trans ((ev_other _ _ (by decide)).trans ((ev_other _ _ (by decide)).trans (ev_same _ _ _ (by simp only [sz_put]; omega))))))) hS13 (fun wx _ => run_eqlI (.tmp 8) (.tmp 10) rfl ((ev_other _ _ (by decide)).trans (ev_same _ _ _ (by simp only [sz_put]; omega))) (ev_same _ _ _ (by simp only [sz_put]; omega)) wx) ?_
    show SeqI _ _ _ _ _ _ (Act.put _ (some 11) _) _
    refine sI_read (v := (.bool true)) rfl (fun _ _ _ h => absurd h.1 (fun e => nomatch e)) (wanted_rd rfl) hS13 (fun wx _ => run_pickT' (.tmp 6) (.tmp 11) (.const (.bool false)) rfl ((ev_other _ _ (by decide)).trans ((ev_other _ _ (by decide)).trans ((ev_other _ _ (by decide)).trans ((ev_other _ _ (by decide)).trans ((ev_other _ _ (by decide)).trans (ev_same _ _ _ (by simp only [sz_put]; omega))))))) (ev_same _ _ _ (by simp only [sz_put]; omega)) wx) ?_
    show SeqI _ _ _ _ _ _ (Act.put _ (some 12) _) _
    refine sI_read (v := (.bool true)) rfl (fun _ _ _ h => absurd h.1 (fun e => nomatch e)) (wanted_rd rfl) hS13 (fun wx _ => run_move (.tmp 12) rfl (ev_same _ _ _ (by simp only [sz_put]; omega)) wx) ?_
    show SeqI _ _ _ _ _ _ (Act.put _ (some 13) _) _
    refine sI_read (v := (rollV r)) rfl (fun _ _ _ h => absurd h.1 (fun e => nomatch e)) (wanted_g rfl rfl rfl (ev_same _ _ _ (by simp only [sz_put]; omega))) hS13 (fun wx hx => run_loadRl (.tmp 1) rfl ((ev_other _ _ (by decide)).trans ((ev_other _ _ (by decide)).trans ((ev_other _ _ (by decide)).trans ((ev_other _ _ (by decide)).trans ((ev_other _ _ (by decide)).trans ((ev_other _ _ (by decide)).trans ((ev_other _ _ (by decide)).trans ((ev_other _ _ (by decide)).trans ((ev_other _ _ (by decide)).trans ((ev_other _ _ (by decide)).trans ((ev_other _ _ (by decide)).trans b1))))))))))) hx) ?_
    show SeqI _ _ _ _ _ _ (Act.put _ (some 14) _) _
    refine sI_read (v := (rollV r)) rfl (fun _ _ _ h => absurd h.1 (fun e => nomatch e)) (wanted_g rfl rfl rfl ((ev_other _ _ (by decide)).trans (ev_same _ _ _ (by simp only [sz_put]; omega)))) hS13 (fun wx hx => run_loadRl (.tmp 1) rfl ((ev_other _ _ (by decide)).trans ((ev_other _ _ (by decide)).trans ((ev_other _ _ (by decide)).trans ((ev_other _ _ (by decide)).trans ((ev_other _ _ (by decide)).trans ((ev_other _ _ (by decide)).trans ((ev_other _ _ (by decide)).trans ((ev_other _ _ (by decide)).trans ((ev_other _ _ (by decide)).trans ((ev_other _ _ (by decide)).trans ((ev_other _ _ (by decide)).trans ((ev_other _ _ (by decide)).trans b1)))))))))))) hx) ?_
    show SeqI _ _ _ _ _ _ (Act.put _ (some 16) _) _
    refine sI_do rfl (wanted_g rfl rfl rfl ((ev_other _ _ (by decide)).trans ((ev_other _ _ (by decide)).trans (ev_same _ _ _ (by simp only [sz_put]; omega))))) (fun K hK => ?_)
    refine wp_call1 _ 12 (.tmp 14) _ rfl ((ev_other _ _ (by decide)).trans (ev_same _ _ _ (by simp only [sz_put]; omega))) (enter_gd _ _) ((unhide HG) r _ (unhide RR)) ?_
    rintro e w14 ⟨rfl, k14⟩
    have hS14 := hS13.below k14
    have k14' := k13'.trans (k14.mono k13'.size)
    refine ⟨_, rfl, hK _ _ (fun _ => hS14) ?_⟩
    clear hK K
    show SeqI _ _ _ _ _ _ (Act.put _ (some 15) _) _
    refine sI_do rfl (wanted_g rfl rfl rfl ((ev_other _ _ (by decide)).trans ((ev_other _ _ (by decide)).trans ((ev_other _ _ (by decide)).trans (ev_same _ _ _ (by simp only [sz_put]; omega)))))) (fun K hK => ?_)
    refine wp_call1 _ 13 (.tmp 16) _ rfl ((ev_other _ _ (by decide)).trans (ev_same _ _ _ (by simp only [sz_put]; omega))) (enter_rgd _ _) (refGood_ok r _ (unhide RR)) ?_
    rintro e w15 ⟨rfl, k15⟩
    have hS15 := hS14.below k15
    have k15' := k14'.trans (k15.mono k14'.size)
    refine ⟨_, rfl, hK _ _ (fun _ => hS15) ?_⟩
    clear hK K
    show SeqI _ _ _ _ _ _ (Act.put _ (some 17) _) _
    refine sI_read (v := (.bool true)) rfl (fun _ _ _ h => absurd h.1 (fun e => nomatch e)) (wanted_g rfl rfl rfl ((ev_other _ _ (by decide)).trans ((ev_other _ _ (by decide)).trans ((ev_other _ _ (by decide)).trans ((ev_other _ _ (by decide)).trans (ev_same _ _ _ (by simp only [sz_put]; omega))))))) hS15 (fun wx _ => run_eqlB (.tmp 15) (.tmp 17) rfl ((ev_other _ _ (by decide)).trans (ev_same _ _ _ (by simp only [sz_put]; omega))) (ev_same _ _ _ (by simp only [sz_put]; omega)) wx) ?_
    show SeqI _ _ _ _ _ _ (Act.put _ (some 18) _) _
    refine sI_read (v := (.bool true)) rfl (fun _ _ _ h => absurd h.1 (fun e => nomatch e)) (wanted_rd rfl) hS15 (fun wx _ => run_pickT' (.tmp 13) (.tmp 18) (.const (.bool false)) rfl ((ev_other _ _ (by decide)).trans ((ev_other _ _ (by decide)).trans ((ev_other _ _ (by decide)).trans ((ev_other _ _ (by decide)).trans ((ev_other _ _ (by decide)).trans (ev_same _ _ _ (by simp only [sz_put]; omega))))))) (ev_same _ _ _ (by simp only [sz_put]; omega)) wx) ?_
    show SeqI _ _ _ _ _ _ (Act.put _ (some 19) _) _
    refine sI_read (v := (.bool true)) rfl (fun _ _ _ h => absurd h.1 (fun e => nomatch e)) (wanted_rd rfl) hS15 (fun wx _ => run_assign (.tmp 19) rfl (ev_same _ _ _ (by simp only [sz_put]; omega)) wx) ?_
    show SeqI _ _ _ _ _ _ (Act.put _ (some 2) _) _
    refine sI_end ?_
    exact ⟨rfl, k15', rfl⟩
  case rest1 =>
    rintro a' w2 ⟨k2, rfl⟩
    have K2 := hide k2
    clear k2
    go_frame
    go_wp2_with fail
    go_ret
    exact ⟨rfl, unhide K2⟩

end Go.Proofs.Ytbgdjldmplkecaa
