/- The walk of VoteVotes, whatever Vote is made of. -/
import Derived.Test.YtkikikapnaoijaaRefVot2
import Derived.Test.YtkikikapnaoijaaVotSame
namespace Go.Proofs.Ytkikikapnaoijaa
open Go.RowKit

theorem enter_vote (u p : Value) (w : World) : (callFunc 6 #[u, p]).run Try.prog w = .ok (.enter 6 #[u, p]) w := by go_simp
theorem enter_rvote (u p : Value) (w : World) : (callFunc 8 #[u, p]).run Try.prog w = .ok (.enter 8 #[u, p]) w := by go_simp
theorem enter_samev (u p : Value) (w : World) : (callFunc 7 #[u, p]).run Try.prog w = .ok (.enter 7 #[u, p]) w := by go_simp
/-- All say five, all are in. -/
theorem all_five {X : Int} (h : IsV (fun _ => 5) (fun _ => true) 4 X) : X = 5 ∧ vtS (fun _ => 5) (fun _ => true) X = true := by
  rcases h with ⟨h, _⟩ | ⟨m, _, _, h, _⟩
  · exact absurd h (by decide)
  · subst h; exact ⟨rfl, show vtS (fun _ => 5) (fun _ => true) 5 = true by decide⟩
/-- Two boxes. -/
theorem vt_two (w : World) (v : Nat → Int) (b : Nat → Bool) : ∃ w1, w1 = ((w.alloc (.cells #[.int .i64 (v 0), .int .i64 (v 1), .int .i64 (v 2), .int .i64 (v 3)] 22)).alloc (.cells #[.bool (b 0), .bool (b 1), .bool (b 2), .bool (b 3)] 23)) ∧
    F4 w1 w.heap.size v ∧ B4 w1 (w.heap.size + 1) b ∧ Below w.heap.size w w1 ∧ w1.heap.size = w.heap.size + 1 + 1 := by
  obtain ⟨u, eu, mu, ku, su⟩ := f4_alloc w v
  obtain ⟨x, ex, mx, kx, sx⟩ := b4_alloc u b
  subst eu
  rw [su] at mx
  exact ⟨x, ex, mu.below kx, mx, ku.trans (kx.mono (by omega)), by omega⟩

/-- What the last statement reads. -/
def vtR (v : Nat → Int) (b : Nat → Bool) (p q : Nat) (W : World) : Prop := F4 W p v ∧ B4 W (p + 1) b ∧ W.cell? ⟨q, 1, none⟩ = some (.bool true)
theorem below3 {v : Nat → Int} {b : Nat → Bool} {p q : Nat} {W W' : World} (h : vtR v b p q W) (k : Below W.heap.size W W') : vtR v b p q W' := ⟨h.1.below k, h.2.1.below k, at_below h.2.2 k⟩

set_option maxRecDepth 100000 in
set_option maxHeartbeats 2000000 in
theorem voteVotes_by (hV : VtOK 6) (v : Nat → Int) (b : Nat → Bool) {w : World} (rv : ∀ i, R64 (v i)) :
    Calls Try.prog 3 #[fourV v, boolV b] w fun e w' => e = .returned (.bool true) ∧ Below w.heap.size w w' := by
  obtain ⟨w1, e1, mA, mB, k1, s1⟩ := vt_two w v b
  have E1 := hide e1; have MA := hide mA; have MB := hide mB; have K1 := hide k1; have S1 := hide s1; have RV := hide rv
  clear e1 mA mB k1 s1 rv
  unfold fourV boolV
  go_enter Try.func3, Try.ntmps3
  go_wp2_with fail
  rw [← unhide E1]
  refine (hV (fun _ => 5) (fun _ => true) _ (fun _ => by unfold R64; omega)).mono ?_
  rintro e w2 ⟨X, r2, iX, rfl, o2, k2⟩
  obtain ⟨rfl, sX⟩ := all_five iX
  rw [sX]
  obtain ⟨a2, c2, rfl⟩ := owns_slice o2
  obtain ⟨w3, e3, m3, k3, s3⟩ := vd_alloc w2 5 true (.slice a2 4 c2)
  have F3 := hide (((unhide MA).below k2).below k3); have B3 := hide (((unhide MB).below k2).below k3); have N3 := hide m3.cell1; have E3 := hide e3
  have K3 := hide (show Below w.heap.size w w3 from (unhide K1).trans ((k2.mono (unhide K1).size).trans (k3.mono (Nat.le_trans (unhide K1).size k2.size))))
  clear iX sX o2 k2 m3 k3 s3 e3 MA MB
  unfold vdV
  go_wp2_with fail
  rw [← unhide E3]
  obtain ⟨q, eq⟩ : ∃ q, q = w2.heap.size := ⟨_, rfl⟩
  rw [← eq] at N3 ⊢
  clear eq
  refine wp_leaves (fun a0 a' w' => ∃ (X : Int) (a5 a6 : Option Addr) (c5 c6 : Nat), Below w.heap.size w w' ∧ a' = ((((((((((((a0.put (some 9) (fourV v)).put (some 10) (boolV b)).put (some 12) (fourV v)).put (some 13) (boolV b)).put (some 11) (vdV X (vtS v b X) (.slice a5 4 c5))).put (some 14) (vdV X (vtS v b X) (.slice a6 4 c6))).put (some 15) (.bool true)).put (some 16) (.bool true)).put (some 17) (.pointer (some ⟨q, 1, none⟩))).put (some 18) (.bool true)).put (some 19) (.bool true)).put (some 4) (.bool true))) ?reg ?rest
  case reg =>
    intro A eA
    have b2 : A.eval (.tmp 2) = .pointer (some ⟨w.heap.size, 0, none⟩) := by rw [eA]; rfl
    have b3 : A.eval (.tmp 3) = .pointer (some ⟨w.heap.size + 1, 0, none⟩) := by rw [eA]; rfl
    have b5 : A.eval (.tmp 5) = .pointer (some ⟨q, 0, none⟩) := by rw [eA]; rfl
    have hs : 20 ≤ A.tmps.size := by rw [eA]; exact of_decide_eq_true rfl
    clear eA
    have hS : vtR v b w.heap.size q w3.drew := ⟨unhide F3, unhide B3, unhide N3⟩
    refine region_I (S := vtR v b w.heap.size q) (.rd 0 (.rd 1 (.rd 3 (.rd 4 (.go 2 (.go 5 (.go 6 (.rd 7 (.rd 8 (.rd 9 (.rd 10 (.rd 11 .fin)))))))))))) [] (by kernel_rfl) (by kernel_rfl) ?_
    refine sI_read (v := (fourV v)) rfl (fun _ _ _ h => absurd h.1 (fun e => nomatch e)) (wanted_rd rfl) hS (fun wx hx => run_lod4 (.tmp 2) rfl b2 hx.1) ?_
    show SeqI _ _ _ _ _ _ (Act.put _ (some 9) _) _
    refine sI_read (v := (boolV b)) rfl (fun _ _ _ h => absurd h.1 (fun e => nomatch e)) (wanted_rd rfl) hS (fun wx hx => run_lodB4 (.tmp 3) rfl ((ev_other _ _ (by decide)).trans b3) hx.2.1) ?_
    show SeqI _ _ _ _ _ _ (Act.put _ (some 10) _) _
    refine sI_read (v := (fourV v)) rfl (fun _ _ _ h => absurd h.1 (fun e => nomatch e)) (wanted_rd rfl) hS (fun wx hx => run_lod4 (.tmp 2) rfl ((ev_other _ _ (by decide)).trans ((ev_other _ _ (by decide)).trans b2)) hx.1) ?_
    show SeqI _ _ _ _ _ _ (Act.put _ (some 12) _) _
    refine sI_read (v := (boolV b)) rfl (fun _ _ _ h => absurd h.1 (fun e => nomatch e)) (wanted_rd rfl) hS (fun wx hx => run_lodB4 (.tmp 3) rfl ((ev_other _ _ (by decide)).trans ((ev_other _ _ (by decide)).trans ((ev_other _ _ (by decide)).trans b3))) hx.2.1) ?_
    show SeqI _ _ _ _ _ _ (Act.put _ (some 13) _) _
    refine sI_do rfl (wanted_rd rfl) (fun K hK => ?_)
    refine wp_call2 _ 6 (.tmp 9) (.tmp 10) #[22, 23] rfl ((ev_other _ _ (by decide)).trans ((ev_other _ _ (by decide)).trans ((ev_other _ _ (by decide)).trans (ev_same _ _ _ (by omega))))) ((ev_other _ _ (by decide)).trans ((ev_other _ _ (by decide)).trans (ev_same _ _ _ (by simp only [sz_put]; omega)))) (enter_vote _ _ _) (hV v b _ (unhide RV)) ?_
    rintro e w5 ⟨X, r5, iX, rfl, o5, k5⟩
    obtain ⟨a5, c5, rfl⟩ := owns_slice o5
    have hS5 := below3 hS k5
    refine ⟨_, rfl, hK _ _ (fun _ => hS5) ?_⟩
    clear hK K
    show SeqI _ _ _ _ _ _ (Act.put _ (some 11) _) _
    refine sI_do rfl (wanted_rd rfl) (fun K hK => ?_)
    refine wp_call2 _ 8 (.tmp 12) (.tmp 13) #[22, 23] rfl ((ev_other _ _ (by decide)).trans ((ev_other _ _ (by decide)).trans (ev_same _ _ _ (by simp only [sz_put]; omega)))) ((ev_other _ _ (by decide)).trans (ev_same _ _ _ (by simp only [sz_put]; omega))) (enter_rvote _ _ _) (refVote_ok v b _ (unhide RV)) ?_
    rintro e w6 ⟨Y, r6, iY, rfl, o6, k6⟩
    obtain rfl := isV_one iX iY
    obtain ⟨a6, c6, rfl⟩ := owns_slice o6
    have hS6 := below3 hS5 k6
    refine ⟨_, rfl, hK _ _ (fun _ => hS6) ?_⟩
    clear hK K
    show SeqI _ _ _ _ _ _ (Act.put _ (some 14) _) _
    refine sI_do rfl (wanted_rd rfl) (fun K hK => ?_)
    refine wp_call2 _ 7 (.tmp 11) (.tmp 14) #[26, 26] rfl ((ev_other _ _ (by decide)).trans (ev_same _ _ _ (by simp only [sz_put]; omega))) (ev_same _ _ _ (by simp only [sz_put]; omega)) (enter_samev _ _ _) (sameVerdict_ok X (vtS v b X) a5 a6 4 c5 c6 (vtA v b X) (vtA v b X) _ (by omega) ((owns_rd o5).below k6) (owns_rd o6) (fun _ _ => rfl)) ?_
    rintro e w7 ⟨rfl, k7⟩
    have hS7 := below3 hS6 k7
    refine ⟨_, rfl, hK _ _ (fun _ => hS7) ?_⟩
    clear hK K
    show SeqI _ _ _ _ _ _ (Act.put _ (some 15) _) _
    refine sI_read (v := (.bool true)) rfl (fun _ _ _ h => absurd h.1 (fun e => nomatch e)) (wanted_rd rfl) hS7 (fun wx _ => run_move (.tmp 15) rfl (ev_same _ _ _ (by simp only [sz_put]; omega)) wx) ?_
    show SeqI _ _ _ _ _ _ (Act.put _ (some 16) _) _
    refine sI_read (v := (.pointer (some ⟨q, 1, none⟩))) rfl (fun _ _ _ h => absurd h.1 (fun e => nomatch e)) (wanted_g (j := 7) rfl rfl rfl (ev_same _ _ _ (by simp only [sz_put]; omega))) hS7 (fun wx _ => run_fldV (.tmp 5) 1 rfl ((ev_other _ _ (by decide)).trans ((ev_other _ _ (by decide)).trans ((ev_other _ _ (by decide)).trans ((ev_other _ _ (by decide)).trans ((ev_other _ _ (by decide)).trans ((ev_other _ _ (by decide)).trans ((ev_other _ _ (by decide)).trans ((ev_other _ _ (by decide)).trans b5)))))))) (by omega) wx) ?_
    show SeqI _ _ _ _ _ _ (Act.put _ (some 17) _) _
    refine sI_read (v := (.bool true)) rfl (fun _ _ _ h => absurd h.1 (fun e => nomatch e)) (wanted_g (j := 7) rfl rfl rfl ((ev_other _ _ (by decide)).trans (ev_same _ _ _ (by simp only [sz_put]; omega)))) hS7 (fun wx hx => run_lodb (.tmp 17) rfl (ev_same _ _ _ (by simp only [sz_put]; omega)) hx.2.2) ?_
    show SeqI _ _ _ _ _ _ (Act.put _ (some 18) _) _
    refine sI_read (v := (.bool true)) rfl (fun _ _ _ h => absurd h.1 (fun e => nomatch e)) (wanted_rd rfl) hS7 (fun wx _ => run_pickT' (.tmp 16) (.tmp 18) (.const (.bool false)) rfl ((ev_other _ _ (by decide)).trans ((ev_other _ _ (by decide)).trans (ev_same _ _ _ (by simp only [sz_put]; omega)))) (ev_same _ _ _ (by simp only [sz_put]; omega)) wx) ?_
    show SeqI _ _ _ _ _ _ (Act.put _ (some 19) _) _
    refine sI_read (v := (.bool true)) rfl (fun _ _ _ h => absurd h.1 (fun e => nomatch e)) (wanted_rd rfl) hS7 (fun wx _ => run_assign (.tmp 19) rfl (ev_same _ _ _ (by simp only [sz_put]; omega)) wx) ?_
    show SeqI _ _ _ _ _ _ (Act.put _ (some 4) _) _
    exact sI_end ⟨rfl, X, a5, a6, c5, c6, ((below_drew (unhide K3)).trans (k5.mono (unhide K3).size)).trans ((k6.mono (Nat.le_trans (unhide K3).size k5.size)).trans (k7.mono (Nat.le_trans (Nat.le_trans (unhide K3).size k5.size) k6.size))), rfl⟩
  case rest =>
    rintro a' w5 ⟨X, a5, a6, c5, c6, k5, rfl⟩
    have K5 := hide k5
    clear k5
    go_frame
    go_wp2_with fail
    go_ret
    exact ⟨rfl, unhide K5⟩

end Go.Proofs.Ytkikikapnaoijaa
