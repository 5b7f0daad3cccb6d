/- Contracts of the reference: Vote, whole; SameVerdict of two alike. -/
import Derived.Test.YtngmeaaglogieaaNear7
namespace Go.Proofs.Ytngmeaaglogieaa
open Go.RowKit

theorem enter_count (u p q : Value) (w : World) : (callFunc 54 #[u, p, q]).run Try.prog w = .ok (.enter 54 #[u, p, q]) w := by go_simp
/-- Two boxes and a result. -/
theorem vt_three (w : World) (v : Nat → Int) (b : Nat → Bool) : ∃ w1, w1 = (((w.alloc (.cells #[.int .i64 (v 0), .int .i64 (v 1), .int .i64 (v 2), .int .i64 (v 3)] 28)).alloc (.cells #[.bool (b 0), .bool (b 1), .bool (b 2), .bool (b 3)] 27)).alloc (.cells #[.int .i64 0, .bool false, .slice none 0 0] 35)) ∧
    F4 w1 w.heap.size v ∧ B4 w1 (w.heap.size + 1) b ∧ VdAt w1 (w.heap.size + 1 + 1) 0 false (.slice none 0 0) ∧ Below w.heap.size w w1 ∧ w1.heap.size = w.heap.size + 1 + 1 + 1 := by
  obtain ⟨u, eu, mu, ku, su⟩ := f4_alloc w v
  obtain ⟨x, ex, mx, kx, sx⟩ := b4_alloc u b
  obtain ⟨y, ey, my, ky, sy⟩ := vd_alloc x 0 false (.slice none 0 0)
  subst eu
  subst ex
  rw [su] at mx
  rw [sx, su] at my
  refine ⟨y, ey, (mu.below kx).below ky, mx.below ky, my, ?_, by omega⟩
  exact (ku.trans (kx.mono (by omega))).trans (ky.mono (by omega))
/-- What lies in memory while votes are counted. -/
def VoI (w : World) (v : Nat → Int) (b : Nat → Bool) (X : Int) (S : Bool) (r : Value) (W : World) : Prop :=
  VdAt W (w.heap.size + 1 + 1 + 1) X S r ∧ F4 W w.heap.size v ∧ B4 W (w.heap.size + 1) b ∧ VdAt W (w.heap.size + 1 + 1) 0 false (.slice none 0 0) ∧ Below w.heap.size w W ∧ w.heap.size + 1 + 1 + 1 + 1 ≤ W.heap.size
section
variable {w W W' : World} {v : Nat → Int} {b : Nat → Bool} {X : Int} {S : Bool} {r : Value}
theorem VoI.drew (h : VoI w v b X S r W) : VoI w v b X S r W.drew := ⟨h.1, h.2.1, h.2.2.1, h.2.2.2.1, below_drew h.2.2.2.2.1, h.2.2.2.2.2⟩
theorem VoI.under (h : VoI w v b X S r W) (k : Below (w.heap.size + 1 + 1 + 1 + 1) W W') : VoI w v b X S r W' :=
  ⟨h.1.under k (by omega), h.2.1.under k (by omega), h.2.2.1.under k (by omega), h.2.2.2.1.under k (by omega), h.2.2.2.2.1.trans (k.mono (by omega)), Nat.le_trans h.2.2.2.2.2 k.size⟩
theorem VoI.put {X' : Int} {S' : Bool} {r' : Value} (h : VoI w v b X S r W) (m : VdAt W' (w.heap.size + 1 + 1 + 1) X' S' r') (k : Kept (w.heap.size + 1 + 1 + 1) W W') : VoI w v b X' S' r' W' :=
  ⟨m, h.2.1.kept k (by omega), h.2.2.1.kept k (by omega), h.2.2.2.1.kept k (by omega), below_of_kept h.2.2.2.2.1 k (by omega) h.2.2.2.2.1.size, Nat.le_trans h.2.2.2.2.2 k.size⟩
end
theorem decide_eq_beq (k : Nat) (v : Nat → Int) {b : Nat → Bool} (X : Int) (h : 0 < ti b 4) : Value.bool (decide (0 < ti b 4 ∧ v k = X)) = Value.bool (v k == X) := by
  congr 1
  by_cases e : v k = X
  · simp [e, h]
  · simp [e]

set_option maxRecDepth 100000 in
set_option maxHeartbeats 4000000 in
theorem refVote_ok : VtOK 42 := by
  intro v b w hv
  obtain ⟨w1, e1, mA, mB, mC, k1, s1⟩ := vt_three w v b
  obtain ⟨w2, e2, m2, k2, s2⟩ := vd_alloc w1 0 false (.slice none 0 0)
  rw [s1] at m2
  have h0 : VoI w v b 0 false (.slice none 0 0) w2 := ⟨m2, mA.below k2, mB.below k2, mC.below k2, k1.trans (k2.mono k1.size), by omega⟩
  have E1 := hide e1; have E2 := hide e2; have H0 := hide h0; have S1 := hide s1
  clear e1 e2 mA mB mC k1 k2 m2 s1 s2 h0
  unfold fourV boolV
  go_enter Try.func42, Try.ntmps42
  go_wp2_with fail
  rw [← unhide E1, ← unhide E2]
  go_loopw [7, 8, 11] (fun ts _ is wr => ∃ (k : Nat) (X : Int), k ≤ 4 ∧ ts = .int .i64 (ti b k : Nat) ∧ is = .int .i64 (k : Nat) ∧ IsV v b k X ∧ VoI w v b X false (.slice none 0 0) wr)
    (fun _ _ is _ => 4 - (intOf is).toNat)
  case atStart => exact ⟨0, 0, by omega, rfl, rfl, isV_start v b, unhide H0⟩
  case round =>
    obtain ⟨k, X, hk, rfl, rfl, hV, hI⟩ := hrel
    rename World => wr
    by_cases hin : k < 4
    · have cb := hI.2.2.1.cell hin
      have hin' : (k : Int) < 4 := by omega
      have hn : ti b k ≤ 4 := Nat.le_trans (ti_le b k) (by omega)
      have T := hide (show ti b (k + 1) = ti b k + if b k = true then 1 else 0 from rfl)
      have HV := hide hV; have HI := hide hI
      clear hV hI
      by_cases hb : b k = true
      · rw [hb] at cb
        obtain ⟨t, et⟩ : ∃ t : Nat, t = ti b k + 1 := ⟨_, rfl⟩
        have T2 := hide (show ti b (k + 1) = t by rw [unhide T, if_pos hb, et])
        have ht : ((ti b k : Nat) : Int) + 1 = (t : Int) := by omega
        have HBK := hide hb; have ET := hide et
        clear T hb et
        generalize hg : ti b k = t0 at *
        go_wp2_with fail
        clear cb
        by_cases hd : vk b v X 4 < vk b v (v k) 4
        · have DL := hide (show decide (((vk b v X 4 : Nat) : Int) < ((vk b v (v k) 4 : Nat) : Int)) = true by simp; omega)
          have HD := hide hd
          clear hd
          refine wp_leaves (fun a0 a' w' => VoI w v b X false (.slice none 0 0) w' ∧ a' = ((((((((((((((a0.put (some 20) (.func (.func 54) #[] #[.pointer (some ⟨w.heap.size + 1, 0, none⟩), .pointer (some ⟨w.heap.size, 0, none⟩)])).put (some 21) (.int .i64 (k : Nat))).put (some 22) (.pointer (some ⟨w.heap.size, k, none⟩))).put (some 23) (.int .i64 (v k))).put (some 25) (.func (.func 54) #[] #[.pointer (some ⟨w.heap.size + 1, 0, none⟩), .pointer (some ⟨w.heap.size, 0, none⟩)])).put (some 26) (.pointer (some ⟨w.heap.size + 1 + 1 + 1, 0, none⟩))).put (some 27) (.int .i64 X)).put (some 24) (.int .i64 (vk b v (v k) 4 : Nat))).put (some 28) (.int .i64 (vk b v X 4 : Nat))).put (some 29) (.bool true)).put (some 30) (.bool true)).put (some 31) undef).put (some 32) undef).put (some 33) (.bool true))) ?reg ?rest
          case reg =>
            intro A eA
            have b2 : A.eval (.tmp 2) = .pointer (some ⟨w.heap.size, 0, none⟩) := by rw [eA]; rfl
            have b5 : A.eval (.tmp 5) = (.func (.func 54) #[] #[.pointer (some ⟨w.heap.size + 1, 0, none⟩), .pointer (some ⟨w.heap.size, 0, none⟩)]) := by rw [eA]; rfl
            have b6 : A.eval (.tmp 6) = .pointer (some ⟨w.heap.size + 1 + 1 + 1, 0, none⟩) := by rw [eA]; rfl
            have b7 : A.eval (.tmp 7) = .int .i64 (t : Int) := by rw [eA]; rfl
            have b8 : A.eval (.tmp 8) = .int .i64 (k : Nat) := by rw [eA]; rfl
            have hs : 71 ≤ A.tmps.size := by rw [eA]; exact of_decide_eq_true rfl
            clear eA
            have hS := (unhide HI).drew
            refine region_I (S := VoI w v b X false (.slice none 0 0)) (.rd 0 (.rd 1 (.rd 2 (.rd 3 (.rd 5 (.rd 6 (.rd 7 (.go 4 (.go 8 (.rd 9 (.rd 10 (.rd 11 (.rd 12 (.rd 13 .fin)))))))))))))) [] (by kernel_rfl) (by kernel_rfl) ?_
            refine sI_read (v := (.func (.func 54) #[] #[.pointer (some ⟨w.heap.size + 1, 0, none⟩), .pointer (some ⟨w.heap.size, 0, none⟩)])) rfl (fun _ _ _ h => absurd h.1 (fun e => nomatch e)) (wanted_rd rfl) hS (fun wx _ => run_move (.tmp 5) rfl b5 wx) ?_
            show SeqI _ _ _ _ _ _ (Act.put _ (some 20) _) _
            refine sI_read (v := (.int .i64 (k : Nat))) rfl (fun _ _ _ h => absurd h.1 (fun e => nomatch e)) (wanted_rd rfl) hS (fun wx _ => run_move (.tmp 8) rfl ((ev_other _ _ (by decide)).trans b8) wx) ?_
            show SeqI _ _ _ _ _ _ (Act.put _ (some 21) _) _
            refine sI_read (v := (.pointer (some ⟨w.heap.size, k, none⟩))) rfl (fun _ _ _ h => absurd h.1 (fun e => nomatch e)) (wanted_rd rfl) hS (fun wx _ => run_ixI (.tmp 2) (.tmp 21) rfl ((ev_other _ _ (by decide)).trans ((ev_other _ _ (by decide)).trans b2)) (ev_same _ _ _ (by simp only [sz_put]; omega)) hin wx) ?_
            show SeqI _ _ _ _ _ _ (Act.put _ (some 22) _) _
            refine sI_read (v := (.int .i64 (v k))) rfl (fun _ _ _ h => absurd h.1 (fun e => nomatch e)) (wanted_rd rfl) hS (fun wx hx => run_lodI (.tmp 22) rfl (ev_same _ _ _ (by simp only [sz_put]; omega)) (hx.2.1.cell hin)) ?_
            show SeqI _ _ _ _ _ _ (Act.put _ (some 23) _) _
            refine sI_read (v := (.func (.func 54) #[] #[.pointer (some ⟨w.heap.size + 1, 0, none⟩), .pointer (some ⟨w.heap.size, 0, none⟩)])) rfl (fun _ _ _ h => absurd h.1 (fun e => nomatch e)) (wanted_rd rfl) hS (fun wx _ => run_move (.tmp 5) rfl ((ev_other _ _ (by decide)).trans ((ev_other _ _ (by decide)).trans ((ev_other _ _ (by decide)).trans ((ev_other _ _ (by decide)).trans b5)))) wx) ?_
            show SeqI _ _ _ _ _ _ (Act.put _ (some 25) _) _
            refine sI_read (v := (.pointer (some ⟨w.heap.size + 1 + 1 + 1, 0, none⟩))) rfl (fun _ _ _ h => absurd h.1 (fun e => nomatch e)) (wanted_rd rfl) hS (fun wx _ => run_fldV (.tmp 6) 0 rfl ((ev_other _ _ (by decide)).trans ((ev_other _ _ (by decide)).trans ((ev_other _ _ (by decide)).trans ((ev_other _ _ (by decide)).trans ((ev_other _ _ (by decide)).trans b6))))) (by omega) wx) ?_
            show SeqI _ _ _ _ _ _ (Act.put _ (some 26) _) _
            refine sI_read (v := (.int .i64 X)) rfl (fun _ _ _ h => absurd h.1 (fun e => nomatch e)) (wanted_rd rfl) hS (fun wx hx => run_lodI (.tmp 26) rfl (ev_same _ _ _ (by simp only [sz_put]; omega)) hx.1.cell0) ?_
            show SeqI _ _ _ _ _ _ (Act.put _ (some 27) _) _
            refine sI_do rfl (wanted_rd rfl) (fun K hK => ?_)
            refine wp_callV _ (.tmp 20) (.tmp 23) 54 #[3] rfl ((ev_other _ _ (by decide)).trans ((ev_other _ _ (by decide)).trans ((ev_other _ _ (by decide)).trans ((ev_other _ _ (by decide)).trans ((ev_other _ _ (by decide)).trans ((ev_other _ _ (by decide)).trans (ev_same _ _ _ (by omega)))))))) ((ev_other _ _ (by decide)).trans ((ev_other _ _ (by decide)).trans ((ev_other _ _ (by decide)).trans (ev_same _ _ _ (by simp only [sz_put]; omega))))) (enter_count _ _ _ _) (voteCount_any (v k) (w.heap.size + 1) w.heap.size v b _ hS.2.2.1 hS.2.1) ?_
            rintro e w1 ⟨rfl, rfl⟩
            refine ⟨_, rfl, hK _ _ (fun _ => hS) ?_⟩
            clear hK K
            show SeqI _ _ _ _ _ _ (Act.put _ (some 24) _) _
            refine sI_do rfl (wanted_rd rfl) (fun K hK => ?_)
            refine wp_callV _ (.tmp 25) (.tmp 27) 54 #[3] rfl ((ev_other _ _ (by decide)).trans ((ev_other _ _ (by decide)).trans ((ev_other _ _ (by decide)).trans (ev_same _ _ _ (by simp only [sz_put]; omega))))) ((ev_other _ _ (by decide)).trans (ev_same _ _ _ (by simp only [sz_put]; omega))) (enter_count _ _ _ _) (voteCount_any X (w.heap.size + 1) w.heap.size v b _ hS.2.2.1 hS.2.1) ?_
            rintro e w1 ⟨rfl, rfl⟩
            refine ⟨_, rfl, hK _ _ (fun _ => hS) ?_⟩
            clear hK K
            show SeqI _ _ _ _ _ _ (Act.put _ (some 28) _) _
            refine sI_read (v := (.bool true)) rfl (fun _ _ _ h => absurd h.1 (fun e => nomatch e)) (wanted_rd rfl) hS (fun wx _ => (run_gtrN (.tmp 24) (.tmp 28) rfl ((ev_other _ _ (by decide)).trans (ev_same _ _ _ (by simp only [sz_put]; omega))) (ev_same _ _ _ (by simp only [sz_put]; omega)) wx).trans (by rw [unhide DL])) ?_
            show SeqI _ _ _ _ _ _ (Act.put _ (some 29) _) _
            refine sI_read (v := (.bool true)) rfl (fun _ _ _ h => absurd h.1 (fun e => nomatch e)) (wanted_rd rfl) hS (fun wx _ => run_move (.tmp 29) rfl (ev_same _ _ _ (by simp only [sz_put]; omega)) wx) ?_
            show SeqI _ _ _ _ _ _ (Act.put _ (some 30) _) _
            refine sI_skip rfl (fun _ _ _ h => absurd h.1 (fun e => nomatch e)) (wanted_n (j := 10) rfl rfl rfl (ev_same _ _ _ (by simp only [sz_put]; omega)) (by decide)) hS ?_
            show SeqI _ _ _ _ _ _ (Act.put _ (some 31) _) _
            refine sI_skip rfl (fun _ _ _ h => absurd h.1 (fun e => nomatch e)) (wanted_n (j := 10) rfl rfl rfl ((ev_other _ _ (by decide)).trans (ev_same _ _ _ (by simp only [sz_put]; omega))) (by decide)) hS ?_
            show SeqI _ _ _ _ _ _ (Act.put _ (some 32) _) _
            refine sI_read (v := (.bool true)) rfl (fun _ _ _ h => absurd h.1 (fun e => nomatch e)) (wanted_rd rfl) hS (fun wx _ => run_pickT' (.tmp 30) (.const (.bool true)) (.tmp 32) rfl ((ev_other _ _ (by decide)).trans ((ev_other _ _ (by decide)).trans (ev_same _ _ _ (by simp only [sz_put]; omega)))) rfl wx) ?_
            show SeqI _ _ _ _ _ _ (Act.put _ (some 33) _) _
            exact sI_end ⟨rfl, hS, rfl⟩
          case rest =>
            rintro a' w2 ⟨hI2, rfl⟩
            have c := hI2.2.1.cell hin; have c3 := hI2.1.cell0; have f3 := hI2.1.free 0
            obtain ⟨w3, e3, m3, k3⟩ := hI2.1.put0 (v k)
            have H3 := hide (hI2.put m3 k3); have E3 := hide e3
            clear hI2 m3 k3 e3
            go_frame
            go_wp2_with fail
            rw [← unhide E3]
            clear c c3 f3
            go_wp2_with fail
            go_roundw
            case rel => exact ⟨k + 1, v k, by omega, by rw [unhide T2], by go_num, isV_take (unhide HV) (unhide HBK) (Or.inl (unhide HD)), unhide H3⟩
            case measure => simp [intOf] <;> omega
        · have DL := hide (show decide (((vk b v X 4 : Nat) : Int) < ((vk b v (v k) 4 : Nat) : Int)) = false by simp; omega)
          have HD := hide hd
          clear hd
          refine wp_leaves (fun a0 a' w' => VoI w v b X false (.slice none 0 0) w' ∧ a' = ((((((((((((((a0.put (some 20) (.func (.func 54) #[] #[.pointer (some ⟨w.heap.size + 1, 0, none⟩), .pointer (some ⟨w.heap.size, 0, none⟩)])).put (some 21) (.int .i64 (k : Nat))).put (some 22) (.pointer (some ⟨w.heap.size, k, none⟩))).put (some 23) (.int .i64 (v k))).put (some 25) (.func (.func 54) #[] #[.pointer (some ⟨w.heap.size + 1, 0, none⟩), .pointer (some ⟨w.heap.size, 0, none⟩)])).put (some 26) (.pointer (some ⟨w.heap.size + 1 + 1 + 1, 0, none⟩))).put (some 27) (.int .i64 X)).put (some 24) (.int .i64 (vk b v (v k) 4 : Nat))).put (some 28) (.int .i64 (vk b v X 4 : Nat))).put (some 29) (.bool false)).put (some 30) (.bool false)).put (some 31) (.int .i64 (t : Int))).put (some 32) (.bool ((t : Int) == 1))).put (some 33) (.bool ((t : Int) == 1)))) ?reg ?rest
          case reg =>
            intro A eA
            have b2 : A.eval (.tmp 2) = .pointer (some ⟨w.heap.size, 0, none⟩) := by rw [eA]; rfl
            have b5 : A.eval (.tmp 5) = (.func (.func 54) #[] #[.pointer (some ⟨w.heap.size + 1, 0, none⟩), .pointer (some ⟨w.heap.size, 0, none⟩)]) := by rw [eA]; rfl
            have b6 : A.eval (.tmp 6) = .pointer (some ⟨w.heap.size + 1 + 1 + 1, 0, none⟩) := by rw [eA]; rfl
            have b7 : A.eval (.tmp 7) = .int .i64 (t : Int) := by rw [eA]; rfl
            have b8 : A.eval (.tmp 8) = .int .i64 (k : Nat) := by rw [eA]; rfl
            have hs : 71 ≤ A.tmps.size := by rw [eA]; exact of_decide_eq_true rfl
            clear eA
            have hS := (unhide HI).drew
            refine region_I (S := VoI w v b X false (.slice none 0 0)) (.rd 0 (.rd 1 (.rd 2 (.rd 3 (.rd 5 (.rd 6 (.rd 7 (.go 4 (.go 8 (.rd 9 (.rd 10 (.rd 11 (.rd 12 (.rd 13 .fin)))))))))))))) [] (by kernel_rfl) (by kernel_rfl) ?_
            refine sI_read (v := (.func (.func 54) #[] #[.pointer (some ⟨w.heap.size + 1, 0, none⟩), .pointer (some ⟨w.heap.size, 0, none⟩)])) rfl (fun _ _ _ h => absurd h.1 (fun e => nomatch e)) (wanted_rd rfl) hS (fun wx _ => run_move (.tmp 5) rfl b5 wx) ?_
            show SeqI _ _ _ _ _ _ (Act.put _ (some 20) _) _
            refine sI_read (v := (.int .i64 (k : Nat))) rfl (fun _ _ _ h => absurd h.1 (fun e => nomatch e)) (wanted_rd rfl) hS (fun wx _ => run_move (.tmp 8) rfl ((ev_other _ _ (by decide)).trans b8) wx) ?_
            show SeqI _ _ _ _ _ _ (Act.put _ (some 21) _) _
            refine sI_read (v := (.pointer (some ⟨w.heap.size, k, none⟩))) rfl (fun _ _ _ h => absurd h.1 (fun e => nomatch e)) (wanted_rd rfl) hS (fun wx _ => run_ixI (.tmp 2) (.tmp 21) rfl ((ev_other _ _ (by decide)).trans ((ev_other _ _ (by decide)).trans b2)) (ev_same _ _ _ (by simp only [sz_put]; omega)) hin wx) ?_
            show SeqI _ _ _ _ _ _ (Act.put _ (some 22) _) _
            refine sI_read (v := (.int .i64 (v k))) rfl (fun _ _ _ h => absurd h.1 (fun e => nomatch e)) (wanted_rd rfl) hS (fun wx hx => run_lodI (.tmp 22) rfl (ev_same _ _ _ (by simp only [sz_put]; omega)) (hx.2.1.cell hin)) ?_
            show SeqI _ _ _ _ _ _ (Act.put _ (some 23) _) _
            refine sI_read (v := (.func (.func 54) #[] #[.pointer (some ⟨w.heap.size + 1, 0, none⟩), .pointer (some ⟨w.heap.size, 0, none⟩)])) rfl (fun _ _ _ h => absurd h.1 (fun e => nomatch e)) (wanted_rd rfl) hS (fun wx _ => run_move (.tmp 5) rfl ((ev_other _ _ (by decide)).trans ((ev_other _ _ (by decide)).trans ((ev_other _ _ (by decide)).trans ((ev_other _ _ (by decide)).trans b5)))) wx) ?_
            show SeqI _ _ _ _ _ _ (Act.put _ (some 25) _) _
            refine sI_read (v := (.pointer (some ⟨w.heap.size + 1 + 1 + 1, 0, none⟩))) rfl (fun _ _ _ h => absurd h.1 (fun e => nomatch e)) (wanted_rd rfl) hS (fun wx _ => run_fldV (.tmp 6) 0 rfl ((ev_other _ _ (by decide)).trans ((ev_other _ _ (by decide)).trans ((ev_other _ _ (by decide)).trans ((ev_other _ _ (by decide)).trans ((ev_other _ _ (by decide)).trans b6))))) (by omega) wx) ?_
            show SeqI _ _ _ _ _ _ (Act.put _ (some 26) _) _
            refine sI_read (v := (.int .i64 X)) rfl (fun _ _ _ h => absurd h.1 (fun e => nomatch e)) (wanted_rd rfl) hS (fun wx hx => run_lodI (.tmp 26) rfl (ev_same _ _ _ (by simp only [sz_put]; omega)) hx.1.cell0) ?_
            show SeqI _ _ _ _ _ _ (Act.put _ (some 27) _) _
            refine sI_do rfl (wanted_rd rfl) (fun K hK => ?_)
            refine wp_callV _ (.tmp 20) (.tmp 23) 54 #[3] rfl ((ev_other _ _ (by decide)).trans ((ev_other _ _ (by decide)).trans ((ev_other _ _ (by decide)).trans ((ev_other _ _ (by decide)).trans ((ev_other _ _ (by decide)).trans ((ev_other _ _ (by decide)).trans (ev_same _ _ _ (by omega)))))))) ((ev_other _ _ (by decide)).trans ((ev_other _ _ (by decide)).trans ((ev_other _ _ (by decide)).trans (ev_same _ _ _ (by simp only [sz_put]; omega))))) (enter_count _ _ _ _) (voteCount_any (v k) (w.heap.size + 1) w.heap.size v b _ hS.2.2.1 hS.2.1) ?_
            rintro e w1 ⟨rfl, rfl⟩
            refine ⟨_, rfl, hK _ _ (fun _ => hS) ?_⟩
            clear hK K
            show SeqI _ _ _ _ _ _ (Act.put _ (some 24) _) _
            refine sI_do rfl (wanted_rd rfl) (fun K hK => ?_)
            refine wp_callV _ (.tmp 25) (.tmp 27) 54 #[3] rfl ((ev_other _ _ (by decide)).trans ((ev_other _ _ (by decide)).trans ((ev_other _ _ (by decide)).trans (ev_same _ _ _ (by simp only [sz_put]; omega))))) ((ev_other _ _ (by decide)).trans (ev_same _ _ _ (by simp only [sz_put]; omega))) (enter_count _ _ _ _) (voteCount_any X (w.heap.size + 1) w.heap.size v b _ hS.2.2.1 hS.2.1) ?_
            rintro e w1 ⟨rfl, rfl⟩
            refine ⟨_, rfl, hK _ _ (fun _ => hS) ?_⟩
            clear hK K
            show SeqI _ _ _ _ _ _ (Act.put _ (some 28) _) _
            refine sI_read (v := (.bool false)) rfl (fun _ _ _ h => absurd h.1 (fun e => nomatch e)) (wanted_rd rfl) hS (fun wx _ => (run_gtrN (.tmp 24) (.tmp 28) rfl ((ev_other _ _ (by decide)).trans (ev_same _ _ _ (by simp only [sz_put]; omega))) (ev_same _ _ _ (by simp only [sz_put]; omega)) wx).trans (by rw [unhide DL])) ?_
            show SeqI _ _ _ _ _ _ (Act.put _ (some 29) _) _
            refine sI_read (v := (.bool false)) rfl (fun _ _ _ h => absurd h.1 (fun e => nomatch e)) (wanted_rd rfl) hS (fun wx _ => run_move (.tmp 29) rfl (ev_same _ _ _ (by simp only [sz_put]; omega)) wx) ?_
            show SeqI _ _ _ _ _ _ (Act.put _ (some 30) _) _
            refine sI_read (v := (.int .i64 (t : Int))) rfl (fun _ _ _ h => absurd h.1 (fun e => nomatch e)) (wanted_g (j := 10) rfl rfl rfl (ev_same _ _ _ (by simp only [sz_put]; omega))) hS (fun wx _ => run_move (.tmp 7) rfl ((ev_other _ _ (by decide)).trans ((ev_other _ _ (by decide)).trans ((ev_other _ _ (by decide)).trans ((ev_other _ _ (by decide)).trans ((ev_other _ _ (by decide)).trans ((ev_other _ _ (by decide)).trans ((ev_other _ _ (by decide)).trans ((ev_other _ _ (by decide)).trans ((ev_other _ _ (by decide)).trans ((ev_other _ _ (by decide)).trans ((ev_other _ _ (by decide)).trans b7))))))))))) wx) ?_
            show SeqI _ _ _ _ _ _ (Act.put _ (some 31) _) _
            refine sI_read (v := (.bool ((t : Int) == 1))) rfl (fun _ _ _ h => absurd h.1 (fun e => nomatch e)) (wanted_g (j := 10) rfl rfl rfl ((ev_other _ _ (by decide)).trans (ev_same _ _ _ (by simp only [sz_put]; omega)))) hS (fun wx _ => run_eqN (.tmp 31) (.const (.int .i64 1)) rfl (ev_same _ _ _ (by simp only [sz_put]; omega)) rfl wx) ?_
            show SeqI _ _ _ _ _ _ (Act.put _ (some 32) _) _
            refine sI_read (v := (.bool ((t : Int) == 1))) rfl (fun _ _ _ h => absurd h.1 (fun e => nomatch e)) (wanted_rd rfl) hS (fun wx _ => run_pickF (.tmp 30) (.const (.bool true)) (.tmp 32) rfl ((ev_other _ _ (by decide)).trans ((ev_other _ _ (by decide)).trans (ev_same _ _ _ (by simp only [sz_put]; omega)))) (ev_same _ _ _ (by simp only [sz_put]; omega)) wx) ?_
            show SeqI _ _ _ _ _ _ (Act.put _ (some 33) _) _
            exact sI_end ⟨rfl, hS, rfl⟩
          case rest =>
            by_cases h1 : t = 1
            · have t1 : ((t : Int) == 1) = true := by simp; omega
              have H1 := hide (show ti b k = 0 by have := unhide ET; omega)
              rw [t1]
              clear t1 h1
              rintro a' w2 ⟨hI2, rfl⟩
              have c := hI2.2.1.cell hin; have c3 := hI2.1.cell0; have f3 := hI2.1.free 0
              obtain ⟨w3, e3, m3, k3⟩ := hI2.1.put0 (v k)
              have H3 := hide (hI2.put m3 k3); have E3 := hide e3
              clear hI2 m3 k3 e3
              go_frame
              go_wp2_with fail
              rw [← unhide E3]
              clear c c3 f3
              go_wp2_with fail
              go_roundw
              case rel => exact ⟨k + 1, v k, by omega, by rw [unhide T2], by go_num, isV_take (unhide HV) (unhide HBK) (Or.inr (unhide H1)), unhide H3⟩
              case measure => simp [intOf] <;> omega
            · have t1 : ((t : Int) == 1) = false := by simp; omega
              have H1 := hide (show ti b k ≠ 0 by have := unhide ET; omega)
              rw [t1]
              clear t1 h1
              rintro a' w2 ⟨hI2, rfl⟩
              have H3 := hide hI2
              clear hI2
              go_frame
              go_wp2_with fail
              go_roundw
              case rel => exact ⟨k + 1, X, by omega, by rw [unhide T2], by go_num, isV_leave (unhide HV) (unhide HD) (unhide H1), unhide H3⟩
              case measure => simp [intOf] <;> omega
      · have hb2 : b k = false := by simpa using hb
        rw [hb2] at cb
        have T2 := hide (show ti b (k + 1) = ti b k by rw [unhide T, if_neg hb, Nat.add_zero])
        have HBK := hide hb2
        clear T hb hb2
        go_wp2_with fail
        go_roundw
        case rel => exact ⟨k + 1, X, by omega, by rw [unhide T2], by go_num, isV_out (unhide HV) (unhide HBK), unhide HI⟩
        case measure => simp [intOf] <;> omega
    · have : k = 4 := by omega
      subst this
      rw [show ((4 : Nat) : Int) = 4 from rfl]
      have HI0 := hide hI
      have c3 := hI.1.cell1; have f3 := hI.1.free 1; have d3 := hI.1.cell0
      have HV := hide hV
      obtain ⟨t, et⟩ : ∃ t, t = ti b 4 := ⟨_, rfl⟩
      rw [← et]
      by_cases hp : 0 < t
      · have hp' : (0 : Int) < (t : Int) := by omega
        obtain ⟨SV, es⟩ : ∃ s, s = vtS v b X := ⟨_, rfl⟩
        have hn : vk b v X 4 ≤ 4 := vk_le b v X 4
        have es2 : decide ((t : Int) < 2 * ((vk b v X 4 : Nat) : Int)) = SV := by rw [es]; unfold vtS; rw [← et, decide_eq_decide]; omega
        have PV : 0 < ti b 4 := by omega
        have HP := hide PV; have ES := hide es.symm; have DT := hide (show decide ((0 : Int) < (t : Int)) = true by simp; omega)
        have ES2 := hide es2
        clear hV et es es2 PV hI
        go_wp2_with fail
        refine (voteCount_any X (w.heap.size + 1) w.heap.size v b _ (unhide HI0).2.2.1 (unhide HI0).2.1).mono ?_
        rintro e w3 ⟨rfl, rfl⟩
        generalize vk b v X 4 = cx at *
        have es3 := unhide ES2
        obtain ⟨w4, e4, m4, k4⟩ := (unhide HI0).1.put1 SV
        have H4 := hide ((unhide HI0).put m4 k4); have E4 := hide e4
        clear m4 k4 e4
        go_wp2_with fail
        rw [← unhide E4]
        clear c3 f3 d3 es3
        go_loopw [9, 51] (fun _ is wr => ∃ (k c : Nat) (ao : Option Addr), k ≤ 4 ∧ is = .int .i64 (k : Nat) ∧ VoI w v b X SV (.slice ao k c) wr ∧ wr.ownsRow (w.heap.size + 1 + 1 + 1 + 1) 4 1 (.slice ao k c) k (rowV (tF (vtA v b X)) k))
          (fun _ is _ => 4 - (intOf is).toNat)
        case atStart => exact ⟨0, 0, none, by omega, rfl, unhide H4, World.ownsRow_nil _ _ _ _⟩
        case round =>
          obtain ⟨k, c, ao, hk, rfl, hI, ho⟩ := hrel
          rename World => wr
          by_cases hin : k < 4
          · have hin' : (k : Int) < 4 := by omega
            have HI := hide hI; have HO := hide ho
            have VA := hide (show tF (vtA v b X) k = (fun _ => Value.bool (v k == X)) 0 by unfold tF vtA; exact decide_eq_beq k v X (unhide HP))
            clear hI ho
            go_wp2_with fail
            refine wp_leaves (fun a0 a' w' => ∃ (ao' : Option Addr) (c' : Nat), VoI w v b X SV (.slice ao' (k + 1) c') w' ∧ w'.ownsRow (w.heap.size + 1 + 1 + 1 + 1) 4 1 (.slice ao' (k + 1) c') (k + 1) (rowV (tF (vtA v b X)) (k + 1)) ∧ a' = (((((((((((((((a0.put (some 54) (.pointer (some ⟨w.heap.size + 1 + 1 + 1, 2, none⟩))).put (some 55) (.slice ao k c)).put (some 56) (.int .i64 (t : Nat))).put (some 57) (.bool true)).put (some 58) (.bool true)).put (some 59) (.int .i64 (k : Nat))).put (some 60) (.pointer (some ⟨w.heap.size, k, none⟩))).put (some 61) (.int .i64 (v k))).put (some 62) (.pointer (some ⟨w.heap.size + 1 + 1 + 1, 0, none⟩))).put (some 63) (.int .i64 X)).put (some 64) (.bool (v k == X))).put (some 65) (.bool (v k == X))).put (some 66) (.slice (some ⟨wr.heap.size, 0, none⟩) 1 1)).put (some 67) (.slice ao' (k + 1) c')).put (some 68) (.pointer (some ⟨w.heap.size + 1 + 1 + 1, 2, none⟩)))) ?reg ?rest
            case reg =>
              intro A eA
              have b2 : A.eval (.tmp 2) = .pointer (some ⟨w.heap.size, 0, none⟩) := by rw [eA]; rfl
              have b6 : A.eval (.tmp 6) = .pointer (some ⟨w.heap.size + 1 + 1 + 1, 0, none⟩) := by rw [eA]; rfl
              have b7 : A.eval (.tmp 7) = .int .i64 (t : Nat) := by rw [eA]; rfl
              have b9 : A.eval (.tmp 9) = .int .i64 (k : Nat) := by rw [eA]; rfl
              have hs : 71 ≤ A.tmps.size := by rw [eA]; exact of_decide_eq_true rfl
              clear eA
              have hS := (unhide HI).drew
              refine region_I (S := VoI w v b X SV (.slice ao k c)) (.rd 0 (.rd 1 (.rd 2 (.rd 3 (.rd 4 (.rd 5 (.rd 6 (.rd 7 (.rd 8 (.rd 9 (.rd 10 (.rd 11 (.go 12 (.go 13 (.rd 14 (.go 15 .fin)))))))))))))))) [15] (by kernel_rfl) (by kernel_rfl) ?_
              refine sI_read (v := (.pointer (some ⟨w.heap.size + 1 + 1 + 1, 2, none⟩))) rfl (fun _ _ _ h => absurd h.1 (fun e => nomatch e)) (wanted_rd rfl) hS (fun wx _ => run_fldV (.tmp 6) 2 rfl b6 (by omega) wx) ?_
              show SeqI _ _ _ _ _ _ (Act.put _ (some 54) _) _
              refine sI_read (v := (.slice ao k c)) rfl (fun _ _ _ h => absurd h.1 (fun e => nomatch e)) (wanted_rd rfl) hS (fun wx hx => run_lodT (.tmp 54) rfl (ev_same _ _ _ (by omega)) hx.1.cell2) ?_
              show SeqI _ _ _ _ _ _ (Act.put _ (some 55) _) _
              refine sI_read (v := (.int .i64 (t : Nat))) rfl (fun _ _ _ h => absurd h.1 (fun e => nomatch e)) (wanted_rd rfl) hS (fun wx _ => run_move (.tmp 7) rfl ((ev_other _ _ (by decide)).trans ((ev_other _ _ (by decide)).trans b7)) wx) ?_
              show SeqI _ _ _ _ _ _ (Act.put _ (some 56) _) _
              refine sI_read (v := (.bool true)) rfl (fun _ _ _ h => absurd h.1 (fun e => nomatch e)) (wanted_rd rfl) hS (fun wx _ => (run_gtrN (.tmp 56) (.const (.int .i64 0)) rfl (ev_same _ _ _ (by simp only [sz_put]; omega)) rfl wx).trans (by rw [unhide DT])) ?_
              show SeqI _ _ _ _ _ _ (Act.put _ (some 57) _) _
              refine sI_read (v := (.bool true)) rfl (fun _ _ _ h => absurd h.1 (fun e => nomatch e)) (wanted_rd rfl) hS (fun wx _ => run_move (.tmp 57) rfl (ev_same _ _ _ (by simp only [sz_put]; omega)) wx) ?_
              show SeqI _ _ _ _ _ _ (Act.put _ (some 58) _) _
              refine sI_read (v := (.int .i64 (k : Nat))) rfl (fun _ _ _ h => absurd h.1 (fun e => nomatch e)) (wanted_g (j := 4) rfl rfl rfl (ev_same _ _ _ (by simp only [sz_put]; omega))) hS (fun wx _ => run_move (.tmp 9) rfl ((ev_other _ _ (by decide)).trans ((ev_other _ _ (by decide)).trans ((ev_other _ _ (by decide)).trans ((ev_other _ _ (by decide)).trans ((ev_other _ _ (by decide)).trans b9))))) wx) ?_
              show SeqI _ _ _ _ _ _ (Act.put _ (some 59) _) _
              refine sI_read (v := (.pointer (some ⟨w.heap.size, k, none⟩))) rfl (fun _ _ _ h => absurd h.1 (fun e => nomatch e)) (wanted_g (j := 4) rfl rfl rfl ((ev_other _ _ (by decide)).trans (ev_same _ _ _ (by simp only [sz_put]; omega)))) hS (fun wx _ => run_ixI (.tmp 2) (.tmp 59) rfl ((ev_other _ _ (by decide)).trans ((ev_other _ _ (by decide)).trans ((ev_other _ _ (by decide)).trans ((ev_other _ _ (by decide)).trans ((ev_other _ _ (by decide)).trans ((ev_other _ _ (by decide)).trans b2)))))) (ev_same _ _ _ (by simp only [sz_put]; omega)) hin wx) ?_
              show SeqI _ _ _ _ _ _ (Act.put _ (some 60) _) _
              refine sI_read (v := (.int .i64 (v k))) rfl (fun _ _ _ h => absurd h.1 (fun e => nomatch e)) (wanted_g (j := 4) rfl rfl rfl ((ev_other _ _ (by decide)).trans ((ev_other _ _ (by decide)).trans (ev_same _ _ _ (by simp only [sz_put]; omega))))) hS (fun wx hx => run_lodI (.tmp 60) rfl (ev_same _ _ _ (by simp only [sz_put]; omega)) (hx.2.1.cell hin)) ?_
              show SeqI _ _ _ _ _ _ (Act.put _ (some 61) _) _
              refine sI_read (v := (.pointer (some ⟨w.heap.size + 1 + 1 + 1, 0, none⟩))) rfl (fun _ _ _ h => absurd h.1 (fun e => nomatch e)) (wanted_g (j := 4) rfl rfl rfl ((ev_other _ _ (by decide)).trans ((ev_other _ _ (by decide)).trans ((ev_other _ _ (by decide)).trans (ev_same _ _ _ (by simp only [sz_put]; omega)))))) hS (fun wx _ => run_fldV (.tmp 6) 0 rfl ((ev_other _ _ (by decide)).trans ((ev_other _ _ (by decide)).trans ((ev_other _ _ (by decide)).trans ((ev_other _ _ (by decide)).trans ((ev_other _ _ (by decide)).trans ((ev_other _ _ (by decide)).trans ((ev_other _ _ (by decide)).trans ((ev_other _ _ (by decide)).trans b6)))))))) (by omega) wx) ?_
              show SeqI _ _ _ _ _ _ (Act.put _ (some 62) _) _
              refine sI_read (v := (.int .i64 X)) rfl (fun _ _ _ h => absurd h.1 (fun e => nomatch e)) (wanted_g (j := 4) rfl rfl rfl ((ev_other _ _ (by decide)).trans ((ev_other _ _ (by decide)).trans ((ev_other _ _ (by decide)).trans ((ev_other _ _ (by decide)).trans (ev_same _ _ _ (by simp only [sz_put]; omega))))))) hS (fun wx hx => run_lodI (.tmp 62) rfl (ev_same _ _ _ (by simp only [sz_put]; omega)) hx.1.cell0) ?_
              show SeqI _ _ _ _ _ _ (Act.put _ (some 63) _) _
              refine sI_read (v := (.bool (v k == X))) rfl (fun _ _ _ h => absurd h.1 (fun e => nomatch e)) (wanted_g (j := 4) rfl rfl rfl ((ev_other _ _ (by decide)).trans ((ev_other _ _ (by decide)).trans ((ev_other _ _ (by decide)).trans ((ev_other _ _ (by decide)).trans ((ev_other _ _ (by decide)).trans (ev_same _ _ _ (by simp only [sz_put]; omega)))))))) hS (fun wx _ => run_eqN (.tmp 61) (.tmp 63) rfl ((ev_other _ _ (by decide)).trans ((ev_other _ _ (by decide)).trans (ev_same _ _ _ (by simp only [sz_put]; omega)))) (ev_same _ _ _ (by simp only [sz_put]; omega)) wx) ?_
              show SeqI _ _ _ _ _ _ (Act.put _ (some 64) _) _
              refine sI_read (v := (.bool (v k == X))) rfl (fun _ _ _ h => absurd h.1 (fun e => nomatch e)) (wanted_rd rfl) hS (fun wx _ => run_pickT' (.tmp 58) (.tmp 64) (.const (.bool false)) rfl ((ev_other _ _ (by decide)).trans ((ev_other _ _ (by decide)).trans ((ev_other _ _ (by decide)).trans ((ev_other _ _ (by decide)).trans ((ev_other _ _ (by decide)).trans ((ev_other _ _ (by decide)).trans (ev_same _ _ _ (by simp only [sz_put]; omega)))))))) (ev_same _ _ _ (by simp only [sz_put]; omega)) wx) ?_
              show SeqI _ _ _ _ _ _ (Act.put _ (some 65) _) _
              refine sI_do rfl (wanted_rd rfl) (fun K hK => ?_)
              refine wp_oneT _ (.tmp 65) rfl (ev_same _ _ _ (by simp only [sz_put]; omega)) ?_
              have A1 := al_below wr.drew (.cells #[.bool (v k == X)] 4)
              have hS2 := hS.under (A1.mono hS.2.2.2.2.2)
              refine hK _ _ (fun _ => hS2) ?_
              clear hK K
              show SeqI _ _ _ _ _ _ (Act.put _ (some 66) _) _
              refine sI_do rfl (wanted_rd rfl) (fun K hK => ?_)
              refine ⟨wp_joinT _ (.tmp 55) (.tmp 66) rfl (w.heap.size + 1 + 1 + 1 + 1) hS2.2.2.2.2.2 _ k _ ((ev_other _ _ (by decide)).trans ((ev_other _ _ (by decide)).trans ((ev_other _ _ (by decide)).trans ((ev_other _ _ (by decide)).trans ((ev_other _ _ (by decide)).trans ((ev_other _ _ (by decide)).trans ((ev_other _ _ (by decide)).trans ((ev_other _ _ (by decide)).trans ((ev_other _ _ (by decide)).trans ((ev_other _ _ (by decide)).trans ((ev_other _ _ (by decide)).trans (ev_same _ _ _ (by simp only [sz_put]; omega))))))))))))) (own_kept (unhide HO) ((below_drew (Below.refl _ _)).trans A1)) _ 1 1 (fun _ => .bool (v k == X)) (ev_same _ _ _ (by simp only [sz_put]; omega)) (sr_one wr.drew (.bool (v k == X))) (fun _ _ => rfl) (by omega) ?_⟩
              intro v' w3 o3 k3
              rw [rowV_snoc (show tF (vtA v b X) k = (fun _ => Value.bool (v k == X)) 0 from unhide VA)] at o3
              obtain ⟨ao', c', rfl⟩ := owns_slice o3
              have hS3 := hS2.under k3
              refine hK _ _ (fun _ => hS3) ?_
              clear hK K
              show SeqI _ _ _ _ _ _ (Act.put _ (some 67) _) _
              refine sI_read (v := (.pointer (some ⟨w.heap.size + 1 + 1 + 1, 2, none⟩))) rfl (fun _ _ _ h => absurd h.1 (fun e => nomatch e)) (wanted_rd rfl) hS3 (fun wx _ => run_fldV (.tmp 6) 2 rfl ((ev_other _ _ (by decide)).trans ((ev_other _ _ (by decide)).trans ((ev_other _ _ (by decide)).trans ((ev_other _ _ (by decide)).trans ((ev_other _ _ (by decide)).trans ((ev_other _ _ (by decide)).trans ((ev_other _ _ (by decide)).trans ((ev_other _ _ (by decide)).trans ((ev_other _ _ (by decide)).trans ((ev_other _ _ (by decide)).trans ((ev_other _ _ (by decide)).trans ((ev_other _ _ (by decide)).trans ((ev_other _ _ (by decide)).trans ((ev_other _ _ (by decide)).trans b6)))))))))))))) (by omega) wx) ?_
              show SeqI _ _ _ _ _ _ (Act.put _ (some 68) _) _
              refine sI_do rfl (wanted_rd rfl) (fun K hK => ?_)
              obtain ⟨w4, e4, m4, k4⟩ := hS3.1.put2 (.slice ao' (k + 1) c')
              refine wp_storeT _ (.tmp 68) (.tmp 67) rfl (ev_same _ _ _ (by simp only [sz_put]; omega)) ((ev_other _ _ (by decide)).trans (ev_same _ _ _ (by simp only [sz_put]; omega))) hS3.1.cell2 (hS3.1.free 2) rfl ?_
              rw [← e4]
              refine hK _ _ (fun h => absurd h (by decide)) ?_
              clear hK K
              exact sI_end ⟨rfl, ao', c', hS3.put m4 k4, own_keptz o3 k4 (by omega), rfl⟩
            case rest =>
              rintro a' w2 ⟨ao', c', hI2, ho2, rfl⟩
              have H3 := hide hI2; have O3 := hide ho2
              clear hI2 ho2
              go_frame
              go_wp2_with fail
              go_roundw
              case rel => exact ⟨k + 1, c', ao', by omega, by go_num, unhide H3, unhide O3⟩
              case measure => simp [intOf] <;> omega
          · have : k = 4 := by omega
            subst this
            have c0 := hI.1.cell0; have c1 := hI.1.cell1; have c2 := hI.1.cell2
            have a0 := hI.2.2.2.1.cell0; have a1 := hI.2.2.2.1.cell1; have a2 := hI.2.2.2.1.cell2; have f0 := hI.2.2.2.1.free 0; have f1 := hI.2.2.2.1.free 1; have f2 := hI.2.2.2.1.free 2
            obtain ⟨w5, e5, m5, k5⟩ := hI.2.2.2.1.put X SV (.slice ao 4 c)
            have p0 := m5.cell0; have p1 := m5.cell1; have p2 := m5.cell2
            have E5 := hide e5; have K5 := hide (below_of_kept hI.2.2.2.2.1 k5 (by omega) hI.2.2.2.2.1.size); have O5 := hide (own_base (own_keptz ho k5 (by omega)) (show w.heap.size ≤ w.heap.size + 1 + 1 + 1 + 1 by omega))
            clear e5 m5 k5 hI ho
            go_wp2_with fail
            rw [← unhide E5]
            refine bodyPost_ret (v := vdV X SV (.slice ao 4 c)) (by simp [results, Try.results42, go_sem, vdV, p0, p1, p2]) rfl ⟨X, .slice ao 4 c, unhide HV, by rw [unhide ES], unhide O5, unhide K5⟩
      · have dt : decide ((0 : Int) < (t : Int)) = false := by simp; omega
        obtain ⟨SV, es⟩ : ∃ s, s = vtS v b X := ⟨_, rfl⟩
        have es2 : SV = false := by rw [es]; unfold vtS; rw [decide_eq_false_iff_not]; omega
        have HP := hide (show ¬ 0 < ti b 4 by omega); have ES := hide es.symm; have DT := hide dt
        obtain ⟨w4, e4, m4, k4⟩ := (unhide HI0).1.put1 false
        have H4 := hide ((unhide HI0).put m4 k4); have E4 := hide e4
        subst es2
        clear m4 k4 e4 hV et es hI
        go_wp2_with fail
        rw [← unhide E4]
        clear c3 f3 d3 dt hp
        go_loopw [9, 51] (fun _ is wr => ∃ (k c : Nat) (ao : Option Addr), k ≤ 4 ∧ is = .int .i64 (k : Nat) ∧ VoI w v b X false (.slice ao k c) wr ∧ wr.ownsRow (w.heap.size + 1 + 1 + 1 + 1) 4 1 (.slice ao k c) k (rowV (tF (vtA v b X)) k))
          (fun _ is _ => 4 - (intOf is).toNat)
        case atStart => exact ⟨0, 0, none, by omega, rfl, unhide H4, World.ownsRow_nil _ _ _ _⟩
        case round =>
          obtain ⟨k, c, ao, hk, rfl, hI, ho⟩ := hrel
          rename World => wr
          by_cases hin : k < 4
          · have hin' : (k : Int) < 4 := by omega
            have HI := hide hI; have HO := hide ho
            have VA := hide (show tF (vtA v b X) k = (fun _ => Value.bool false) 0 by unfold tF vtA; congr 1; rw [decide_eq_false_iff_not]; exact fun h => unhide HP h.1)
            clear hI ho
            go_wp2_with fail
            refine wp_leaves (fun a0 a' w' => ∃ (ao' : Option Addr) (c' : Nat), VoI w v b X false (.slice ao' (k + 1) c') w' ∧ w'.ownsRow (w.heap.size + 1 + 1 + 1 + 1) 4 1 (.slice ao' (k + 1) c') (k + 1) (rowV (tF (vtA v b X)) (k + 1)) ∧ a' = (((((((((((((((a0.put (some 54) (.pointer (some ⟨w.heap.size + 1 + 1 + 1, 2, none⟩))).put (some 55) (.slice ao k c)).put (some 56) (.int .i64 (t : Nat))).put (some 57) (.bool false)).put (some 58) (.bool false)).put (some 59) undef).put (some 60) undef).put (some 61) undef).put (some 62) undef).put (some 63) undef).put (some 64) undef).put (some 65) (.bool false)).put (some 66) (.slice (some ⟨wr.heap.size, 0, none⟩) 1 1)).put (some 67) (.slice ao' (k + 1) c')).put (some 68) (.pointer (some ⟨w.heap.size + 1 + 1 + 1, 2, none⟩)))) ?reg ?rest
            case reg =>
              intro A eA
              have b2 : A.eval (.tmp 2) = .pointer (some ⟨w.heap.size, 0, none⟩) := by rw [eA]; rfl
              have b6 : A.eval (.tmp 6) = .pointer (some ⟨w.heap.size + 1 + 1 + 1, 0, none⟩) := by rw [eA]; rfl
              have b7 : A.eval (.tmp 7) = .int .i64 (t : Nat) := by rw [eA]; rfl
              have b9 : A.eval (.tmp 9) = .int .i64 (k : Nat) := by rw [eA]; rfl
              have hs : 71 ≤ A.tmps.size := by rw [eA]; exact of_decide_eq_true rfl
              clear eA
              have hS := (unhide HI).drew
              refine region_I (S := VoI w v b X false (.slice ao k c)) (.rd 0 (.rd 1 (.rd 2 (.rd 3 (.rd 4 (.rd 5 (.rd 6 (.rd 7 (.rd 8 (.rd 9 (.rd 10 (.rd 11 (.go 12 (.go 13 (.rd 14 (.go 15 .fin)))))))))))))))) [15] (by kernel_rfl) (by kernel_rfl) ?_
              refine sI_read (v := (.pointer (some ⟨w.heap.size + 1 + 1 + 1, 2, none⟩))) rfl (fun _ _ _ h => absurd h.1 (fun e => nomatch e)) (wanted_rd rfl) hS (fun wx _ => run_fldV (.tmp 6) 2 rfl b6 (by omega) wx) ?_
              show SeqI _ _ _ _ _ _ (Act.put _ (some 54) _) _
              refine sI_read (v := (.slice ao k c)) rfl (fun _ _ _ h => absurd h.1 (fun e => nomatch e)) (wanted_rd rfl) hS (fun wx hx => run_lodT (.tmp 54) rfl (ev_same _ _ _ (by omega)) hx.1.cell2) ?_
              show SeqI _ _ _ _ _ _ (Act.put _ (some 55) _) _
              refine sI_read (v := (.int .i64 (t : Nat))) rfl (fun _ _ _ h => absurd h.1 (fun e => nomatch e)) (wanted_rd rfl) hS (fun wx _ => run_move (.tmp 7) rfl ((ev_other _ _ (by decide)).trans ((ev_other _ _ (by decide)).trans b7)) wx) ?_
              show SeqI _ _ _ _ _ _ (Act.put _ (some 56) _) _
              refine sI_read (v := (.bool false)) rfl (fun _ _ _ h => absurd h.1 (fun e => nomatch e)) (wanted_rd rfl) hS (fun wx _ => (run_gtrN (.tmp 56) (.const (.int .i64 0)) rfl (ev_same _ _ _ (by simp only [sz_put]; omega)) rfl wx).trans (by rw [unhide DT])) ?_
              show SeqI _ _ _ _ _ _ (Act.put _ (some 57) _) _
              refine sI_read (v := (.bool false)) rfl (fun _ _ _ h => absurd h.1 (fun e => nomatch e)) (wanted_rd rfl) hS (fun wx _ => run_move (.tmp 57) rfl (ev_same _ _ _ (by simp only [sz_put]; omega)) wx) ?_
              show SeqI _ _ _ _ _ _ (Act.put _ (some 58) _) _
              refine sI_skip rfl (fun _ _ _ h => absurd h.1 (fun e => nomatch e)) (wanted_n (j := 4) rfl rfl rfl (ev_same _ _ _ (by simp only [sz_put]; omega)) (by decide)) hS ?_
              show SeqI _ _ _ _ _ _ (Act.put _ (some 59) _) _
              refine sI_skip rfl (fun _ _ _ h => absurd h.1 (fun e => nomatch e)) (wanted_n (j := 4) rfl rfl rfl ((ev_other _ _ (by decide)).trans (ev_same _ _ _ (by simp only [sz_put]; omega))) (by decide)) hS ?_
              show SeqI _ _ _ _ _ _ (Act.put _ (some 60) _) _
              refine sI_skip rfl (fun _ _ _ h => absurd h.1 (fun e => nomatch e)) (wanted_n (j := 4) rfl rfl rfl ((ev_other _ _ (by decide)).trans ((ev_other _ _ (by decide)).trans (ev_same _ _ _ (by simp only [sz_put]; omega)))) (by decide)) hS ?_
              show SeqI _ _ _ _ _ _ (Act.put _ (some 61) _) _
              refine sI_skip rfl (fun _ _ _ h => absurd h.1 (fun e => nomatch e)) (wanted_n (j := 4) rfl rfl rfl ((ev_other _ _ (by decide)).trans ((ev_other _ _ (by decide)).trans ((ev_other _ _ (by decide)).trans (ev_same _ _ _ (by simp only [sz_put]; omega))))) (by decide)) hS ?_
              show SeqI _ _ _ _ _ _ (Act.put _ (some 62) _) _
              refine sI_skip rfl (fun _ _ _ h => absurd h.1 (fun e => nomatch e)) (wanted_n (j := 4) rfl rfl rfl ((ev_other _ _ (by decide)).trans ((ev_other _ _ (by decide)).trans ((ev_other _ _ (by decide)).trans ((ev_other _ _ (by decide)).trans (ev_same _ _ _ (by simp only [sz_put]; omega)))))) (by decide)) hS ?_
              show SeqI _ _ _ _ _ _ (Act.put _ (some 63) _) _
              refine sI_skip rfl (fun _ _ _ h => absurd h.1 (fun e => nomatch e)) (wanted_n (j := 4) rfl rfl rfl ((ev_other _ _ (by decide)).trans ((ev_other _ _ (by decide)).trans ((ev_other _ _ (by decide)).trans ((ev_other _ _ (by decide)).trans ((ev_other _ _ (by decide)).trans (ev_same _ _ _ (by simp only [sz_put]; omega))))))) (by decide)) hS ?_
              show SeqI _ _ _ _ _ _ (Act.put _ (some 64) _) _
              refine sI_read (v := (.bool false)) rfl (fun _ _ _ h => absurd h.1 (fun e => nomatch e)) (wanted_rd rfl) hS (fun wx _ => run_pickF (.tmp 58) (.tmp 64) (.const (.bool false)) rfl ((ev_other _ _ (by decide)).trans ((ev_other _ _ (by decide)).trans ((ev_other _ _ (by decide)).trans ((ev_other _ _ (by decide)).trans ((ev_other _ _ (by decide)).trans ((ev_other _ _ (by decide)).trans (ev_same _ _ _ (by simp only [sz_put]; omega)))))))) rfl wx) ?_
              show SeqI _ _ _ _ _ _ (Act.put _ (some 65) _) _
              refine sI_do rfl (wanted_rd rfl) (fun K hK => ?_)
              refine wp_oneT _ (.tmp 65) rfl (ev_same _ _ _ (by simp only [sz_put]; omega)) ?_
              have A1 := al_below wr.drew (.cells #[.bool false] 4)
              have hS2 := hS.under (A1.mono hS.2.2.2.2.2)
              refine hK _ _ (fun _ => hS2) ?_
              clear hK K
              show SeqI _ _ _ _ _ _ (Act.put _ (some 66) _) _
              refine sI_do rfl (wanted_rd rfl) (fun K hK => ?_)
              refine ⟨wp_joinT _ (.tmp 55) (.tmp 66) rfl (w.heap.size + 1 + 1 + 1 + 1) hS2.2.2.2.2.2 _ k _ ((ev_other _ _ (by decide)).trans ((ev_other _ _ (by decide)).trans ((ev_other _ _ (by decide)).trans ((ev_other _ _ (by decide)).trans ((ev_other _ _ (by decide)).trans ((ev_other _ _ (by decide)).trans ((ev_other _ _ (by decide)).trans ((ev_other _ _ (by decide)).trans ((ev_other _ _ (by decide)).trans ((ev_other _ _ (by decide)).trans ((ev_other _ _ (by decide)).trans (ev_same _ _ _ (by simp only [sz_put]; omega))))))))))))) (own_kept (unhide HO) ((below_drew (Below.refl _ _)).trans A1)) _ 1 1 (fun _ => .bool false) (ev_same _ _ _ (by simp only [sz_put]; omega)) (sr_one wr.drew (.bool false)) (fun _ _ => rfl) (by omega) ?_⟩
              intro v' w3 o3 k3
              rw [rowV_snoc (show tF (vtA v b X) k = (fun _ => Value.bool false) 0 from unhide VA)] at o3
              obtain ⟨ao', c', rfl⟩ := owns_slice o3
              have hS3 := hS2.under k3
              refine hK _ _ (fun _ => hS3) ?_
              clear hK K
              show SeqI _ _ _ _ _ _ (Act.put _ (some 67) _) _
              refine sI_read (v := (.pointer (some ⟨w.heap.size + 1 + 1 + 1, 2, none⟩))) rfl (fun _ _ _ h => absurd h.1 (fun e => nomatch e)) (wanted_rd rfl) hS3 (fun wx _ => run_fldV (.tmp 6) 2 rfl ((ev_other _ _ (by decide)).trans ((ev_other _ _ (by decide)).trans ((ev_other _ _ (by decide)).trans ((ev_other _ _ (by decide)).trans ((ev_other _ _ (by decide)).trans ((ev_other _ _ (by decide)).trans ((ev_other _ _ (by decide)).trans ((ev_other _ _ (by decide)).trans ((ev_other _ _ (by decide)).trans ((ev_other _ _ (by decide)).trans ((ev_other _ _ (by decide)).trans ((ev_other _ _ (by decide)).trans ((ev_other _ _ (by decide)).trans ((ev_other _ _ (by decide)).trans b6)))))))))))))) (by omega) wx) ?_
              show SeqI _ _ _ _ _ _ (Act.put _ (some 68) _) _
              refine sI_do rfl (wanted_rd rfl) (fun K hK => ?_)
              obtain ⟨w4, e4, m4, k4⟩ := hS3.1.put2 (.slice ao' (k + 1) c')
              refine wp_storeT _ (.tmp 68) (.tmp 67) rfl (ev_same _ _ _ (by simp only [sz_put]; omega)) ((ev_other _ _ (by decide)).trans (ev_same _ _ _ (by simp only [sz_put]; omega))) hS3.1.cell2 (hS3.1.free 2) rfl ?_
              rw [← e4]
              refine hK _ _ (fun h => absurd h (by decide)) ?_
              clear hK K
              exact sI_end ⟨rfl, ao', c', hS3.put m4 k4, own_keptz o3 k4 (by omega), rfl⟩
            case rest =>
              rintro a' w2 ⟨ao', c', hI2, ho2, rfl⟩
              have H3 := hide hI2; have O3 := hide ho2
              clear hI2 ho2
              go_frame
              go_wp2_with fail
              go_roundw
              case rel => exact ⟨k + 1, c', ao', by omega, by go_num, unhide H3, unhide O3⟩
              case measure => simp [intOf] <;> omega
          · have : k = 4 := by omega
            subst this
            have c0 := hI.1.cell0; have c1 := hI.1.cell1; have c2 := hI.1.cell2
            have a0 := hI.2.2.2.1.cell0; have a1 := hI.2.2.2.1.cell1; have a2 := hI.2.2.2.1.cell2; have f0 := hI.2.2.2.1.free 0; have f1 := hI.2.2.2.1.free 1; have f2 := hI.2.2.2.1.free 2
            obtain ⟨w5, e5, m5, k5⟩ := hI.2.2.2.1.put X false (.slice ao 4 c)
            have p0 := m5.cell0; have p1 := m5.cell1; have p2 := m5.cell2
            have E5 := hide e5; have K5 := hide (below_of_kept hI.2.2.2.2.1 k5 (by omega) hI.2.2.2.2.1.size); have O5 := hide (own_base (own_keptz ho k5 (by omega)) (show w.heap.size ≤ w.heap.size + 1 + 1 + 1 + 1 by omega))
            clear e5 m5 k5 hI ho
            go_wp2_with fail
            rw [← unhide E5]
            refine bodyPost_ret (v := vdV X false (.slice ao 4 c)) (by simp [results, Try.results42, go_sem, vdV, p0, p1, p2]) rfl ⟨X, .slice ao 4 c, unhide HV, by rw [unhide ES], unhide O5, unhide K5⟩

end Go.Proofs.Ytngmeaaglogieaa
