/- Contracts of package vote: counted. -/
import Derived.Test.YtkikikapnaoijaaLawsO1
import Derived.Test.YtkikikapnaoijaaIntMap
namespace Go.Proofs.Ytkikikapnaoijaa
open Go.RowKit

/-- What lies in memory while votes are counted: the map, who is in. -/
def CoI (w : World) (v : Nat → Int) (b : Nat → Bool) (k : Nat) (W : World) : Prop :=
  MI W (w.heap.size + 1 + 1) k (fun x => (vk b v x k : Nat)) ∧ B4 W (w.heap.size + 1) b ∧ Below w.heap.size w W
theorem vk_put (b : Nat → Bool) (v : Nat → Int) (k : Nat) (hb : b k = true) (x : Int) : upZ (fun x => ((vk b v x k : Nat) : Int)) (v k) ((vk b v (v k) k : Nat) + 1) x = ((vk b v x (k + 1) : Nat) : Int) := by
  unfold upZ
  have e : vk b v x (k + 1) = vk b v x k + if b k = true ∧ v k = x then 1 else 0 := rfl
  by_cases h : x = v k
  · subst h; rw [if_pos rfl, e, if_pos ⟨hb, rfl⟩]; omega
  · rw [if_neg h, e, if_neg (fun h2 => h h2.2.symm)]; rfl
theorem vk_out (b : Nat → Bool) (v : Nat → Int) (k : Nat) (hb : b k = false) (x : Int) : ((vk b v x k : Nat) : Int) = ((vk b v x (k + 1) : Nat) : Int) := by
  have e : vk b v x (k + 1) = vk b v x k + if b k = true ∧ v k = x then 1 else 0 := rfl
  rw [e, if_neg (fun h => by rw [hb] at h; cases h.1)]; rfl

set_option maxHeartbeats 1000000 in
theorem counted_any (v : Nat → Int) (b : Nat → Bool) (w : World) (rv : ∀ i, R64 (v i)) :
    Calls Try.prog 11 #[fourV v, boolV b] w fun e w' => ∃ m, w.heap.size ≤ m ∧ e = .returned (.tuple #[.map (some m), .int .i64 (ti b 4 : Nat)]) ∧ MI w' m 4 (fun x => (vk b v x 4 : Nat)) ∧ Below w.heap.size w w' := by
  obtain ⟨w1, e1, mA, mB, k1, s1⟩ := vt_two w v b
  have hmm := @run_makeMap Try.prog
  have mM := MI.new w1
  obtain ⟨w2, e2⟩ : ∃ w2, w2 = w1.alloc (.map #[] 0) := ⟨_, rfl⟩
  rw [← e2, s1] at mM
  have k2 : Below w1.heap.size w1 w2 := by rw [e2]; exact al_below w1 _
  have mA := mA.below k2
  have h0 : CoI w v b 0 w2 := ⟨mM.congr (fun _ _ => rfl), mB.below k2, k1.trans (k2.mono k1.size)⟩
  have c0 := mA.cell (show 0 < 4 by omega); have c1 := mA.cell (show 1 < 4 by omega); have c2 := mA.cell (show 2 < 4 by omega); have c3 := mA.cell (show 3 < 4 by omega)
  have E1 := hide e1; have E2 := hide e2; have H0 := hide h0; have S1 := hide s1; have RV := hide rv
  clear e1 e2 mA mB k1 k2 mM s1 h0 rv
  unfold fourV boolV
  go_enter Try.func11, Try.ntmps11
  go_wp2_with fail
  rw [← unhide E1, ← unhide E2]
  go_wp2_with fail
  go_loopw [7, 12] (fun ts is wr => ∃ k : Nat, k ≤ 4 ∧ ts = .int .i64 (ti b k : Nat) ∧ is = .int .i64 (k : Nat) ∧ CoI w v b k wr) (fun _ is _ => 4 - (intOf is).toNat)
  case atStart => exact ⟨0, by omega, rfl, rfl, unhide H0⟩
  case round =>
    obtain ⟨k, hk, rfl, rfl, hI⟩ := hrel
    rename World => wr
    by_cases hin : k < 4
    · have cb := hI.2.1.cell hin
      have hin' : (k : Int) < 4 := by omega
      have hn : ti b k ≤ 4 := Nat.le_trans (ti_le b k) (by omega)
      have hx := run_index4 v hin wr
      have T := hide (show ti b (k + 1) = ti b k + if b k = true then 1 else 0 from rfl)
      by_cases hb : b k = true
      · have hq : vk b v (v k) k ≤ 4 := Nat.le_trans (vk_le b v (v k) k) hk
        have hl := hI.1.look (unhide RV k) Try.underlying33
        obtain ⟨w3, hp, m3, k3⟩ := hI.1.put (k := v k) (v := (vk b v (v k) k : Nat) + 1) (unhide RV k) (by unfold R64; omega) (by omega) Try.underlying33
        have H3 := hide (show CoI w v b (k + 1) w3 from ⟨m3.congr (fun x _ => vk_put b v k hb x), hI.2.1.kept k3 (by omega), below_of_kept hI.2.2 k3 (by omega) hI.2.2.size⟩)
        have T2 := hide (show ti b (k + 1) = ti b k + 1 by rw [unhide T, if_pos hb])
        rw [hb] at cb
        clear hI m3 k3 T
        generalize vk b v (v k) k = q at *
        generalize ti b k = t0 at *
        generalize v k = x at *
        go_wp2_with fail
        go_roundw
        case rel => exact ⟨k + 1, by omega, by rw [unhide T2]; go_num, by go_num, unhide H3⟩
        case measure => simp [intOf] <;> omega
      · have hb' : b k = false := by simpa using hb
        have H3 := hide (show CoI w v b (k + 1) wr from ⟨(hI.1.mono (by omega)).congr (fun x _ => vk_out b v k hb' x), hI.2.1, hI.2.2⟩)
        have T2 := hide (show ti b (k + 1) = ti b k by rw [unhide T, if_neg hb]; rfl)
        rw [hb'] at cb
        clear hI T
        go_wp2_with fail
        go_roundw
        case rel => exact ⟨k + 1, by omega, by rw [unhide T2], by go_num, unhide H3⟩
        case measure => simp [intOf] <;> omega
    · have e9 : k = 4 := by omega
      subst e9
      rw [show ((4 : Nat) : Int) = 4 from rfl]
      go_wp2_with fail
      refine bodyPost_ret (v := .tuple #[.map (some (w.heap.size + 1 + 1)), .int .i64 (ti b 4 : Nat)]) (by simp [results, Try.results11, go_sem]) rfl ⟨_, by omega, rfl, hI.1, hI.2.2⟩

/-- What lies in memory while the first among the votes is looked for. -/
def LeI (w : World) (v : Nat → Int) (b : Nat → Bool) (m : Nat) (W : World) : Prop :=
  MI W m 4 (fun x => (vk b v x 4 : Nat)) ∧ B4 W (w.heap.size + 1) b ∧ Below w.heap.size w W
theorem LeI.drew {w W : World} {v : Nat → Int} {b : Nat → Bool} {m : Nat} (h : LeI w v b m W) : LeI w v b m W.drew := ⟨h.1.same rfl, h.2.1, below_drew h.2.2⟩
/-- How many votes the first one has. -/
def IsC (v : Nat → Int) (b : Nat → Bool) (k : Nat) (X : Int) (c : Nat) : Prop := (ti b k = 0 ∧ c = 0) ∨ (ti b k ≠ 0 ∧ c = vk b v X 4)

theorem run_mlook {f : Operand → Value} {o : Oper} (x y : Operand) (ho : o.op = .lookup 33 x y false) {m n : Nat} {g : Int → Int} {u : Int} (hx : f x = .map (some m)) (hy : f y = .int .i64 u) {w : World} (hM : MI w m n g) (hu : R64 u) : (execOp f o).run Try.prog w = .ok (.value (.int .i64 (g u))) w := by
  have hl := hM.look hu Try.underlying33
  unfold execOp
  rw [ho]
  dsimp only
  rw [hx, hy]
  go_simp

set_option maxHeartbeats 1000000 in
theorem leading_any (v : Nat → Int) (b : Nat → Bool) (m : Nat) (w : World) (rv : ∀ i, R64 (v i)) (hM : MI w m 4 (fun x => (vk b v x 4 : Nat))) :
    Calls Try.prog 12 #[fourV v, boolV b, .map (some m)] w fun e w' => ∃ X, IsV v b 4 X ∧ e = .returned (.int .i64 X) ∧ Below w.heap.size w w' := by
  obtain ⟨w1, e1, mA, mB, k1, s1⟩ := vt_two w v b
  have h0 : LeI w v b m w1 := ⟨hM.below k1, mB, k1⟩
  have c0 := mA.cell (show 0 < 4 by omega); have c1 := mA.cell (show 1 < 4 by omega); have c2 := mA.cell (show 2 < 4 by omega); have c3 := mA.cell (show 3 < 4 by omega)
  have E1 := hide e1; have H0 := hide h0; have RV := hide rv
  clear e1 mA mB k1 s1 h0 rv hM
  unfold fourV boolV
  go_enter Try.func12, Try.ntmps12
  go_wp2_with fail
  rw [← unhide E1]
  go_wp2_with fail
  go_loopw [7, 8, 12] (fun xs cs is wr => ∃ (k c : Nat) (X : Int), k ≤ 4 ∧ xs = .int .i64 X ∧ cs = .int .i64 (c : Nat) ∧ is = .int .i64 (k : Nat) ∧ IsV v b k X ∧ IsC v b k X c ∧ c ≤ 4 ∧ LeI w v b m wr) (fun _ _ is _ => 4 - (intOf is).toNat)
  case atStart => exact ⟨0, 0, 0, by omega, rfl, rfl, rfl, isV_start v b, Or.inl ⟨rfl, rfl⟩, by omega, unhide H0⟩
  case round =>
    obtain ⟨k, c, X, hk, rfl, rfl, rfl, hV, hC, hc4, hI⟩ := hrel
    rename World => wr
    by_cases hin : k < 4
    · have cb := hI.2.1.cell hin
      have hin' : (k : Int) < 4 := by omega
      have hx := run_index4 v hin wr
      have hl := hI.1.look (unhide RV k) Try.underlying33
      have hq : vk b v (v k) 4 ≤ 4 := vk_le b v (v k) 4
      have HV := hide hV; have HC := hide hC; have HI := hide hI
      clear hV hC hI
      by_cases hb : b k = true
      · have hp : 0 < vk b v (v k) 4 := vk_pos hin hb
        have T := hide (show ti b (k + 1) ≠ 0 from Nat.pos_iff_ne_zero.1 (ti_pos (Nat.lt_succ_self k) hb))
        by_cases hd : c < vk b v (v k) 4
        · have D := hide (show IsV v b (k + 1) (v k) from isV_take (unhide HV) hb (by
            rcases unhide HC with ⟨h, _⟩ | ⟨_, h⟩
            · exact Or.inr h
            · left; omega))
          have D2 := hide (show IsC v b (k + 1) (v k) (vk b v (v k) 4) from Or.inr ⟨unhide T, rfl⟩)
          have RVK := hide (unhide RV k)
          rw [hb] at cb
          have hd' : (c : Int) < ((vk b v (v k) 4 : Nat) : Int) := by omega
          go_wp2_with fail
          clear cb hx hl
          refine wp_leaves (fun a0 a' w' => LeI w v b m w' ∧ a' = ((((((a0.put (some 26) (.int .i64 (v k))).put (some 27) (.map (some m))).put (some 28) (.int .i64 (v k))).put (some 29) (.int .i64 (vk b v (v k) 4 : Nat))).put (some 7) (.int .i64 (v k))).put (some 8) (.int .i64 (vk b v (v k) 4 : Nat)))) ?reg ?rest
          case reg =>
            intro A eA
            have b2 : A.eval (.tmp 2) = .map (some m) := by rw [eA]; rfl
            have b10 : A.eval (.tmp 10) = .int .i64 (v k) := by rw [eA]; rfl
            have hs : 32 ≤ A.tmps.size := by rw [eA]; exact of_decide_eq_true rfl
            clear eA
            have hS := (unhide HI).drew
            refine region_I (S := LeI w v b m) (.rd 0 (.rd 1 (.rd 2 (.rd 3 (.rd 4 (.rd 5 .fin)))))) [] (by kernel_rfl) (by kernel_rfl) ?_
            refine sI_read (v := .int .i64 (v k)) rfl (fun _ _ _ h => absurd h.1 (fun e => nomatch e)) (wanted_rd rfl) hS (fun wx _ => run_move (.tmp 10) rfl b10 wx) ?_
            show SeqI _ _ _ _ _ _ (Act.put _ (some 26) _) _
            refine sI_read (v := .map (some m)) rfl (fun _ _ _ h => absurd h.1 (fun e => nomatch e)) (wanted_rd rfl) hS (fun wx _ => run_move (.tmp 2) rfl ((ev_other _ _ (by decide)).trans b2) wx) ?_
            show SeqI _ _ _ _ _ _ (Act.put _ (some 27) _) _
            refine sI_read (v := .int .i64 (v k)) rfl (fun _ _ _ h => absurd h.1 (fun e => nomatch e)) (wanted_rd rfl) hS (fun wx _ => run_move (.tmp 10) rfl ((ev_other _ _ (by decide)).trans ((ev_other _ _ (by decide)).trans b10)) wx) ?_
            show SeqI _ _ _ _ _ _ (Act.put _ (some 28) _) _
            refine sI_read (v := .int .i64 (vk b v (v k) 4 : Nat)) rfl (fun _ _ _ h => absurd h.1 (fun e => nomatch e)) (wanted_rd rfl) hS (fun wx hx => run_mlook (.tmp 27) (.tmp 28) rfl ((ev_other _ _ (by decide)).trans (ev_same _ _ _ (by simp only [sz_put]; omega))) (ev_same _ _ _ (by simp only [sz_put]; omega)) hx.1 (unhide RVK)) ?_
            show SeqI _ _ _ _ _ _ (Act.put _ (some 29) _) _
            refine sI_read (v := .int .i64 (v k)) rfl (fun _ _ _ h => absurd h.1 (fun e => nomatch e)) (wanted_rd rfl) hS (fun wx _ => run_assign (.tmp 26) rfl ((ev_other _ _ (by decide)).trans ((ev_other _ _ (by decide)).trans ((ev_other _ _ (by decide)).trans (ev_same _ _ _ (by omega))))) wx) ?_
            show SeqI _ _ _ _ _ _ (Act.put _ (some 7) _) _
            refine sI_read (v := .int .i64 (vk b v (v k) 4 : Nat)) rfl (fun _ _ _ h => absurd h.1 (fun e => nomatch e)) (wanted_rd rfl) hS (fun wx _ => run_assign (.tmp 29) rfl ((ev_other _ _ (by decide)).trans (ev_same _ _ _ (by simp only [sz_put]; omega))) wx) ?_
            show SeqI _ _ _ _ _ _ (Act.put _ (some 8) _) _
            exact sI_end ⟨rfl, hS, rfl⟩
          case rest =>
            rintro a' w2 ⟨hI2, rfl⟩
            have H2 := hide hI2
            clear hI2
            go_frame
            go_wp2_with fail
            go_roundw
            case rel => exact ⟨k + 1, _, v k, by omega, rfl, rfl, by go_num, unhide D, unhide D2, hq, unhide H2⟩
            case measure => simp [intOf] <;> omega
        · have D := hide (show IsV v b (k + 1) X from isV_leave (unhide HV) (by
            rcases unhide HC with ⟨h, h2⟩ | ⟨_, h⟩
            · omega
            · omega) (by
            rcases unhide HC with ⟨h, h2⟩ | ⟨h, _⟩
            · omega
            · exact h))
          have D2 := hide (show IsC v b (k + 1) X c from Or.inr ⟨unhide T, by
            rcases unhide HC with ⟨h, h2⟩ | ⟨_, h⟩
            · omega
            · exact h⟩)
          rw [hb] at cb
          have hd' : ¬ (c : Int) < ((vk b v (v k) 4 : Nat) : Int) := by omega
          go_wp2_with fail
          go_roundw
          case rel => exact ⟨k + 1, c, X, by omega, rfl, rfl, by go_num, unhide D, unhide D2, hc4, unhide HI⟩
          case measure => simp [intOf] <;> omega
      · have hb' : b k = false := by simpa using hb
        have D := hide (isV_out (unhide HV) hb')
        have D2 := hide (show IsC v b (k + 1) X c by
          have e : ti b (k + 1) = ti b k := by show ti b k + _ = _; rw [if_neg hb]; rfl
          unfold IsC; rw [e]; exact unhide HC)
        rw [hb'] at cb
        go_wp2_with fail
        go_roundw
        case rel => exact ⟨k + 1, c, X, by omega, rfl, rfl, by go_num, unhide D, unhide D2, hc4, unhide HI⟩
        case measure => simp [intOf] <;> omega
    · have e9 : k = 4 := by omega
      subst e9
      rw [show ((4 : Nat) : Int) = 4 from rfl]
      go_wp2_with fail
      go_ret
      exact ⟨X, hV, rfl, hI.2.2⟩

end Go.Proofs.Ytkikikapnaoijaa
