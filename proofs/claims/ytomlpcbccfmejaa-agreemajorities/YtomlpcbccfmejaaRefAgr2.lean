/- Contracts of the reference: Vectors. -/
import Derived.Test.YtomlpcbccfmejaaAgrCnt
import Derived.Test.YtomlpcbccfmejaaGridRet
namespace Go.Proofs.Ytomlpcbccfmejaa
open Go.RowKit

theorem bsN_zero (bad : Int) : bsN bad 0 = 0 := by
  unfold bsN
  split
  · split <;> omega
  · rfl
theorem bsN_le (bad : Int) {s : Nat} (hs : s ≤ 4) : bsN bad s ≤ 9 := by unfold bsN; split <;> (try split) <;> omega

theorem grid_congr {x y : Nat → Nat → Int} (h : ∀ i j, i < 4 → j < 4 → x i j = y i j) : gridV x = gridV y := by
  unfold gridV
  rw [h 0 0 (by omega) (by omega), h 0 1 (by omega) (by omega), h 0 2 (by omega) (by omega), h 0 3 (by omega) (by omega), h 1 0 (by omega) (by omega), h 1 1 (by omega) (by omega), h 1 2 (by omega) (by omega), h 1 3 (by omega) (by omega), h 2 0 (by omega) (by omega), h 2 1 (by omega) (by omega), h 2 2 (by omega) (by omega), h 2 3 (by omega) (by omega), h 3 0 (by omega) (by omega), h 3 1 (by omega) (by omega), h 3 2 (by omega) (by omega), h 3 3 (by omega) (by omega)]
theorem enter_rmaj (v u : Value) (w : World) : (callFunc 10 #[v, u]).run Try.prog w = .ok (.enter 10 #[v, u]) w := by go_simp

set_option maxRecDepth 100000 in
set_option maxHeartbeats 8000000 in
theorem refVectors_ok : VcOK 13 := by
  intro v bad lo ln lc g w rv rb rg hl hc hs
  have hmf : ∀ (fn : Fn) (first cap : Array Value) (w : World), (Instr.makeFunc fn first cap).run Try.prog w = .ok (.func fn first cap) w := fun _ _ _ _ => rfl
  obtain ⟨w1, e1⟩ : ∃ w1, w1 = ((((w.alloc (.cells #[.int .i64 (v 0), .int .i64 (v 1), .int .i64 (v 2), .int .i64 (v 3)] 27)).alloc (.cells #[.slice lo ln lc] 22)).alloc (.cells (gridC (fun _ _ => 0)) 28)).alloc (.cells #[.int .i64 0] 3)).alloc (.cells (gridC (fun _ _ => 0)) 28) := ⟨_, rfl⟩
  have J1 := hide (show VJ w v (.slice lo ln lc) 0 (fun _ _ => 0) w1 by
    have k1 := al_below w (.cells #[.int .i64 (v 0), .int .i64 (v 1), .int .i64 (v 2), .int .i64 (v 3)] 27)
    have m1 := F4.new w v
    have z1 := al_size w (.cells #[.int .i64 (v 0), .int .i64 (v 1), .int .i64 (v 2), .int .i64 (v 3)] 27)
    generalize w.alloc (.cells #[.int .i64 (v 0), .int .i64 (v 1), .int .i64 (v 2), .int .i64 (v 3)] 27) = u1 at *
    have k2 := al_below u1 (.cells #[.slice lo ln lc] 22)
    have m2 := C1.new 22 u1 (.slice lo ln lc)
    have z2 := al_size u1 (.cells #[.slice lo ln lc] 22)
    generalize u1.alloc (.cells #[.slice lo ln lc] 22) = u2 at *
    have k3 := al_below u2 (.cells (gridC (fun _ _ => 0)) 28)
    have m3 := G16.new u2 (fun _ _ => 0)
    have z3 := al_size u2 (.cells (gridC (fun _ _ => 0)) 28)
    generalize u2.alloc (.cells (gridC (fun _ _ => 0)) 28) = u3 at *
    have k4 := al_below u3 (.cells #[.int .i64 0] 3)
    have m4 := C1.new 3 u3 (.int .i64 0)
    have z4 := al_size u3 (.cells #[.int .i64 0] 3)
    generalize u3.alloc (.cells #[.int .i64 0] 3) = u4 at *
    have k5 := al_below u4 (.cells (gridC (fun _ _ => 0)) 28)
    have m5 := G16.new u4 (fun _ _ => 0)
    have z5 := al_size u4 (.cells (gridC (fun _ _ => 0)) 28)
    rw [← e1] at k5 m5 z5
    have e2 : u1.heap.size = w.heap.size + 1 := z1
    have e3 : u2.heap.size = w.heap.size + 2 := by omega
    have e4 : u3.heap.size = w.heap.size + 3 := by omega
    have e5 : u4.heap.size = w.heap.size + 4 := by omega
    rw [e2] at m2
    rw [e3] at m3
    rw [e4] at m4
    rw [e5] at m5
    exact ⟨(((m1.below k2).below k3).below k4).below k5, ((m2.below k3).below k4).below k5, (m3.below k4).below k5, m4.below k5, m5, by omega, (((k1.trans (k2.mono (by omega))).trans (k3.mono (by omega))).trans (k4.mono (by omega))).trans (k5.mono (by omega))⟩)
  have E1 := hide e1; have RG := hide rg; have LS := hide hs.rd
  have LN := hide (show ∀ b o, 0 < ln → lo = some ⟨b, o, none⟩ → b ≠ w.heap.size + 1 + 1 + 1 from fun b o h e => by
    obtain ⟨b', o', e', h'⟩ := hs.rd h
    rw [e] at e'
    cases e'
    have hbl : b < w.heap.size := World.block_lt_of_cell? w _ (h' 0 h)
    omega)
  clear e1 rv rg hs
  unfold fourV
  go_enter Try.func13, Try.ntmps13
  unfold gridC at E1
  go_wp2_with fail
  rw [← unhide E1]
  go_loopw [10] (fun ss wr => ∃ (s : Nat) (O : Nat → Nat → Int), ss = .int .i64 s ∧ s ≤ 4 ∧ VJ w v (.slice lo ln lc) (bsN bad s) O wr ∧ ∀ q t, q < 4 → t < s → O q t = vcF v bad (liF g ln) q t) (fun ss _ => 4 - (intOf ss).toNat)
  case atStart => exact ⟨0, _, rfl, by omega, by rw [bsN_zero]; exact unhide J1, fun q t _ h => absurd h (by omega)⟩
  case round =>
    obtain ⟨s, O, rfl, hs4', hJ, hO⟩ := hrel
    rename World => wr
    have RJ := hide hJ; have HO := hide hO
    clear hJ hO J1
    by_cases hs4 : s < 4
    · have hs4i : (s : Int) < 4 := by omega
      go_wp2_with fail
      refine wp_leaves (fun a0 a' w' => (F4 w' wr.heap.size (fun _ => v s) ∧ VJ w v (.slice lo ln lc) (bsN bad s) O w') ∧ a' = ((((((((((((((a0.put (some 24) (.int .i64 (s : Nat))).put (some 25) (.pointer (some ⟨w.heap.size, s, none⟩))).put (some 26) (.int .i64 (v s))).put (some 27) (.int .i64 (s : Nat))).put (some 28) (.pointer (some ⟨w.heap.size, s, none⟩))).put (some 29) (.int .i64 (v s))).put (some 30) (.int .i64 (s : Nat))).put (some 31) (.pointer (some ⟨w.heap.size, s, none⟩))).put (some 32) (.int .i64 (v s))).put (some 33) (.int .i64 (s : Nat))).put (some 34) (.pointer (some ⟨w.heap.size, s, none⟩))).put (some 35) (.int .i64 (v s))).put (some 36) (fourV (fun _ => v s))).put (some 11) (.pointer (some ⟨wr.heap.size, 0, none⟩)))) ?reg7 ?rest7
      case reg7 =>
        intro A eA
        have b3 : A.eval (.tmp 3) = .pointer (some ⟨w.heap.size, 0, none⟩) := by rw [eA]; rfl
        have b10 : A.eval (.tmp 10) = .int .i64 (s : Nat) := by rw [eA]; rfl
        have hz : 135 ≤ A.tmps.size := by rw [eA]; exact of_decide_eq_true rfl
        clear eA
        have hS : wr.drew.cell? ⟨w.heap.size, s, none⟩ = some (.int .i64 (v s)) := (unhide RJ).a.cell hs4
        refine region_I (S := fun u => u.cell? ⟨w.heap.size, s, none⟩ = some (.int .i64 (v s))) (.rd 0 (.rd 1 (.rd 2 (.rd 3 (.rd 4 (.rd 5 (.rd 6 (.rd 7 (.rd 8 (.rd 9 (.rd 10 (.rd 11 (.rd 12 (.go 13 (.go 14 .fin))))))))))))))) [] (by kernel_rfl) (by kernel_rfl) ?_
        refine sI_read (v := (.int .i64 (s : Nat))) rfl (fun _ _ _ h => absurd h.1 (fun e => nomatch e)) (wanted_rd rfl) hS (fun wx _ => run_move (.tmp 10) rfl b10 wx) ?_
        show SeqI _ _ _ _ _ _ (Act.put _ (some 24) _) _
        refine sI_read (v := (.pointer (some ⟨w.heap.size, s, none⟩))) rfl (fun _ _ _ h => absurd h.1 (fun e => nomatch e)) (wanted_rd rfl) hS (fun wx _ => run_at4z (.tmp 3) (.tmp 24) rfl ((ev_other _ _ (by decide)).trans b3) (ev_same _ _ _ (by omega)) hs4 wx) ?_
        show SeqI _ _ _ _ _ _ (Act.put _ (some 25) _) _
        refine sI_read (v := (.int .i64 (v s))) rfl (fun _ _ _ h => absurd h.1 (fun e => nomatch e)) (wanted_rd rfl) hS (fun wx hx => run_ldI (.tmp 25) rfl (ev_same _ _ _ (by simp only [sz_put]; omega)) hx) ?_
        show SeqI _ _ _ _ _ _ (Act.put _ (some 26) _) _
        refine sI_read (v := (.int .i64 (s : Nat))) rfl (fun _ _ _ h => absurd h.1 (fun e => nomatch e)) (wanted_rd rfl) hS (fun wx _ => run_move (.tmp 10) rfl ((ev_other _ _ (by decide)).trans ((ev_other _ _ (by decide)).trans ((ev_other _ _ (by decide)).trans b10))) wx) ?_
        show SeqI _ _ _ _ _ _ (Act.put _ (some 27) _) _
        refine sI_read (v := (.pointer (some ⟨w.heap.size, s, none⟩))) rfl (fun _ _ _ h => absurd h.1 (fun e => nomatch e)) (wanted_rd rfl) hS (fun wx _ => run_at4z (.tmp 3) (.tmp 27) rfl ((ev_other _ _ (by decide)).trans ((ev_other _ _ (by decide)).trans ((ev_other _ _ (by decide)).trans ((ev_other _ _ (by decide)).trans b3)))) (ev_same _ _ _ (by simp only [sz_put]; omega)) hs4 wx) ?_
        show SeqI _ _ _ _ _ _ (Act.put _ (some 28) _) _
        refine sI_read (v := (.int .i64 (v s))) rfl (fun _ _ _ h => absurd h.1 (fun e => nomatch e)) (wanted_rd rfl) hS (fun wx hx => run_ldI (.tmp 28) rfl (ev_same _ _ _ (by simp only [sz_put]; omega)) hx) ?_
        show SeqI _ _ _ _ _ _ (Act.put _ (some 29) _) _
        refine sI_read (v := (.int .i64 (s : Nat))) rfl (fun _ _ _ h => absurd h.1 (fun e => nomatch e)) (wanted_rd rfl) hS (fun wx _ => run_move (.tmp 10) rfl ((ev_other _ _ (by decide)).trans ((ev_other _ _ (by decide)).trans ((ev_other _ _ (by decide)).trans ((ev_other _ _ (by decide)).trans ((ev_other _ _ (by decide)).trans ((ev_other _ _ (by decide)).trans b10)))))) wx) ?_
        show SeqI _ _ _ _ _ _ (Act.put _ (some 30) _) _
        refine sI_read (v := (.pointer (some ⟨w.heap.size, s, none⟩))) rfl (fun _ _ _ h => absurd h.1 (fun e => nomatch e)) (wanted_rd rfl) hS (fun wx _ => run_at4z (.tmp 3) (.tmp 30) rfl ((ev_other _ _ (by decide)).trans ((ev_other _ _ (by decide)).trans ((ev_other _ _ (by decide)).trans ((ev_other _ _ (by decide)).trans ((ev_other _ _ (by decide)).trans ((ev_other _ _ (by decide)).trans ((ev_other _ _ (by decide)).trans b3))))))) (ev_same _ _ _ (by simp only [sz_put]; omega)) hs4 wx) ?_
        show SeqI _ _ _ _ _ _ (Act.put _ (some 31) _) _
        refine sI_read (v := (.int .i64 (v s))) rfl (fun _ _ _ h => absurd h.1 (fun e => nomatch e)) (wanted_rd rfl) hS (fun wx hx => run_ldI (.tmp 31) rfl (ev_same _ _ _ (by simp only [sz_put]; omega)) hx) ?_
        show SeqI _ _ _ _ _ _ (Act.put _ (some 32) _) _
        refine sI_read (v := (.int .i64 (s : Nat))) rfl (fun _ _ _ h => absurd h.1 (fun e => nomatch e)) (wanted_rd rfl) hS (fun wx _ => run_move (.tmp 10) rfl ((ev_other _ _ (by decide)).trans ((ev_other _ _ (by decide)).trans ((ev_other _ _ (by decide)).trans ((ev_other _ _ (by decide)).trans ((ev_other _ _ (by decide)).trans ((ev_other _ _ (by decide)).trans ((ev_other _ _ (by decide)).trans ((ev_other _ _ (by decide)).trans ((ev_other _ _ (by decide)).trans b10))))))))) wx) ?_
        show SeqI _ _ _ _ _ _ (Act.put _ (some 33) _) _
        refine sI_read (v := (.pointer (some ⟨w.heap.size, s, none⟩))) rfl (fun _ _ _ h => absurd h.1 (fun e => nomatch e)) (wanted_rd rfl) hS (fun wx _ => run_at4z (.tmp 3) (.tmp 33) rfl ((ev_other _ _ (by decide)).trans ((ev_other _ _ (by decide)).trans ((ev_other _ _ (by decide)).trans ((ev_other _ _ (by decide)).trans ((ev_other _ _ (by decide)).trans ((ev_other _ _ (by decide)).trans ((ev_other _ _ (by decide)).trans ((ev_other _ _ (by decide)).trans ((ev_other _ _ (by decide)).trans ((ev_other _ _ (by decide)).trans b3)))))))))) (ev_same _ _ _ (by simp only [sz_put]; omega)) hs4 wx) ?_
        show SeqI _ _ _ _ _ _ (Act.put _ (some 34) _) _
        refine sI_read (v := (.int .i64 (v s))) rfl (fun _ _ _ h => absurd h.1 (fun e => nomatch e)) (wanted_rd rfl) hS (fun wx hx => run_ldI (.tmp 34) rfl (ev_same _ _ _ (by simp only [sz_put]; omega)) hx) ?_
        show SeqI _ _ _ _ _ _ (Act.put _ (some 35) _) _
        refine sI_read (v := (fourV (fun _ => v s))) rfl (fun _ _ _ h => absurd h.1 (fun e => nomatch e)) (wanted_rd rfl) hS (fun wx _ => run_build4 (.tmp 26) (.tmp 29) (.tmp 32) (.tmp 35) rfl ((ev_other _ _ (by decide)).trans ((ev_other _ _ (by decide)).trans ((ev_other _ _ (by decide)).trans ((ev_other _ _ (by decide)).trans ((ev_other _ _ (by decide)).trans ((ev_other _ _ (by decide)).trans ((ev_other _ _ (by decide)).trans ((ev_other _ _ (by decide)).trans ((ev_other _ _ (by decide)).trans (ev_same _ _ _ (by simp only [sz_put]; omega))))))))))) ((ev_other _ _ (by decide)).trans ((ev_other _ _ (by decide)).trans ((ev_other _ _ (by decide)).trans ((ev_other _ _ (by decide)).trans ((ev_other _ _ (by decide)).trans ((ev_other _ _ (by decide)).trans (ev_same _ _ _ (by simp only [sz_put]; omega)))))))) ((ev_other _ _ (by decide)).trans ((ev_other _ _ (by decide)).trans ((ev_other _ _ (by decide)).trans (ev_same _ _ _ (by simp only [sz_put]; omega))))) (ev_same _ _ _ (by simp only [sz_put]; omega)) wx) ?_
        show SeqI _ _ _ _ _ _ (Act.put _ (some 36) _) _
        refine sI_do rfl (wanted_rd rfl) (fun K hK => ?_)
        refine wp_alloc4 _ rfl ?_
        intro w2 m2 k2 z2
        have hS2 := at_below hS k2
        refine hK _ _ (fun _ => hS2) ?_
        clear hK K
        show SeqI _ _ _ _ _ _ (Act.put _ (some 11) _) _
        refine sI_do rfl (wanted_rd rfl) (fun K hK => ?_)
        refine wp_store4 _ (.tmp 11) (.tmp 36) rfl (ev_same _ _ _ (by simp only [sz_put]; omega)) ((ev_other _ _ (by decide)).trans (ev_same _ _ _ (by simp only [sz_put]; omega))) m2 rfl ?_
        intro w3 m3 k3
        have hjw : w.heap.size < wr.drew.heap.size := Nat.lt_of_lt_of_le (by omega) (unhide RJ).z
        have hS3 := at_kept hS2 k3 (Nat.ne_of_lt hjw)
        refine hK _ _ (fun _ => hS3) ?_
        clear hK K
        refine sI_end ?_
        have j2 : VJ w v (.slice lo ln lc) (bsN bad s) O wr.drew := (unhide RJ).below (below_drew (Below.refl _ _))
        exact ⟨rfl, ⟨m3, (j2.below k2).keep k3 (unhide RJ).z⟩, rfl⟩
      case rest7 =>
        rintro a' w3 ⟨⟨m3, j3⟩, rfl⟩
        have H3 := hide m3; have J3 := hide j3; have ZB := hide (show w.heap.size + 5 ≤ wr.heap.size from (unhide RJ).z)
        obtain ⟨hb, ehb⟩ : ∃ hb, wr.heap.size = hb := ⟨_, rfl⟩
        rw [ehb] at H3 ZB ⊢
        have zb := unhide ZB
        clear m3 j3 RJ ehb
        go_frame
        go_wp2_with fail
        go_loopw [12] (fun rs wx => ∃ (r : Nat) (H : Nat → Int) (c : Nat), rs = .int .i64 r ∧ r ≤ 4 ∧ F4 wx hb H ∧ VJ w v (.slice lo ln lc) c O wx ∧ c = bsN bad s + (if (s : Int) = bad then (if r ≤ s then r else r - 1) else 0) ∧ ∀ j, j < 4 → H j = if j < r then hdF v bad (liF g ln) s j else v s) (fun rs _ => 4 - (intOf rs).toNat)
        case atStart => exact ⟨0, _, _, rfl, by omega, unhide H3, unhide J3, by split <;> (try split) <;> omega, fun j _ => by rw [if_neg (by omega)]⟩
        case round =>
          obtain ⟨r, H, c, rfl, hr4', mH, hJ, ec, hH⟩ := hrel
          rename World => wx
          have RH := hide mH; have RJ := hide hJ; have EC := hide ec; have HH := hide hH
          have hb9 := bsN_le bad hs4'
          have hc1000 : c ≤ 1000 := by rw [ec]; split <;> (try split) <;> omega
          clear mH hJ ec hH H3 J3
          by_cases hr4 : r < 4
          · have hr4i : (r : Int) < 4 := by omega
            by_cases hsb : (s : Int) = bad
            · have tsb : (((s : Nat) : Int) == bad) = true := by simp [hsb]
              by_cases hrs : r = s
              · have trs : (((r : Nat) : Int) != ((s : Nat) : Int)) = false := by simp [hrs]
                have F := hide (show c = bsN bad s + (if (s : Int) = bad then (if r + 1 ≤ s then r + 1 else r + 1 - 1) else 0) by rw [unhide EC, if_pos hsb, if_pos hsb]; split <;> split <;> omega)
                have G := hide (show ∀ j, j < 4 → H j = if j < r + 1 then hdF v bad (liF g ln) s j else v s from fun j hj => by
                  rw [unhide HH j hj]
                  by_cases e : j < r
                  · rw [if_pos e, if_pos (by omega)]
                  · rw [if_neg e]
                    by_cases e2 : j = r
                    · rw [if_pos (by omega)]; unfold hdF; rw [if_neg (by omega)]
                    · rw [if_neg (by omega)])
                clear hsb hrs
                go_wp2_with fail
                go_roundw
                case rel => exact ⟨r + 1, H, c, by go_num, by omega, unhide RH, unhide RJ, unhide F, unhide G⟩
                case measure => simp [intOf] <;> omega
              · have trs : (((r : Nat) : Int) != ((s : Nat) : Int)) = true := by simp; omega
                have F := hide (show c + 1 = bsN bad s + (if (s : Int) = bad then (if r + 1 ≤ s then r + 1 else r + 1 - 1) else 0) by rw [unhide EC, if_pos hsb, if_pos hsb]; split <;> split <;> omega)
                have HD := hide (show hdF v bad (liF g ln) s r = liF g ln c by unfold hdF; rw [if_pos ⟨hsb, hrs⟩, unhide EC, if_pos hsb]; congr 2; split <;> split <;> omega)
                clear hsb
                go_wp2_with fail
                refine (lie_any (w.heap.size + 1 + 1 + 1) (w.heap.size + 1) c lo ln lc g _ hc1000 (by omega) (unhide RJ).n (unhide RJ).l ((unhide LS).below (unhide RJ).k) (unhide LN)).mono ?_
                rintro e w4 ⟨rfl, n4, k4⟩
                have h4 := (unhide RH).kept k4 (by omega)
                have j4 := (unhide RJ).told k4 n4
                have ch := h4.cell hr4; have fh := h4.free r
                have H5 := hide (h4.set r (liF g ln c)); have J5 := hide (j4.keep (kept_set w4 hb r (.int .i64 (liF g ln c))) (by omega))
                clear n4 k4 h4 j4 RH RJ
                go_wp2_with fail
                go_roundw
                case rel =>
                  refine ⟨r + 1, _, c + 1, by go_num, by omega, unhide H5, unhide J5, unhide F, fun j hj => ?_⟩
                  show (if j = r then liF g ln c else H j) = _
                  by_cases e : j = r
                  · rw [if_pos e, if_pos (by omega), e, unhide HD]
                  · rw [if_neg e, unhide HH j hj]
                    by_cases e2 : j < r
                    · rw [if_pos e2, if_pos (by omega)]
                    · rw [if_neg e2, if_neg (by omega)]
                case measure => simp [intOf] <;> omega
            · have tsb : (((s : Nat) : Int) == bad) = false := by simp [hsb]
              have F := hide (show c = bsN bad s + (if (s : Int) = bad then (if r + 1 ≤ s then r + 1 else r + 1 - 1) else 0) by rw [unhide EC, if_neg hsb, if_neg hsb])
              have G := hide (show ∀ j, j < 4 → H j = if j < r + 1 then hdF v bad (liF g ln) s j else v s from fun j hj => by
                have e0 : hdF v bad (liF g ln) s j = v s := by unfold hdF; rw [if_neg (fun h => hsb h.1)]
                rw [unhide HH j hj, e0]
                split <;> split <;> rfl)
              clear hsb
              go_wp2_with fail
              go_roundw
              case rel => exact ⟨r + 1, H, c, by go_num, by omega, unhide RH, unhide RJ, unhide F, unhide G⟩
              case measure => simp [intOf] <;> omega
          · have e9 : r = 4 := by omega
            subst e9
            rw [show ((4 : Nat) : Int) = 4 from rfl]
            have EB := hide (show c = cB bad s by rw [unhide EC]; unfold cB; split <;> (try split) <;> omega)
            have H4 := hide (show ∀ j, j < 4 → H j = hdF v bad (liF g ln) s j from fun j hj => by rw [unhide HH j hj, if_pos hj])
            have c1 : c ≤ 12 := by rw [unhide EC]; split <;> (try split) <;> omega
            clear EC HH hr4 hr4' hc1000 hb9
            obtain ⟨wp, ep⟩ : ∃ wp, wp = wx.alloc (.cells (gridC (fun _ _ => 0)) 28) := ⟨_, rfl⟩
            have kp := al_below wx (.cells (gridC (fun _ _ => 0)) 28)
            have P0 := hide (G16.new wx (fun _ _ => 0))
            rw [← ep] at kp P0
            have J0 := hide ((unhide RJ).below kp); have H0 := hide ((unhide RH).below kp)
            have zh : hb < wx.heap.size := (unhide RH).lt
            have EP := hide ep
            clear ep kp RH RJ
            unfold gridC at EP
            go_wp2_with fail
            rw [← unhide EP]
            obtain ⟨pk, epk⟩ : ∃ pk, wx.heap.size = pk := ⟨_, rfl⟩
            rw [epk] at P0 zh ⊢
            clear EP epk
            go_loopw [14] (fun rs wx => ∃ (r : Nat) (P : Nat → Nat → Int) (c : Nat), rs = .int .i64 r ∧ r ≤ 4 ∧ F4 wx hb H ∧ G16 wx pk P ∧ VJ w v (.slice lo ln lc) c O wx ∧ c = cB bad s + ctN bad s r 0 ∧ PsK v bad (liF g ln) s P r 0) (fun rs _ => 4 - (intOf rs).toNat)
            case atStart => exact ⟨0, _, _, rfl, by omega, unhide H0, unhide P0, unhide J0, by rw [ct_zero]; exact unhide EB, psk_zero⟩
            case round =>
              obtain ⟨r, P1, c9, rfl, hr4', mH, mP, hJ, ec, hP⟩ := hrel
              rename World => wf
              have RH := hide mH; have RP := hide mP; have RJ := hide hJ; have EC := hide ec; have KP := hide hP
              clear mH mP hJ ec hP H0 P0 J0
              by_cases hr4 : r < 4
              · have hr4i : (r : Int) < 4 := by omega
                go_wp2_with fail
                go_loopw [15] (fun qs wx => ∃ (q : Nat) (P : Nat → Nat → Int) (c : Nat), qs = .int .i64 q ∧ q ≤ 4 ∧ F4 wx hb H ∧ G16 wx pk P ∧ VJ w v (.slice lo ln lc) c O wx ∧ c = cB bad s + ctN bad s r q ∧ PsK v bad (liF g ln) s P r q) (fun qs _ => 4 - (intOf qs).toNat)
                case atStart => exact ⟨0, _, _, rfl, by omega, unhide RH, unhide RP, unhide RJ, unhide EC, unhide KP⟩
                case round =>
                  obtain ⟨q, P, c, rfl, hq4', mH, mP, hJ, ec, hP⟩ := hrel
                  rename World => wz
                  have ZH := hide mH; have ZP := hide mP; have ZJ := hide hJ; have EC := hide ec; have KP := hide hP
                  have hc1000 : c ≤ 1000 := by have := ct_le bad s r hq4'; have := unhide EB; omega
                  clear mH mP hJ ec hP RH RP RJ
                  by_cases hq4 : q < 4
                  · have hq4i : (q : Int) < 4 := by omega
                    by_cases hrs : r = s
                    · have trs : (((r : Nat) : Int) != ((s : Nat) : Int)) = false := by simp [hrs]
                      have F := hide ((unhide EC).trans (show cB bad s + ctN bad s r q = cB bad s + ctN bad s r (q + 1) by rw [ct_skip (Or.inl hrs)]))
                      have G := hide (psk_skip (Or.inl hrs) (unhide KP))
                      clear hrs
                      go_wp2_with fail
                      go_roundw
                      case rel => exact ⟨q + 1, P, c, by go_num, by omega, unhide ZH, unhide ZP, unhide ZJ, unhide F, unhide G⟩
                      case measure => simp [intOf] <;> omega
                    · have trs : (((r : Nat) : Int) != ((s : Nat) : Int)) = true := by simp; omega
                      by_cases hqs : q = s
                      · have tqs : (((q : Nat) : Int) != ((s : Nat) : Int)) = false := by simp [hqs]
                        have F := hide ((unhide EC).trans (show cB bad s + ctN bad s r q = cB bad s + ctN bad s r (q + 1) by rw [ct_skip (Or.inr (Or.inl hqs))]))
                        have G := hide (psk_skip (Or.inr (Or.inl hqs)) (unhide KP))
                        clear hqs
                        go_wp2_with fail
                        go_roundw
                        case rel => exact ⟨q + 1, P, c, by go_num, by omega, unhide ZH, unhide ZP, unhide ZJ, unhide F, unhide G⟩
                        case measure => simp [intOf] <;> omega
                      · have tqs : (((q : Nat) : Int) != ((s : Nat) : Int)) = true := by simp; omega
                        by_cases hqr : q = r
                        · have tqr : (((q : Nat) : Int) != ((r : Nat) : Int)) = false := by simp [hqr]
                          have F := hide ((unhide EC).trans (show cB bad s + ctN bad s r q = cB bad s + ctN bad s r (q + 1) by rw [ct_skip (Or.inr (Or.inr (Or.inl hqr)))]))
                          have G := hide (psk_skip (Or.inr (Or.inr hqr)) (unhide KP))
                          clear hqr
                          go_wp2_with fail
                          go_roundw
                          case rel => exact ⟨q + 1, P, c, by go_num, by omega, unhide ZH, unhide ZP, unhide ZJ, unhide F, unhide G⟩
                          case measure => simp [intOf] <;> omega
                        · have tqr : (((q : Nat) : Int) != ((r : Nat) : Int)) = true := by simp; omega
                          go_wp2_with fail
                          refine wp_leaves (fun a0 a' w' => (G16 w' pk (upG P r q (H r)) ∧ VJ w v (.slice lo ln lc) c O w' ∧ F4 w' hb H) ∧ a' = (((((((a0.put (some 74) (.int .i64 (r : Nat))).put (some 75) (.int .i64 (q : Nat))).put (some 76) (.int .i64 (r : Nat))).put (some 77) (.pointer (some ⟨hb, r, none⟩))).put (some 78) (.int .i64 (H r))).put (some 79) (.pointer (some ⟨pk, r * 4, none⟩))).put (some 80) (.pointer (some ⟨pk, r * 4 + q, none⟩)))) ?reg21 ?rest21
                          case reg21 =>
                            intro A eA
                            have b11 : A.eval (.tmp 11) = .pointer (some ⟨hb, 0, none⟩) := by rw [eA]; rfl
                            have b13 : A.eval (.tmp 13) = .pointer (some ⟨pk, 0, none⟩) := by rw [eA]; rfl
                            have b14 : A.eval (.tmp 14) = .int .i64 (r : Nat) := by rw [eA]; rfl
                            have b15 : A.eval (.tmp 15) = .int .i64 (q : Nat) := by rw [eA]; rfl
                            have hz : 135 ≤ A.tmps.size := by rw [eA]; exact of_decide_eq_true rfl
                            clear eA
                            have hS : wz.drew.cell? ⟨hb, r, none⟩ = some (.int .i64 (H r)) := (unhide ZH).cell hr4
                            refine region_I (S := fun u => u.cell? ⟨hb, r, none⟩ = some (.int .i64 (H r))) (.rd 0 (.rd 1 (.rd 2 (.rd 3 (.rd 4 (.rd 5 (.rd 6 (.go 7 .fin)))))))) [7] (by kernel_rfl) (by kernel_rfl) ?_
                            refine sI_read (v := (.int .i64 (r : Nat))) rfl (fun _ _ _ h => absurd h.1 (fun e => nomatch e)) (wanted_rd rfl) hS (fun wx _ => run_move (.tmp 14) rfl b14 wx) ?_
                            show SeqI _ _ _ _ _ _ (Act.put _ (some 74) _) _
                            refine sI_read (v := (.int .i64 (q : Nat))) rfl (fun _ _ _ h => absurd h.1 (fun e => nomatch e)) (wanted_rd rfl) hS (fun wx _ => run_move (.tmp 15) rfl ((ev_other _ _ (by decide)).trans b15) wx) ?_
                            show SeqI _ _ _ _ _ _ (Act.put _ (some 75) _) _
                            refine sI_read (v := (.int .i64 (r : Nat))) rfl (fun _ _ _ h => absurd h.1 (fun e => nomatch e)) (wanted_rd rfl) hS (fun wx _ => run_move (.tmp 14) rfl ((ev_other _ _ (by decide)).trans ((ev_other _ _ (by decide)).trans b14)) wx) ?_
                            show SeqI _ _ _ _ _ _ (Act.put _ (some 76) _) _
                            refine sI_read (v := (.pointer (some ⟨hb, r, none⟩))) rfl (fun _ _ _ h => absurd h.1 (fun e => nomatch e)) (wanted_rd rfl) hS (fun wx _ => run_at4z (.tmp 11) (.tmp 76) rfl ((ev_other _ _ (by decide)).trans ((ev_other _ _ (by decide)).trans ((ev_other _ _ (by decide)).trans b11))) (ev_same _ _ _ (by simp only [sz_put]; omega)) hr4 wx) ?_
                            show SeqI _ _ _ _ _ _ (Act.put _ (some 77) _) _
                            refine sI_read (v := (.int .i64 (H r))) rfl (fun _ _ _ h => absurd h.1 (fun e => nomatch e)) (wanted_rd rfl) hS (fun wx hx => run_ldI (.tmp 77) rfl (ev_same _ _ _ (by simp only [sz_put]; omega)) hx) ?_
                            show SeqI _ _ _ _ _ _ (Act.put _ (some 78) _) _
                            refine sI_read (v := (.pointer (some ⟨pk, r * 4, none⟩))) rfl (fun _ _ _ h => absurd h.1 (fun e => nomatch e)) (wanted_rd rfl) hS (fun wx _ => run_at16 (.tmp 13) (.tmp 74) rfl ((ev_other _ _ (by decide)).trans ((ev_other _ _ (by decide)).trans ((ev_other _ _ (by decide)).trans ((ev_other _ _ (by decide)).trans ((ev_other _ _ (by decide)).trans b13))))) ((ev_other _ _ (by decide)).trans ((ev_other _ _ (by decide)).trans ((ev_other _ _ (by decide)).trans ((ev_other _ _ (by decide)).trans (ev_same _ _ _ (by omega)))))) hr4 wx) ?_
                            show SeqI _ _ _ _ _ _ (Act.put _ (some 79) _) _
                            refine sI_read (v := (.pointer (some ⟨pk, r * 4 + q, none⟩))) rfl (fun _ _ _ h => absurd h.1 (fun e => nomatch e)) (wanted_rd rfl) hS (fun wx _ => run_at4 (.tmp 79) (.tmp 75) rfl (ev_same _ _ _ (by simp only [sz_put]; omega)) ((ev_other _ _ (by decide)).trans ((ev_other _ _ (by decide)).trans ((ev_other _ _ (by decide)).trans ((ev_other _ _ (by decide)).trans (ev_same _ _ _ (by simp only [sz_put]; omega)))))) hq4 wx) ?_
                            show SeqI _ _ _ _ _ _ (Act.put _ (some 80) _) _
                            refine sI_do rfl (wanted_rd rfl) (fun K hK => ?_)
                            have cg : wz.drew.cell? ⟨pk, r * 4 + q, none⟩ = some (.int .i64 (P r q)) := (unhide ZP).cell hr4 hq4
                            have fg : wz.drew.frozen? ⟨pk, r * 4 + q, none⟩ = false := (unhide ZP).free _
                            refine wp_stI _ (.tmp 80) (.tmp 78) rfl (ev_same _ _ _ (by simp only [sz_put]; omega)) ((ev_other _ _ (by decide)).trans ((ev_other _ _ (by decide)).trans (ev_same _ _ _ (by simp only [sz_put]; omega)))) cg fg rfl ?_
                            refine hK _ _ (fun h => absurd h (by decide)) ?_
                            clear hK K
                            refine sI_end ?_
                            have p9 : G16 wz.drew pk P := unhide ZP
                            have kk := kept_set wz.drew pk (r * 4 + q) (.int .i64 (H r))
                            have j9 : VJ w v (.slice lo ln lc) c O wz.drew := (unhide ZJ).below (below_drew (Below.refl _ _))
                            have h9 : F4 wz.drew hb H := unhide ZH
                            exact ⟨rfl, ⟨p9.set hr4 hq4 (H r), j9.keep kk (by omega), h9.kept kk (by omega)⟩, rfl⟩
                          case rest21 =>
                            rintro a' wy ⟨⟨m3, j3, h3⟩, rfl⟩
                            have YP := hide m3; have YJ := hide j3; have YH := hide h3
                            clear m3 j3 h3 ZP ZJ ZH
                            go_frame
                            by_cases hrb : (r : Int) = bad
                            · have trb : (((r : Nat) : Int) == bad) = true := by simp [hrb]
                              have F := hide (show c + 1 = cB bad s + ctN bad s r (q + 1) by rw [ct_told hr4 hrs hqs hqr hrb, unhide EC]; omega)
                              have G := hide (psk_put (x := liF g ln c) (by unfold psF; rw [if_pos hrb, unhide EC, ct_at hr4 hrs hrb]) (psk_keep (H r) (unhide KP)))
                              clear hrb
                              go_wp2_with fail
                              refine wp_leaves (fun a0 a' w' => (G16 w' pk (upG (upG P r q (H r)) r q (liF g ln c)) ∧ VJ w v (.slice lo ln lc) (c + 1) O w' ∧ F4 w' hb H) ∧ a' = ((((((a0.put (some 84) (.int .i64 (r : Nat))).put (some 85) (.int .i64 (q : Nat))).put (some 86) (.func (.func 19) #[] #[.pointer (some ⟨w.heap.size + 1 + 1 + 1, 0, none⟩), .pointer (some ⟨w.heap.size + 1, 0, none⟩)])).put (some 88) (.pointer (some ⟨pk, r * 4, none⟩))).put (some 87) (.int .i64 (liF g ln c))).put (some 89) (.pointer (some ⟨pk, r * 4 + q, none⟩)))) ?reg23 ?rest23
                              case reg23 =>
                                intro A eA
                                have b8 : A.eval (.tmp 8) = .func (.func 19) #[] #[.pointer (some ⟨w.heap.size + 1 + 1 + 1, 0, none⟩), .pointer (some ⟨w.heap.size + 1, 0, none⟩)] := by rw [eA]; rfl
                                have b13 : A.eval (.tmp 13) = .pointer (some ⟨pk, 0, none⟩) := by rw [eA]; rfl
                                have b14 : A.eval (.tmp 14) = .int .i64 (r : Nat) := by rw [eA]; rfl
                                have b15 : A.eval (.tmp 15) = .int .i64 (q : Nat) := by rw [eA]; rfl
                                have hz : 135 ≤ A.tmps.size := by rw [eA]; exact of_decide_eq_true rfl
                                clear eA
                                refine region_I (S := fun _ => True) (.rd 0 (.rd 1 (.rd 2 (.rd 4 (.go 3 (.rd 5 (.go 6 .fin))))))) [] (by kernel_rfl) (by kernel_rfl) ?_
                                refine sI_read (v := (.int .i64 (r : Nat))) rfl (fun _ _ _ h => absurd h.1 (fun e => nomatch e)) (wanted_rd rfl) trivial (fun wx _ => run_move (.tmp 14) rfl b14 wx) ?_
                                show SeqI _ _ _ _ _ _ (Act.put _ (some 84) _) _
                                refine sI_read (v := (.int .i64 (q : Nat))) rfl (fun _ _ _ h => absurd h.1 (fun e => nomatch e)) (wanted_rd rfl) trivial (fun wx _ => run_move (.tmp 15) rfl ((ev_other _ _ (by decide)).trans b15) wx) ?_
                                show SeqI _ _ _ _ _ _ (Act.put _ (some 85) _) _
                                refine sI_read (v := (.func (.func 19) #[] #[.pointer (some ⟨w.heap.size + 1 + 1 + 1, 0, none⟩), .pointer (some ⟨w.heap.size + 1, 0, none⟩)])) rfl (fun _ _ _ h => absurd h.1 (fun e => nomatch e)) (wanted_rd rfl) trivial (fun wx _ => run_move (.tmp 8) rfl ((ev_other _ _ (by decide)).trans ((ev_other _ _ (by decide)).trans b8)) wx) ?_
                                show SeqI _ _ _ _ _ _ (Act.put _ (some 86) _) _
                                refine sI_read (v := (.pointer (some ⟨pk, r * 4, none⟩))) rfl (fun _ _ _ h => absurd h.1 (fun e => nomatch e)) (wanted_rd rfl) trivial (fun wx _ => run_at16 (.tmp 13) (.tmp 84) rfl ((ev_other _ _ (by decide)).trans ((ev_other _ _ (by decide)).trans ((ev_other _ _ (by decide)).trans b13))) ((ev_other _ _ (by decide)).trans ((ev_other _ _ (by decide)).trans (ev_same _ _ _ (by omega)))) hr4 wx) ?_
                                show SeqI _ _ _ _ _ _ (Act.put _ (some 88) _) _
                                refine sI_do rfl (wanted_rd rfl) (fun K hK => ?_)
                                have j9 : VJ w v (.slice lo ln lc) c O wy.drew := (unhide YJ).below (below_drew (Below.refl _ _))
                                refine wp_callC _ (.tmp 86) rfl ((ev_other _ _ (by decide)).trans (ev_same _ _ _ (by simp only [sz_put]; omega))) (lie_any (w.heap.size + 1 + 1 + 1) (w.heap.size + 1) c lo ln lc g wy.drew hc1000 (by omega) j9.n j9.l ((unhide LS).below j9.k) (unhide LN)) ?_
                                rintro e wq ⟨rfl, n9, k9⟩
                                refine ⟨_, rfl, hK _ _ (fun _ => trivial) ?_⟩
                                clear hK K
                                have p9 : G16 wy.drew pk (upG P r q (H r)) := unhide YP
                                have h9 : F4 wy.drew hb H := unhide YH
                                have p8 := p9.kept k9 (by omega)
                                have h8 := h9.kept k9 (by omega)
                                have j8 := j9.told k9 n9
                                show SeqI _ _ _ _ _ _ (Act.put _ (some 87) _) _
                                refine sI_read (v := (.pointer (some ⟨pk, r * 4 + q, none⟩))) rfl (fun _ _ _ h => absurd h.1 (fun e => nomatch e)) (wanted_rd rfl) trivial (fun wx _ => run_at4 (.tmp 88) (.tmp 85) rfl ((ev_other _ _ (by decide)).trans (ev_same _ _ _ (by simp only [sz_put]; omega))) ((ev_other _ _ (by decide)).trans ((ev_other _ _ (by decide)).trans ((ev_other _ _ (by decide)).trans (ev_same _ _ _ (by simp only [sz_put]; omega))))) hq4 wx) ?_
                                show SeqI _ _ _ _ _ _ (Act.put _ (some 89) _) _
                                refine sI_do rfl (wanted_rd rfl) (fun K hK => ?_)
                                refine wp_stI _ (.tmp 89) (.tmp 87) rfl (ev_same _ _ _ (by simp only [sz_put]; omega)) ((ev_other _ _ (by decide)).trans (ev_same _ _ _ (by simp only [sz_put]; omega))) (p8.cell hr4 hq4) (p8.free _) rfl ?_
                                refine hK _ _ (fun _ => trivial) ?_
                                clear hK K
                                refine sI_end ?_
                                have kk := kept_set wq pk (r * 4 + q) (.int .i64 (liF g ln c))
                                exact ⟨rfl, ⟨p8.set hr4 hq4 (liF g ln c), j8.keep kk (by omega), h8.kept kk (by omega)⟩, rfl⟩
                              case rest23 =>
                                rintro a' wq ⟨⟨m4, j4, h4⟩, rfl⟩
                                have QP := hide m4; have QJ := hide j4; have QH := hide h4
                                clear m4 j4 h4 YP YJ YH
                                go_frame
                                go_wp2_with fail
                                go_roundw
                                case rel => exact ⟨q + 1, _, c + 1, by go_num, by omega, unhide QH, unhide QP, unhide QJ, unhide F, unhide G⟩
                                case measure => simp [intOf] <;> omega
                            · have trb : (((r : Nat) : Int) == bad) = false := by simp [hrb]
                              have F := hide ((unhide EC).trans (show cB bad s + ctN bad s r q = cB bad s + ctN bad s r (q + 1) by rw [ct_skip (Or.inr (Or.inr (Or.inr hrb)))]))
                              have G := hide (psk_put (x := H r) (by unfold psF; rw [if_neg hrb, unhide H4 r hr4]) (unhide KP))
                              clear hrb
                              go_wp2_with fail
                              go_roundw
                              case rel => exact ⟨q + 1, _, c, by go_num, by omega, unhide YH, unhide YP, unhide YJ, unhide F, unhide G⟩
                              case measure => simp [intOf] <;> omega
                  · have e9 : q = 4 := by omega
                    subst e9
                    rw [show ((4 : Nat) : Int) = 4 from rfl]
                    have F := hide ((unhide EC).trans (show cB bad s + ctN bad s r 4 = cB bad s + ctN bad s (r + 1) 0 by rw [ct_row hs4 hr4]))
                    have G := hide (psk_row (unhide KP))
                    go_wp2_with fail
                    go_roundw
                    case rel => exact ⟨r + 1, P, c, by go_num, by omega, unhide ZH, unhide ZP, unhide ZJ, unhide F, unhide G⟩
                    case measure => simp [intOf] <;> omega
              · have e9 : r = 4 := by omega
                subst e9
                rw [show ((4 : Nat) : Int) = 4 from rfl]
                have EN := hide ((unhide EC).trans (ct_end hs4))
                have KE := hide (unhide KP)
                clear EC KP hr4 hr4'
                go_wp2_with fail
                go_loopw [16] (fun qs wx => ∃ (q : Nat) (O2 : Nat → Nat → Int), qs = .int .i64 q ∧ q ≤ 4 ∧ F4 wx hb H ∧ G16 wx pk P1 ∧ VJ w v (.slice lo ln lc) c9 O2 wx ∧ OnK v bad (liF g ln) s O2 q) (fun qs _ => 4 - (intOf qs).toNat)
                case atStart => exact ⟨0, O, rfl, by omega, unhide RH, unhide RP, unhide RJ, fun i t hi ht => unhide HO i t hi (by omega)⟩
                case round =>
                  obtain ⟨q, O2, rfl, hq4', mH, mP, hJ, hO2⟩ := hrel
                  rename World => wm
                  have MH := hide mH; have MP := hide mP; have MJ := hide hJ; have MO := hide hO2
                  clear mH mP hJ hO2 RH RP RJ
                  by_cases hq4 : q < 4
                  · have hq4i : (q : Int) < 4 := by omega
                    by_cases hqs : q = s
                    · have tqs : (((q : Nat) : Int) == ((s : Nat) : Int)) = true := by simp [hqs]
                      have G := hide (onk_put (show vcF v bad (liF g ln) q s = v s by unfold vcF; rw [if_pos hqs]) (unhide MO))
                      clear hqs
                      go_wp2_with fail
                      refine wp_leaves (fun a0 a' w' => (VJ w v (.slice lo ln lc) c9 (upG O2 q s (v s)) w' ∧ F4 w' hb H ∧ G16 w' pk P1) ∧ a' = (((((((a0.put (some 97) (.int .i64 (q : Nat))).put (some 98) (.int .i64 (s : Nat))).put (some 99) (.int .i64 (s : Nat))).put (some 100) (.pointer (some ⟨w.heap.size, s, none⟩))).put (some 101) (.int .i64 (v s))).put (some 102) (.pointer (some ⟨w.heap.size + 1 + 1 + 1 + 1, q * 4, none⟩))).put (some 103) (.pointer (some ⟨w.heap.size + 1 + 1 + 1 + 1, q * 4 + s, none⟩)))) ?reg28 ?rest28
                      case reg28 =>
                        intro A eA
                        have b3 : A.eval (.tmp 3) = .pointer (some ⟨w.heap.size, 0, none⟩) := by rw [eA]; rfl
                        have b9 : A.eval (.tmp 9) = .pointer (some ⟨w.heap.size + 1 + 1 + 1 + 1, 0, none⟩) := by rw [eA]; rfl
                        have b10 : A.eval (.tmp 10) = .int .i64 (s : Nat) := by rw [eA]; rfl
                        have b16 : A.eval (.tmp 16) = .int .i64 (q : Nat) := by rw [eA]; rfl
                        have hz : 135 ≤ A.tmps.size := by rw [eA]; exact of_decide_eq_true rfl
                        clear eA
                        have hS : wm.drew.cell? ⟨w.heap.size, s, none⟩ = some (.int .i64 (v s)) := (unhide MJ).a.cell hs4
                        refine region_I (S := fun u => u.cell? ⟨w.heap.size, s, none⟩ = some (.int .i64 (v s))) (.rd 0 (.rd 1 (.rd 2 (.rd 3 (.rd 4 (.rd 5 (.rd 6 (.go 7 .fin)))))))) [7] (by kernel_rfl) (by kernel_rfl) ?_
                        refine sI_read (v := (.int .i64 (q : Nat))) rfl (fun _ _ _ h => absurd h.1 (fun e => nomatch e)) (wanted_rd rfl) hS (fun wx _ => run_move (.tmp 16) rfl b16 wx) ?_
                        show SeqI _ _ _ _ _ _ (Act.put _ (some 97) _) _
                        refine sI_read (v := (.int .i64 (s : Nat))) rfl (fun _ _ _ h => absurd h.1 (fun e => nomatch e)) (wanted_rd rfl) hS (fun wx _ => run_move (.tmp 10) rfl ((ev_other _ _ (by decide)).trans b10) wx) ?_
                        show SeqI _ _ _ _ _ _ (Act.put _ (some 98) _) _
                        refine sI_read (v := (.int .i64 (s : Nat))) rfl (fun _ _ _ h => absurd h.1 (fun e => nomatch e)) (wanted_rd rfl) hS (fun wx _ => run_move (.tmp 10) rfl ((ev_other _ _ (by decide)).trans ((ev_other _ _ (by decide)).trans b10)) wx) ?_
                        show SeqI _ _ _ _ _ _ (Act.put _ (some 99) _) _
                        refine sI_read (v := (.pointer (some ⟨w.heap.size, s, none⟩))) rfl (fun _ _ _ h => absurd h.1 (fun e => nomatch e)) (wanted_rd rfl) hS (fun wx _ => run_at4z (.tmp 3) (.tmp 99) rfl ((ev_other _ _ (by decide)).trans ((ev_other _ _ (by decide)).trans ((ev_other _ _ (by decide)).trans b3))) (ev_same _ _ _ (by simp only [sz_put]; omega)) hs4 wx) ?_
                        show SeqI _ _ _ _ _ _ (Act.put _ (some 100) _) _
                        refine sI_read (v := (.int .i64 (v s))) rfl (fun _ _ _ h => absurd h.1 (fun e => nomatch e)) (wanted_rd rfl) hS (fun wx hx => run_ldI (.tmp 100) rfl (ev_same _ _ _ (by simp only [sz_put]; omega)) hx) ?_
                        show SeqI _ _ _ _ _ _ (Act.put _ (some 101) _) _
                        refine sI_read (v := (.pointer (some ⟨w.heap.size + 1 + 1 + 1 + 1, q * 4, none⟩))) rfl (fun _ _ _ h => absurd h.1 (fun e => nomatch e)) (wanted_rd rfl) hS (fun wx _ => run_at16 (.tmp 9) (.tmp 97) rfl ((ev_other _ _ (by decide)).trans ((ev_other _ _ (by decide)).trans ((ev_other _ _ (by decide)).trans ((ev_other _ _ (by decide)).trans ((ev_other _ _ (by decide)).trans b9))))) ((ev_other _ _ (by decide)).trans ((ev_other _ _ (by decide)).trans ((ev_other _ _ (by decide)).trans ((ev_other _ _ (by decide)).trans (ev_same _ _ _ (by omega)))))) hq4 wx) ?_
                        show SeqI _ _ _ _ _ _ (Act.put _ (some 102) _) _
                        refine sI_read (v := (.pointer (some ⟨w.heap.size + 1 + 1 + 1 + 1, q * 4 + s, none⟩))) rfl (fun _ _ _ h => absurd h.1 (fun e => nomatch e)) (wanted_rd rfl) hS (fun wx _ => run_at4 (.tmp 102) (.tmp 98) rfl (ev_same _ _ _ (by simp only [sz_put]; omega)) ((ev_other _ _ (by decide)).trans ((ev_other _ _ (by decide)).trans ((ev_other _ _ (by decide)).trans ((ev_other _ _ (by decide)).trans (ev_same _ _ _ (by simp only [sz_put]; omega)))))) hs4 wx) ?_
                        show SeqI _ _ _ _ _ _ (Act.put _ (some 103) _) _
                        refine sI_do rfl (wanted_rd rfl) (fun K hK => ?_)
                        have j9 : VJ w v (.slice lo ln lc) c9 O2 wm.drew := (unhide MJ).below (below_drew (Below.refl _ _))
                        refine wp_stI _ (.tmp 103) (.tmp 101) rfl (ev_same _ _ _ (by simp only [sz_put]; omega)) ((ev_other _ _ (by decide)).trans ((ev_other _ _ (by decide)).trans (ev_same _ _ _ (by simp only [sz_put]; omega)))) (j9.o.cell hq4 hs4) (j9.o.free _) rfl ?_
                        refine hK _ _ (fun h => absurd h (by decide)) ?_
                        clear hK K
                        refine sI_end ?_
                        have kk := kept_set wm.drew (w.heap.size + 1 + 1 + 1 + 1) (q * 4 + s) (.int .i64 (v s))
                        have h9 : F4 wm.drew hb H := unhide MH
                        have p9 : G16 wm.drew pk P1 := unhide MP
                        exact ⟨rfl, ⟨j9.put kk (j9.o.set hq4 hs4 (v s)), h9.kept kk (by omega), p9.kept kk (by omega)⟩, rfl⟩
                      case rest28 =>
                        rintro a' wn ⟨⟨j3, h3, m3⟩, rfl⟩
                        have YJ := hide j3; have YH := hide h3; have YP := hide m3
                        clear m3 j3 h3 MP MJ MH
                        go_frame
                        go_wp2_with fail
                        go_roundw
                        case rel => exact ⟨q + 1, _, by go_num, by omega, unhide YH, unhide YP, unhide YJ, unhide G⟩
                        case measure => simp [intOf] <;> omega
                    · have tqs : (((q : Nat) : Int) == ((s : Nat) : Int)) = false := by simp; omega
                      have ch := (unhide MH).cell hq4
                      obtain ⟨wl, el⟩ : ∃ wl, wl = wm.alloc (.cells #[.int .i64 (H q)] 3) := ⟨_, rfl⟩
                      have kl := al_below wm (.cells #[.int .i64 (H q)] 3)
                      have OL := hide (show wl.ownsRow wm.heap.size 3 1 (.slice (some ⟨wm.heap.size, 0, none⟩) 1 1) 1 (rowV (iF (fun _ => H q)) 1) by rw [el]; exact World.ownsRow_lit wm #[.int .i64 (H q)] 1 (Nat.le_refl _) (by decide) rfl)
                      rw [← el] at kl
                      have KL := hide kl; have EL := hide el
                      clear el kl
                      go_wp2_with fail
                      rw [← unhide EL]
                      clear EL ch
                      go_loopw [17, 18] (fun ls rs wx => ∃ (r n cap : Nat) (ao : Option Addr) (F : Nat → Int), ls = .slice ao n cap ∧ rs = .int .i64 r ∧ r ≤ 4 ∧ n = nO q s r ∧ wx.ownsRow wm.heap.size 3 1 (.slice ao n cap) n (rowV (iF F) n) ∧ Below wm.heap.size wm wx ∧ FK q s H P1 F r) (fun _ rs _ => 4 - (intOf rs).toNat)
                      case atStart => exact ⟨0, 1, 1, _, _, rfl, rfl, by omega, nO_zero.symm, unhide OL, unhide KL, fk_zero⟩
                      case round =>
                        obtain ⟨r, n, cap, ao, F, rfl, rfl, hr4', en, hOw, hK, hF⟩ := hrel
                        rename World => wn
                        have OW := hide hOw; have KB := hide hK; have FH := hide hF; have EN2 := hide en
                        have hn3 : n ≤ 3 := by rw [en]; exact nO_le
                        clear hOw hK hF en OL KL
                        by_cases hr4 : r < 4
                        · have hr4i : (r : Int) < 4 := by omega
                          by_cases hrs : r = s
                          · have trs : (((r : Nat) : Int) != ((s : Nat) : Int)) = false := by simp [hrs]
                            have hno := oth hq4 hs4 hqs
                            have F1 := hide ((unhide EN2).trans (nO_skip (by omega) (by omega)))
                            have G1 := hide (fk_skip (by omega) (by omega) (unhide FH))
                            clear hno hrs
                            go_wp2_with fail
                            go_roundw
                            case rel => exact ⟨r + 1, n, cap, ao, F, rfl, by go_num, by omega, unhide F1, unhide OW, unhide KB, unhide G1⟩
                            case measure => simp [intOf] <;> omega
                          · have trs : (((r : Nat) : Int) != ((s : Nat) : Int)) = true := by simp; omega
                            by_cases hrq : r = q
                            · have trq : (((r : Nat) : Int) != ((q : Nat) : Int)) = false := by simp [hrq]
                              have hno := oth hq4 hs4 hqs
                              have F1 := hide ((unhide EN2).trans (nO_skip (by omega) (by omega)))
                              have G1 := hide (fk_skip (by omega) (by omega) (unhide FH))
                              clear hno hrq
                              go_wp2_with fail
                              go_roundw
                              case rel => exact ⟨r + 1, n, cap, ao, F, rfl, by go_num, by omega, unhide F1, unhide OW, unhide KB, unhide G1⟩
                              case measure => simp [intOf] <;> omega
                            · have trq : (((r : Nat) : Int) != ((q : Nat) : Int)) = true := by simp; omega
                              have hlt := oth_lt hq4 hs4 hqs
                              have hre := oth_is hq4 hs4 hqs hr4 hrs hrq
                              have F1 := hide (show n + 1 = nO q s (r + 1) by rw [unhide EN2]; exact nO_add hlt hre)
                              have G1 := hide (show FK q s H P1 (fun j => if j = n then P1 r q else F j) (r + 1) by rw [unhide EN2]; exact fk_add hlt hre (unhide FH))
                              clear hlt hre hrs hrq
                              have cp : wn.cell? ⟨pk, r * 4 + q, none⟩ = some (.int .i64 (P1 r q)) := ((unhide MP).below (unhide KB)).cell hr4 hq4
                              have A3 := al_below wn (.cells #[.int .i64 (P1 r q)] 3)
                              have R3 := hide ((Vh.new wn 3 #[.int .i64 (P1 r q)] (fun _ => .int .i64 (P1 r q)) (by show 1 ≤ maxLen; decide) (fun i hi => by
                                have : i = 0 := by simp at hi; omega
                                subst this; rfl)).rd)
                              have k3 := (unhide KB).trans (A3.mono (unhide KB).size)
                              have O3 := hide (own_kept (unhide OW) A3); have K3 := hide k3; have Z3 := hide k3.size
                              clear A3 k3 OW KB
                              go_wp2_with (at_builtin; refine wpList_joinV _ rfl _ _ rfl wm.heap.size (unhide Z3) ao n cap (iF F) rfl (unhide O3) wn.heap.size 1 1 (fun _ => .int .i64 (P1 r q)) rfl (unhide R3) (fun i _ => rfl) (by omega) (by omega) ?_)
                              intro ao4 cap4 w4 o4 g4 l4 k4
                              have e4 : rowV (iF F) n ++ rowV (fun _ => .int .i64 (P1 r q)) 1 = rowV (iF (fun j => if j = n then P1 r q else F j)) (n + 1) := by
                                rw [rowV_append]
                                refine rowV_congr (fun j hj => ?_)
                                unfold iF
                                dsimp only
                                by_cases c : j = n
                                · rw [if_neg (by omega), if_pos c]
                                · rw [if_pos (by omega), if_neg c]
                              rw [e4] at o4
                              have O4 := hide o4; have K4 := hide ((unhide K3).trans k4)
                              clear o4 g4 l4 k4 e4 O3 K3 Z3 R3
                              go_wp2_with fail
                              go_roundw
                              case rel => exact ⟨r + 1, n + 1, cap4, ao4, _, rfl, by go_num, by omega, unhide F1, unhide O4, unhide K4, unhide G1⟩
                              case measure => simp [intOf] <;> omega
                        · have e9 : r = 4 := by omega
                          subst e9
                          rw [show ((4 : Nat) : Int) = 4 from rfl]
                          have NJ := hide ((unhide MJ).below (unhide KB)); have NH := hide ((unhide MH).below (unhide KB)); have NP := hide ((unhide MP).below (unhide KB))
                          have NR := hide (owns_rd (unhide OW))
                          clear OW KB MJ MH MP
                          go_wp2_with fail
                          refine wp_leaves (fun a0 a' w' => ∃ m, IsMaj F n 0 m ∧ (VJ w v (.slice lo ln lc) c9 (upG O2 q s m) w' ∧ F4 w' hb H ∧ G16 w' pk P1) ∧ a' = ((((((a0.put (some 128) (.int .i64 (q : Nat))).put (some 129) (.int .i64 (s : Nat))).put (some 130) (.slice ao n cap)).put (some 132) (.pointer (some ⟨w.heap.size + 1 + 1 + 1 + 1, q * 4, none⟩))).put (some 131) (.int .i64 m)).put (some 133) (.pointer (some ⟨w.heap.size + 1 + 1 + 1 + 1, q * 4 + s, none⟩)))) ?reg35 ?rest35
                          case reg35 =>
                            intro A eA
                            have b9 : A.eval (.tmp 9) = .pointer (some ⟨w.heap.size + 1 + 1 + 1 + 1, 0, none⟩) := by rw [eA]; rfl
                            have b10 : A.eval (.tmp 10) = .int .i64 (s : Nat) := by rw [eA]; rfl
                            have b16 : A.eval (.tmp 16) = .int .i64 (q : Nat) := by rw [eA]; rfl
                            have b17 : A.eval (.tmp 17) = .slice ao n cap := by rw [eA]; rfl
                            have hz : 135 ≤ A.tmps.size := by rw [eA]; exact of_decide_eq_true rfl
                            clear eA
                            refine region_I (S := fun _ => True) (.rd 0 (.rd 1 (.rd 2 (.rd 4 (.go 3 (.rd 5 (.go 6 .fin))))))) [] (by kernel_rfl) (by kernel_rfl) ?_
                            refine sI_read (v := (.int .i64 (q : Nat))) rfl (fun _ _ _ h => absurd h.1 (fun e => nomatch e)) (wanted_rd rfl) trivial (fun wx _ => run_move (.tmp 16) rfl b16 wx) ?_
                            show SeqI _ _ _ _ _ _ (Act.put _ (some 128) _) _
                            refine sI_read (v := (.int .i64 (s : Nat))) rfl (fun _ _ _ h => absurd h.1 (fun e => nomatch e)) (wanted_rd rfl) trivial (fun wx _ => run_move (.tmp 10) rfl ((ev_other _ _ (by decide)).trans b10) wx) ?_
                            show SeqI _ _ _ _ _ _ (Act.put _ (some 129) _) _
                            refine sI_read (v := (.slice ao n cap)) rfl (fun _ _ _ h => absurd h.1 (fun e => nomatch e)) (wanted_rd rfl) trivial (fun wx _ => run_move (.tmp 17) rfl ((ev_other _ _ (by decide)).trans ((ev_other _ _ (by decide)).trans b17)) wx) ?_
                            show SeqI _ _ _ _ _ _ (Act.put _ (some 130) _) _
                            refine sI_read (v := (.pointer (some ⟨w.heap.size + 1 + 1 + 1 + 1, q * 4, none⟩))) rfl (fun _ _ _ h => absurd h.1 (fun e => nomatch e)) (wanted_rd rfl) trivial (fun wx _ => run_at16 (.tmp 9) (.tmp 128) rfl ((ev_other _ _ (by decide)).trans ((ev_other _ _ (by decide)).trans ((ev_other _ _ (by decide)).trans b9))) ((ev_other _ _ (by decide)).trans ((ev_other _ _ (by decide)).trans (ev_same _ _ _ (by omega)))) hq4 wx) ?_
                            show SeqI _ _ _ _ _ _ (Act.put _ (some 132) _) _
                            refine sI_do rfl (wanted_rd rfl) (fun K hK => ?_)
                            have j9 : VJ w v (.slice lo ln lc) c9 O2 wn.drew := (unhide NJ).below (below_drew (Below.refl _ _))
                            refine wp_call2 _ 10 (.tmp 130) (.const (.int .i64 0)) #[22, 3] rfl ((ev_other _ _ (by decide)).trans (ev_same _ _ _ (by simp only [sz_put]; omega))) rfl (enter_rmaj _ _ _) (refMajority_rd ao n cap F 0 wn.drew (by omega) (unhide NR)) ?_
                            rintro e wq ⟨m, hm, rfl, rfl⟩
                            refine ⟨_, rfl, hK _ _ (fun _ => trivial) ?_⟩
                            clear hK K
                            show SeqI _ _ _ _ _ _ (Act.put _ (some 131) _) _
                            refine sI_read (v := (.pointer (some ⟨w.heap.size + 1 + 1 + 1 + 1, q * 4 + s, none⟩))) rfl (fun _ _ _ h => absurd h.1 (fun e => nomatch e)) (wanted_rd rfl) trivial (fun wx _ => run_at4 (.tmp 132) (.tmp 129) rfl ((ev_other _ _ (by decide)).trans (ev_same _ _ _ (by simp only [sz_put]; omega))) ((ev_other _ _ (by decide)).trans ((ev_other _ _ (by decide)).trans ((ev_other _ _ (by decide)).trans (ev_same _ _ _ (by simp only [sz_put]; omega))))) hs4 wx) ?_
                            show SeqI _ _ _ _ _ _ (Act.put _ (some 133) _) _
                            refine sI_do rfl (wanted_rd rfl) (fun K hK => ?_)
                            refine wp_stI _ (.tmp 133) (.tmp 131) rfl (ev_same _ _ _ (by simp only [sz_put]; omega)) ((ev_other _ _ (by decide)).trans (ev_same _ _ _ (by simp only [sz_put]; omega))) (j9.o.cell hq4 hs4) (j9.o.free _) rfl ?_
                            refine hK _ _ (fun _ => trivial) ?_
                            clear hK K
                            refine sI_end ?_
                            have kk := kept_set wn.drew (w.heap.size + 1 + 1 + 1 + 1) (q * 4 + s) (.int .i64 m)
                            have h9 : F4 wn.drew hb H := unhide NH
                            have p9 : G16 wn.drew pk P1 := unhide NP
                            exact ⟨rfl, ⟨m, hm, ⟨j9.put kk (j9.o.set hq4 hs4 m), h9.kept kk (by omega), p9.kept kk (by omega)⟩, rfl⟩⟩
                          case rest35 =>
                            rintro a' w5 ⟨m, hm, ⟨j3, h3, m3⟩, rfl⟩
                            rw [unhide EN2, nO_end hq4 hs4 hqs] at hm
                            have G := hide (onk_put (fk_end hq4 hs4 hqs (unhide H4) (unhide KE) (unhide FH) hm) (unhide MO))
                            have YJ := hide j3; have YH := hide h3; have YP := hide m3
                            clear m3 j3 h3 hm NJ NH NP NR
                            go_frame
                            go_wp2_with fail
                            go_roundw
                            case rel => exact ⟨q + 1, _, by go_num, by omega, unhide YH, unhide YP, unhide YJ, unhide G⟩
                            case measure => simp [intOf] <;> omega
                  · have e9 : q = 4 := by omega
                    subst e9
                    rw [show ((4 : Nat) : Int) = 4 from rfl]
                    go_wp2_with fail
                    go_roundw
                    case rel => exact ⟨s + 1, O2, by go_num, by omega, (unhide EN) ▸ unhide MJ, fun q t hq ht => unhide MO q t hq (by omega)⟩
                    case measure => simp [intOf] <;> omega
    · have e9 : s = 4 := by omega
      subst e9
      rw [show ((4 : Nat) : Int) = 4 from rfl]
      clear hs4 hs4'
      go_wp2_with (first | refine wpList_loadG _ rfl (.tmp 9) rfl rfl (unhide RJ).o ?_ | refine wpList_storeG _ rfl (.tmp 6) (.tmp 134) rfl rfl rfl (unhide RJ).r rfl ?_)
      intro w5 m5 k5
      have EO := hide (grid_congr (x := O) (y := vcF v bad (liF g ln)) (fun q t hq ht => unhide HO q t hq ht))
      have K5 := hide (below_of_kept (unhide RJ).k k5 (by omega) (unhide RJ).k.size)
      clear k5 RJ
      go_wp2_with fail
      have p0 : w5.cell? ⟨w.heap.size + 1 + 1, 0, none⟩ = some (.int .i64 (O 0 0)) := m5.at 0 (by omega)
      have p1 : w5.cell? ⟨w.heap.size + 1 + 1, 1, none⟩ = some (.int .i64 (O 0 1)) := m5.at 1 (by omega)
      have p2 : w5.cell? ⟨w.heap.size + 1 + 1, 2, none⟩ = some (.int .i64 (O 0 2)) := m5.at 2 (by omega)
      have p3 : w5.cell? ⟨w.heap.size + 1 + 1, 3, none⟩ = some (.int .i64 (O 0 3)) := m5.at 3 (by omega)
      have p4 : w5.cell? ⟨w.heap.size + 1 + 1, 4, none⟩ = some (.int .i64 (O 1 0)) := m5.at 4 (by omega)
      have p5 : w5.cell? ⟨w.heap.size + 1 + 1, 5, none⟩ = some (.int .i64 (O 1 1)) := m5.at 5 (by omega)
      have p6 : w5.cell? ⟨w.heap.size + 1 + 1, 6, none⟩ = some (.int .i64 (O 1 2)) := m5.at 6 (by omega)
      have p7 : w5.cell? ⟨w.heap.size + 1 + 1, 7, none⟩ = some (.int .i64 (O 1 3)) := m5.at 7 (by omega)
      have p8 : w5.cell? ⟨w.heap.size + 1 + 1, 8, none⟩ = some (.int .i64 (O 2 0)) := m5.at 8 (by omega)
      have p9 : w5.cell? ⟨w.heap.size + 1 + 1, 9, none⟩ = some (.int .i64 (O 2 1)) := m5.at 9 (by omega)
      have p10 : w5.cell? ⟨w.heap.size + 1 + 1, 10, none⟩ = some (.int .i64 (O 2 2)) := m5.at 10 (by omega)
      have p11 : w5.cell? ⟨w.heap.size + 1 + 1, 11, none⟩ = some (.int .i64 (O 2 3)) := m5.at 11 (by omega)
      have p12 : w5.cell? ⟨w.heap.size + 1 + 1, 12, none⟩ = some (.int .i64 (O 3 0)) := m5.at 12 (by omega)
      have p13 : w5.cell? ⟨w.heap.size + 1 + 1, 13, none⟩ = some (.int .i64 (O 3 1)) := m5.at 13 (by omega)
      have p14 : w5.cell? ⟨w.heap.size + 1 + 1, 14, none⟩ = some (.int .i64 (O 3 2)) := m5.at 14 (by omega)
      have p15 : w5.cell? ⟨w.heap.size + 1 + 1, 15, none⟩ = some (.int .i64 (O 3 3)) := m5.at 15 (by omega)
      refine bodyPost_ret (v := gridV O) (by unfold gridV; simp [results, Try.results13, go_sem, p0, p1, p2, p3, p4, p5, p6, p7, p8, p9, p10, p11, p12, p13, p14, p15]) rfl ⟨by rw [unhide EO], unhide K5⟩

end Go.Proofs.Ytomlpcbccfmejaa
