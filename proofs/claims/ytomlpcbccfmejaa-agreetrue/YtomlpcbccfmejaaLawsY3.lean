/- The walks of AgreeTrue and AgreeSame, whatever Vectors is made of. -/
import Derived.Test.YtomlpcbccfmejaaGridMem
import Derived.Test.YtomlpcbccfmejaaOpenRow
import Derived.Deep.WholeRow
namespace Go.Proofs.Ytomlpcbccfmejaa
open Go.RowKit

theorem enter_vec (v u t : Value) (w : World) : (callFunc 12 #[v, u, t]).run Try.prog w = .ok (.enter 12 #[v, u, t]) w := by go_simp
theorem gridV_congr {x y : Nat → Nat → Int} (e : ∀ i j, i < 4 → j < 4 → x i j = y i j) : gridV x = gridV y := by
  unfold gridV
  simp only [e 0 0 (by omega) (by omega), e 0 1 (by omega) (by omega), e 0 2 (by omega) (by omega), e 0 3 (by omega) (by omega), e 1 0 (by omega) (by omega), e 1 1 (by omega) (by omega), e 1 2 (by omega) (by omega), e 1 3 (by omega) (by omega), e 2 0 (by omega) (by omega), e 2 1 (by omega) (by omega), e 2 2 (by omega) (by omega), e 2 3 (by omega) (by omega), e 3 0 (by omega) (by omega), e 3 1 (by omega) (by omega), e 3 2 (by omega) (by omega), e 3 3 (by omega) (by omega)]
def v58 (i : Nat) : Int := if i = 0 then 5 else if i = 1 then 6 else if i = 2 then 7 else 8
theorem one_grid (L : Nat → Int) : gridV (vcF v58 (-1) L) = .agg (gridC (fun _ s => v58 s)) := gridV_congr (fun i j hi hj => vc_true hi hj (by omega))
/-- A grid stored over a new one. -/
theorem grid_new (w : World) (T : Array Value) (hT : T.size = 16) (h1 : T.all (·.oneCell') = true) : (storeCells ⟨w.heap.size, 0, none⟩ T.toList).run Try.prog (w.alloc (.cells #[.int .i64 0, .int .i64 0, .int .i64 0, .int .i64 0, .int .i64 0, .int .i64 0, .int .i64 0, .int .i64 0, .int .i64 0, .int .i64 0, .int .i64 0, .int .i64 0, .int .i64 0, .int .i64 0, .int .i64 0, .int .i64 0] 28)) = .ok () (w.alloc (.cells T 28)) := by
  have st := grid_store Try.prog w.heap.size 28 (gridC (fun _ _ => 0)) T (w.alloc (.cells (gridC (fun _ _ => 0)) 28)) (heap_alloc_new _ _) (by rw [hT]; rfl) h1
  rw [World.setRow_alloc_new] at st
  exact st
theorem v58_R (i : Nat) : R64 (v58 i) := by unfold v58; split; unfold R64; omega; split; unfold R64; omega; split <;> (unfold R64; omega)

set_option maxRecDepth 100000 in
set_option maxHeartbeats 4000000 in
theorem agreeTrue_by (hVc : VcOK 12) {w : World} (v : Nat → Int) (bad : Int) (lo : Option Addr) (ln lc : Nat) (g : Nat → Int) (rv : ∀ i, R64 (v i)) (rb : R64 bad) (ar : ArgS w lo ln lc g) (_rc : ln ≤ lc) :
    Calls Try.prog 8 #[fourV v, .int .i64 bad, .slice lo ln lc] w fun e w' => e = .returned (.bool true) ∧ Below w.heap.size w w' := by
  obtain ⟨hs, hl, hg⟩ := ar
  obtain ⟨w1, e1, mA, k1, s1⟩ := f4_alloc w v
  have LS := hide (show Sr w lo ln lc (iF g) from hs); have E1 := hide e1; have MA := hide mA; have K1 := hide k1; have HV := hide hVc; have RV := hide rv; have RB := hide rb; have RG := hide hg
  clear hs e1 mA k1 s1 hVc rv rb hg
  have hfour : fourV v = .agg #[.int .i64 (v 0), .int .i64 (v 1), .int .i64 (v 2), .int .i64 (v 3)] := rfl
  rw [hfour]
  clear hfour
  go_enter Try.func8, Try.ntmps8
  go_wp2_with fail
  rw [← unhide E1]
  refine wp_leaves (fun a0 a' w' => ∃ (al : Option Addr) (cl pb : Nat), (G16 w' pb (vcF v bad (liF g ln)) ∧ F4 w' w.heap.size v ∧ Below w.heap.size w w') ∧ a' = ((((((a0.put (some 11) (fourV v)).put (some 12) (.int .i64 bad)).put (some 13) (.slice lo ln lc)).put (some 14) (.slice al ln cl)).put (some 15) (gridV (vcF v bad (liF g ln)))).put (some 7) (.pointer (some ⟨pb, 0, none⟩)))) ?reg ?rest
  case reg =>
    intro A eA
    have b3 : A.eval (.tmp 3) = .pointer (some ⟨w.heap.size, 0, none⟩) := by rw [eA]; rfl
    have b1 : A.eval (.tmp 1) = .int .i64 bad := by rw [eA]; rfl
    have b2 : A.eval (.tmp 2) = .slice lo ln lc := by rw [eA]; rfl
    have hz : 49 ≤ A.tmps.size := by rw [eA]; exact of_decide_eq_true rfl
    have f0 : F4 w1.drew w.heap.size v := unhide MA
    have j0 : Below w.heap.size w w1.drew := below_drew (unhide K1)
    have s0 := (unhide LS).below j0
    clear eA
    refine region_I (S := fun u => F4 u w.heap.size v) (.rd 0 (.rd 1 (.rd 2 (.two 3 5 (.two 4 5 (.go 5 (.go 6 .fin)) (.go 4 (.go 6 .fin))) (.go 3 (.go 4 (.go 6 .fin))))))) [] (by kernel_rfl) (by kernel_rfl) ?_
    refine sI_read (v := (fourV v)) rfl (fun _ _ _ h => absurd h.1 (fun e => nomatch e)) (wanted_rd rfl) f0 (fun wx hx => run_load4 (.tmp 3) rfl b3 hx) ?_
    show SeqI _ _ _ _ _ _ (Act.put _ (some 11) _) _
    refine sI_read (v := (.int .i64 bad)) rfl (fun _ _ _ h => absurd h.1 (fun e => nomatch e)) (wanted_rd rfl) f0 (fun wx _ => run_move (.tmp 1) rfl ((ev_other _ _ (by decide)).trans b1) wx) ?_
    show SeqI _ _ _ _ _ _ (Act.put _ (some 12) _) _
    refine sI_read (v := (.slice lo ln lc)) rfl (fun _ _ _ h => absurd h.1 (fun e => nomatch e)) (wanted_rd rfl) f0 (fun wx _ => run_move (.tmp 2) rfl ((ev_other _ _ (by decide)).trans ((ev_other _ _ (by decide)).trans b2)) wx) ?_
    show SeqI _ _ _ _ _ _ (Act.put _ (some 13) _) _
    refine sI_two rfl rfl (wanted_rd rfl) (wanted_rd rfl) ?_ ?_
    · intro K hK
      refine ⟨wp_joinI _ (.const (.slice none 0 0)) (.tmp 13) rfl _ (Nat.le_refl _) (.slice none 0 0) 0 [] rfl (World.ownsRow_nil _ _ _ _) lo ln lc (iF g) (ev_same _ _ _ (by simp only [sz_put]; omega)) s0 (fun i _ => rfl) (by omega) ?_⟩
      intro vv w2 oo k2
      rw [Nat.zero_add, List.nil_append] at oo
      obtain ⟨al, cl, rfl, q2, n2⟩ := owns_sr oo
      have j2 : Below w.heap.size w w2 := j0.trans (k2.mono j0.size)
      have f2 := f0.below k2
      refine hK _ _ (fun _ => f2) ?_
      clear hK K
      show SeqI _ _ _ _ _ _ (Act.put _ (some 14) _) _
      refine sI_two rfl rfl (wanted_rd rfl) (wanted_rd rfl) ?_ ?_
      · intro K hK
        refine wp_call3 _ 12 (.tmp 11) (.tmp 12) (.tmp 14) #[27, 3, 22] rfl ((ev_other _ _ (by decide)).trans ((ev_other _ _ (by decide)).trans ((ev_other _ _ (by decide)).trans (ev_same _ _ _ (by omega))))) ((ev_other _ _ (by decide)).trans ((ev_other _ _ (by decide)).trans (ev_same _ _ _ (by simp only [sz_put]; omega)))) (ev_same _ _ _ (by simp only [sz_put]; omega)) (enter_vec _ _ _ _) (unhide HV v bad al ln cl g _ (unhide RV) (unhide RB) (unhide RG) hl n2 q2) ?_
        rintro ee w3 ⟨rfl, k3⟩
        have j3 : Below w.heap.size w w3 := j2.trans (k3.mono j2.size)
        have f3 := f2.below k3
        refine ⟨_, rfl, hK _ _ (fun _ => f3) ?_⟩
        clear hK K
        show SeqI _ _ _ _ _ _ (Act.put _ (some 15) _) _
        refine sI_do rfl (wanted_rd rfl) (fun K hK => ?_)
        refine wp_allocG _ rfl ?_
        intro w4 m4 k4 z4
        have j4 : Below w.heap.size w w4 := j3.trans (k4.mono j3.size)
        have f4 := f3.below k4
        refine hK _ _ (fun _ => f4) ?_
        clear hK K
        show SeqI _ _ _ _ _ _ (Act.put _ (some 7) _) _
        refine sI_do rfl (wanted_rd rfl) (fun K hK => ?_)
        refine wp_storeG _ (.tmp 7) (.tmp 15) rfl (ev_same _ _ _ (by simp only [sz_put]; omega)) ((ev_other _ _ (by decide)).trans (ev_same _ _ _ (by simp only [sz_put]; omega))) m4 rfl ?_
        intro w9 m9 k9
        have j9 : Below w.heap.size w w9 := below_of_kept j4 k9 j3.size j4.size
        have f9 : F4 w9 w.heap.size v := f4.kept k9 (Nat.ne_of_lt (f3.lt))
        refine hK _ _ (fun _ => f9) ?_
        clear hK K
        refine sI_end ?_
        exact ⟨rfl, al, cl, _, ⟨m9, f9, j9⟩, rfl⟩
      · intro K hK
        refine wp_allocG _ rfl ?_
        intro w3 m3 k3 z3
        have j3 : Below w.heap.size w w3 := j2.trans (k3.mono j2.size)
        have f3 := f2.below k3
        refine hK _ _ (fun _ => f3) ?_
        clear hK K
        show SeqI _ _ _ _ _ _ (Act.put _ (some 7) _) _
        refine sI_do rfl (wanted_rd rfl) (fun K hK => ?_)
        refine wp_call3 _ 12 (.tmp 11) (.tmp 12) (.tmp 14) #[27, 3, 22] rfl ((ev_other _ _ (by decide)).trans ((ev_other _ _ (by decide)).trans ((ev_other _ _ (by decide)).trans ((ev_other _ _ (by decide)).trans (ev_same _ _ _ (by omega)))))) ((ev_other _ _ (by decide)).trans ((ev_other _ _ (by decide)).trans ((ev_other _ _ (by decide)).trans (ev_same _ _ _ (by simp only [sz_put]; omega))))) ((ev_other _ _ (by decide)).trans (ev_same _ _ _ (by simp only [sz_put]; omega))) (enter_vec _ _ _ _) (unhide HV v bad al ln cl g _ (unhide RV) (unhide RB) (unhide RG) hl n2 (q2.below k3)) ?_
        rintro ee w4 ⟨rfl, k4⟩
        have j4 : Below w.heap.size w w4 := j3.trans (k4.mono j3.size)
        have f4 := f3.below k4
        refine ⟨_, rfl, hK _ _ (fun _ => f4) ?_⟩
        clear hK K
        show SeqI _ _ _ _ _ _ (Act.put _ (some 15) _) _
        refine sI_do rfl (wanted_rd rfl) (fun K hK => ?_)
        refine wp_storeG _ (.tmp 7) (.tmp 15) rfl ((ev_other _ _ (by decide)).trans (ev_same _ _ _ (by simp only [sz_put]; omega))) (ev_same _ _ _ (by simp only [sz_put]; omega)) (m3.below k4) rfl ?_
        intro w9 m9 k9
        have j9 : Below w.heap.size w w9 := below_of_kept j4 k9 j2.size j4.size
        have f9 : F4 w9 w.heap.size v := f4.kept k9 (Nat.ne_of_lt f2.lt)
        refine hK _ _ (fun _ => f9) ?_
        clear hK K
        refine sI_end ?_
        exact ⟨rfl, al, cl, _, ⟨m9, f9, j9⟩, put_comm _ (by decide) _ _⟩
    · intro K hK
      refine wp_allocG _ rfl ?_
      intro w2 m2 k2 z2
      have j2 : Below w.heap.size w w2 := j0.trans (k2.mono j0.size)
      have f2 := f0.below k2
      refine hK _ _ (fun _ => f2) ?_
      clear hK K
      show SeqI _ _ _ _ _ _ (Act.put _ (some 7) _) _
      have s2 := s0.below k2
      refine sI_do rfl (wanted_rd rfl) (fun K hK => ?_)
      refine ⟨wp_joinI _ (.const (.slice none 0 0)) (.tmp 13) rfl _ (Nat.le_refl _) (.slice none 0 0) 0 [] rfl (World.ownsRow_nil _ _ _ _) lo ln lc (iF g) ((ev_other _ _ (by decide)).trans (ev_same _ _ _ (by simp only [sz_put]; omega))) s2 (fun i _ => rfl) (by omega) ?_⟩
      intro vv w3 oo k3
      rw [Nat.zero_add, List.nil_append] at oo
      obtain ⟨al, cl, rfl, q3, n3⟩ := owns_sr oo
      have j3 : Below w.heap.size w w3 := j2.trans (k3.mono j2.size)
      have f3 := f2.below k3
      refine hK _ _ (fun _ => f3) ?_
      clear hK K
      show SeqI _ _ _ _ _ _ (Act.put _ (some 14) _) _
      refine sI_do rfl (wanted_rd rfl) (fun K hK => ?_)
      refine wp_call3 _ 12 (.tmp 11) (.tmp 12) (.tmp 14) #[27, 3, 22] rfl ((ev_other _ _ (by decide)).trans ((ev_other _ _ (by decide)).trans ((ev_other _ _ (by decide)).trans ((ev_other _ _ (by decide)).trans (ev_same _ _ _ (by omega)))))) ((ev_other _ _ (by decide)).trans ((ev_other _ _ (by decide)).trans ((ev_other _ _ (by decide)).trans (ev_same _ _ _ (by simp only [sz_put]; omega))))) (ev_same _ _ _ (by simp only [sz_put]; omega)) (enter_vec _ _ _ _) (unhide HV v bad al ln cl g _ (unhide RV) (unhide RB) (unhide RG) hl n3 q3) ?_
      rintro ee w4 ⟨rfl, k4⟩
      have j4 : Below w.heap.size w w4 := j3.trans (k4.mono j3.size)
      have f4 := f3.below k4
      refine ⟨_, rfl, hK _ _ (fun _ => f4) ?_⟩
      clear hK K
      show SeqI _ _ _ _ _ _ (Act.put _ (some 15) _) _
      refine sI_do rfl (wanted_rd rfl) (fun K hK => ?_)
      refine wp_storeG _ (.tmp 7) (.tmp 15) rfl ((ev_other _ _ (by decide)).trans ((ev_other _ _ (by decide)).trans (ev_same _ _ _ (by simp only [sz_put]; omega)))) (ev_same _ _ _ (by simp only [sz_put]; omega)) ((m2.below k3).below k4) rfl ?_
      intro w9 m9 k9
      have j9 : Below w.heap.size w w9 := below_of_kept j4 k9 j0.size j4.size
      have f9 : F4 w9 w.heap.size v := f4.kept k9 (Nat.ne_of_lt f0.lt)
      refine hK _ _ (fun _ => f9) ?_
      clear hK K
      refine sI_end ?_
      exact ⟨rfl, al, cl, _, ⟨m9, f9, j9⟩, (by rw [put_comm _ (show 7 ≠ 14 by decide), put_comm _ (show 7 ≠ 15 by decide)])⟩
  case rest =>
    rintro a' w5 ⟨al, cl, pb, ⟨m5, f5, k5⟩, rfl⟩
    have G5 := hide m5; have F5 := hide f5; have K5 := hide k5
    clear m5 f5 k5
    go_frame
    go_wp2_with fail
    refine (unhide HV v58 (-1) none 0 0 (fun _ => 0) _ v58_R (by unfold R64; omega) (fun _ => R64_nought) (by omega) (by omega) (Or.inl ⟨rfl, rfl, rfl⟩)).mono ?_
    rintro e w6 ⟨rfl, k6⟩
    rw [one_grid]
    have g7 := G16.new w6 (fun _ s => v58 s)
    have c01 : (w6.alloc (.cells (gridC (fun _ s => v58 s)) 28)).cell? ⟨w6.heap.size, 1, none⟩ = some (.int .i64 6) := g7.cell (i := 0) (j := 1) (by omega) (by omega)
    have st := grid_new w6 (gridC (fun _ s => v58 s)) rfl (by simp [gridC, Value.oneCell'])
    have sT : (gridC (fun _ s => v58 s)).size = 16 := rfl
    have A7 := al_below w6 (.cells (gridC (fun _ s => v58 s)) 28)
    have K6 := (unhide K5).trans (k6.mono (unhide K5).size)
    have G7 := hide (((unhide G5).below k6).below A7); have F7 := hide (((unhide F5).below k6).below A7); have K7 := hide (K6.trans (A7.mono K6.size))
    generalize gridC (fun _ s => v58 s) = T at *
    clear g7 A7 K6 k6 G5 F5 K5
    go_wp2_with fail
    clear c01 st sT
    have XT := hide (fun (p s : Nat) (hp : p < 4) (hs : s < 4) (bs : (s : Int) ≠ bad) => vc_true (v := v) (L := liF g ln) hp hs bs)
    obtain ⟨X, eX⟩ : ∃ X, vcF v bad (liF g ln) = X := ⟨_, rfl⟩
    rw [eX] at G7 XT ⊢
    clear eX
    go_loopw [9, 10] (fun ps _ wr => ∃ p : Nat, ps = .int .i64 p ∧ p ≤ 4 ∧ G16 wr pb X ∧ F4 wr w.heap.size v ∧ Below w.heap.size w wr) (fun ps _ _ => 4 - (intOf ps).toNat)
    case atStart => exact ⟨0, rfl, by omega, unhide G7, unhide F7, unhide K7⟩
    case round =>
      obtain ⟨p, rfl, hp, mG, mF, hK⟩ := hrel
      rename World => wr
      have RG' := hide mG; have RF := hide mF; have RK := hide hK
      clear mG mF hK G7 F7 K7
      by_cases hp4 : p < 4
      · have hp4' : (p : Int) < 4 := by omega
        go_wp2_with fail
        go_loopw [10] (fun ss wx => ∃ s : Nat, ss = .int .i64 s ∧ s ≤ 4 ∧ G16 wx pb X ∧ F4 wx w.heap.size v ∧ Below w.heap.size w wx) (fun ss _ => 4 - (intOf ss).toNat)
        case atStart => exact ⟨0, rfl, by omega, unhide RG', unhide RF, unhide RK⟩
        case round =>
          obtain ⟨s, rfl, hs4, mG, mF, hK⟩ := hrel
          rename World => wx
          have QG := hide mG; have QF := hide mF; have QK := hide hK
          clear mG mF hK
          by_cases hs : s < 4
          · have hs' : (s : Int) < 4 := by omega
            have cg : wx.drew.cell? ⟨pb, p * 4 + s, none⟩ = some (.int .i64 (X p s)) := (unhide QG).cell hp4 hs
            have cf : wx.drew.cell? ⟨w.heap.size, s, none⟩ = some (.int .i64 (v s)) := (unhide QF).cell hs
            by_cases bp : (p : Int) = bad
            · have tp : (((p : Nat) : Int) != bad) = false := by simp [bp]
              clear bp cg cf
              go_wp2_with fail
              go_region
              go_wp2_with fail
              go_roundw
              case rel => exact ⟨s + 1, by go_num, by omega, unhide QG, unhide QF, below_drew (unhide QK)⟩
              case measure => simp [intOf] <;> omega
            · have tp : (((p : Nat) : Int) != bad) = true := by simp [bp]
              by_cases bs : (s : Int) = bad
              · have tq : (((s : Nat) : Int) != bad) = false := by simp [bs]
                clear bp bs cg cf
                go_wp2_with fail
                go_region
                go_wp2_with fail
                go_roundw
                case rel => exact ⟨s + 1, by go_num, by omega, unhide QG, unhide QF, below_drew (unhide QK)⟩
                case measure => simp [intOf] <;> omega
              · have tq : (((s : Nat) : Int) != bad) = true := by simp [bs]
                rw [unhide XT p s hp4 hs bs] at cg
                have tn : ((v s) != (v s)) = false := by simp
                clear bp bs
                go_wp2_with fail
                go_region
                go_wp2_with fail
                go_roundw
                case rel => exact ⟨s + 1, by go_num, by omega, unhide QG, unhide QF, below_drew (unhide QK)⟩
                case measure => simp [intOf] <;> omega
          · have e8 : s = 4 := by omega
            subst e8
            rw [show ((4 : Nat) : Int) = 4 from rfl]
            go_wp2_with fail
            go_roundw
            case rel => exact ⟨p + 1, by go_num, by omega, unhide QG, unhide QF, unhide QK⟩
            case measure => simp [intOf] <;> omega
      · have e9 : p = 4 := by omega
        subst e9
        rw [show ((4 : Nat) : Int) = 4 from rfl]
        go_wp2_with fail
        go_ret
        exact ⟨rfl, unhide RK⟩

end Go.Proofs.Ytomlpcbccfmejaa
