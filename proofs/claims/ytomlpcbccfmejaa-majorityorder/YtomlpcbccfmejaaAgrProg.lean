/- The contracts of package agree as landed at a51b267: Vectors. (Written by tools/gen_agr7.py.) -/
import Derived.Test.YtomlpcbccfmejaaAgrOn
import Derived.Test.YtomlpcbccfmejaaAgrFst
namespace Go.Proofs.Ytomlpcbccfmejaa
open Go.RowKit

theorem enter_dec (v u x : Value) (w : World) : (callFunc 11 #[v, u, x]).run Try.prog w = .ok (.enter 11 #[v, u, x]) w := by go_simp
theorem onk_keep {v : Nat → Int} {bad : Int} {L : Nat → Int} {s q : Nat} {O : Nat → Nat → Int} (x : Int) (h : OnK v bad L s O q) : OnK v bad L s (upG O q s x) q := fun i t hi ht => by
  unfold upG
  rw [if_neg (by omega)]
  exact h i t hi ht
/-- The rows of what was told on, none of them at z. -/
def Rw (w : World) (A : Nat → Option Addr) (N C : Nat → Nat) (G : Nat → Nat → Int) (s z : Nat) : Prop := ∀ q, q < 4 → q ≠ s → ∃ x, A q = some ⟨x, 0, none⟩ ∧ N q = 2 ∧ x ≠ z ∧ Vh 3 w x 2 (C q) (iF (G q))
theorem Rw.below {w w' : World} {A : Nat → Option Addr} {N C : Nat → Nat} {G : Nat → Nat → Int} {s z : Nat} (h : Rw w A N C G s z) (k : Below w.heap.size w w') : Rw w' A N C G s z := fun q hq hn => by
  obtain ⟨x, h1, h2, h3, h4⟩ := h q hq hn
  exact ⟨x, h1, h2, h3, h4.below k⟩
theorem Rw.kept {w w' : World} {A : Nat → Option Addr} {N C : Nat → Nat} {G : Nat → Nat → Int} {s z : Nat} (h : Rw w A N C G s z) (k : Kept z w w') : Rw w' A N C G s z := fun q hq hn => by
  obtain ⟨x, h1, h2, h3, h4⟩ := h q hq hn
  exact ⟨x, h1, h2, h3, h4.kept k h3⟩
/-- What Vectors keeps: the result, the grid, the teller. -/
structure VK (w : World) (g : Nat → Int) (ln : Nat) (bad : Int) (c : Nat) (O : Nat → Nat → Int) (wr : World) : Prop where
  r : G16 wr (w.heap.size + 1) (fun _ _ => 0)
  o : G16 wr (w.heap.size + 1 + 1) O
  t : TJ w g ln bad (w.heap.size + 1 + 1 + 1) c wr
  k : Below w.heap.size w wr
  z : w.heap.size + 1 + 1 + 1 + 1 ≤ wr.heap.size
section
variable {w wr w' : World} {g : Nat → Int} {ln : Nat} {bad : Int} {c : Nat} {O : Nat → Nat → Int}
theorem VK.below (h : VK w g ln bad c O wr) (k : Below wr.heap.size wr w') : VK w g ln bad c O w' :=
  ⟨h.r.below k, h.o.below k, h.t.below k, h.k.trans (k.mono h.k.size), Nat.le_trans h.z k.size⟩
theorem VK.keep {b : Nat} (h : VK w g ln bad c O wr) (k : Kept b wr w') (hb : w.heap.size + 1 + 1 + 1 + 1 ≤ b) : VK w g ln bad c O w' :=
  ⟨h.r.kept k (by omega), h.o.kept k (by omega), h.t.kept k (by omega), below_of_kept h.k k (by omega) h.k.size, Nat.le_trans h.z k.size⟩
theorem VK.told (h : VK w g ln bad c O wr) (k : Kept (w.heap.size + 1 + 1 + 1) wr w') {c' : Nat} (t : TJ w g ln bad (w.heap.size + 1 + 1 + 1) c' w') : VK w g ln bad c' O w' :=
  ⟨h.r.kept k (by omega), h.o.kept k (by omega), t, below_of_kept h.k k (by omega) h.k.size, Nat.le_trans h.z k.size⟩
theorem VK.put {O' : Nat → Nat → Int} (h : VK w g ln bad c O wr) (k : Kept (w.heap.size + 1 + 1) wr w') (o : G16 w' (w.heap.size + 1 + 1) O') : VK w g ln bad c O' w' :=
  ⟨h.r.kept k (by omega), o, h.t.kept k (by omega), below_of_kept h.k k (by omega) h.k.size, Nat.le_trans h.z k.size⟩
end
theorem vec_start (w : World) (v : Nat → Int) (bad : Int) (lo : Option Addr) (ln lc : Nat) (g : Nat → Int) (hc : ln ≤ lc) (hr : Rd w lo ln (iF g)) : ∃ w4, w4 = (((w.alloc (.cells #[.int .i64 (v 0), .int .i64 (v 1), .int .i64 (v 2), .int .i64 (v 3)] 27)).alloc (.cells (gridC (fun _ _ => 0)) 28)).alloc (.cells (gridC (fun _ _ => 0)) 28)).alloc (.cells #[.int .i64 bad, .slice lo ln lc] 35) ∧
    F4 w4 w.heap.size v ∧ VK w g ln bad 0 (fun _ _ => 0) w4 := by
  obtain ⟨w1, e1, m1, k1, z1⟩ := f4_alloc w v
  rw [← e1]
  have k2 := al_below w1 (.cells (gridC (fun _ _ => 0)) 28)
  have m2 := G16.new w1 (fun _ _ => 0)
  have z2 := al_size w1 (.cells (gridC (fun _ _ => 0)) 28)
  generalize w1.alloc (.cells (gridC (fun _ _ => 0)) 28) = w2 at *
  have k3 := al_below w2 (.cells (gridC (fun _ _ => 0)) 28)
  have m3 := G16.new w2 (fun _ _ => 0)
  have z3 := al_size w2 (.cells (gridC (fun _ _ => 0)) 28)
  generalize w2.alloc (.cells (gridC (fun _ _ => 0)) 28) = w3 at *
  have k4 := al_below w3 (.cells #[.int .i64 bad, .slice lo ln lc] 35)
  have m4 := TL.new w3 bad (.slice lo ln lc)
  have z4 := al_size w3 (.cells #[.int .i64 bad, .slice lo ln lc] 35)
  have e2 : w1.heap.size = w.heap.size + 1 := z1
  have e3 : w2.heap.size = w.heap.size + 1 + 1 := by omega
  have e4 : w3.heap.size = w.heap.size + 1 + 1 + 1 := by omega
  rw [e2] at m2
  rw [e3] at m3
  rw [e4] at m4
  exact ⟨_, rfl, ((m1.below k2).below k3).below k4, (m2.below k3).below k4, m3.below k4, ⟨_, m4, lo, ln, lc, rfl, by omega, hc, hr.congr (fun i _ => by rw [Nat.zero_add])⟩, ((k1.trans (k2.mono (by omega))).trans (k3.mono (by omega))).trans (k4.mono (by omega)), by omega⟩

set_option maxRecDepth 100000 in
set_option maxHeartbeats 4000000 in
theorem agreeVectors_ok : VcOK 12 := by
  intro v bad lo ln lc g w _ _ _ _ hc hs
  obtain ⟨w4, e4, m4, j4⟩ := vec_start w v bad lo ln lc g hc hs.rd
  have J4 := hide j4
  have c0 := m4.cell (show 0 < 4 by omega); have c1 := m4.cell (show 1 < 4 by omega); have c2 := m4.cell (show 2 < 4 by omega); have c3 := m4.cell (show 3 < 4 by omega)
  unfold gridC at e4
  rw [e4] at c0 c1 c2 c3
  have E4 := hide e4
  have hfour : fourV v = .agg #[.int .i64 (v 0), .int .i64 (v 1), .int .i64 (v 2), .int .i64 (v 3)] := rfl
  rw [hfour]
  clear m4 j4 e4 hfour hs
  go_enter Try.func12, Try.ntmps12
  go_wp2_with fail
  rw [← unhide E4]
  clear c0 c1 c2 c3
  go_loopw [19] (fun ss wr => ∃ (s : Nat) (O : Nat → Nat → Int), ss = .int .i64 s ∧ s ≤ 4 ∧ VK w g ln bad (bsN bad s) O wr ∧ ∀ q t, q < 4 → t < s → O q t = vcF v bad (liF g ln) q t) (fun ss _ => 4 - (intOf ss).toNat)
  case atStart => exact ⟨0, _, rfl, by omega, by rw [bsN_zero]; exact unhide J4, fun q t _ h => absurd h (by omega)⟩
  case round =>
    obtain ⟨s, O, rfl, hs4', hJ, hO⟩ := hrel
    rename World => wr
    have RJ := hide hJ; have HO := hide hO
    clear hJ hO J4
    by_cases hs4 : s < 4
    · have hs4i : (s : Int) < 4 := by omega
      have at_ := run_index4 v hs4
      go_wp2_with fail
      refine (tellFirst_any (w.heap.size + 1 + 1 + 1) bad s ln v g w _ hs4 (unhide RJ).t (unhide RJ).k (by omega)).mono ?_
      rintro e w5 ⟨H, rfl, hH, t5, k5⟩
      have j5 := (unhide RJ).told k5 t5
      have HH := hide hH
      obtain ⟨hb, ehb⟩ : ∃ hb, w5.heap.size = hb := ⟨_, rfl⟩
      have m6 := F4.new w5 (fun _ => 0)
      have j6 := j5.below (al_below w5 (.cells #[.int .i64 0, .int .i64 0, .int .i64 0, .int .i64 0] 27))
      have zb : w.heap.size + 1 + 1 + 1 + 1 ≤ hb := by have := j5.z; omega
      rw [ehb] at m6
      have M6 := hide m6; have J6 := hide j6
      clear hH t5 k5 j5 m6 j6 RJ at_
      go_wp2_with (refine wpList_store4 _ rfl (.tmp 11) (.tmp 25) rfl (by rw [← ehb]; rfl) rfl (unhide M6) rfl ?_)
      intro w7 m7 k7
      have M7 := hide m7; have J7 := hide ((unhide J6).keep k7 zb)
      clear m7 k7 M6 J6 ehb
      go_wp2_with (refine wpList_load4 _ rfl (.tmp 11) rfl rfl (unhide M7) ?_)
      refine (tellOn_any (w.heap.size + 1 + 1 + 1) bad s ln v g H w _ hs4 (unhide J7).t (unhide J7).k (by omega) (unhide HH)).mono ?_
      rintro e w8 ⟨A, N, C, rfl, hR, t8, k8⟩
      have j8 := (unhide J7).told k8 t8
      have z7 : w.heap.size + 1 + 1 + 1 + 1 ≤ w7.heap.size := (unhide J7).z
      have m8 := (unhide M7).kept k8 (by omega)
      have lb := (unhide M7).lt
      have r8 : Rw w8 A N C (gO v bad (liF g ln) s) s (w.heap.size + 1 + 1) := fun q hq hn => by
        obtain ⟨x, h1, h2, h3, h4⟩ := hR q hq hn
        exact ⟨x, h1, h2, by omega, h4⟩
      have x8 : ∀ q, q < 4 → q ≠ s → ∀ x, A q = some ⟨x, 0, none⟩ → x < w8.heap.size := fun q hq hn x hx => by
        obtain ⟨x', h1, h2, h3, h4⟩ := hR q hq hn
        rw [hx] at h1
        cases h1
        exact h4.lt
      obtain ⟨kb, ekb⟩ : ∃ kb, w8.heap.size = kb := ⟨_, rfl⟩
      have kA := al_below w8 (.cells #[.slice none 0 0, .slice none 0 0, .slice none 0 0, .slice none 0 0] 37)
      have mA := R4.new w8 (fun _ => .slice none 0 0)
      have zk : w.heap.size + 1 + 1 + 1 + 1 ≤ kb := by have := j8.z; omega
      have hkb : hb < kb := by have := k8.size; omega
      rw [ekb] at mA
      have MA := hide mA; have JA := hide (j8.below kA); have HA := hide (m8.below kA); have RA := hide (r8.below kA)
      have XA := hide (show ∀ q, q < 4 → q ≠ s → ∀ x, A q = some ⟨x, 0, none⟩ → x ≠ kb from fun q hq hn x hx => by have := x8 q hq hn x hx; omega)
      clear hR t8 k8 j8 m8 r8 x8 kA mA M7 J7 lb z7
      go_wp2_with (refine wpList_storeR _ rfl (.tmp 12) (.tmp 28) rfl (by rw [← ekb]; rfl) rfl (unhide MA) rfl ?_)
      intro w9 m9 k9
      have M9 := hide m9; have J9 := hide ((unhide JA).keep k9 zk); have H9 := hide ((unhide HA).kept k9 (by omega))
      have R9 := hide (show Rw w9 A N C (gO v bad (liF g ln) s) s (w.heap.size + 1 + 1) from fun q hq hn => by
        obtain ⟨x, h1, h2, h3, h4⟩ := unhide RA q hq hn
        exact ⟨x, h1, h2, h3, h4.kept k9 (unhide XA q hq hn x h1)⟩)
      clear m9 k9 MA JA HA RA XA ekb
      go_wp2_with fail
      go_loopw [29] (fun qs wx => ∃ (q : Nat) (O2 : Nat → Nat → Int), qs = .int .i64 q ∧ q ≤ 4 ∧ F4 wx hb H ∧ R4 wx kb (slF A N C) ∧ Rw wx A N C (gO v bad (liF g ln) s) s (w.heap.size + 1 + 1) ∧ VK w g ln bad (bsN bad (s + 1)) O2 wx ∧ OnK v bad (liF g ln) s O2 q) (fun qs _ => 4 - (intOf qs).toNat)
      case atStart => exact ⟨0, O, rfl, by omega, unhide H9, unhide M9, unhide R9, unhide J9, fun i t hi ht => unhide HO i t hi (by omega)⟩
      case round =>
        obtain ⟨q, O2, rfl, hq4', mH, mK, mR, hJ, hO2⟩ := hrel
        rename World => wm
        have MO := hide hO2; have MJ := hide hJ; have MH := hide mH; have MK := hide mK; have MR := hide mR
        clear mH mK mR hJ hO2 H9 M9 R9 J9
        by_cases hq4 : q < 4
        · have hq4i : (q : Int) < 4 := by omega
          have cg : wm.cell? ⟨w.heap.size + 1 + 1, q * 4 + s, none⟩ = some (.int .i64 (O2 q s)) := (unhide MJ).o.cell hq4 hs4
          have fg : wm.frozen? ⟨w.heap.size + 1 + 1, q * 4 + s, none⟩ = false := (unhide MJ).o.free _
          obtain ⟨wy, ewy⟩ : ∃ wy, wm.setCell ⟨w.heap.size + 1 + 1, q * 4 + s, none⟩ (.int .i64 (v s)) = wy := ⟨_, rfl⟩
          have kk := kept_set wm (w.heap.size + 1 + 1) (q * 4 + s) (.int .i64 (v s))
          have oo := (unhide MJ).o.set hq4 hs4 (v s)
          rw [ewy] at kk oo
          have YJ := hide ((unhide MJ).put kk oo); have YH := hide ((unhide MH).kept kk (by omega)); have YK := hide ((unhide MK).kept kk (by omega)); have YR := hide ((unhide MR).kept kk)
          clear kk oo MJ MH MK MR
          by_cases hqs : q = s
          · have tqs : (((q : Nat) : Int) != ((s : Nat) : Int)) = false := by simp [hqs]
            have G := hide (onk_put (show vcF v bad (liF g ln) q s = v s by unfold vcF; rw [if_pos hqs]) (unhide MO))
            clear hqs
            go_wp2_with fail
            clear ewy cg fg
            go_roundw
            case rel => exact ⟨q + 1, _, by go_num, by omega, unhide YH, unhide YK, unhide YR, unhide YJ, unhide G⟩
            case measure => simp [intOf] <;> omega
          · have tqs : (((q : Nat) : Int) != ((s : Nat) : Int)) = true := by simp; omega
            have G := hide (onk_put (vc_end hqs (unhide HH q hq4 hqs)) (onk_keep (v s) (unhide MO)))
            obtain ⟨x, eA, eN, hx, vx⟩ := unhide YR q hq4 hqs
            have EA := hide eA; have EN := hide eN; have YX := hide vx
            clear eA eN vx
            go_wp2_with fail
            clear ewy cg fg
            refine wp_leaves (fun a0 a' w' => (VK w g ln bad (bsN bad (s + 1)) (upG (upG O2 q s (v s)) q s (dc3 (H q) (gO v bad (liF g ln) s q 0) (gO v bad (liF g ln) s q 1))) w' ∧ F4 w' hb H ∧ R4 w' kb (slF A N C) ∧ Rw w' A N C (gO v bad (liF g ln) s) s (w.heap.size + 1 + 1)) ∧ a' = ((((((((((((((((((a0.put (some 40) (.int .i64 (q : Nat))).put (some 41) (.int .i64 (s : Nat))).put (some 42) (.int .i64 (q : Nat))).put (some 43) (.pointer (some ⟨hb, q, none⟩))).put (some 44) (.int .i64 (H q))).put (some 45) (.int .i64 (q : Nat))).put (some 46) (.pointer (some ⟨kb, q, none⟩))).put (some 47) (.slice (some ⟨x, 0, none⟩) 2 (C q))).put (some 48) (.pointer (some ⟨x, 0, none⟩))).put (some 49) (.int .i64 (gO v bad (liF g ln) s q 0))).put (some 50) (.int .i64 (q : Nat))).put (some 51) (.pointer (some ⟨kb, q, none⟩))).put (some 52) (.slice (some ⟨x, 0, none⟩) 2 (C q))).put (some 53) (.pointer (some ⟨x, 1, none⟩))).put (some 54) (.int .i64 (gO v bad (liF g ln) s q 1))).put (some 56) (.pointer (some ⟨w.heap.size + 1 + 1, q * 4, none⟩))).put (some 55) (.int .i64 (dc3 (H q) (gO v bad (liF g ln) s q 0) (gO v bad (liF g ln) s q 1)))).put (some 57) (.pointer (some ⟨w.heap.size + 1 + 1, q * 4 + s, none⟩)))) ?reg13 ?rest13
            case reg13 =>
              intro A0 eA
              have b7 : A0.eval (.tmp 7) = .pointer (some ⟨w.heap.size + 1 + 1, 0, none⟩) := by rw [eA]; rfl
              have b9 : A0.eval (.tmp 9) = .int .i64 (s : Nat) := by rw [eA]; rfl
              have b11 : A0.eval (.tmp 11) = .pointer (some ⟨hb, 0, none⟩) := by rw [eA]; rfl
              have b12 : A0.eval (.tmp 12) = .pointer (some ⟨kb, 0, none⟩) := by rw [eA]; rfl
              have b13 : A0.eval (.tmp 13) = .int .i64 (q : Nat) := by rw [eA]; rfl
              have hz : 61 ≤ A0.tmps.size := by rw [eA]; exact of_decide_eq_true rfl
              clear eA
              have hS : (fun u : World => u.cell? ⟨hb, q, none⟩ = some (.int .i64 (H q)) ∧ u.cell? ⟨kb, q, none⟩ = some (.slice (some ⟨x, 0, none⟩) 2 (C q)) ∧ u.cell? ⟨x, 0, none⟩ = some (.int .i64 (gO v bad (liF g ln) s q 0)) ∧ u.cell? ⟨x, 1, none⟩ = some (.int .i64 (gO v bad (liF g ln) s q 1))) wy.drew := ⟨(unhide YH).cell hq4, (unhide YK).cell hq4 |>.trans (by unfold slF; rw [unhide EA, unhide EN]), (unhide YX).cell (i := 0) (by omega), (unhide YX).cell (i := 1) (by omega)⟩
              refine region_I (S := fun u : World => u.cell? ⟨hb, q, none⟩ = some (.int .i64 (H q)) ∧ u.cell? ⟨kb, q, none⟩ = some (.slice (some ⟨x, 0, none⟩) 2 (C q)) ∧ u.cell? ⟨x, 0, none⟩ = some (.int .i64 (gO v bad (liF g ln) s q 0)) ∧ u.cell? ⟨x, 1, none⟩ = some (.int .i64 (gO v bad (liF g ln) s q 1))) (.rd 0 (.rd 1 (.rd 2 (.rd 3 (.rd 4 (.rd 5 (.rd 6 (.rd 7 (.rd 8 (.rd 9 (.rd 10 (.rd 11 (.rd 12 (.rd 13 (.rd 14 (.rd 16 (.go 15 (.rd 17 (.go 18 .fin))))))))))))))))))) [18] (by kernel_rfl) (by kernel_rfl) ?_
              refine sI_read (v := (.int .i64 (q : Nat))) rfl (fun _ _ _ h => absurd h.1 (fun e => nomatch e)) (wanted_rd rfl) hS (fun wx _ => run_move (.tmp 13) rfl b13 wx) ?_
              show SeqI _ _ _ _ _ _ (Act.put _ (some 40) _) _
              refine sI_read (v := (.int .i64 (s : Nat))) rfl (fun _ _ _ h => absurd h.1 (fun e => nomatch e)) (wanted_rd rfl) hS (fun wx _ => run_move (.tmp 9) rfl ((ev_other _ _ (by decide)).trans b9) wx) ?_
              show SeqI _ _ _ _ _ _ (Act.put _ (some 41) _) _
              refine sI_read (v := (.int .i64 (q : Nat))) rfl (fun _ _ _ h => absurd h.1 (fun e => nomatch e)) (wanted_rd rfl) hS (fun wx _ => run_move (.tmp 13) rfl ((ev_other _ _ (by decide)).trans ((ev_other _ _ (by decide)).trans b13)) wx) ?_
              show SeqI _ _ _ _ _ _ (Act.put _ (some 42) _) _
              refine sI_read (v := (.pointer (some ⟨hb, q, none⟩))) rfl (fun _ _ _ h => absurd h.1 (fun e => nomatch e)) (wanted_rd rfl) hS (fun wx _ => run_at4z (.tmp 11) (.tmp 42) rfl ((ev_other _ _ (by decide)).trans ((ev_other _ _ (by decide)).trans ((ev_other _ _ (by decide)).trans b11))) (ev_same _ _ _ (by simp only [sz_put]; omega)) hq4 wx) ?_
              show SeqI _ _ _ _ _ _ (Act.put _ (some 43) _) _
              refine sI_read (v := (.int .i64 (H q))) rfl (fun _ _ _ h => absurd h.1 (fun e => nomatch e)) (wanted_rd rfl) hS (fun wx hx => run_ldI (.tmp 43) rfl (ev_same _ _ _ (by simp only [sz_put]; omega)) hx.1) ?_
              show SeqI _ _ _ _ _ _ (Act.put _ (some 44) _) _
              refine sI_read (v := (.int .i64 (q : Nat))) rfl (fun _ _ _ h => absurd h.1 (fun e => nomatch e)) (wanted_rd rfl) hS (fun wx _ => run_move (.tmp 13) rfl ((ev_other _ _ (by decide)).trans ((ev_other _ _ (by decide)).trans ((ev_other _ _ (by decide)).trans ((ev_other _ _ (by decide)).trans ((ev_other _ _ (by decide)).trans b13))))) wx) ?_
              show SeqI _ _ _ _ _ _ (Act.put _ (some 45) _) _
              refine sI_read (v := (.pointer (some ⟨kb, q, none⟩))) rfl (fun _ _ _ h => absurd h.1 (fun e => nomatch e)) (wanted_rd rfl) hS (fun wx _ => run_atR (.tmp 12) (.tmp 45) rfl ((ev_other _ _ (by decide)).trans ((ev_other _ _ (by decide)).trans ((ev_other _ _ (by decide)).trans ((ev_other _ _ (by decide)).trans ((ev_other _ _ (by decide)).trans ((ev_other _ _ (by decide)).trans b12)))))) (ev_same _ _ _ (by simp only [sz_put]; omega)) hq4 wx) ?_
              show SeqI _ _ _ _ _ _ (Act.put _ (some 46) _) _
              refine sI_read (v := (.slice (some ⟨x, 0, none⟩) 2 (C q))) rfl (fun _ _ _ h => absurd h.1 (fun e => nomatch e)) (wanted_rd rfl) hS (fun wx hx => run_ldS (.tmp 46) rfl (ev_same _ _ _ (by simp only [sz_put]; omega)) hx.2.1) ?_
              show SeqI _ _ _ _ _ _ (Act.put _ (some 47) _) _
              refine sI_read (v := (.pointer (some ⟨x, 0, none⟩))) rfl (fun _ _ _ h => absurd h.1 (fun e => nomatch e)) (wanted_rd rfl) hS (fun wx _ => run_ixS (.tmp 47) 0 rfl (ev_same _ _ _ (by simp only [sz_put]; omega)) rfl (by omega) wx) ?_
              show SeqI _ _ _ _ _ _ (Act.put _ (some 48) _) _
              refine sI_read (v := (.int .i64 (gO v bad (liF g ln) s q 0))) rfl (fun _ _ _ h => absurd h.1 (fun e => nomatch e)) (wanted_rd rfl) hS (fun wx hx => run_ldI (.tmp 48) rfl (ev_same _ _ _ (by simp only [sz_put]; omega)) hx.2.2.1) ?_
              show SeqI _ _ _ _ _ _ (Act.put _ (some 49) _) _
              refine sI_read (v := (.int .i64 (q : Nat))) rfl (fun _ _ _ h => absurd h.1 (fun e => nomatch e)) (wanted_rd rfl) hS (fun wx _ => run_move (.tmp 13) rfl ((ev_other _ _ (by decide)).trans ((ev_other _ _ (by decide)).trans ((ev_other _ _ (by decide)).trans ((ev_other _ _ (by decide)).trans ((ev_other _ _ (by decide)).trans ((ev_other _ _ (by decide)).trans ((ev_other _ _ (by decide)).trans ((ev_other _ _ (by decide)).trans ((ev_other _ _ (by decide)).trans ((ev_other _ _ (by decide)).trans b13)))))))))) wx) ?_
              show SeqI _ _ _ _ _ _ (Act.put _ (some 50) _) _
              refine sI_read (v := (.pointer (some ⟨kb, q, none⟩))) rfl (fun _ _ _ h => absurd h.1 (fun e => nomatch e)) (wanted_rd rfl) hS (fun wx _ => run_atR (.tmp 12) (.tmp 50) rfl ((ev_other _ _ (by decide)).trans ((ev_other _ _ (by decide)).trans ((ev_other _ _ (by decide)).trans ((ev_other _ _ (by decide)).trans ((ev_other _ _ (by decide)).trans ((ev_other _ _ (by decide)).trans ((ev_other _ _ (by decide)).trans ((ev_other _ _ (by decide)).trans ((ev_other _ _ (by decide)).trans ((ev_other _ _ (by decide)).trans ((ev_other _ _ (by decide)).trans b12))))))))))) (ev_same _ _ _ (by simp only [sz_put]; omega)) hq4 wx) ?_
              show SeqI _ _ _ _ _ _ (Act.put _ (some 51) _) _
              refine sI_read (v := (.slice (some ⟨x, 0, none⟩) 2 (C q))) rfl (fun _ _ _ h => absurd h.1 (fun e => nomatch e)) (wanted_rd rfl) hS (fun wx hx => run_ldS (.tmp 51) rfl (ev_same _ _ _ (by simp only [sz_put]; omega)) hx.2.1) ?_
              show SeqI _ _ _ _ _ _ (Act.put _ (some 52) _) _
              refine sI_read (v := (.pointer (some ⟨x, 1, none⟩))) rfl (fun _ _ _ h => absurd h.1 (fun e => nomatch e)) (wanted_rd rfl) hS (fun wx _ => run_ixS (.tmp 52) 1 rfl (ev_same _ _ _ (by simp only [sz_put]; omega)) rfl (by omega) wx) ?_
              show SeqI _ _ _ _ _ _ (Act.put _ (some 53) _) _
              refine sI_read (v := (.int .i64 (gO v bad (liF g ln) s q 1))) rfl (fun _ _ _ h => absurd h.1 (fun e => nomatch e)) (wanted_rd rfl) hS (fun wx hx => run_ldI (.tmp 53) rfl (ev_same _ _ _ (by simp only [sz_put]; omega)) hx.2.2.2) ?_
              show SeqI _ _ _ _ _ _ (Act.put _ (some 54) _) _
              refine sI_read (v := (.pointer (some ⟨w.heap.size + 1 + 1, q * 4, none⟩))) rfl (fun _ _ _ h => absurd h.1 (fun e => nomatch e)) (wanted_rd rfl) hS (fun wx _ => run_at16 (.tmp 7) (.tmp 40) rfl ((ev_other _ _ (by decide)).trans ((ev_other _ _ (by decide)).trans ((ev_other _ _ (by decide)).trans ((ev_other _ _ (by decide)).trans ((ev_other _ _ (by decide)).trans ((ev_other _ _ (by decide)).trans ((ev_other _ _ (by decide)).trans ((ev_other _ _ (by decide)).trans ((ev_other _ _ (by decide)).trans ((ev_other _ _ (by decide)).trans ((ev_other _ _ (by decide)).trans ((ev_other _ _ (by decide)).trans ((ev_other _ _ (by decide)).trans ((ev_other _ _ (by decide)).trans ((ev_other _ _ (by decide)).trans b7))))))))))))))) ((ev_other _ _ (by decide)).trans ((ev_other _ _ (by decide)).trans ((ev_other _ _ (by decide)).trans ((ev_other _ _ (by decide)).trans ((ev_other _ _ (by decide)).trans ((ev_other _ _ (by decide)).trans ((ev_other _ _ (by decide)).trans ((ev_other _ _ (by decide)).trans ((ev_other _ _ (by decide)).trans ((ev_other _ _ (by decide)).trans ((ev_other _ _ (by decide)).trans ((ev_other _ _ (by decide)).trans ((ev_other _ _ (by decide)).trans ((ev_other _ _ (by decide)).trans (ev_same _ _ _ (by omega)))))))))))))))) hq4 wx) ?_
              show SeqI _ _ _ _ _ _ (Act.put _ (some 56) _) _
              refine sI_do rfl (wanted_rd rfl) (fun K hK => ?_)
              refine wp_call3 _ 11 (.tmp 44) (.tmp 49) (.tmp 54) _ rfl ((ev_other _ _ (by decide)).trans ((ev_other _ _ (by decide)).trans ((ev_other _ _ (by decide)).trans ((ev_other _ _ (by decide)).trans ((ev_other _ _ (by decide)).trans ((ev_other _ _ (by decide)).trans ((ev_other _ _ (by decide)).trans ((ev_other _ _ (by decide)).trans ((ev_other _ _ (by decide)).trans ((ev_other _ _ (by decide)).trans ((ev_other _ _ (by decide)).trans (ev_same _ _ _ (by simp only [sz_put]; omega))))))))))))) ((ev_other _ _ (by decide)).trans ((ev_other _ _ (by decide)).trans ((ev_other _ _ (by decide)).trans ((ev_other _ _ (by decide)).trans ((ev_other _ _ (by decide)).trans ((ev_other _ _ (by decide)).trans (ev_same _ _ _ (by simp only [sz_put]; omega)))))))) ((ev_other _ _ (by decide)).trans (ev_same _ _ _ (by simp only [sz_put]; omega))) (enter_dec _ _ _ _) (agrDecide_any _ _ _ _) ?_
              rintro e wq ⟨rfl, k8⟩
              have hS2 : (fun u : World => u.cell? ⟨hb, q, none⟩ = some (.int .i64 (H q)) ∧ u.cell? ⟨kb, q, none⟩ = some (.slice (some ⟨x, 0, none⟩) 2 (C q)) ∧ u.cell? ⟨x, 0, none⟩ = some (.int .i64 (gO v bad (liF g ln) s q 0)) ∧ u.cell? ⟨x, 1, none⟩ = some (.int .i64 (gO v bad (liF g ln) s q 1))) wq := ⟨at_below hS.1 k8, at_below hS.2.1 k8, at_below hS.2.2.1 k8, at_below hS.2.2.2 k8⟩
              refine ⟨_, rfl, hK _ _ (fun _ => hS2) ?_⟩
              clear hK K hS
              show SeqI _ _ _ _ _ _ (Act.put _ (some 55) _) _
              refine sI_read (v := (.pointer (some ⟨w.heap.size + 1 + 1, q * 4 + s, none⟩))) rfl (fun _ _ _ h => absurd h.1 (fun e => nomatch e)) (wanted_rd rfl) hS2 (fun wx _ => run_at4 (.tmp 56) (.tmp 41) rfl ((ev_other _ _ (by decide)).trans (ev_same _ _ _ (by simp only [sz_put]; omega))) ((ev_other _ _ (by decide)).trans ((ev_other _ _ (by decide)).trans ((ev_other _ _ (by decide)).trans ((ev_other _ _ (by decide)).trans ((ev_other _ _ (by decide)).trans ((ev_other _ _ (by decide)).trans ((ev_other _ _ (by decide)).trans ((ev_other _ _ (by decide)).trans ((ev_other _ _ (by decide)).trans ((ev_other _ _ (by decide)).trans ((ev_other _ _ (by decide)).trans ((ev_other _ _ (by decide)).trans ((ev_other _ _ (by decide)).trans ((ev_other _ _ (by decide)).trans ((ev_other _ _ (by decide)).trans (ev_same _ _ _ (by simp only [sz_put]; omega))))))))))))))))) hs4 wx) ?_
              show SeqI _ _ _ _ _ _ (Act.put _ (some 57) _) _
              have y9 : VK w g ln bad (bsN bad (s + 1)) (upG O2 q s (v s)) wy.drew := (unhide YJ).below (below_drew (Below.refl _ _))
              have y8 := y9.below k8
              refine sI_do rfl (wanted_rd rfl) (fun K hK => ?_)
              refine wp_stI _ (.tmp 57) (.tmp 55) rfl (ev_same _ _ _ (by simp only [sz_put]; omega)) ((ev_other _ _ (by decide)).trans (ev_same _ _ _ (by simp only [sz_put]; omega))) (y8.o.cell hq4 hs4) (y8.o.free _) rfl ?_
              refine hK _ _ (fun h => absurd h (by decide)) ?_
              clear hK K
              refine sI_end ?_
              have h9 : F4 wy.drew hb H := unhide YH
              have k9 : R4 wy.drew kb (slF A N C) := unhide YK
              have r9 : Rw wy.drew A N C (gO v bad (liF g ln) s) s (w.heap.size + 1 + 1) := unhide YR
              have kk := kept_set wq (w.heap.size + 1 + 1) (q * 4 + s) (.int .i64 (dc3 (H q) (gO v bad (liF g ln) s q 0) (gO v bad (liF g ln) s q 1)))
              exact ⟨rfl, ⟨y8.put kk (y8.o.set hq4 hs4 _), (h9.below k8).kept kk (by omega), (k9.below k8).kept kk (by omega), (r9.below k8).kept kk⟩, rfl⟩
            case rest13 =>
              rintro a' w10 ⟨⟨j10, h10, k10, r10⟩, rfl⟩
              have J10 := hide j10; have H10 := hide h10; have K10 := hide k10; have R10 := hide r10
              clear j10 h10 k10 r10 YJ YH YK YR YX
              go_frame
              go_wp2_with fail
              go_roundw
              case rel => exact ⟨q + 1, _, by go_num, by omega, unhide H10, unhide K10, unhide R10, unhide J10, unhide G⟩
              case measure => simp [intOf] <;> omega
        · have e9 : q = 4 := by omega
          subst e9
          rw [show ((4 : Nat) : Int) = 4 from rfl]
          go_wp2_with fail
          go_roundw
          case rel => exact ⟨s + 1, O2, by go_num, by omega, unhide MJ, fun q t hq ht => unhide MO q t hq (by omega)⟩
          case measure => simp [intOf] <;> omega
    · have e9 : s = 4 := by omega
      subst e9
      rw [show ((4 : Nat) : Int) = 4 from rfl]
      go_wp2_with (first | refine wpList_loadG _ rfl (.tmp 7) rfl rfl (unhide RJ).o ?_ | (refine wpList_storeG _ rfl (.tmp 6) (.tmp 60) rfl rfl rfl (unhide RJ).r rfl ?_; intro w5 m5 k5))
      have K5 := hide (below_of_kept (unhide RJ).k k5 (by omega) (unhide RJ).k.size)
      have EO := hide (grid_congr (fun i j hi hj => unhide HO i j hi hj))
      have p0 : w5.cell? ⟨w.heap.size + 1, 0, none⟩ = some (.int .i64 (O 0 0)) := m5.at 0 (by omega)
      have p1 : w5.cell? ⟨w.heap.size + 1, 1, none⟩ = some (.int .i64 (O 0 1)) := m5.at 1 (by omega)
      have p2 : w5.cell? ⟨w.heap.size + 1, 2, none⟩ = some (.int .i64 (O 0 2)) := m5.at 2 (by omega)
      have p3 : w5.cell? ⟨w.heap.size + 1, 3, none⟩ = some (.int .i64 (O 0 3)) := m5.at 3 (by omega)
      have p4 : w5.cell? ⟨w.heap.size + 1, 4, none⟩ = some (.int .i64 (O 1 0)) := m5.at 4 (by omega)
      have p5 : w5.cell? ⟨w.heap.size + 1, 5, none⟩ = some (.int .i64 (O 1 1)) := m5.at 5 (by omega)
      have p6 : w5.cell? ⟨w.heap.size + 1, 6, none⟩ = some (.int .i64 (O 1 2)) := m5.at 6 (by omega)
      have p7 : w5.cell? ⟨w.heap.size + 1, 7, none⟩ = some (.int .i64 (O 1 3)) := m5.at 7 (by omega)
      have p8 : w5.cell? ⟨w.heap.size + 1, 8, none⟩ = some (.int .i64 (O 2 0)) := m5.at 8 (by omega)
      have p9 : w5.cell? ⟨w.heap.size + 1, 9, none⟩ = some (.int .i64 (O 2 1)) := m5.at 9 (by omega)
      have p10 : w5.cell? ⟨w.heap.size + 1, 10, none⟩ = some (.int .i64 (O 2 2)) := m5.at 10 (by omega)
      have p11 : w5.cell? ⟨w.heap.size + 1, 11, none⟩ = some (.int .i64 (O 2 3)) := m5.at 11 (by omega)
      have p12 : w5.cell? ⟨w.heap.size + 1, 12, none⟩ = some (.int .i64 (O 3 0)) := m5.at 12 (by omega)
      have p13 : w5.cell? ⟨w.heap.size + 1, 13, none⟩ = some (.int .i64 (O 3 1)) := m5.at 13 (by omega)
      have p14 : w5.cell? ⟨w.heap.size + 1, 14, none⟩ = some (.int .i64 (O 3 2)) := m5.at 14 (by omega)
      have p15 : w5.cell? ⟨w.heap.size + 1, 15, none⟩ = some (.int .i64 (O 3 3)) := m5.at 15 (by omega)
      refine bodyPost_ret (v := gridV O) (by unfold gridV; simp [results, Try.results12, go_sem, p0, p1, p2, p3, p4, p5, p6, p7, p8, p9, p10, p11, p12, p13, p14, p15]) rfl ⟨by rw [unhide EO], unhide K5⟩

end Go.Proofs.Ytomlpcbccfmejaa
