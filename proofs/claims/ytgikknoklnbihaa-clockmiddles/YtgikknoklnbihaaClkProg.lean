/- The contract of package clock's Round. -/
import Derived.Test.YtgikknoklnbihaaClkMid
namespace Go.Proofs.Ytgikknoklnbihaa
open Go.RowKit Go.Shelf

theorem alB_rn {f l : Nat → Int} : (alB f 1099511627776 = false → rnBad f l) ∧ (alB l 1099511627776 = false → rnBad f l) ∧ (alB f 1099511627776 = true → alB l 1099511627776 = true → ¬ rnBad f l) := by
  refine ⟨fun h => ?_, fun h => ?_, fun h h2 => ?_⟩
  · have h := of_decide_eq_false h
    by_cases c : rnBad f l
    · exact c
    · exfalso
      apply h
      intro i hi
      have : ¬ (f i < -1099511627776 ∨ 1099511627776 < f i ∨ l i < -1099511627776 ∨ 1099511627776 < l i) := fun e => c ⟨i, hi, e⟩
      omega
  · have h := of_decide_eq_false h
    by_cases c : rnBad f l
    · exact c
    · exfalso
      apply h
      intro i hi
      have : ¬ (f i < -1099511627776 ∨ 1099511627776 < f i ∨ l i < -1099511627776 ∨ 1099511627776 < l i) := fun e => c ⟨i, hi, e⟩
      omega
  · have h := of_decide_eq_true h
    have h2 := of_decide_eq_true h2
    rintro ⟨i, hi, hb⟩
    have := h i hi; have := h2 i hi
    omega
/-- The clocks behind the first k steps of a round. -/
def rnK (f l : Nat → Int) (bad : Int) (k : Nat) (x : Nat → Int) : Prop := ∀ i : Nat, i < 4 → (i < k → ((i : Int) = bad → x i = f i) ∧ ((i : Int) ≠ bad → IsMid (rdF f l bad i) 4 (x i))) ∧ (k ≤ i → x i = f i)
theorem rnK_skip {f l x : Nat → Int} {bad : Int} {k : Nat} (h : rnK f l bad k x) (hb : (k : Int) = bad) : rnK f l bad (k + 1) x := by
  intro i hi
  refine ⟨fun hk => ?_, fun hk => (h i hi).2 (by omega)⟩
  by_cases e : i = k
  · subst e
    exact ⟨fun _ => (h i hi).2 (Nat.le_refl _), fun hn => absurd hb hn⟩
  · exact (h i hi).1 (by omega)
theorem rnK_step {f l x : Nat → Int} {bad m : Int} {k : Nat} (h : rnK f l bad k x) (hb : (k : Int) ≠ bad) (hm : IsMid (rdF f l bad k) 4 m) : rnK f l bad (k + 1) (fun j => if j = k then m else x j) := by
  intro i hi
  refine ⟨fun hk => ?_, fun hk => ?_⟩
  · by_cases e : i = k
    · subst e
      exact ⟨fun hn => absurd hn hb, fun _ => by show IsMid _ 4 (if i = i then m else x i); rw [if_pos rfl]; exact hm⟩
    · have := (h i hi).1 (by omega)
      show ((i : Int) = bad → (if i = k then m else x i) = f i) ∧ ((i : Int) ≠ bad → IsMid _ 4 (if i = k then m else x i))
      rw [if_neg e]; exact this
  · show (if i = k then m else x i) = f i
    rw [if_neg (by omega)]; exact (h i hi).2 (by omega)
theorem rnK_end {f l x : Nat → Int} {bad : Int} (h : rnK f l bad 4 x) (hb : ¬ rnBad f l) : rnR f l bad x 0 := Or.inr ⟨hb, rfl, fun i hi => (h i hi).1 hi⟩

/-- Five cells. -/
def C5 (p0 p1 p2 p3 q : Addr) (x0 x1 x2 x3 y : Value) (w : World) : Prop := w.cell? p0 = some x0 ∧ w.cell? p1 = some x1 ∧ w.cell? p2 = some x2 ∧ w.cell? p3 = some x3 ∧ w.cell? q = some y
/-- What lies in memory between two steps of a round. -/
def RnI (w : World) (f l : Nat → Int) (bad : Int) (N k : Nat) (wr : World) : Prop :=
  ∃ x, F4 wr w.heap.size f ∧ F4 wr (w.heap.size + 1) l ∧ F4 wr (w.heap.size + 1 + 1) (fun _ => 0) ∧ F4 wr N x ∧ rnK f l bad k x ∧ Below w.heap.size w wr

set_option maxHeartbeats 2000000 in
theorem clockRound_ok : RnOK 13 := by
  intro f l bad w hf hl hb
  obtain ⟨w1, e1, mA, mL, mR, k1, s1⟩ := f4_three w f l
  have c0 := mA.cell (show 0 < 4 by omega); have c1 := mA.cell (show 1 < 4 by omega); have c2 := mA.cell (show 2 < 4 by omega); have c3 := mA.cell (show 3 < 4 by omega)
  have CA := allWithin_any f 1099511627776 w1 hf (by omega) (by omega)
  unfold fourV at CA
  obtain ⟨b1, b2, b3⟩ := alB_rn (f := f) (l := l)
  have E1 := hide e1; have K1 := hide k1; have HF := hide hf; have HL := hide hl; have MR := hide mR; have MA := hide mA; have ML := hide mL
  have B1 := hide b1; have B2 := hide b2; have B3 := hide b3; have S1 := hide s1
  clear e1 mA mL mR k1 s1 hf hl b1 b2 b3
  unfold fourV
  go_enter Try.func13, Try.ntmps13
  go_wp2_with fail
  rw [← unhide E1]
  go_wp2_with fail
  refine CA.mono ?_
  rintro e w2 ⟨rfl, k2⟩
  have mL2 := (unhide ML).below k2; have mR2 := (unhide MR).below k2; have mA2 := (unhide MA).below k2
  have K2 := hide ((unhide K1).trans (k2.mono (unhide K1).size)); have Z2 := hide (show w.heap.size + 1 + 1 + 1 ≤ w2.heap.size by have := k2.size; have := unhide S1; omega)
  clear CA k2 c0 c1 c2 c3
  cases ca : alB f 1099511627776
  · have B := hide (unhide B1 ca)
    clear ca
    have a0 := mR2.cell (show 0 < 4 by omega); have a1 := mR2.cell (show 1 < 4 by omega); have a2 := mR2.cell (show 2 < 4 by omega); have a3 := mR2.cell (show 3 < 4 by omega)
    have f0 := mR2.free 0; have f1 := mR2.free 1; have f2 := mR2.free 2; have f3 := mR2.free 3
    obtain ⟨w3, e3, m3, k3⟩ := mR2.put (fun _ => 0)
    have p0 := m3.cell (show 0 < 4 by omega); have p1 := m3.cell (show 1 < 4 by omega); have p2 := m3.cell (show 2 < 4 by omega); have p3 := m3.cell (show 3 < 4 by omega)
    have E3 := hide e3; have K3 := hide (below_of_kept (unhide K2) k3 (by omega) (unhide K2).size)
    clear e3 m3 k3 mR2 mL2 mA2
    go_wp2_with fail
    rw [← unhide E3]
    clear a0 a1 a2 a3 f0 f1 f2 f3
    refine bodyPost_ret (v := .tuple #[.agg #[.int .i64 0, .int .i64 0, .int .i64 0, .int .i64 0], .int .i64 3]) (by simp [results, Try.results13, go_sem, p0, p1, p2, p3]) rfl ⟨fun _ => 0, 3, Or.inl ⟨unhide B, rfl, fun _ _ => rfl⟩, rfl, unhide K3⟩
  · have CA2 := allWithin_any l 1099511627776 w2 (unhide HL) (by omega) (by omega)
    unfold fourV at CA2
    have d0 := mL2.cell (show 0 < 4 by omega); have d1 := mL2.cell (show 1 < 4 by omega); have d2 := mL2.cell (show 2 < 4 by omega); have d3 := mL2.cell (show 3 < 4 by omega)
    have MA2 := hide mA2; have ML2 := hide mL2; have MR2 := hide mR2; have CAY := hide ca
    clear mA2 mL2 mR2 ca
    go_wp2_with fail
    refine CA2.mono ?_
    rintro e w3 ⟨rfl, k3⟩
    have mL3 := (unhide ML2).below k3; have mR3 := (unhide MR2).below k3; have mA3 := (unhide MA2).below k3
    have K3 := hide ((unhide K2).trans (k3.mono (unhide K2).size)); have Z3 := hide (show w.heap.size + 1 + 1 + 1 ≤ w3.heap.size by have := k3.size; have := unhide Z2; omega)
    clear CA2 k3 d0 d1 d2 d3
    cases cb : alB l 1099511627776
    · have B := hide (unhide B2 cb)
      clear cb
      have a0 := mR3.cell (show 0 < 4 by omega); have a1 := mR3.cell (show 1 < 4 by omega); have a2 := mR3.cell (show 2 < 4 by omega); have a3 := mR3.cell (show 3 < 4 by omega)
      have f0 := mR3.free 0; have f1 := mR3.free 1; have f2 := mR3.free 2; have f3 := mR3.free 3
      obtain ⟨w4, e4, m4, k4⟩ := mR3.put (fun _ => 0)
      have p0 := m4.cell (show 0 < 4 by omega); have p1 := m4.cell (show 1 < 4 by omega); have p2 := m4.cell (show 2 < 4 by omega); have p3 := m4.cell (show 3 < 4 by omega)
      have E4 := hide e4; have K4 := hide (below_of_kept (unhide K3) k4 (by omega) (unhide K3).size)
      clear e4 m4 k4 mR3 mL3 mA3
      go_wp2_with fail
      rw [← unhide E4]
      clear a0 a1 a2 a3 f0 f1 f2 f3
      refine bodyPost_ret (v := .tuple #[.agg #[.int .i64 0, .int .i64 0, .int .i64 0, .int .i64 0], .int .i64 3]) (by simp [results, Try.results13, go_sem, p0, p1, p2, p3]) rfl ⟨fun _ => 0, 3, Or.inl ⟨unhide B, rfl, fun _ _ => rfl⟩, rfl, unhide K4⟩
    · have B := hide (unhide B3 (unhide CAY) cb)
      clear cb
      have c0 := mA3.cell (show 0 < 4 by omega); have c1 := mA3.cell (show 1 < 4 by omega); have c2 := mA3.cell (show 2 < 4 by omega); have c3 := mA3.cell (show 3 < 4 by omega)
      obtain ⟨w4, e4, mN, k4, s4⟩ := f4_alloc w3 f
      have I0 := hide (show RnI w f l bad w3.heap.size 0 w4 from ⟨f, mA3.below k4, mL3.below k4, mR3.below k4, mN, fun i hi => ⟨fun h => absurd h (by omega), fun _ => rfl⟩, (unhide K3).trans (k4.mono (unhide K3).size)⟩)
      have E4 := hide e4
      clear e4 mN k4 s4 mA3 mL3 mR3
      obtain ⟨N, eN⟩ : ∃ N, w3.heap.size = N := ⟨_, rfl⟩
      have ZN := unhide Z3
      rw [eN] at I0 ZN
      have EN := hide eN
      clear eN
      go_wp2_with fail
      rw [← unhide E4, unhide EN]
      clear c0 c1 c2 c3
      have x0 : w.heap.size ≠ N := by omega
      have x1 : w.heap.size + 1 ≠ N := by omega
      have x2 : w.heap.size + 1 + 1 ≠ N := by omega
      go_loopw [20] (fun q wr => ∃ k : Nat, k ≤ 4 ∧ q = .int .i64 (k : Int) ∧ RnI w f l bad N k wr) (fun q _ => 4 - (intOf q).toNat)
      case atStart => exact ⟨0, by omega, rfl, unhide I0⟩
      case round =>
        obtain ⟨k, hk, rfl, hI⟩ := hrel
        rename World => wr
        by_cases hin : k < 4
        · have hin' : (k : Int) < 4 := by omega
          by_cases c : (k : Int) = bad
          · have tb : ((k : Int) != bad) = false := by simp [c]
            have I1 := hide (show RnI w f l bad N (k + 1) wr from by
              obtain ⟨x, h1, h2, h3, h4, h5, h6⟩ := hI
              exact ⟨x, h1, h2, h3, h4, rnK_skip h5 c, h6⟩)
            clear c hI
            go_wp2_with fail
            go_roundw
            case rel => exact ⟨k + 1, by omega, by go_num, unhide I1⟩
            case measure => simp [intOf]; omega
          · have tb : ((k : Int) != bad) = true := by simp [c]
            obtain ⟨x, h1, h2, h3, h4, h5, h6⟩ := hI
            have a0 := h1.cell (show 0 < 4 by omega); have a1 := h1.cell (show 1 < 4 by omega); have a2 := h1.cell (show 2 < 4 by omega); have a3 := h1.cell (show 3 < 4 by omega)
            have al := h2.cell hin
            have H1 := hide h1; have H2 := hide h2; have H3 := hide h3; have H4 := hide h4; have H5 := hide h5; have H6 := hide h6; have NB := hide c
            clear h1 h2 h3 h4 h5 h6 c
            have CRd := readings_any f bad (l k) wr.drew
            unfold fourV at CRd
            obtain ⟨v, ev⟩ : ∃ v, l k = v := ⟨_, rfl⟩
            rw [ev] at al CRd
            have EV := hide ev
            clear ev
            have hS : C5 ⟨w.heap.size, 0, none⟩ ⟨w.heap.size, 1, none⟩ ⟨w.heap.size, 2, none⟩ ⟨w.heap.size, 3, none⟩ ⟨w.heap.size + 1, k, none⟩ (.int .i64 (f 0)) (.int .i64 (f 1)) (.int .i64 (f 2)) (.int .i64 (f 3)) (.int .i64 v) wr.drew := ⟨a0, a1, a2, a3, al⟩
            clear a0 a1 a2 a3 al
            go_wp2_with fail
            refine region_by (S := C5 ⟨w.heap.size, 0, none⟩ ⟨w.heap.size, 1, none⟩ ⟨w.heap.size, 2, none⟩ ⟨w.heap.size, 3, none⟩ ⟨w.heap.size + 1, k, none⟩ (.int .i64 (f 0)) (.int .i64 (f 1)) (.int .i64 (f 2)) (.int .i64 (f 3)) (.int .i64 v))
              [(0, false), (1, false), (2, false), (3, false), (4, false), (5, false), (6, true), (7, true), (8, false), (9, true)] [9] (by kernel_rfl) (by kernel_rfl) ?_
            iterate 6
              refine seq_read (v := ?_) rfl (fun _ _ _ h => h) (by rfl) hS ?_ ?_
              rotate_left 1
              · intro wx hwx
                obtain ⟨k0, k1, k2, k3, k4⟩ := hwx
                go_simp <;> exact rfl
              go_frame
            refine seq_do rfl (fun K hK => ?_)
            go_simp
            refine CRd.mono ?_
            rintro e w5 ⟨rfl, m5, n5, l5, k5⟩
            have hS5 : C5 ⟨w.heap.size, 0, none⟩ ⟨w.heap.size, 1, none⟩ ⟨w.heap.size, 2, none⟩ ⟨w.heap.size, 3, none⟩ ⟨w.heap.size + 1, k, none⟩ (.int .i64 (f 0)) (.int .i64 (f 1)) (.int .i64 (f 2)) (.int .i64 (f 3)) (.int .i64 v) w5 :=
              ⟨at_below hS.1 k5, at_below hS.2.1 k5, at_below hS.2.2.1 k5, at_below hS.2.2.2.1 k5, at_below hS.2.2.2.2 k5⟩
            refine hK _ _ (fun _ => hS5) ?_
            clear hK K CRd
            have CM := middle_any _ _ (rd1 f bad v) 4 w5 (by omega) (by omega) (fun i => by
              unfold rd1; split
              · rw [← unhide EV]; exact unhide HL k
              · exact unhide HF i) (enters_of Try.func38 (by kernel_rfl) rfl) (readings1_gives _ _ _ f bad v w5 m5 n5 l5)
            have K5 := hide (show Below wr.heap.size wr w5 from (below_drew (Below.refl _ _)).trans k5)
            clear m5 n5 l5 k5 hS
            refine seq_do rfl (fun K hK => ?_)
            go_simp
            refine CM.mono ?_
            rintro e w6 ⟨m, hm, rfl, k6⟩
            have hS6 : C5 ⟨w.heap.size, 0, none⟩ ⟨w.heap.size, 1, none⟩ ⟨w.heap.size, 2, none⟩ ⟨w.heap.size, 3, none⟩ ⟨w.heap.size + 1, k, none⟩ (.int .i64 (f 0)) (.int .i64 (f 1)) (.int .i64 (f 2)) (.int .i64 (f 3)) (.int .i64 v) w6 :=
              ⟨at_below hS5.1 k6, at_below hS5.2.1 k6, at_below hS5.2.2.1 k6, at_below hS5.2.2.2.1 k6, at_below hS5.2.2.2.2 k6⟩
            have K6 := hide ((unhide K5).trans (k6.mono (unhide K5).size))
            refine hK _ _ (fun _ => hS6) ?_
            have HM := hide hm
            clear hK K CM hS5 k6 hm
            refine seq_read (v := ?_) rfl (fun _ _ _ h => h) (by rfl) hS6 ?_ ?_
            rotate_left 1
            · intro wx hwx
              go_simp <;> exact rfl
            go_frame
            have m6 := (unhide H4).below (unhide K6)
            have g6 := m6.cell hin; have f6 := m6.free k
            refine seq_do rfl (fun K hK => ?_)
            go_simp
            refine hK _ _ (fun h => absurd h (by decide)) ?_
            clear hK K
            refine seq_end ?_
            have I1 := hide (show RnI w f l bad N (k + 1) (w6.setCell ⟨N, k, none⟩ (.int .i64 m)) from by
              have b6 := unhide K6
              have ks := kept_set w6 N k (.int .i64 m)
              refine ⟨fun j => if j = k then m else x j, ((unhide H1).below b6).kept ks x0, ((unhide H2).below b6).kept ks x1, ((unhide H3).below b6).kept ks x2, m6.set k m, rnK_step (unhide H5) (unhide NB) ?_, below_of_kept ((unhide H6).trans (b6.mono (unhide H6).size)) ks (by omega) ?_⟩
              · have := unhide HM
                rw [← unhide EV] at this
                exact this
              · have := (unhide H6).size; have := b6.size; omega)
            clear m6 g6 f6 hS6
            obtain ⟨w7, e7⟩ : ∃ w7, w7 = w6.setCell ⟨N, k, none⟩ (.int .i64 m) := ⟨_, rfl⟩
            rw [← e7] at I1 ⊢
            clear e7
            go_wp2_with fail
            go_roundw
            case rel => exact ⟨k + 1, by omega, by go_num, unhide I1⟩
            case measure => simp [intOf]; omega
        · obtain rfl : k = 4 := by omega
          obtain ⟨x, h1, h2, h3, h4, h5, h6⟩ := hI
          have a0 := h4.cell (show 0 < 4 by omega); have a1 := h4.cell (show 1 < 4 by omega); have a2 := h4.cell (show 2 < 4 by omega); have a3 := h4.cell (show 3 < 4 by omega)
          have q0 := h3.cell (show 0 < 4 by omega); have q1 := h3.cell (show 1 < 4 by omega); have q2 := h3.cell (show 2 < 4 by omega); have q3 := h3.cell (show 3 < 4 by omega)
          have f0 := h3.free 0; have f1 := h3.free 1; have f2 := h3.free 2; have f3 := h3.free 3
          obtain ⟨w7, e7, m7, k7⟩ := h3.put x
          have p0 := m7.cell (show 0 < 4 by omega); have p1 := m7.cell (show 1 < 4 by omega); have p2 := m7.cell (show 2 < 4 by omega); have p3 := m7.cell (show 3 < 4 by omega)
          have E7 := hide e7; have K7 := hide (below_of_kept h6 k7 (by omega) h6.size); have R := hide (rnK_end h5 (unhide B))
          clear e7 m7 k7 h1 h2 h3 h4 h5 h6
          go_wp2_with fail
          rw [← unhide E7]
          clear a0 a1 a2 a3 q0 q1 q2 q3 f0 f1 f2 f3
          refine bodyPost_ret (v := .tuple #[.agg #[.int .i64 (x 0), .int .i64 (x 1), .int .i64 (x 2), .int .i64 (x 3)], .int .i64 0]) (by simp [results, Try.results13, go_sem, p0, p1, p2, p3]) rfl ⟨x, 0, unhide R, rfl, unhide K7⟩

end Go.Proofs.Ytgikknoklnbihaa
