/- Contracts: times of a matrix at work. -/
import Derived.Test.YtnfejfdekedmhabMatWork
import Derived.Test.YtnfejfdekedmhabMatFacS
namespace Go.Proofs.Ytnfejfdekedmhab
open Go.RowKit

/-- The numbers so far: rows done, the row at work, noughts. -/
def TimesTo (n i k : Nat) (g v f : Nat → Int) : Prop := (∀ j, j < i → f j = chV (rowF n g j) v n) ∧ f i = chV (rowF n g i) v k ∧ ∀ j, i < j → f j = 0
theorem timesTo_start (n : Nat) (g v : Nat → Int) : TimesTo n 0 0 g v (fun _ => 0) := ⟨fun _ h => absurd h (by omega), rfl, fun _ _ => rfl⟩
theorem timesTo_row {n i : Nat} {g v f : Nat → Int} (h : TimesTo n i n g v f) : TimesTo n (i + 1) 0 g v f := by
  refine ⟨fun j hj => ?_, h.2.2 (i + 1) (by omega), fun j hj => h.2.2 j (by omega)⟩
  rcases Nat.lt_or_ge j i with h1 | h1
  · exact h.1 j h1
  · have : j = i := by omega
    subst this; exact h.2.1
theorem timesTo_step {n i k : Nat} {g v f : Nat → Int} (h : TimesTo n i k g v f) : TimesTo n i (k + 1) g v (stF f i (clampZ (chV (rowF n g i) v k + clampZ (mulQ (rowF n g i k) (v k))))) := by
  refine ⟨fun j hj => ?_, stF_same _ _ _, fun j hj => ?_⟩
  · rw [stF_other _ _ (by omega)]; exact h.1 j hj
  · rw [stF_other _ _ (by omega)]; exact h.2.2 j hj

set_option maxHeartbeats 2000000 in
theorem wkTimes_any (b n r cap bv o cv : Nat) (g v : Nat → Int) (x : Bool) (w : World) (hv : ∀ i, R64 (v i)) (hvb : bv ≠ b) (hc : ∀ i, i < n → w.cell? ⟨bv, o + i, none⟩ = some (.int .i64 (v i))) (h : MW w b n r cap g x) :
    Calls Try.prog 25 #[.pointer (some ⟨b, 0, none⟩), .slice (some ⟨bv, o, none⟩) n cv] w fun e w' =>
      e = .returned (.slice (some ⟨w.heap.size, 0, none⟩) n n) ∧ Nh w' w.heap.size n n (fun i => chV (rowF n g i) v n) ∧ MW w' b n r cap g (x || anyB (fun i => chB (rowF n g i) v n) n) ∧ Kept b w w' := by
  have c0 := h.wk.cell0
  have hn6 := h.n6
  have hmk := makeFull n (by omega)
  have HB := hide h.wk.lt
  have HRL := hide h.row.lt
  have H := hide h; have HV := hide hv; have HC := hide hc; have HVB := hide hvb
  clear h hv hc hvb
  go_enter Try.func25, Try.ntmps25
  go_wp2_with fail
  clear c0 hmk
  go_loopw [6, 7, 8, 17, 22] (fun _ _ _ is _ wr => ∃ (i : Nat) (f : Nat → Int), is = .int .i64 i ∧ i ≤ n ∧ MW wr b n r cap g (x || anyB (fun i => chB (rowF n g i) v n) i) ∧ Nh wr w.heap.size n n f ∧ TimesTo n i 0 g v f ∧ Kept b w wr)
    (fun _ _ _ is _ _ => n - (intOf is).toNat)
  case atStart =>
    refine ⟨0, _, rfl, Nat.zero_le _, ?_, Nh.made w n (by unfold maxLen; omega), timesTo_start n g v, al_kept w _⟩
    show MW _ b n r cap g (x || false)
    rw [Bool.or_false]; exact (unhide H).below (al_below w _)
  case round =>
    obtain ⟨i, f, rfl, hi, hM, hN, hT, hK⟩ := hrel
    have HM := hide hM; have HT := hide hT; have HK := hide hK; have HN := hide hN
    clear hM hT hK hN
    by_cases hin : i < n
    · go_wp2_with fail
      go_loopw [7, 8, 22] (fun _ _ ks wr => ∃ (k : Nat) (f : Nat → Int), ks = .int .i64 k ∧ k ≤ n ∧ MW wr b n r cap g (x || anyB (fun i => chB (rowF n g i) v n) i || chB (rowF n g i) v k) ∧ Nh wr w.heap.size n n f ∧ TimesTo n i k g v f ∧ Kept b w wr)
        (fun _ _ ks _ => n - (intOf ks).toNat)
      case atStart =>
        refine ⟨0, f, rfl, Nat.zero_le _, ?_, unhide HN, unhide HT, unhide HK⟩
        show MW _ b n r cap g (_ || false)
        rw [Bool.or_false]; exact unhide HM
      case round =>
        obtain ⟨k, f2, rfl, hk, hM, hN, hT, hK⟩ := hrel
        have HM2 := hide hM; have HT2 := hide hT; have HK2 := hide hK; have HN2 := hide hN
        clear hM hT hK hN
        by_cases hkn : k < n
        · have cv := at_kept (unhide HC k hkn) (unhide HK2) (unhide HVB)
          have EF := hide (show f2 i = chV (rowF n g i) v k from (unhide HT2).2.1)
          go_wp2_with fail
          clear cv
          rename World => wr
          have hS : Cl1 w.heap.size i (.int .i64 (f2 i)) wr.drew := (unhide HN2).cell hin
          refine region_by (S := Cl1 w.heap.size i (.int .i64 (f2 i)))
            [(0, false), (1, false), (2, false), (3, false), (4, false), (5, false), (6, false), (7, false), (8, false), (9, false), (10, false), (12, false), (11, true), (13, true), (14, true), (15, false), (16, true)] [16] (by kernel_rfl) (by kernel_rfl) ?_
          iterate 12
            refine seq_read (v := ?_) rfl (fun _ _ _ h => h) (by rfl) hS ?_ ?_
            rotate_left 1
            · intro wx hwx
              unfold Cl1 at hwx
              go_simp <;> exact rfl
            go_frame
          refine seq_do rfl (fun K hK => ?_)
          go_simp
          refine (wkAt_any b n r cap i k g _ _ hin hkn (mw_drew (unhide HM2))).mono ?_
          rintro e w1 ⟨rfl, rfl⟩
          refine hK _ _ (fun _ => hS) ?_
          clear hK K
          refine seq_do rfl (fun K hK => ?_)
          go_simp
          refine (wkMul_any b n r cap g _ _ _ _ ((unhide H).rng _) (unhide HV k) (mw_drew (mw_drew (unhide HM2)))).mono ?_
          rintro e w2 ⟨rfl, h2, k2⟩
          have hS2 : Cl1 w.heap.size i (.int .i64 (f2 i)) w2 := at_kept (w := wr.drew.drew) hS k2 (Nat.ne_of_gt (unhide HB))
          refine hK _ _ (fun _ => hS2) ?_
          have H2 := hide h2; have K2 := hide k2
          clear hK K hS h2 k2
          refine seq_do rfl (fun K hK => ?_)
          go_simp
          refine (wkAdd_any b n r cap g _ _ _ _ (by rw [unhide EF]; exact chV_R _ _ _) (clampZ_R _) (unhide H2)).mono ?_
          rintro e w3 ⟨rfl, h3, k3⟩
          have hS3 : Cl1 w.heap.size i (.int .i64 (f2 i)) w3 := at_kept hS2 k3 (Nat.ne_of_gt (unhide HB))
          refine hK _ _ (fun _ => hS3) ?_
          have N3 := hide (show Nh w3 w.heap.size n n f2 from ((show Nh wr.drew.drew w.heap.size n n f2 from unhide HN2).kept (unhide K2) (Nat.ne_of_gt (unhide HB))).kept k3 (Nat.ne_of_gt (unhide HB)))
          have H3 := hide h3; have K3 := hide (show Kept b w w3 from (((unhide HK2).trans ((kept_drew wr).trans (kept_drew _) (Or.inl rfl)) (Or.inl rfl)).trans (unhide K2) (Or.inl rfl)).trans k3 (Or.inl rfl))
          clear hK K hS2 h3 k3
          refine seq_read (v := ?_) rfl (fun _ _ _ h => h) (by rfl) hS3 ?_ ?_
          rotate_left 1
          · intro wx hwx
            clear hwx
            go_simp <;> exact rfl
          go_frame
          have c3 := (unhide N3).cell hin
          have f3 := (unhide N3).free i
          refine seq_do rfl (fun K hK => ?_)
          go_simp
          refine hK _ _ (fun h => by cases h) ?_
          clear hK K hS3 c3 f3
          refine seq_end ?_
          have F := hide (show MW (w3.setCell ⟨w.heap.size, i, none⟩ (.int .i64 (clampZ (f2 i + clampZ (mulQ (g (i * n + k)) (v k)))))) b n r cap g (x || anyB (fun i => chB (rowF n g i) v n) i || chB (rowF n g i) v (k + 1)) ∧
              Nh (w3.setCell ⟨w.heap.size, i, none⟩ (.int .i64 (clampZ (f2 i + clampZ (mulQ (g (i * n + k)) (v k)))))) w.heap.size n n (stF f2 i (clampZ (f2 i + clampZ (mulQ (g (i * n + k)) (v k))))) ∧ TimesTo n i (k + 1) g v (stF f2 i (clampZ (f2 i + clampZ (mulQ (g (i * n + k)) (v k))))) ∧
              Kept b w (w3.setCell ⟨w.heap.size, i, none⟩ (.int .i64 (clampZ (f2 i + clampZ (mulQ (g (i * n + k)) (v k)))))) from by
            have hb := unhide HB
            refine ⟨?_, (unhide N3).set _ _, ?_, (unhide K3).trans (kept_set w3 w.heap.size i _) (Or.inr (Nat.le_refl _))⟩
            · have hm := (unhide H3).kept (kept_set w3 w.heap.size i (.int .i64 (clampZ (f2 i + clampZ (mulQ (g (i * n + k)) (v k)))))) (by omega) (by have := unhide HRL; omega)
              rw [unhide EF] at hm ⊢
              have e : (x || anyB (fun i => chB (rowF n g i) v n) i || chB (rowF n g i) v k || bentZ (mulQ (g (i * n + k)) (v k)) || bentZ (chV (rowF n g i) v k + clampZ (mulQ (g (i * n + k)) (v k)))) = (x || anyB (fun i => chB (rowF n g i) v n) i || chB (rowF n g i) v (k + 1)) := by
                simp only [chB, Bool.or_assoc]; rfl
              rw [e] at hm
              exact hm
            · rw [unhide EF]; exact timesTo_step (unhide HT2))
          generalize w3.setCell ⟨w.heap.size, i, none⟩ (.int .i64 (clampZ (f2 i + clampZ (mulQ (g (i * n + k)) (v k))))) = w4 at *
          go_wp2_with fail
          go_roundw
          case rel => exact ⟨k + 1, _, by go_num, by omega, (unhide F).1, (unhide F).2.1, (unhide F).2.2.1, (unhide F).2.2.2⟩
          case measure => simp [intOf]; omega
        · have hkn2 : k = n := by omega
          subst hkn2
          go_wp2_with fail
          go_roundw
          case rel =>
            refine ⟨i + 1, f2, by go_num, by omega, ?_, unhide HN2, timesTo_row (unhide HT2), unhide HK2⟩
            have hm := unhide HM2
            rw [Bool.or_assoc] at hm
            exact hm
          case measure => simp [intOf]; omega
    · have hin2 : i = n := by omega
      subst hin2
      go_wp2_with fail
      go_ret
      exact ⟨rfl, (unhide HN).congr (fun j hj => (unhide HT).1 j hj), unhide HM, unhide HK⟩

end Go.Proofs.Ytnfejfdekedmhab
