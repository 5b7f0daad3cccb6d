/- Contracts: goDown of a matrix at work. -/
import Derived.Test.YtnfejfdekedmhabMatSolS
namespace Go.Proofs.Ytnfejfdekedmhab
open Go.RowKit

set_option maxHeartbeats 4000000 in
theorem wkDown_any (b n r cap bx cx : Nat) (f y : Nat → Int) (x : Bool) (w : World) (hy : ∀ i, R64 (y i)) (hxb : bx ≠ b) (hxr : bx ≠ r) (hx : Nh w bx n cx y) (h : MW w b n r cap f x) :
    Calls Try.prog 28 #[.pointer (some ⟨b, 0, none⟩), .slice (some ⟨bx, 0, none⟩) n cx] w fun e w' =>
      e = .returned (.tuple #[]) ∧ MW w' b n r cap f (x || dnB n f y n) ∧ Nh w' bx n cx (dnF n f y n) ∧ Kp2 b bx w w' := by
  have hn6 := h.n6
  have H := hide h; have HY := hide hy; have HX := hide hx; have HXB := hide hxb; have HXR := hide hxr
  clear h hy hx hxb hxr
  go_enter Try.func28, Try.ntmps28
  go_wp2_with fail
  go_loopw [4, 5, 8, 12] (fun _ _ is _ wr => ∃ i : Nat, is = .int .i64 i ∧ i ≤ n ∧ MW wr b n r cap f (x || dnB n f y i) ∧ Nh wr bx n cx (dnF n f y i) ∧ Kp2 b bx w wr)
    (fun _ _ is _ _ => n - (intOf is).toNat)
  case atStart =>
    refine ⟨0, rfl, Nat.zero_le _, ?_, unhide HX, Kp2.refl _ _ _⟩
    show MW _ b n r cap f (x || false)
    rw [Bool.or_false]; exact unhide H
  case round =>
    obtain ⟨i, rfl, hi, hM, hN, hK⟩ := hrel
    have HM := hide hM; have HK := hide hK; have HN := hide hN
    clear hM hK hN
    by_cases hin : i < n
    · go_wp2_with fail
      go_loopw [5, 12] (fun _ ks wr => ∃ t : Nat, ks = .int .i64 t ∧ t ≤ i ∧ MW wr b n r cap f ((x || dnB n f y i) || (sbB (y i) (rowF n f i) (dnF n f y i) t)) ∧ Nh wr bx n cx (stF (dnF n f y i) i (sbV (y i) (rowF n f i) (dnF n f y i) t)) ∧ Kp2 b bx w wr)
        (fun _ ks _ => i - (intOf ks).toNat)
      case atStart =>
        refine ⟨0, by go_num, Nat.zero_le _, ?_, ?_, unhide HK⟩
        · show MW _ b n r cap f (_ || false)
          rw [Bool.or_false]; exact unhide HM
        · show Nh _ bx n cx (stF (dnF n f y i) i (y i))
          rw [stF_self (dnF_at n f y (Nat.le_refl i))]; exact unhide HN
      case round =>
        obtain ⟨t, rfl, ht, hM, hN, hK⟩ := hrel
        have HM2 := hide hM; have HK2 := hide hK; have HN2 := hide hN
        clear hM hK hN
        by_cases hti : t < i
        · rename World => wr
          obtain ⟨s, es⟩ : ∃ s, s = (sbV (y i) (rowF n f i) (dnF n f y i) t) := ⟨_, rfl⟩
          have RS := hide (show R64 s by rw [es]; exact sbV_R _ _ (unhide HY _) _)
          have RZ := hide (show R64 ((dnF n f y i) (t)) from dnF_R (unhide HY) _ _)
          have ci : wr.cell? ⟨bx, i, none⟩ = some (.int .i64 s) := by have := (unhide HN2).cell hin; rw [stF_same, ← es] at this; exact this
          have ck : wr.cell? ⟨bx, t, none⟩ = some (.int .i64 ((dnF n f y i) (t))) := by have := (unhide HN2).cell (show t < n by omega); rw [stF_other _ _ (by omega)] at this; exact this
          have hS : ClS bx i (t) (.int .i64 s) (.int .i64 ((dnF n f y i) (t))) wr.drew := ⟨ci, ck⟩
          have E := hide es
          clear es ci ck
          obtain ⟨zk, ezk⟩ : ∃ zk, zk = (dnF n f y i) (t) := ⟨_, rfl⟩
          rw [← ezk] at hS RZ
          have EZ := hide ezk
          clear ezk
          have htn : t < n := by omega
          go_wp2_with fail
          refine region_by (S := ClS bx i t (.int .i64 s) (.int .i64 zk))
            [(0, false), (1, false), (2, false), (3, false), (4, false), (5, false), (6, false), (7, false), (8, false), (9, false), (10, false), (12, false), (13, false), (14, false), (15, false), (11, true), (16, true), (17, true), (18, false), (19, true)] [19] (by kernel_rfl) (by kernel_rfl) ?_
          iterate 15
            refine seq_read (v := ?_) rfl (fun _ _ _ h => h) (by rfl) hS ?_ ?_
            rotate_left 1
            · intro wx hwx
              obtain ⟨q1, q2⟩ := hwx
              go_simp <;> exact rfl
            go_frame
          refine seq_do rfl (fun K hK => ?_)
          go_simp
          refine (wkAt_any b n r cap i t f _ _ hin (by omega) (mw_drew (unhide HM2))).mono ?_
          rintro e w1 ⟨rfl, rfl⟩
          refine hK _ _ (fun _ => hS) ?_
          clear hK K
          refine seq_do rfl (fun K hK => ?_)
          go_simp
          refine (wkMul_any b n r cap f _ _ _ _ ((unhide H).rng _) (unhide RZ) (mw_drew (mw_drew (unhide HM2)))).mono ?_
          rintro e w2 ⟨rfl, h2, k2⟩
          have hS2 : ClS bx i t (.int .i64 s) (.int .i64 zk) w2 := ClS.kept (w := wr.drew.drew) hS k2 (unhide HXB)
          refine hK _ _ (fun _ => hS2) ?_
          have H2 := hide h2; have K2 := hide k2
          clear hK K hS h2 k2
          refine seq_do rfl (fun K hK => ?_)
          go_simp
          refine (wkSub_any b n r cap f _ _ _ _ (unhide RS) (clampZ_R _) (unhide H2)).mono ?_
          rintro e w3 ⟨rfl, h3, k3⟩
          have hS3 := hS2.kept k3 (unhide HXB)
          refine hK _ _ (fun _ => hS3) ?_
          have N3 := hide (((show Nh wr.drew.drew bx n cx (stF (dnF n f y i) i (sbV (y i) (rowF n f i) (dnF n f y i) t)) from unhide HN2).kept (unhide K2) (unhide HXB)).kept k3 (unhide HXB))
          have H3 := hide h3; have K3 := hide (show Kp2 b bx w w3 from (((unhide HK2).trans (Kp2.of_kept ((kept_drew (z := b) wr).trans (kept_drew _) (Or.inl rfl)) (Or.inl rfl))).trans (Kp2.of_kept (unhide K2) (Or.inl rfl))).trans (Kp2.of_kept k3 (Or.inl rfl)))
          clear hK K hS2 h3 k3
          refine seq_read (v := ?_) rfl (fun _ _ _ h => h) (by rfl) hS3 ?_ ?_
          rotate_left 1
          · intro wx hwx
            clear hwx
            go_simp <;> exact rfl
          go_frame
          have c3 := hS3.1
          have f3 := (unhide N3).free i
          refine seq_do rfl (fun K hK => ?_)
          go_simp
          refine hK _ _ (fun h => by cases h) ?_
          clear hK K hS3 c3 f3
          refine seq_end ?_
          have F := hide (show MW (w3.setCell ⟨bx, i, none⟩ (.int .i64 (clampZ (s - clampZ (mulQ (f (i * n + t)) zk))))) b n r cap f ((x || dnB n f y i) || (sbB (y i) (rowF n f i) (dnF n f y i) (t + 1))) ∧
              Nh (w3.setCell ⟨bx, i, none⟩ (.int .i64 (clampZ (s - clampZ (mulQ (f (i * n + t)) zk))))) bx n cx (stF (dnF n f y i) i (sbV (y i) (rowF n f i) (dnF n f y i) (t + 1))) ∧ Kp2 b bx w (w3.setCell ⟨bx, i, none⟩ (.int .i64 (clampZ (s - clampZ (mulQ (f (i * n + t)) zk))))) from by
            obtain rfl := unhide E; obtain rfl := unhide EZ
            refine ⟨?_, ?_, (unhide K3).trans (Kp2.of_kept (kept_set w3 bx i _) (Or.inr (Or.inl rfl)))⟩
            · have hm := (unhide H3).kept (kept_set w3 bx i (.int .i64 (clampZ ((sbV (y i) (rowF n f i) (dnF n f y i) t) - clampZ (mulQ (f (i * n + t)) ((dnF n f y i) (t))))))) (unhide HXB).symm (unhide HXR).symm
              show MW _ b n r cap f ((x || dnB n f y i) || ((sbB (y i) (rowF n f i) (dnF n f y i) t) || _ || _))
              simp only [Bool.or_assoc] at hm ⊢
              exact hm
            · have hn := (unhide N3).set i (clampZ ((sbV (y i) (rowF n f i) (dnF n f y i) t) - clampZ (mulQ (f (i * n + t)) ((dnF n f y i) (t)))))
              rw [stF_stF] at hn
              exact hn)
          generalize w3.setCell ⟨bx, i, none⟩ (.int .i64 (clampZ (s - clampZ (mulQ (f (i * n + t)) zk)))) = w4 at *
          go_wp2_with fail
          go_roundw
          case rel => exact ⟨t + 1, by go_num, by omega, (unhide F).1, (unhide F).2.1, (unhide F).2.2⟩
          case measure => simp [intOf] <;> omega
        · have hti2 : t = i := by omega
          subst hti2
          go_wp2_with fail
          go_roundw
          case rel =>
            refine ⟨t + 1, by go_num, by omega, ?_, unhide HN2, unhide HK2⟩
            have hm := unhide HM2
            rw [Bool.or_assoc] at hm
            exact hm
          case measure => simp [intOf] <;> omega
    · have hin2 : i = n := by omega
      subst hin2
      go_wp2_with fail
      go_end0
      exact ⟨rfl, unhide HM, unhide HN, unhide HK⟩

end Go.Proofs.Ytnfejfdekedmhab
