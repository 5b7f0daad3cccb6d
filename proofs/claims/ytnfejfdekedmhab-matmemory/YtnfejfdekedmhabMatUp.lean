/- Contracts: goUp of a matrix at work. -/
import Derived.Test.YtnfejfdekedmhabMatSolS
namespace Go.Proofs.Ytnfejfdekedmhab
open Go.RowKit

set_option maxHeartbeats 4000000 in
theorem wkUp_any (b n r cap bx cx : Nat) (f y : Nat → Int) (x : Bool) (w : World) (hy : ∀ i, R64 (y i)) (hxb : bx ≠ b) (hxr : bx ≠ r) (hx : Nh w bx n cx y) (h : MW w b n r cap f x) :
    Calls Try.prog 30 #[.pointer (some ⟨b, 0, none⟩), .slice (some ⟨bx, 0, none⟩) n cx] w fun e w' =>
      e = .returned (.tuple #[]) ∧ MW w' b n r cap f (x || upB n f y n) ∧ Nh w' bx n cx (upF n f y n) ∧ Kp2 b bx w w' := by
  have hn6 := h.n6
  have H := hide h; have HY := hide hy; have HX := hide hx; have HXB := hide hxb; have HXR := hide hxr
  clear h hy hx hxb hxr
  go_enter Try.func30, Try.ntmps30
  go_wp2_with fail
  go_loopw [4, 5] (fun is _ wr => ∃ m : Nat, is = .int .i64 ((n : Int) - 1 - m) ∧ m ≤ n ∧ MW wr b n r cap f (x || upB n f y m) ∧ Nh wr bx n cx (upF n f y m) ∧ Kp2 b bx w wr)
    (fun is _ _ => (intOf is + 1).toNat)
  case atStart =>
    refine ⟨0, by go_num, Nat.zero_le _, ?_, unhide HX, Kp2.refl _ _ _⟩
    show MW _ b n r cap f (x || false)
    rw [Bool.or_false]; exact unhide H
  case round =>
    obtain ⟨m, rfl, hm, hM, hN, hK⟩ := hrel
    have HM := hide hM; have HK := hide hK; have HN := hide hN
    clear hM hK hN
    by_cases hmn : m < n
    · obtain ⟨i, ei⟩ : ∃ i, n - 1 - m = i := ⟨_, rfl⟩
      have hin : i < n := by omega
      have em : m = n - 1 - i := by omega
      rw [show ((n : Int) - 1 - m) = (i : Int) by omega]
      go_wp2_with fail
      go_loopw [5] (fun ks wr => ∃ t : Nat, ks = .int .i64 ((i + 1 + t : Nat) : Int) ∧ t ≤ m ∧ MW wr b n r cap f ((x || upB n f y m) || (sbB (y i) (fun t => f ((i + 1 + t) * n + i)) (fun t => upF n f y m (i + 1 + t)) t)) ∧ Nh wr bx n cx (stF (upF n f y m) i (sbV (y i) (fun t => f ((i + 1 + t) * n + i)) (fun t => upF n f y m (i + 1 + t)) t)) ∧ Kp2 b bx w wr)
        (fun ks _ => n - (intOf ks).toNat)
      case atStart =>
        refine ⟨0, by go_num, Nat.zero_le _, ?_, ?_, unhide HK⟩
        · show MW _ b n r cap f (_ || false)
          rw [Bool.or_false]; exact unhide HM
        · show Nh _ bx n cx (stF (upF n f y m) i (y i))
          rw [stF_self (upF_at ei (by omega))]; exact unhide HN
      case round =>
        obtain ⟨t, rfl, ht, hM, hN, hK⟩ := hrel
        have HM2 := hide hM; have HK2 := hide hK; have HN2 := hide hN
        clear hM hK hN
        by_cases hti : t < m
        · rename World => wr
          obtain ⟨s, es⟩ : ∃ s, s = (sbV (y i) (fun t => f ((i + 1 + t) * n + i)) (fun t => upF n f y m (i + 1 + t)) t) := ⟨_, rfl⟩
          have RS := hide (show R64 s by rw [es]; exact sbV_R _ _ (unhide HY _) _)
          have RZ := hide (show R64 ((upF n f y m) (i + 1 + t)) from upF_R (unhide HY) _ _)
          have ci : wr.cell? ⟨bx, i, none⟩ = some (.int .i64 s) := by have := (unhide HN2).cell hin; rw [stF_same, ← es] at this; exact this
          have ck : wr.cell? ⟨bx, i + 1 + t, none⟩ = some (.int .i64 ((upF n f y m) (i + 1 + t))) := by have := (unhide HN2).cell (show i + 1 + t < n by omega); rw [stF_other _ _ (by omega)] at this; exact this
          have hS : ClS bx i (i + 1 + t) (.int .i64 s) (.int .i64 ((upF n f y m) (i + 1 + t))) wr.drew := ⟨ci, ck⟩
          have E := hide es
          clear es ci ck
          obtain ⟨zk, ezk⟩ : ∃ zk, zk = (upF n f y m) (i + 1 + t) := ⟨_, rfl⟩
          rw [← ezk] at hS RZ
          have EZ := hide ezk
          clear ezk
          obtain ⟨k, ek⟩ : ∃ k, i + 1 + t = k := ⟨_, rfl⟩
          rw [ek] at hS ⊢
          have hkn : k < n := by omega
          have EK := hide ek
          go_wp2_with fail
          refine region_by (S := ClS bx i k (.int .i64 s) (.int .i64 zk))
            [(0, false), (1, false), (2, false), (3, false), (4, false), (5, false), (6, false), (7, false), (8, false), (9, false), (10, false), (12, false), (13, false), (14, false), (15, false), (11, true), (16, true), (17, true), (18, false), (19, true)] [19] (by kernel_rfl) (by kernel_rfl) ?_
          iterate 15
            refine seq_read (v := ?_) rfl (fun _ _ _ h => h) (by rfl) hS ?_ ?_
            rotate_left 1
            · intro wx hwx
              obtain ⟨q1, q2⟩ := hwx
              go_simp <;> exact rfl
            go_frame
          refine seq_do rfl (fun K hK => ?_)
          go_simp
          refine (wkAt_any b n r cap k i f _ _ hkn hin (mw_drew (unhide HM2))).mono ?_
          rintro e w1 ⟨rfl, rfl⟩
          refine hK _ _ (fun _ => hS) ?_
          clear hK K
          refine seq_do rfl (fun K hK => ?_)
          go_simp
          refine (wkMul_any b n r cap f _ _ _ _ ((unhide H).rng _) (unhide RZ) (mw_drew (mw_drew (unhide HM2)))).mono ?_
          rintro e w2 ⟨rfl, h2, k2⟩
          have hS2 : ClS bx i k (.int .i64 s) (.int .i64 zk) w2 := ClS.kept (w := wr.drew.drew) hS k2 (unhide HXB)
          refine hK _ _ (fun _ => hS2) ?_
          have H2 := hide h2; have K2 := hide k2
          clear hK K hS h2 k2
          refine seq_do rfl (fun K hK => ?_)
          go_simp
          refine (wkSub_any b n r cap f _ _ _ _ (unhide RS) (clampZ_R _) (unhide H2)).mono ?_
          rintro e w3 ⟨rfl, h3, k3⟩
          have hS3 := hS2.kept k3 (unhide HXB)
          refine hK _ _ (fun _ => hS3) ?_
          have N3 := hide (((show Nh wr.drew.drew bx n cx (stF (upF n f y m) i (sbV (y i) (fun t => f ((i + 1 + t) * n + i)) (fun t => upF n f y m (i + 1 + t)) t)) from unhide HN2).kept (unhide K2) (unhide HXB)).kept k3 (unhide HXB))
          have H3 := hide h3; have K3 := hide (show Kp2 b bx w w3 from (((unhide HK2).trans (Kp2.of_kept ((kept_drew (z := b) wr).trans (kept_drew _) (Or.inl rfl)) (Or.inl rfl))).trans (Kp2.of_kept (unhide K2) (Or.inl rfl))).trans (Kp2.of_kept k3 (Or.inl rfl)))
          clear hK K hS2 h3 k3
          refine seq_read (v := ?_) rfl (fun _ _ _ h => h) (by rfl) hS3 ?_ ?_
          rotate_left 1
          · intro wx hwx
            clear hwx
            go_simp <;> exact rfl
          go_frame
          have c3 := hS3.1
          have f3 := (unhide N3).free i
          refine seq_do rfl (fun K hK => ?_)
          go_simp
          refine hK _ _ (fun h => by cases h) ?_
          clear hK K hS3 c3 f3
          refine seq_end ?_
          have F := hide (show MW (w3.setCell ⟨bx, i, none⟩ (.int .i64 (clampZ (s - clampZ (mulQ (f (k * n + i)) zk))))) b n r cap f ((x || upB n f y m) || (sbB (y i) (fun t => f ((i + 1 + t) * n + i)) (fun t => upF n f y m (i + 1 + t)) (t + 1))) ∧
              Nh (w3.setCell ⟨bx, i, none⟩ (.int .i64 (clampZ (s - clampZ (mulQ (f (k * n + i)) zk))))) bx n cx (stF (upF n f y m) i (sbV (y i) (fun t => f ((i + 1 + t) * n + i)) (fun t => upF n f y m (i + 1 + t)) (t + 1))) ∧ Kp2 b bx w (w3.setCell ⟨bx, i, none⟩ (.int .i64 (clampZ (s - clampZ (mulQ (f (k * n + i)) zk))))) from by
            obtain rfl := unhide EK; obtain rfl := unhide E; obtain rfl := unhide EZ
            refine ⟨?_, ?_, (unhide K3).trans (Kp2.of_kept (kept_set w3 bx i _) (Or.inr (Or.inl rfl)))⟩
            · have hm := (unhide H3).kept (kept_set w3 bx i (.int .i64 (clampZ ((sbV (y i) (fun t => f ((i + 1 + t) * n + i)) (fun t => upF n f y m (i + 1 + t)) t) - clampZ (mulQ (f ((i + 1 + t) * n + i)) ((upF n f y m) (i + 1 + t))))))) (unhide HXB).symm (unhide HXR).symm
              show MW _ b n r cap f ((x || upB n f y m) || ((sbB (y i) (fun t => f ((i + 1 + t) * n + i)) (fun t => upF n f y m (i + 1 + t)) t) || _ || _))
              simp only [Bool.or_assoc] at hm ⊢
              exact hm
            · have hn := (unhide N3).set i (clampZ ((sbV (y i) (fun t => f ((i + 1 + t) * n + i)) (fun t => upF n f y m (i + 1 + t)) t) - clampZ (mulQ (f ((i + 1 + t) * n + i)) ((upF n f y m) (i + 1 + t)))))
              rw [stF_stF] at hn
              exact hn)
          generalize w3.setCell ⟨bx, i, none⟩ (.int .i64 (clampZ (s - clampZ (mulQ (f (k * n + i)) zk)))) = w4 at *
          go_wp2_with fail
          go_roundw
          case rel => exact ⟨t + 1, by subst ek; go_num, by omega, (unhide F).1, (unhide F).2.1, (unhide F).2.2⟩
          case measure => simp [intOf] <;> omega
        · have hti2 : t = m := by omega
          subst hti2
          have ew : IntKind.i64.wrap ((i : Int) - 1) = (i : Int) - 1 := by rw [IntKind.wrap_i64]; omega
          go_wp2_with fail
          go_roundw
          case rel =>
            refine ⟨t + 1, by rw [show ((i : Int) - 1) = (n : Int) - 1 - ((t + 1 : Nat) : Int) by omega], by omega, ?_, ?_, unhide HK2⟩
            · have hm := unhide HM2
              rw [Bool.or_assoc] at hm
              show MW _ b n r cap f (x || upB n f y (t + 1))
              rw [upB_step ei]; exact hm
            · rw [upF_step ei]; exact unhide HN2
          case measure => simp [intOf] <;> omega
    · have hmn2 : m = n := by omega
      subst hmn2
      rw [show ((m : Int) - 1 - m) = -1 by omega]
      go_wp2_with fail
      go_end0
      exact ⟨rfl, unhide HM, unhide HN, unhide HK⟩

end Go.Proofs.Ytnfejfdekedmhab
