/- Contracts: rest of a matrix at work. -/
import Derived.Test.YtnfejfdekedmhabMatWork
import Derived.Test.YtnfejfdekedmhabMatFacS
namespace Go.Proofs.Ytnfejfdekedmhab
open Go.RowKit

set_option maxHeartbeats 2000000 in
theorem wkRest_any (b n r cap bd m cd i j : Nat) (g D : Nat → Int) (x : Bool) (w : World) (hD : ∀ i, R64 (D i)) (hdb : bd ≠ b) (hm : m ≤ n) (hi : i < n) (hj : j < n) (hc : ∀ i, i < m → w.cell? ⟨bd, i, none⟩ = some (.int .i64 (D i))) (h : MW w b n r cap g x) :
    Calls Try.prog 35 #[.pointer (some ⟨b, 0, none⟩), .int .i64 (i : Int), .int .i64 (j : Int), .slice (some ⟨bd, 0, none⟩) m cd] w fun e w' =>
      e = .returned (.int .i64 (rsV (g (i * n + j)) (rowF n g i) (rowF n g j) D m)) ∧ MW w' b n r cap g (x || rsB (g (i * n + j)) (rowF n g i) (rowF n g j) D m) ∧ Kept b w w' := by
  have hn6 := h.n6
  have H := hide h; have HD := hide hD; have HC := hide hc; have HDB := hide hdb
  clear h hD hc hdb
  go_enter Try.func35, Try.ntmps35
  go_wp2_with fail
  refine (wkAt_any b n r cap i j g _ _ hi hj (unhide H)).mono ?_
  rintro e w1 ⟨rfl, rfl⟩
  go_wp2_with fail
  go_loopw [9, 10, 11, 18] (fun s _ _ ks wr => ∃ k : Nat, ks = .int .i64 k ∧ k ≤ m ∧ s = .int .i64 (rsV (g (i * n + j)) (rowF n g i) (rowF n g j) D k) ∧ MW wr b n r cap g (x || rsB (g (i * n + j)) (rowF n g i) (rowF n g j) D k) ∧ Kept b w wr)
    (fun _ _ _ ks _ => m - (intOf ks).toNat)
  case atStart =>
    refine ⟨0, rfl, Nat.zero_le _, rfl, ?_, kept_drew w⟩
    show MW _ b n r cap g (x || false)
    rw [Bool.or_false]; exact mw_drew (unhide H)
  case round =>
    obtain ⟨k, rfl, hk, rfl, hM, hK⟩ := hrel
    have HM := hide hM; have HK := hide hK
    clear hM hK
    obtain ⟨s, es⟩ : ∃ s, s = rsV (g (i * n + j)) (rowF n g i) (rowF n g j) D k := ⟨_, rfl⟩
    have RS := hide (show R64 s by rw [es]; exact rsV_R _ _ _ ((unhide H).rng _) _)
    rw [← es]
    have ES := hide es
    clear es
    by_cases hkn : k < m
    · have cd := at_kept (unhide HC k hkn) (unhide HK) (unhide HDB)
      go_wp2_with fail
      clear cd
      refine (wkAt_any b n r cap i k g _ _ hi (by omega) (unhide HM)).mono ?_
      rintro e w1 ⟨rfl, rfl⟩
      go_wp2_with fail
      refine (wkAt_any b n r cap j k g _ _ hj (by omega) (mw_drew (unhide HM))).mono ?_
      rintro e w1 ⟨rfl, rfl⟩
      go_wp2_with fail
      refine (wkMul_any b n r cap g _ _ _ _ ((unhide H).rng _) ((unhide H).rng _) (mw_drew (mw_drew (unhide HM)))).mono ?_
      rintro e w2 ⟨rfl, h2, k2⟩
      have H2 := hide h2; have K2 := hide k2
      clear h2 k2
      go_wp2_with fail
      refine (wkMul_any b n r cap g _ _ _ _ (clampZ_R _) (unhide HD k) (unhide H2)).mono ?_
      rintro e w3 ⟨rfl, h2, k2⟩
      have H3 := hide h2; have K3 := hide k2
      clear h2 k2
      go_wp2_with fail
      refine (wkSub_any b n r cap g _ _ _ _ (unhide RS) (clampZ_R _) (unhide H3)).mono ?_
      rintro e w4 ⟨rfl, h2, k2⟩
      have H4 := hide h2; have K4 := hide k2
      clear h2 k2
      go_wp2_with fail
      go_roundw
      case rel =>
        refine ⟨k + 1, by go_num, by omega, by rw [unhide ES]; rfl, ?_, (((((unhide HK).trans (kept_drew _) (Or.inl rfl)).trans (kept_drew _) (Or.inl rfl)).trans (unhide K2) (Or.inl rfl)).trans (unhide K3) (Or.inl rfl)).trans (unhide K4) (Or.inl rfl)⟩
        have hm := unhide H4
        rw [unhide ES] at hm
        simp only [Bool.or_assoc] at hm
        show MW _ b n r cap g (x || (rsB (g (i * n + j)) (rowF n g i) (rowF n g j) D k || _ || _ || _))
        simp only [Bool.or_assoc]
        exact hm
      case measure => simp [intOf]; omega
    · have hkn2 : k = m := by omega
      subst hkn2
      go_wp2_with fail
      go_ret
      exact ⟨by rw [← unhide ES]; rfl, unhide HM, unhide HK⟩

end Go.Proofs.Ytnfejfdekedmhab
