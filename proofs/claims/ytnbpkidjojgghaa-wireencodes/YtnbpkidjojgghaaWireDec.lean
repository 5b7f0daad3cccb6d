/- The contract of package wire: Decode. -/
import Derived.Test.YtnbpkidjojgghaaWireRd
import Derived.Test.YtnbpkidjojgghaaWireOpn
namespace Go.Proofs.Ytnbpkidjojgghaa
open Go.RowKit

set_option maxHeartbeats 2000000 in
theorem wireDecode_ok : DcOK 12 := by
  intro ao len cap g w hg hl hc hs
  obtain ⟨w1, e1, m1, k1, s1⟩ := mg_alloc w 0 0 0 (.slice none 0 0)
  have E1 := hide e1; have M1 := hide m1; have K1 := hide k1; have S1 := hide s1; have HS := hide (hs.below k1).rd; have HG := hide hg
  clear e1 m1 k1 s1 hs hg
  go_enter Try.func12, Try.ntmps12
  go_wp2_with fail
  rw [← unhide E1]
  refine (wopen_any ao len cap g _ (unhide HG) hc (unhide HS)).mono ?_
  rintro e w2 ⟨v2, E, rfl, hE, ho, k2⟩
  have K2 := hide (show Below w.heap.size w w2 from (unhide K1).trans (k2.mono (unhide K1).size)); have m2 := (unhide M1).below k2; have Z2 := hide (show w.heap.size + 1 ≤ w2.heap.size by have := unhide S1; have := k2.size; omega); have Z1 := hide (show w.heap.size ≤ w1.heap.size by have := unhide S1; omega)
  have a0 := m2.cell0; have a1 := m2.cell1; have a2 := m2.cell2; have a3 := m2.cell3; have f0 := m2.free 0; have f1 := m2.free 1; have f2 := m2.free 2; have f3 := m2.free 3
  by_cases h0 : E = 0
  · -- opened
    subst h0
    have o2 := ho rfl
    have hE2 : 12 ≤ len ∧ len ≤ 220 ∧ g 0 = 87 ∧ opG g len ∧ g 7 ≤ 24 ∧ len = 12 + 8 * g 7 := by
      unfold opE at hE
      rcases hE with ⟨h, e⟩ | ⟨_, _, e⟩ | ⟨h1, h2, h3, ⟨_, e⟩ | ⟨h4, ⟨_, e⟩ | ⟨h5, ⟨_, e⟩ | ⟨h6, _⟩⟩⟩⟩
      · cases e
      · cases e
      · cases e
      · cases e
      · cases e
      · exact ⟨h2, h1, h3, h4, h5, h6⟩
    obtain ⟨h2, h1, h3, h4, h5, h6⟩ := hE2
    obtain ⟨a2', l2, rfl, r2, c2⟩ := owns_sr o2
    obtain ⟨b2, p2, rfl, q2⟩ := r2.rd (by omega)
    have hl4 : len - 4 = 8 + 8 * g 7 := by omega
    have R2 := hide q2; have M2 := hide m2; have H := hide (⟨h1, h2, h3, h4, h5, h6⟩ : _ ∧ _ ∧ _ ∧ _ ∧ _ ∧ _); have HL := hide hl4
    obtain ⟨m, em⟩ : ∃ m, m = len - 4 := ⟨_, rfl⟩
    rw [← em] at R2 HL c2 ⊢
    clear ho hE o2 k2 r2 q2 m2 h1 h2 h3 h4 h6 hl4 em a0 a1 a2 a3 f0 f1 f2 f3
    go_wp2_with fail
    refine (read_any b2 p2 (g 7) m l2 g _ (unhide HG) h5 (unhide HL) c2 (unhide R2)).mono ?_
    rintro e w3 ⟨v3, rfl, o3, k3⟩
    obtain ⟨a3, c3, rfl⟩ := owns_slice o3
    have z2 := unhide Z2
    have m3 := (unhide M2).below k3
    have K3 := (unhide K2).trans (k3.mono (unhide K2).size)
    obtain ⟨w4, e4, m4, k4, s4⟩ := mg_alloc w3 (g 1 : Nat) (g 2 : Nat) (dR g : Nat) (.slice a3 (g 7) c3)
    have c0 := m4.cell0; have c1 := m4.cell1; have c2' := m4.cell2; have c3' := m4.cell3
    have E4 := hide e4; have M4 := hide m4; have A4 := hide (m3.below k4); have K4 := hide (K3.trans (k4.mono K3.size)); have O4 := hide (own_kept o3 k4); have Z4 := hide (show w3.heap.size + 1 = w4.heap.size by omega); have Z3 := hide (show w2.heap.size ≤ w3.heap.size from k3.size)
    clear o3 k3 m3 K3 e4 m4 k4 s4 z2
    have hh := unhide H
    have EQ : ∀ T : Int, T = wrongM (g 1 : Nat) (g 2 : Nat) (dR g : Nat) (g 7) → dcE g len T := fun T hT => Or.inr (Or.inr ⟨hh.1, hh.2.1, hh.2.2.1, Or.inr ⟨hh.2.2.2.1, Or.inr ⟨hh.2.2.2.2.1, Or.inr ⟨hh.2.2.2.2.2, hT⟩⟩⟩⟩)
    have EQH := hide EQ
    clear hh EQ
    unfold msV
    go_wp2_with fail
    rw [← unhide E4]
    go_wp2_with fail
    refine (check_any (g 1 : Nat) (g 2 : Nat) (dR g : Nat) a3 (g 7) c3 _).mono ?_
    rintro e w5 ⟨rfl, k5⟩
    clear c0 c1 c2' c3'
    have m5 := (unhide M4).below k5; have n5 := (unhide A4).below k5
    have c0 := m5.cell0; have c1 := m5.cell1; have c2' := m5.cell2; have c3' := m5.cell3
    have a0 := n5.cell0; have a1 := n5.cell1; have a2 := n5.cell2; have a3' := n5.cell3; have f0 := n5.free 0; have f1 := n5.free 1; have f2 := n5.free 2; have f3 := n5.free 3
    have K5 := (unhide K4).trans (k5.mono (unhide K4).size); have o5 := own_kept (unhide O4) k5
    obtain ⟨T, eT⟩ : ∃ T, T = wrongM (g 1 : Nat) (g 2 : Nat) (dR g : Nat) (g 7) := ⟨_, rfl⟩
    rw [← eT]
    have DE := hide (unhide EQH T eT)
    have z2 := unhide Z2; have z3 := unhide Z3
    by_cases hT : T = 0
    · subst hT
      obtain ⟨w6, e6, m6, k6⟩ := n5.put (g 1 : Nat) (g 2 : Nat) (dR g : Nat) (.slice a3 (g 7) c3)
      have p0 := m6.cell0; have p1 := m6.cell1; have p2' := m6.cell2; have p3 := m6.cell3
      have E6 := hide e6; have K6 := hide (below_of_kept K5 k6 (Nat.le_refl _) K5.size); have O6 := hide (own_base (own_keptz o5 k6 (by omega)) (show w.heap.size ≤ w2.heap.size by omega))
      clear e6 m6 k6 K5 o5 k5 m5 n5 eT z2 z3
      go_wp2_with fail
      rw [← unhide E6]
      refine bodyPost_ret (v := .tuple #[msV (g 1 : Nat) (g 2 : Nat) (dR g : Nat) (.slice a3 (g 7) c3), .int .i64 0]) (by simp [results, Try.results12, go_sem, msV, p0, p1, p2', p3]) rfl ⟨0, _, unhide DE, rfl, unhide O6, unhide K6⟩
    · have tw : (T != 0) = true := by simp [hT]
      obtain ⟨w6, e6, m6, k6⟩ := n5.put 0 0 0 (.slice none 0 0)
      have p0 := m6.cell0; have p1 := m6.cell1; have p2' := m6.cell2; have p3 := m6.cell3
      have E6 := hide e6; have K6 := hide (below_of_kept K5 k6 (Nat.le_refl _) K5.size); have HT := hide hT
      clear e6 m6 k6 K5 o5 k5 m5 n5 eT z2 z3 hT
      go_wp2_with fail
      rw [← unhide E6]
      refine bodyPost_ret (v := .tuple #[msV 0 0 0 (.slice none 0 0), .int .i64 T]) (by simp [results, Try.results12, go_sem, msV, p0, p1, p2', p3]) rfl ⟨T, .slice none 0 0, unhide DE, ?_, ?_, unhide K6⟩
      · have d : ∀ x, dN T x = 0 := fun x => if_neg (unhide HT)
        rw [d, d, d]; rfl
      · have d : dN T (g 7) = 0 := if_neg (unhide HT)
        rw [d]; exact World.ownsRow_nil _ _ _ _
  · have tw : (E != 0) = true := by simp [h0]
    have dE : dcE g len E := by
      unfold opE at hE
      unfold dcE
      rcases hE with h | h | ⟨h1, h2, h3, h | ⟨h4, h | ⟨h5, h | ⟨h6, e⟩⟩⟩⟩
      · exact Or.inl h
      · exact Or.inr (Or.inl h)
      · exact Or.inr (Or.inr ⟨h1, h2, h3, Or.inl h⟩)
      · exact Or.inr (Or.inr ⟨h1, h2, h3, Or.inr ⟨h4, Or.inl h⟩⟩)
      · exact Or.inr (Or.inr ⟨h1, h2, h3, Or.inr ⟨h4, Or.inr ⟨h5, Or.inl h⟩⟩⟩)
      · exact absurd e h0
    obtain ⟨w6, e6, m6, k6⟩ := m2.put 0 0 0 (.slice none 0 0)
    have p0 := m6.cell0; have p1 := m6.cell1; have p2 := m6.cell2; have p3 := m6.cell3
    have E6 := hide e6; have K6 := hide (below_of_kept (unhide K2) k6 (Nat.le_refl _) (unhide K2).size); have HT := hide h0; have DE := hide dE
    clear e6 m6 k6 k2 m2 ho hE dE h0
    go_wp2_with fail
    rw [← unhide E6]
    refine bodyPost_ret (v := .tuple #[msV 0 0 0 (.slice none 0 0), .int .i64 E]) (by simp [results, Try.results12, go_sem, msV, p0, p1, p2, p3]) rfl ⟨E, .slice none 0 0, unhide DE, ?_, ?_, unhide K6⟩
    · have d : ∀ x, dN E x = 0 := fun x => if_neg (unhide HT)
      rw [d, d, d]; rfl
    · have d : dN E (g 7) = 0 := if_neg (unhide HT)
      rw [d]; exact World.ownsRow_nil _ _ _ _

end Go.Proofs.Ytnbpkidjojgghaa
