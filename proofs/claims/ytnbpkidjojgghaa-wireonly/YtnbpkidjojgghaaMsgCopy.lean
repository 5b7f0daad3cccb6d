/- Contracts of the statements' packages: message. -/
import Derived.Test.YtnbpkidjojgghaaNear6
namespace Go.Proofs.Ytnbpkidjojgghaa
open Go.RowKit

/-- A message's variable and a result's. -/
theorem mg_first (w : World) (K F R : Int) (u : Value) : ∃ w1, w1 = (w.alloc (.cells #[.int .i64 K, .int .i64 F, .int .i64 R, u] 24)).alloc (.cells #[.int .i64 0, .int .i64 0, .int .i64 0, .slice none 0 0] 24) ∧
    MgAt w1 w.heap.size K F R u ∧ MgAt w1 (w.heap.size + 1) 0 0 0 (.slice none 0 0) ∧ Below w.heap.size w w1 ∧ w1.heap.size = w.heap.size + 1 + 1 := by
  refine ⟨_, rfl, (MgAt.new w K F R u).below (al_below _ _), ?_, ?_, ?_⟩
  · have h := MgAt.new (w.alloc (.cells #[.int .i64 K, .int .i64 F, .int .i64 R, u] 24)) 0 0 0 (.slice none 0 0)
    rw [al_size] at h
    exact h
  · exact ((Below.refl _ _).alloc (Nat.le_refl _) _).alloc (by rw [al_size]; omega) _
  · rw [al_size, al_size]

set_option maxHeartbeats 1000000 in
theorem messageL_ok (K F R : Int) (ao : Option Addr) (n cap : Nat) (f : Nat → Int) (w : World) (hn : n * 8 ≤ 140737488351232) (hs : Sr w ao n cap (iF f)) :
    Calls Try.prog 10 #[msV K F R (.slice ao n cap)] w fun e w' => ∃ v, e = .returned (msV K F R v) ∧ w'.ownsRow w.heap.size 3 1 v n (rowV (iF f) n) ∧ Below w.heap.size w w' := by
  obtain ⟨w1, e1, mA, mB, k1, s1⟩ := mg_first w K F R (.slice ao n cap)
  have a3 := mA.cell3
  have E1 := hide e1; have MA := hide mA; have MB := hide mB; have K1 := hide k1; have S1 := hide s1; have HS := hide (hs.below k1); have Z1 := hide (show w.heap.size + 1 + 1 ≤ w1.heap.size by omega)
  clear e1 mA mB k1 s1 hs
  unfold msV
  go_enter Try.func10, Try.ntmps10
  rw [unhide E1] at a3
  go_wp2_with (at_builtin; refine wpList_joinI _ rfl _ _ rfl (w.heap.size + 1 + 1) (by rw [← unhide E1]; exact unhide Z1) (.slice none 0 0) 0 [] rfl (World.ownsRow_nil _ _ _ _) ao n cap (iF f) rfl (by rw [← unhide E1]; exact unhide HS) (fun i _ => rfl) (by omega) ?_)
  intro v2 w2 o2 k2
  rw [← unhide E1] at k2
  try rw [Nat.zero_add] at o2
  try rw [List.nil_append] at o2
  obtain ⟨a2, c2, rfl⟩ := owns_slice o2
  have mA := (unhide MA).under k2 (by omega); have mB := (unhide MB).under k2 (by omega)
  clear a3
  have a0 := mA.cell0; have a1 := mA.cell1; have a2' := mA.cell2; have a3 := mA.cell3; have f3 := mA.free 3
  obtain ⟨w3, e3, m3, k3⟩ := mA.put3 (.slice a2 n c2)
  have mB3 := mB.kept k3 (by omega)
  have O3 := own_keptz o2 k3 (by omega); have K3 := below_of_kept ((unhide K1).trans (k2.mono (by omega))) k3 (Nat.le_refl _) (Nat.le_trans (unhide K1).size k2.size)
  obtain ⟨w4, e4, m4, k4⟩ := mB3.put K F R (.slice a2 n c2)
  have p0 := m4.cell0; have p1 := m4.cell1; have p2 := m4.cell2; have p3 := m4.cell3
  have O4 := hide (own_base (own_keptz O3 k4 (by omega)) (show w.heap.size ≤ w.heap.size + 1 + 1 by omega)); have K4 := hide (below_of_kept K3 k4 (by omega) K3.size)
  have b0 := mB3.cell0; have b1 := mB3.cell1; have b2 := mB3.cell2; have b3 := mB3.cell3
  have g0 := mB3.free 0; have g1 := mB3.free 1; have g2 := mB3.free 2; have g3 := mB3.free 3
  have d0 := m3.cell0; have d1 := m3.cell1; have d2 := m3.cell2; have d3 := m3.cell3
  have E3 := hide e3; have E4 := hide e4
  rw [e3] at b0 b1 b2 b3 g0 g1 g2 g3 d0 d1 d2 d3
  clear o2 k2 mA mB e3 m3 k3 mB3 O3 K3 e4 m4 k4
  go_wp2_with fail
  rw [← unhide E3, ← unhide E4]
  clear a0 a1 a2' a3 f3 b0 b1 b2 b3 g0 g1 g2 g3 d0 d1 d2 d3
  refine bodyPost_ret (v := msV K F R (.slice a2 n c2)) (by simp [results, Try.results10, go_sem, msV, p0, p1, p2, p3]) rfl ⟨_, rfl, unhide O4, unhide K4⟩

set_option maxHeartbeats 1000000 in
theorem messageK_ok (K F R : Int) (ao : Option Addr) (n cap : Nat) (f : Nat → Int) (w : World) (hn : n * 8 ≤ 140737488351232) (hs : Sr w ao n cap (iF f)) :
    Calls Try.prog 16 #[msV K F R (.slice ao n cap)] w fun e w' => ∃ v, e = .returned (msV K F R v) ∧ w'.ownsRow w.heap.size 3 1 v n (rowV (iF f) n) ∧ Below w.heap.size w w' := by
  obtain ⟨w1, e1, mA, mB, k1, s1⟩ := mg_first w K F R (.slice ao n cap)
  have a3 := mA.cell3
  have E1 := hide e1; have MA := hide mA; have MB := hide mB; have K1 := hide k1; have S1 := hide s1; have HS := hide (hs.below k1); have Z1 := hide (show w.heap.size + 1 + 1 ≤ w1.heap.size by omega)
  clear e1 mA mB k1 s1 hs
  unfold msV
  go_enter Try.func16, Try.ntmps16
  rw [unhide E1] at a3
  go_wp2_with (at_builtin; refine wpList_joinI _ rfl _ _ rfl (w.heap.size + 1 + 1) (by rw [← unhide E1]; exact unhide Z1) (.slice none 0 0) 0 [] rfl (World.ownsRow_nil _ _ _ _) ao n cap (iF f) rfl (by rw [← unhide E1]; exact unhide HS) (fun i _ => rfl) (by omega) ?_)
  intro v2 w2 o2 k2
  rw [← unhide E1] at k2
  try rw [Nat.zero_add] at o2
  try rw [List.nil_append] at o2
  obtain ⟨a2, c2, rfl⟩ := owns_slice o2
  have mA := (unhide MA).under k2 (by omega); have mB := (unhide MB).under k2 (by omega)
  clear a3
  have a0 := mA.cell0; have a1 := mA.cell1; have a2' := mA.cell2; have a3 := mA.cell3; have f3 := mA.free 3
  obtain ⟨w3, e3, m3, k3⟩ := mA.put3 (.slice a2 n c2)
  have mB3 := mB.kept k3 (by omega)
  have O3 := own_keptz o2 k3 (by omega); have K3 := below_of_kept ((unhide K1).trans (k2.mono (by omega))) k3 (Nat.le_refl _) (Nat.le_trans (unhide K1).size k2.size)
  obtain ⟨w4, e4, m4, k4⟩ := mB3.put K F R (.slice a2 n c2)
  have p0 := m4.cell0; have p1 := m4.cell1; have p2 := m4.cell2; have p3 := m4.cell3
  have O4 := hide (own_base (own_keptz O3 k4 (by omega)) (show w.heap.size ≤ w.heap.size + 1 + 1 by omega)); have K4 := hide (below_of_kept K3 k4 (by omega) K3.size)
  have b0 := mB3.cell0; have b1 := mB3.cell1; have b2 := mB3.cell2; have b3 := mB3.cell3
  have g0 := mB3.free 0; have g1 := mB3.free 1; have g2 := mB3.free 2; have g3 := mB3.free 3
  have d0 := m3.cell0; have d1 := m3.cell1; have d2 := m3.cell2; have d3 := m3.cell3
  have E3 := hide e3; have E4 := hide e4
  rw [e3] at b0 b1 b2 b3 g0 g1 g2 g3 d0 d1 d2 d3
  clear o2 k2 mA mB e3 m3 k3 mB3 O3 K3 e4 m4 k4
  go_wp2_with fail
  rw [← unhide E3, ← unhide E4]
  clear a0 a1 a2' a3 f3 b0 b1 b2 b3 g0 g1 g2 g3 d0 d1 d2 d3
  refine bodyPost_ret (v := msV K F R (.slice a2 n c2)) (by simp [results, Try.results16, go_sem, msV, p0, p1, p2, p3]) rfl ⟨_, rfl, unhide O4, unhide K4⟩

end Go.Proofs.Ytnbpkidjojgghaa
