/- Contracts of the reference: SameBus of two alike; bytes copied. -/
import Derived.Test.YthjeedlhlkggkaaRefBus2
import Derived.Test.YthjeedlhlkggkaaRefBus1
namespace Go.Proofs.Ythjeedlhlkggkaa
open Go.RowKit

theorem bu_two (w : World) (N S : Int) (u v : Value) : ∃ w1, w1 = ((w.alloc (.cells #[.int .i64 N, .int .i64 S, u] 24)).alloc (.cells #[.int .i64 N, .int .i64 S, v] 24)) ∧ BuAt w1 w.heap.size N S u ∧ BuAt w1 (w.heap.size + 1) N S v ∧ Below w.heap.size w w1 ∧ w1.heap.size = w.heap.size + 1 + 1 := by
  obtain ⟨w1, e1, m1, k1, s1⟩ := bu_alloc w N S u
  obtain ⟨w2, e2, m2, k2, s2⟩ := bu_alloc w1 N S v
  subst e1
  rw [s1] at m2
  exact ⟨w2, e2, m1.below k2, m2, k1.trans (k2.mono (by omega)), by omega⟩
set_option maxHeartbeats 1000000 in
theorem sameBus_any (b : Bs) (ao : Option Addr) (cap : Nat) (L : List Lp) (ao2 : Option Addr) (cap2 : Nat) (L2 : List Lp) (w : World) (hl : BsOK b) (h1 : These L b.q) (h2 : These L2 b.q) (r1 : BRd w ao cap L) (r2 : BRd w ao2 cap2 L2) :
    Calls Try.prog 13 #[busV b.now b.ser (.slice ao L.length cap), busV b.now b.ser (.slice ao2 L2.length cap2)] w fun e w' => e = .returned (.bool true) ∧ Below w.heap.size w w' := by
  obtain ⟨N, S, q⟩ := b
  obtain ⟨w1, e1, m1, m2, k1, s1⟩ := bu_two w N S (.slice ao L.length cap) (.slice ao2 L2.length cap2)
  have x0 := m1.cell0; have x1 := m1.cell1; have x2 := m1.cell2; have y0 := m2.cell0; have y1 := m2.cell1; have y2 := m2.cell2
  have C := sameParcels_any q ao cap L ao2 cap2 L2 w1 hl.2.2.2 h1 h2 (r1.below k1) (r2.below k1)
  have E1 := hide e1; have K1 := hide k1
  rw [e1] at x0 x1 x2 y0 y1 y2
  clear e1 m1 m2 k1 s1 h1 h2 r1 r2 hl
  unfold busV
  dsimp only
  go_enter Try.func13, Try.ntmps13
  go_wp2_with fail
  rw [← unhide E1]
  refine C.mono ?_
  rintro e w2 ⟨rfl, k2⟩
  have K2 := hide ((unhide K1).trans (k2.mono (unhide K1).size))
  clear C k2 x0 x1 x2 y0 y1 y2
  go_wp2_with fail
  go_ret
  exact ⟨rfl, unhide K2⟩

set_option maxHeartbeats 1000000 in
theorem lawBytes_any (bo : Option Addr) (n bc : Nat) (g : Nat → Nat) (w : World) (hs : Sr w bo n bc (bF g)) (hn : n ≤ 140737488351232) :
    Calls Try.prog 11 #[.slice bo n bc] w fun e w' => ∃ ao cap, e = .returned (.slice ao n cap) ∧ n ≤ cap ∧ w'.ownsRow w.heap.size 5 1 (.slice ao n cap) n (rowV (bF g) n) ∧ Below w.heap.size w w' := by
  have HS := hide hs
  clear hs
  go_enter Try.func11, Try.ntmps11
  go_wp2_with (at_builtin; refine wpList_join _ rfl _ _ rfl w.heap.size (Nat.le_refl _) (.slice none 0 0) 0 [] rfl (World.ownsRow_nil _ _ _ _) bo n bc (bF g) rfl (unhide HS) (fun i _ => rfl) (by omega) ?_)
  intro v3 w3 o3 k3
  obtain ⟨a3, c3, rfl, hc3⟩ := ownS_slice o3
  have O3 := hide o3; have K3 := hide k3
  clear o3 k3
  go_wp2_with fail
  go_ret
  exact ⟨a3, c3, rfl, hc3, unhide O3, unhide K3⟩
set_option maxHeartbeats 1000000 in
theorem keepBytes_any (bo : Option Addr) (n bc : Nat) (g : Nat → Nat) (w : World) (hs : Sr w bo n bc (bF g)) (hn : n ≤ 140737488351232) :
    Calls Try.prog 33 #[.slice bo n bc] w fun e w' => ∃ ao cap, e = .returned (.slice ao n cap) ∧ n ≤ cap ∧ w'.ownsRow w.heap.size 5 1 (.slice ao n cap) n (rowV (bF g) n) ∧ Below w.heap.size w w' := by
  have HS := hide hs
  clear hs
  go_enter Try.func33, Try.ntmps33
  go_wp2_with (at_builtin; refine wpList_join _ rfl _ _ rfl w.heap.size (Nat.le_refl _) (.slice none 0 0) 0 [] rfl (World.ownsRow_nil _ _ _ _) bo n bc (bF g) rfl (unhide HS) (fun i _ => rfl) (by omega) ?_)
  intro v3 w3 o3 k3
  obtain ⟨a3, c3, rfl, hc3⟩ := ownS_slice o3
  have O3 := hide o3; have K3 := hide k3
  clear o3 k3
  go_wp2_with fail
  go_ret
  exact ⟨a3, c3, rfl, hc3, unhide O3, unhide K3⟩

end Go.Proofs.Ythjeedlhlkggkaa
