/- Contracts of the reference: SameBus of two alike; bytes copied. -/
import Derived.Test.YthjeedlhlkggkabRefBus2
import Derived.Test.YthjeedlhlkggkabRefBus1
namespace Go.Proofs.Ythjeedlhlkggkab
open Go.RowKit

theorem bu_two (w : World) (N S : Int) (u v : Value) : ∃ w1, w1 = ((w.alloc (.cells #[.int .i64 N, .int .i64 S, u] 25)).alloc (.cells #[.int .i64 N, .int .i64 S, v] 25)) ∧ BuAt w1 w.heap.size N S u ∧ BuAt w1 (w.heap.size + 1) N S v ∧ Below w.heap.size w w1 ∧ w1.heap.size = w.heap.size + 1 + 1 := by
  obtain ⟨w1, e1, m1, k1, s1⟩ := bu_alloc w N S u
  obtain ⟨w2, e2, m2, k2, s2⟩ := bu_alloc w1 N S v
  subst e1
  rw [s1] at m2
  exact ⟨w2, e2, m1.below k2, m2, k1.trans (k2.mono (by omega)), by omega⟩
set_option maxHeartbeats 1000000 in
theorem keepBytes_any (bo : Option Addr) (n bc : Nat) (g : Nat → Nat) (w : World) (hs : Sr w bo n bc (bF g)) (hn : n ≤ 140737488351232) :
    Calls Try.prog 17 #[.slice bo n bc] w fun e w' => ∃ ao cap, e = .returned (.slice ao n cap) ∧ n ≤ cap ∧ w'.ownsRow w.heap.size 5 1 (.slice ao n cap) n (rowV (bF g) n) ∧ Below w.heap.size w w' := by
  have HS := hide hs
  clear hs
  go_enter Try.func17, Try.ntmps17
  go_wp2_with (at_builtin; refine wpList_join _ rfl _ _ rfl w.heap.size (Nat.le_refl _) (.slice none 0 0) 0 [] rfl (World.ownsRow_nil _ _ _ _) bo n bc (bF g) rfl (unhide HS) (fun i _ => rfl) (by omega) ?_)
  intro v3 w3 o3 k3
  obtain ⟨a3, c3, rfl, hc3⟩ := ownS_slice o3
  have O3 := hide o3; have K3 := hide k3
  clear o3 k3
  go_wp2_with fail
  go_ret
  exact ⟨a3, c3, rfl, hc3, unhide O3, unhide K3⟩

end Go.Proofs.Ythjeedlhlkggkab
