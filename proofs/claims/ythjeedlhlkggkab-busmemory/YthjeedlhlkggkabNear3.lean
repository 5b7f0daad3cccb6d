/- Joined: RefBus2, RefBus1, RefBus3. -/
import Derived.Test.YthjeedlhlkggkabBusOps
import Derived.Test.YthjeedlhlkggkabBusMem
namespace Go.Proofs.Ythjeedlhlkggkab
open Go.RowKit

/-- Two parcels that are read. -/
def PQ (p : Pc) (x o : Nat) (u : Value) (y r : Nat) (v : Value) (w : World) : Prop := PcAt w x o p u ∧ PcAt w y r p v
theorem PQ.below {p : Pc} {x o y r : Nat} {u v : Value} {w w' : World} (h : PQ p x o u y r v w) (k : Below w.heap.size w w') : PQ p x o u y r v w' := ⟨h.1.below k, h.2.below k⟩
theorem PQ.kept {p : Pc} {x o y r z : Nat} {u v : Value} {w w' : World} (h : PQ p x o u y r v w) (k : Kept z w w') (h1 : x ≠ z) (h2 : y ≠ z) : PQ p x o u y r v w' :=
  ⟨h.1.same (k.block x h.1.lt h1), h.2.same (k.block y h.2.lt h2)⟩
theorem PvAt.cells {w : World} {b : Nat} {p : Pc} {v : Value} (h : PvAt w b p v) : w.cell? ⟨b, 0, none⟩ = some (.int .i64 p.fr) ∧ w.cell? ⟨b, 1, none⟩ = some (.int .i64 p.to) ∧ w.cell? ⟨b, 2, none⟩ = some (.int .i64 p.du) ∧ w.cell? ⟨b, 3, none⟩ = some (.int .i64 p.se) ∧ w.cell? ⟨b, 4, none⟩ = some v := by
  have := h.pc
  unfold PcAt at this
  simp only [Nat.zero_add] at this
  exact this

end Go.Proofs.Ythjeedlhlkggkab

namespace Go.Proofs.Ythjeedlhlkggkab
open Go.RowKit

/-- What lies in memory while a bus is copied. -/
def CpI (w : World) (N S : Int) (u v : Value) (L : List Lp) (W : World) : Prop :=
  BuAt W w.heap.size N S u ∧ BuAt W (w.heap.size + 1) 0 0 (.slice none 0 0) ∧ BuAt W (w.heap.size + 1 + 1) N S v ∧ OwnQ W (w.heap.size + 1 + 1 + 1) v L ∧ Below w.heap.size w W ∧ w.heap.size + 1 + 1 + 1 ≤ W.heap.size
section
variable {w W W' : World} {N S : Int} {u v : Value} {L : List Lp}
theorem CpI.below (h : CpI w N S u v L W) (k : Below W.heap.size W W') : CpI w N S u v L W' :=
  ⟨h.1.below k, h.2.1.below k, h.2.2.1.below k, h.2.2.2.1.below k, h.2.2.2.2.1.trans (k.mono (by have := h.2.2.2.2.2; omega)), Nat.le_trans h.2.2.2.2.2 k.size⟩
theorem CpI.kept {z : Nat} (h : CpI w N S u v L W) (k : Kept z W W') (hz : w.heap.size + 1 + 1 + 1 ≤ z) (hq : ∀ g, v.ownBlock = some g → g ≠ z) (hb : ∀ c, c ∈ L → ∀ g, (lpV c).ownBlock = some g → g ≠ z) : CpI w N S u v L W' :=
  ⟨h.1.kept k (by omega), h.2.1.kept k (by omega), h.2.2.1.kept k (by omega), ⟨ownS_kept h.2.2.2.1.1 k (fun e => hq z e rfl), fun c hc => ownS_kept (h.2.2.2.1.2.1 c hc) k (fun e => hb c hc z e rfl), h.2.2.2.1.2.2⟩, below_of_kept h.2.2.2.2.1 k (by omega) h.2.2.2.2.1.size, Nat.le_trans h.2.2.2.2.2 k.size⟩
end
/-- Three variables of buses. -/
theorem bu_three (w : World) (N S : Int) (u : Value) : ∃ w1, w1 = (((w.alloc (.cells #[.int .i64 N, .int .i64 S, u] 25)).alloc (.cells #[.int .i64 0, .int .i64 0, .slice none 0 0] 25)).alloc (.cells #[.int .i64 N, .int .i64 S, .slice none 0 0] 25)) ∧ CpI w N S u (.slice none 0 0) [] w1 := by
  obtain ⟨w1, e1, m1, k1, s1⟩ := bu_alloc w N S u
  obtain ⟨w2, e2, m2, k2, s2⟩ := bu_alloc w1 0 0 (.slice none 0 0)
  obtain ⟨w3, e3, m3, k3, s3⟩ := bu_alloc w2 N S (.slice none 0 0)
  subst e1
  subst e2
  rw [s1] at m2
  rw [s2, s1] at m3
  exact ⟨w3, e3, (m1.below k2).below k3, m2.below k3, m3, OwnQ.nil _ _, (k1.trans (k2.mono (by omega))).trans (k3.mono (by omega)), by omega⟩

end Go.Proofs.Ythjeedlhlkggkab

namespace Go.Proofs.Ythjeedlhlkggkab
open Go.RowKit

theorem bu_two (w : World) (N S : Int) (u v : Value) : ∃ w1, w1 = ((w.alloc (.cells #[.int .i64 N, .int .i64 S, u] 25)).alloc (.cells #[.int .i64 N, .int .i64 S, v] 25)) ∧ BuAt w1 w.heap.size N S u ∧ BuAt w1 (w.heap.size + 1) N S v ∧ Below w.heap.size w w1 ∧ w1.heap.size = w.heap.size + 1 + 1 := by
  obtain ⟨w1, e1, m1, k1, s1⟩ := bu_alloc w N S u
  obtain ⟨w2, e2, m2, k2, s2⟩ := bu_alloc w1 N S v
  subst e1
  rw [s1] at m2
  exact ⟨w2, e2, m1.below k2, m2, k1.trans (k2.mono (by omega)), by omega⟩
set_option maxHeartbeats 1000000 in
theorem keepBytes_any (bo : Option Addr) (n bc : Nat) (g : Nat → Nat) (w : World) (hs : Sr w bo n bc (bF g)) (hn : n ≤ 140737488351232) :
    Calls Try.prog 17 #[.slice bo n bc] w fun e w' => ∃ ao cap, e = .returned (.slice ao n cap) ∧ n ≤ cap ∧ w'.ownsRow w.heap.size 5 1 (.slice ao n cap) n (rowV (bF g) n) ∧ Below w.heap.size w w' := by
  have HS := hide hs
  clear hs
  go_enter Try.func17, Try.ntmps17
  go_wp2_with (at_builtin; refine wpList_join _ rfl _ _ rfl w.heap.size (Nat.le_refl _) (.slice none 0 0) 0 [] rfl (World.ownsRow_nil _ _ _ _) bo n bc (bF g) rfl (unhide HS) (fun i _ => rfl) (by omega) ?_)
  intro v3 w3 o3 k3
  obtain ⟨a3, c3, rfl, hc3⟩ := ownS_slice o3
  have O3 := hide o3; have K3 := hide k3
  clear o3 k3
  go_wp2_with fail
  go_ret
  exact ⟨a3, c3, rfl, hc3, unhide O3, unhide K3⟩

end Go.Proofs.Ythjeedlhlkggkab
