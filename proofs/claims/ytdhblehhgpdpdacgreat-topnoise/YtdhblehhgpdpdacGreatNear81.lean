import Derived.Test.YtdhblehhgpdpdacGreatNear19
import Derived.Test.YtdhblehhgpdpdacGreatNear135
namespace Go.Proofs.YtdhblehhgpdpdacGreat
open Go.RowKit
end Go.Proofs.YtdhblehhgpdpdacGreat
namespace Go.Proofs.YtdhblehhgpdpdacGreat
open Go.RowKit
def BgI (w : World) (i : Nat) (wr : World) : Prop := RAt wr (w.heap.size + 1) ⟨fun j => decide (j < i), fun _ => 0, fun _ => 0⟩ ∧ RAt wr w.heap.size zeroR ∧ Below w.heap.size w wr
theorem BgI.set {w wr : World} {i : Nat} (h : BgI w i wr) (hi : i < 4) : BgI w (i + 1) (wr.setCell ⟨w.heap.size + 1, i, none⟩ (.bool true)) := by
 have kk := kept_set wr (w.heap.size + 1) i (.bool true)
 refine ⟨(h.1.setI hi true).alike (fun j hj => ⟨?_, rfl, rfl⟩), h.2.1.kept kk (by omega), below_of_kept h.2.2 kk (by omega) h.2.2.size⟩
 show upM (fun j => decide (j < i)) i true j = decide (j < i + 1)
 by_cases e : j = i
 ·rw [e, upM_same]; simp
 ·rw [upM_other _ _ e]; by_cases h : j < i <;> simp [h] <;> omega
end Go.Proofs.YtdhblehhgpdpdacGreat
