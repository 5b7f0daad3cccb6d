/- Contracts of the reference: Lose. -/
import Derived.Test.YthjeedlhlkggkabRefSnd
import Derived.Test.YthjeedlhlkggkabBusCut
namespace Go.Proofs.Ythjeedlhlkggkab
open Go.RowKit

/-- What lies in memory while a bus is gone through. -/
def LsI (w : World) (g : Nat) (N S : Int) (v : Value) (M : List Lp) (W : World) : Prop :=
  BuAt W (w.heap.size + 1) 0 0 (.slice none 0 0) ∧ BuAt W g N S v ∧ OwnQ W (w.heap.size + 1 + 1) v M ∧ Below w.heap.size w W ∧ w.heap.size + 1 + 1 ≤ g
section
variable {w W W' : World} {g : Nat} {N S : Int} {v : Value} {M : List Lp}
theorem LsI.below (h : LsI w g N S v M W) (k : Below W.heap.size W W') : LsI w g N S v M W' :=
  ⟨h.1.below k, h.2.1.below k, h.2.2.1.below k, h.2.2.2.1.trans (k.mono h.2.2.2.1.size), h.2.2.2.2⟩
end
theorem own_some {w : World} {t : TypeId} {B n cap s : Nat} {ao : Option Addr} {xs : List Value} (h : w.ownsRow B t s (.slice ao n cap) n xs) (hn : 0 < n) : ∃ g, ao = some ⟨g, 0, none⟩ := by
  rcases h.2 with ⟨_, h0⟩ | ⟨g, c, cur, e, _⟩
  · omega
  · cases e; exact ⟨g, rfl⟩
theorem los_no {b : Bs} {s : Int} {w w' : World} (h : ¬ fsP s b.q < b.q.length) (k : Below w.heap.size w w') :
    ∃ (ao' : Option Addr) (cap' : Nat) (L' : List Lp), Ending.returned (.tuple #[.agg #[.int .i64 0, .int .i64 0, .slice none 0 0], .int .i64 7]) = .returned (.tuple #[busV (loseS b s).now (loseS b s).ser (.slice ao' L'.length cap'), .int .i64 (loseE b s : Nat)]) ∧ These L' (loseS b s).q ∧ BNew w.heap.size w' ao' cap' L' ∧ Below w.heap.size w w' := by
  have hz : loseS b s = zeroBs := by unfold loseS; rw [if_neg h]
  have he : loseE b s = 7 := by unfold loseE; rw [if_neg h]
  rw [hz, he]
  exact ⟨none, 0, [], rfl, rfl, bnew_nil _ _, k⟩
theorem these_erase {M : List Lp} {q : List Pc} (h : These M q) (i : Nat) : These (M.eraseIdx i) (q.eraseIdx i) := by
  unfold These at *
  rw [← h]
  rw [List.eraseIdx_eq_take_drop_succ, List.eraseIdx_eq_take_drop_succ, List.map_append, List.map_take, List.map_drop]
theorem los_yes {b : Bs} {s : Int} {w w' : World} {i : Nat} (h : fsP s b.q = i) (hi : i < b.q.length) {ao : Option Addr} {cap n B : Nat} {M : List Lp} (hM : These M b.q) (o : OwnQ w' B (.slice ao n cap) (M.eraseIdx i)) (hn : n = (M.eraseIdx i).length) (hB : w.heap.size ≤ B) (k : Below w.heap.size w w') :
    ∃ (ao' : Option Addr) (cap' : Nat) (L' : List Lp), Ending.returned (.tuple #[.agg #[.int .i64 b.now, .int .i64 b.ser, .slice ao n cap], .int .i64 0]) = .returned (.tuple #[busV (loseS b s).now (loseS b s).ser (.slice ao' L'.length cap'), .int .i64 (loseE b s : Nat)]) ∧ These L' (loseS b s).q ∧ BNew w.heap.size w' ao' cap' L' ∧ Below w.heap.size w w' := by
  have hz : loseS b s = ⟨b.now, b.ser, b.q.eraseIdx i⟩ := by unfold loseS; rw [h, if_pos hi]
  have he : loseE b s = 0 := by unfold loseE; rw [h, if_pos hi]
  rw [hz, he]
  subst hn
  exact ⟨ao, cap, _, rfl, these_erase hM i, o.new.weak hB, k⟩

end Go.Proofs.Ythjeedlhlkggkab
