/- Contracts of the reference: Send. -/
import Derived.Test.YthjeedlhlkggkabRefBus3
import Derived.Test.YthjeedlhlkggkabBusNew
namespace Go.Proofs.Ythjeedlhlkggkab
open Go.RowKit

/-- A bus in a variable, and a result. -/
theorem bu_pair (w : World) (N S : Int) (u : Value) : ∃ w1, w1 = ((w.alloc (.cells #[.int .i64 N, .int .i64 S, u] 25)).alloc (.cells #[.int .i64 0, .int .i64 0, .slice none 0 0] 25)) ∧ BuAt w1 w.heap.size N S u ∧ BuAt w1 (w.heap.size + 1) 0 0 (.slice none 0 0) ∧ Below w.heap.size w w1 ∧ w1.heap.size = w.heap.size + 1 + 1 := by
  obtain ⟨w1, e1, m1, k1, s1⟩ := bu_alloc w N S u
  obtain ⟨w2, e2, m2, k2, s2⟩ := bu_alloc w1 0 0 (.slice none 0 0)
  subst e1
  rw [s1] at m2
  exact ⟨w2, e2, m1.below k2, m2, k1.trans (k2.mono (by omega)), by omega⟩
theorem snd_no {b : Bs} {f t d : Int} {ds : List Nat} {w w' : World} {e : Nat} (he : sendE b.now b.q.length f t d ds.length = e) (h0 : e ≠ 0) (k : Below w.heap.size w w') :
    ∃ (ao' : Option Addr) (cap' : Nat) (L' : List Lp), Ending.returned (.tuple #[.agg #[.int .i64 0, .int .i64 0, .slice none 0 0], .int .i64 (e : Nat)]) = .returned (.tuple #[busV (sendS b f t ds d).now (sendS b f t ds d).ser (.slice ao' L'.length cap'), .int .i64 (sendE b.now b.q.length f t d ds.length : Nat)]) ∧ These L' (sendS b f t ds d).q ∧ BNew w.heap.size w' ao' cap' L' ∧ Below w.heap.size w w' := by
  have hz : sendS b f t ds d = zeroBs := by unfold sendS; rw [if_neg (by rw [he]; exact h0)]
  rw [hz, he]
  exact ⟨none, 0, [], rfl, rfl, bnew_nil _ _, k⟩
theorem snd_yes {b : Bs} {f t d : Int} {ds : List Nat} {w w' : World} (he : sendE b.now b.q.length f t d ds.length = 0) {ao : Option Addr} {cap : Nat} {L : List Lp} {B : Nat} (o : OwnQ w' B (.slice ao L.length cap) L) (hB : w.heap.size ≤ B) (ht : These L (b.q ++ [⟨f, t, b.now + d, b.ser, ds⟩])) (k : Below w.heap.size w w') {X : Int} (hX : X = wrapS b.ser) {n : Nat} (hn : L.length = n) :
    ∃ (ao' : Option Addr) (cap' : Nat) (L' : List Lp), Ending.returned (.tuple #[.agg #[.int .i64 b.now, .int .i64 X, .slice ao n cap], .int .i64 0]) = .returned (.tuple #[busV (sendS b f t ds d).now (sendS b f t ds d).ser (.slice ao' L'.length cap'), .int .i64 (sendE b.now b.q.length f t d ds.length : Nat)]) ∧ These L' (sendS b f t ds d).q ∧ BNew w.heap.size w' ao' cap' L' ∧ Below w.heap.size w w' := by
  have hz : sendS b f t ds d = ⟨b.now, wrapS b.ser, b.q ++ [⟨f, t, b.now + d, b.ser, ds⟩]⟩ := by unfold sendS; rw [if_pos he]
  rw [hz, he, hX, ← hn]
  exact ⟨ao, cap, L, rfl, ht, o.new.weak hB, k⟩
/-- What Send reads while it appends. -/
def SnI (w : World) (g : Nat) (N S : Int) (u v : Value) (W : World) : Prop := BuAt W w.heap.size N S u ∧ BuAt W g N S v

end Go.Proofs.Ythjeedlhlkggkab
