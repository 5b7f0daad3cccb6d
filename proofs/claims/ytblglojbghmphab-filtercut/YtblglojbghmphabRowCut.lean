/- A list cut in two. -/
import Derived.Test.YtblglojbghmphabRowClone
namespace Go.Proofs.Ytblglojbghmphab
open Go.RowKit

theorem addr_add_add (x : Addr) (k i : Nat) : (x.add k).add i = x.add (k + i) := by
  unfold Addr.add
  by_cases hk : k = 0
  · subst hk; simp
  · by_cases hi : i = 0
    · subst hi; simp [hk]
    · simp [hk, hi, Nat.add_assoc]
/-- Where a slice lies behind a cut. -/
def cutA (ao : Option Addr) (cap k : Nat) : Option Addr := if cap = k then ao else ao.map (·.add k)
theorem ArgS.tail {w : World} {ao : Option Addr} {len cap : Nat} {f : Nat → Int} (h : ArgS w ao len cap f) {k : Nat} (hk : k ≤ len) (hc : len ≤ cap) : ArgS w (cutA ao cap k) (len - k) (cap - k) (fun i => f (k + i)) := by
  obtain ⟨ha, hl, hf⟩ := h
  refine ⟨?_, by omega, fun i => hf _⟩
  unfold cutA
  rcases ha with ⟨h1, h2, h3⟩ | ⟨x, h1, hx⟩
  · refine Or.inl ⟨?_, by omega, by omega⟩
    rw [h1]; split <;> rfl
  · by_cases e : cap = k
    · rw [if_pos e]; exact Or.inr ⟨x, h1, fun i hi => by omega⟩
    · rw [if_neg e, h1]
      refine Or.inr ⟨x.add k, rfl, fun i hi => ?_⟩
      have := hx (k + i) (by omega)
      rw [addr_add_add x k i]
      exact this

end Go.Proofs.Ytblglojbghmphab
