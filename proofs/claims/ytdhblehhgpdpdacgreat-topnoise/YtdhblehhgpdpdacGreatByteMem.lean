import Derived.Test.YtdhblehhgpdpdacGreatRowBase
import Derived.Laws.CopyOwn
namespace Go.Proofs.YtdhblehhgpdpdacGreat
open Go.RowKit
def bV (x : Nat) : Value := .int .u8 (x : Nat)
def bF (g : Nat → Nat) (i : Nat) : Value := bV (g i)
def Sr (w : World) (ao : Option Addr) (len cap : Nat) (f : Nat → Value) : Prop :=
 (ao = none ∧ len = 0 ∧ cap = 0) ∨ ∃ x, ao = some x ∧ ∀ i, i < len → w.cell? (x.add i) = some (f i)
section
variable {w w' : World} {ao : Option Addr} {len cap : Nat} {f : Nat → Value}
theorem Sr.rd (h : Sr w ao len cap f) : Rd w ao len f := by
 intro hl
 rcases h with ⟨_, h0, _⟩ | ⟨x, rfl, hc⟩
 ·omega
 ·obtain ⟨b, o, spot⟩ := x
  have hs : spot = none := by simpa [Addr.add] using World.cell?_spot (hc 0 hl)
  subst hs
  exact ⟨b, o, rfl, fun i hi => by have := hc i hi; rw [Addr.add_lit] at this; exact this⟩
theorem Sr.congr {g : Nat → Value} (h : Sr w ao len cap f) (e : ∀ i, i < len → f i = g i) : Sr w ao len cap g := by
 rcases h with h | ⟨x, rfl, hc⟩
 ·exact Or.inl h
 ·exact Or.inr ⟨x, rfl, fun i hi => by rw [← e i hi]; exact hc i hi⟩
theorem owns_sr {t : TypeId} {base n : Nat} {v : Value} {g : Nat → Value} (h : w.ownsRow base t 1 v n (rowV g n)) : ∃ ao cap, v = .slice ao n cap ∧ Sr w ao n cap g ∧ n ≤ cap := by
 have hh := h
 rcases h.2 with ⟨rfl, rfl⟩ | ⟨r, c, cur, rfl, _, _, hc, _⟩
 ·exact ⟨none, 0, rfl, Or.inl ⟨rfl, rfl, rfl⟩, Nat.le_refl _⟩
 ·refine ⟨_, c, rfl, Or.inr ⟨_, rfl, fun i hi => ?_⟩, hc⟩
  exact hh.cells (g := r) rfl i (g i) (rowV_at g hi)
end
end Go.Proofs.YtdhblehhgpdpdacGreat
