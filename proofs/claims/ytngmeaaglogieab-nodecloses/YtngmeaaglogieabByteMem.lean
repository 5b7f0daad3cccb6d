/- Bytes in memory: slices handed in, appended, cut. -/
import Derived.Test.YtngmeaaglogieabRowBase
import Derived.Laws.CopyOwn
namespace Go.Proofs.Ytngmeaaglogieab
open Go.RowKit

/-- A byte as a value. -/
def bV (x : Nat) : Value := .int .u8 (x : Nat)
/-- Bytes as values. -/
def bF (g : Nat → Nat) (i : Nat) : Value := bV (g i)
theorem infoByte : (Try.prog.info? 5).map (fun i => (i.zero, i.size, i.bytes)) = some (some (.int .u8 0), 1, 1) := by kernel_rfl

/-- A slice that was handed in. -/
def Sr (w : World) (ao : Option Addr) (len cap : Nat) (f : Nat → Value) : Prop :=
  (ao = none ∧ len = 0 ∧ cap = 0) ∨ ∃ x, ao = some x ∧ ∀ i, i < len → w.cell? (x.add i) = some (f i)
section
variable {w w' : World} {ao : Option Addr} {len cap : Nat} {f : Nat → Value}
theorem Sr.rd (h : Sr w ao len cap f) : Rd w ao len f := by
  intro hl
  rcases h with ⟨_, h0, _⟩ | ⟨x, rfl, hc⟩
  · omega
  · obtain ⟨b, o, spot⟩ := x
    have hs : spot = none := by simpa [Addr.add] using World.cell?_spot (hc 0 hl)
    subst hs
    exact ⟨b, o, rfl, fun i hi => by have := hc i hi; rw [Addr.add_lit] at this; exact this⟩
theorem Sr.below (h : Sr w ao len cap f) (k : Below w.heap.size w w') : Sr w' ao len cap f := by
  rcases h with h | ⟨x, rfl, hc⟩
  · exact Or.inl h
  · exact Or.inr ⟨x, rfl, fun i hi => at_below (hc i hi) k⟩
theorem Sr.less {k : Nat} (h : Sr w ao len cap f) (hk : k ≤ len) : Sr w ao k cap f := by
  rcases h with ⟨h1, h2, h3⟩ | ⟨x, rfl, hc⟩
  · exact Or.inl ⟨h1, by omega, h3⟩
  · exact Or.inr ⟨x, rfl, fun i hi => hc i (by omega)⟩
theorem Sr.congr {g : Nat → Value} (h : Sr w ao len cap f) (e : ∀ i, i < len → f i = g i) : Sr w ao len cap g := by
  rcases h with h | ⟨x, rfl, hc⟩
  · exact Or.inl h
  · exact Or.inr ⟨x, rfl, fun i hi => by rw [← e i hi]; exact hc i hi⟩
theorem owns_sr {t : TypeId} {base n : Nat} {v : Value} {g : Nat → Value} (h : w.ownsRow base t 1 v n (rowV g n)) : ∃ ao cap, v = .slice ao n cap ∧ Sr w ao n cap g ∧ n ≤ cap := by
  have hh := h
  rcases h.2 with ⟨rfl, rfl⟩ | ⟨r, c, cur, rfl, _, _, hc, _⟩
  · exact ⟨none, 0, rfl, Or.inl ⟨rfl, rfl, rfl⟩, Nat.le_refl _⟩
  · refine ⟨_, c, rfl, Or.inr ⟨_, rfl, fun i hi => ?_⟩, hc⟩
    exact hh.cells (g := r) rfl i (g i) (rowV_at g hi)
end

theorem own_below {t : TypeId} {B : Nat} {w w' : World} {v : Value} {n : Nat} {xs : List Value} (h : w.ownsRow B t 1 v n xs) (hg : w.grownBy w' v.ownBlock) {w0 : World} (k : Below B w0 w) (hB : B ≤ w.heap.size) : Below B w0 w' :=
  k.trans ⟨hg.os, hg.tape, hg.output, hg.size, fun j hj => hg.block j (by omega) (fun e => by have := (h.lt j e.symm).1; omega)⟩
theorem own_kept {t : TypeId} {B : Nat} {w w' : World} {v : Value} {n : Nat} {xs : List Value} (h : w.ownsRow B t 1 v n xs) (k : Below w.heap.size w w') : w'.ownsRow B t 1 v n xs := by
  refine ⟨h.1, ?_⟩
  rcases h.2 with hn | ⟨g, cap, cur, rfl, hb, hgg, rest⟩
  · exact .inl hn
  · exact .inr ⟨g, cap, cur, rfl, hb, (k.block g (lt_of_block hgg)).trans hgg, rest⟩

theorem bF_one (g : Nat → Nat) (i : Nat) : (bF g i).oneCell' = true := rfl

end Go.Proofs.Ytngmeaaglogieab
