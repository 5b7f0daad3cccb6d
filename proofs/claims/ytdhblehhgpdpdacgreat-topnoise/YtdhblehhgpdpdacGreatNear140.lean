import Derived.Test.YtdhblehhgpdpdacGreatNear82
import Derived.WideKeyEntry
import Derived.WideKeyPair
import Derived.Test.YtdhblehhgpdpdacGreatNear136
namespace Go.Proofs.YtdhblehhgpdpdacGreat
open Go.RowKit Go.Maps Go.WideMaps Go.MapKept Go.ChangeMaps
def M2 (w : World) (b n : Nat) (S : List (Int × Int)) : Prop := ∃ D : DataW Unit, w.ownsMap Tryz.prog 36 (plainElem Tryz.prog 3) b n D ∧ ∀ p q, R64 p → R64 q → D.atKey (.string (keyBytes [.int .i64 p, .int .i64 q])) (.lit (.int .i64 0)) = .lit (.int .i64 (if (p, q) ∈ S then 1 else 0))
section
variable {w w' : World} {b n : Nat} {S : List (Int × Int)}
theorem M2.lt (h : M2 w b n S) : b < w.heap.size := by obtain ⟨D, h, _⟩ := h; exact h.lt
theorem M2.same (h : M2 w b n S) (e : w'.heap[b]? = w.heap[b]?) : M2 w' b n S := by
 obtain ⟨D, ⟨es, clock, hb, F, hs, hD⟩, hf⟩ := h
 exact ⟨D, ⟨es, clock, e.trans hb, F, hs, hD⟩, hf⟩
end
end Go.Proofs.YtdhblehhgpdpdacGreat
namespace Go.Proofs.YtdhblehhgpdpdacGreat
open Go.RowKit
theorem M2.mono {w : World} {b n m : Nat} {S : List (Int × Int)} (h : M2 w b n S) (e : n ≤ m) : M2 w b m S := by obtain ⟨D, h, hf⟩ := h; exact ⟨D, h.mono e, hf⟩
def prF (p q : Int) (j : Nat) : Value := if j = 0 then iV p else iV q
instance : ManyK Tryz.prog 36 2 := ⟨⟨fun w => by kernel_rfl, fun w => by kernel_rfl⟩⟩
instance : ZerK Tryz.prog 36 2 (prF 0 0) := ⟨fun w => by kernel_rfl⟩
section
variable {P : Program} {f : Operand → Value} {o : Oper} {a : Act} {K : Act → World → Prop} {Q : Exit → Act → World → Prop} {w w' : World} {v : Value}
end
end Go.Proofs.YtdhblehhgpdpdacGreat
namespace Go.Proofs.YtdhblehhgpdpdacGreat
open Go.RowKit
end Go.Proofs.YtdhblehhgpdpdacGreat
