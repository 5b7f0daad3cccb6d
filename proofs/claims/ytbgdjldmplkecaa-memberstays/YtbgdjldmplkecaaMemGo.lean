/- One node dissents, then assents: plain facts. -/
import Derived.Test.YtbgdjldmplkecaaMemOK
namespace Go.Proofs.Ytbgdjldmplkecaa

/-- All but one. -/
def oneB (j k : Nat) : Bool := if k = j then false else true
/-- The roll behind i dissents of j. -/
def dR (j i : Nat) : Rl := if i = 0 then beginR else if i = 1 then ⟨fun _ => true, upM (fun _ => 0) j 1, fun _ => 0⟩ else ⟨upM (fun _ => true) j false, fun _ => 0, fun _ => 0⟩
/-- The roll behind q assents of one that was put out. -/
def aR (j q : Nat) : Rl := if q = 0 then dR j 2 else if q = 3 then beginR else ⟨upM (fun _ => true) j false, fun _ => 0, upM (fun _ => 0) j (q : Nat)⟩
theorem dR_good : ∀ j, j < 4 → ∀ i, i < 2 → gdA (dR j i) = true := by decide +kernel
theorem dR_alike : ∀ j, j < 4 → ∀ i, i < 2 → ∀ k, k < 4 → (rnN (oneB j) (dR j i) 4).1.I k = (dR j (i + 1)).I k ∧ (rnN (oneB j) (dR j i) 4).1.M k = (dR j (i + 1)).M k ∧ (rnN (oneB j) (dR j i) 4).1.J k = (dR j (i + 1)).J k := by decide +kernel
theorem dR_told : ∀ j, j < 4 → ∀ i, i < 2 → (rnN (oneB j) (dR j i) 4).2.length = i := by decide +kernel
theorem dR_at : ∀ j, j < 4 → ∀ i, i < 2 → (dR j (i + 1)).I j = decide (i = 0) := by decide +kernel
theorem aR_good : ∀ j, j < 4 → ∀ i, i < 3 → gdA (aR j i) = true := by decide +kernel
theorem aR_alike : ∀ j, j < 4 → ∀ i, i < 3 → ∀ k, k < 4 → (rnN (fun _ => true) (aR j i) 4).1.I k = (aR j (i + 1)).I k ∧ (rnN (fun _ => true) (aR j i) 4).1.M k = (aR j (i + 1)).M k ∧ (rnN (fun _ => true) (aR j i) 4).1.J k = (aR j (i + 1)).J k := by decide +kernel
theorem aR_told : ∀ j, j < 4 → ∀ i, i < 3 → (rnN (fun _ => true) (aR j i) 4).2.length = (if i = 2 then 1 else 0) := by decide +kernel
theorem aR_at : ∀ j, j < 4 → ∀ i, i < 3 → (aR j (i + 1)).I j = decide (i = 2) := by decide +kernel
theorem gd_R {r : Rl} (h : gdA r = true) (k : Nat) (hk : k < 4) : R64 (r.M k) ∧ R64 (r.J k) := by
  have g := gdA_iff.1 h k hk
  unfold R64
  cases e : r.I k with
  | true => have := (gd_in e).1 g; omega
  | false => have := (gd_out e).1 g; omega

end Go.Proofs.Ytbgdjldmplkecaa
