/- Plain: down, divided, and up; and cells of one row. -/
import Derived.Test.YtnfejfdekedmhabMatRest
namespace Go.Proofs.Ytnfejfdekedmhab

theorem stF_self {f : Nat → Int} {k : Nat} {x : Int} (h : f k = x) : stF f k x = f := by
  funext j; unfold stF; split
  · rename_i e; rw [e]; exact h.symm
  · rfl
theorem stF_stF (f : Nat → Int) (k : Nat) (x z : Int) : stF (stF f k x) k z = stF f k z := by
  funext j; unfold stF; split <;> rfl
/-- The numbers y, the first i of them taken down. -/
def dnF (n : Nat) (f y : Nat → Int) : Nat → Nat → Int
  | 0 => y
  | i + 1 => stF (dnF n f y i) i (sbV (y i) (rowF n f i) (dnF n f y i) i)
def dnB (n : Nat) (f y : Nat → Int) : Nat → Bool
  | 0 => false
  | i + 1 => dnB n f y i || sbB (y i) (rowF n f i) (dnF n f y i) i
theorem dnF_at (n : Nat) (f y : Nat → Int) : ∀ {i t : Nat}, i ≤ t → dnF n f y i t = y t
  | 0, _, _ => rfl
  | i + 1, t, h => by
    show stF _ i _ t = _
    rw [stF_other _ _ (by omega)]; exact dnF_at n f y (by omega)
theorem dnF_R {n : Nat} {f y : Nat → Int} (h : ∀ i, R64 (y i)) : ∀ i t, R64 (dnF n f y i t)
  | 0, t => h t
  | i + 1, t => stF_R (dnF_R h i) (sbV_R _ _ (h i) _) t
/-- .. divided. -/
def dvF (y d : Nat → Int) : Nat → Nat → Int
  | 0 => y
  | i + 1 => stF (dvF y d i) i (divV (y i) (d i))
def dvB (y d : Nat → Int) : Nat → Bool
  | 0 => false
  | i + 1 => dvB y d i || divB (y i) (d i)
theorem dvF_at (y d : Nat → Int) : ∀ {i t : Nat}, i ≤ t → dvF y d i t = y t
  | 0, _, _ => rfl
  | i + 1, t, h => by
    show stF _ i _ t = _
    rw [stF_other _ _ (by omega)]; exact dvF_at y d (by omega)
theorem dvF_R {y d : Nat → Int} (h : ∀ i, R64 (y i)) : ∀ i t, R64 (dvF y d i t)
  | 0, t => h t
  | i + 1, t => stF_R (dvF_R h i) (quot_R _ _) t
/-- .. the last m of them taken up. -/
def upF (n : Nat) (f y : Nat → Int) : Nat → Nat → Int
  | 0 => y
  | m + 1 => stF (upF n f y m) (n - 1 - m) (sbV (y (n - 1 - m)) (fun t => f ((n - 1 - m + 1 + t) * n + (n - 1 - m))) (fun t => upF n f y m (n - 1 - m + 1 + t)) m)
def upB (n : Nat) (f y : Nat → Int) : Nat → Bool
  | 0 => false
  | m + 1 => upB n f y m || sbB (y (n - 1 - m)) (fun t => f ((n - 1 - m + 1 + t) * n + (n - 1 - m))) (fun t => upF n f y m (n - 1 - m + 1 + t)) m
theorem upF_low (n : Nat) (f y : Nat → Int) : ∀ {m t : Nat}, t + m < n → upF n f y m t = y t
  | 0, _, _ => rfl
  | m + 1, t, h => by
    show stF _ (n - 1 - m) _ t = _
    rw [stF_other _ _ (by omega)]; exact upF_low n f y (by omega)
theorem upF_at {n : Nat} {f y : Nat → Int} {m i : Nat} (e : n - 1 - m = i) (h : m < n) : upF n f y m i = y i := upF_low n f y (by omega)
theorem upF_R {n : Nat} {f y : Nat → Int} (h : ∀ i, R64 (y i)) : ∀ m t, R64 (upF n f y m t)
  | 0, t => h t
  | m + 1, t => stF_R (upF_R h m) (sbV_R _ _ (h _) _) t
theorem upF_step {n m i : Nat} {f y : Nat → Int} (e : n - 1 - m = i) : upF n f y (m + 1) = stF (upF n f y m) i (sbV (y i) (fun t => f ((i + 1 + t) * n + i)) (fun t => upF n f y m (i + 1 + t)) m) := by subst e; rfl
theorem upB_step {n m i : Nat} {f y : Nat → Int} (e : n - 1 - m = i) : upB n f y (m + 1) = (upB n f y m || sbB (y i) (fun t => f ((i + 1 + t) * n + i)) (fun t => upF n f y m (i + 1 + t)) m) := by subst e; rfl
/-- Two cells of one block. -/
def ClS (b i k : Nat) (v0 v1 : Value) (w : World) : Prop := w.cell? ⟨b, i, none⟩ = some v0 ∧ w.cell? ⟨b, k, none⟩ = some v1
theorem ClS.kept {z b i k : Nat} {v0 v1 : Value} {w w' : World} (h : ClS b i k v0 v1 w) (q : Kept z w w') (hz : b ≠ z) : ClS b i k v0 v1 w' := ⟨at_kept h.1 q hz, at_kept h.2 q hz⟩

end Go.Proofs.Ytnfejfdekedmhab
