/- Contracts of package sum: step, steps. -/
import Derived.Test.YtngmeaaglogieabRowBase
import Derived.Test.YtngmeaaglogieabNear33
import Derived.Laws.BitsAllLaws
import Derived.Deep.WholeRow
namespace Go.Proofs.Ytngmeaaglogieab
open Go.RowKit

theorem u32_low (r : Nat) (h : r < 4294967296) : bits .and .u32 (r : Int) 1 = ((r % 2 : Nat) : Int) := by
  have := u32_and_nat r 1 h (by omega)
  rw [nat_mask1] at this
  exact this
theorem u32_poly (r : Nat) (h : r < 4294967296) : bits .xor .u32 (r : Int) 3988292384 = ((r ^^^ 3988292384 : Nat) : Int) := u32_xor_nat r 3988292384 h (by omega)

/-- The table. -/
def tabF (j : Nat) : Value := .int .u32 (cN 8 j : Nat)
/-- The table as far as it is made. -/
def tabT (i : Nat) (j : Nat) : Value := if j < i then tabF j else .int .u32 0
def tabZ : Array Value := Array.replicate 256 (.int .u32 0)
theorem tabT_step (i : Nat) : stW (tabT i) i (tabF i) = tabT (i + 1) := by
  funext j
  by_cases e : j = i
  · subst e; rw [stW_same]; unfold tabT; rw [if_pos (by omega)]
  · rw [stW_other _ _ e]; unfold tabT
    by_cases h : j < i
    · rw [if_pos h, if_pos (by omega)]
    · rw [if_neg h, if_neg (by omega)]
theorem cN_succ (n x : Nat) : cN (n + 1) x = cS (cN n x) := by rw [cN_add]; rfl

/-- A whole array stored. -/
theorem store_all (P : Program) (g : Nat) (t : TypeId) (old T : Array Value) (w : World) (hg : w.heap[g]? = some (.cells old t (0, 0))) (hs : old.size = T.size) (h1 : T.all (·.oneCell') = true) :
    (storeCells ⟨g, 0, none⟩ T.toList).run P w = .ok () (w.setRow g T) := by
  have := run_storeCells_from (P := P) g t T.toList 0 old w hg (by simp; omega) (fun v hv => (Array.all_eq_true_iff_forall_mem.1 h1) v (by simpa using hv))
  simpa using this

end Go.Proofs.Ytngmeaaglogieab
