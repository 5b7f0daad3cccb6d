/- Operations on bytes, their frame a variable. -/
import Derived.Test.YtngmeaaglogieabFrames
import Derived.Test.YtngmeaaglogieabByteMem
namespace Go.Proofs.Ytngmeaaglogieab
open Go.RowKit

theorem run_loadB {f : Operand → Value} {o : Oper} (x : Operand) (ho : o.op = .load 5 x) {a : Addr} {v : Nat} (hx : f x = .pointer (some a)) {w : World} (hc : w.cell? a = some (bV v)) :
    (execOp f o).run Try.prog w = .ok (.value (bV v)) w := by
  unfold bV at hc ⊢
  unfold execOp
  rw [ho]
  dsimp only
  rw [hx]
  go_simp
theorem run_xorB {f : Operand → Value} {o : Oper} (x y : Operand) (ho : o.op = .binOp .xor 5 x y 5) {u v : Nat} (hx : f x = bV u) (hy : f y = bV v) (hu : u < 256) (hv : v < 256) (w : World) :
    (execOp f o).run Try.prog w = .ok (.value (bV (u ^^^ v))) w := by
  have e := u8_xor_nat u v hu hv
  unfold bV at hx hy ⊢
  unfold execOp
  rw [ho]
  dsimp only
  rw [hx, hy]
  go_simp
theorem run_neqT {f : Operand → Value} {o : Oper} (x y : Operand) (ho : o.op = .binOp .neq 5 x y 5) {u v : Nat} (hx : f x = bV u) (hy : f y = bV v) (h : u ≠ v) (w : World) :
    (execOp f o).run Try.prog w = .ok (.value (.bool true)) w := by
  have h2 : ¬ ((u : Int) = (v : Int)) := by omega
  unfold bV at hx hy
  unfold execOp
  rw [ho]
  dsimp only
  rw [hx, hy]
  clear h
  go_simp
theorem run_neqF {f : Operand → Value} {o : Oper} (x y : Operand) (ho : o.op = .binOp .neq 5 x y 5) {u v : Nat} (hx : f x = bV u) (hy : f y = bV v) (h : u = v) (w : World) :
    (execOp f o).run Try.prog w = .ok (.value (.bool false)) w := by
  subst h
  unfold bV at hx hy
  unfold execOp
  rw [ho]
  dsimp only
  rw [hx, hy]
  go_simp
theorem wp_storeB (w : World) {o : Oper} {a : Act} {K : Act → World → Prop} {Q : Exit → Act → World → Prop} (x y : Operand) (ho : o.op = .store 5 x y) {ad : Addr} {v : Nat} (hx : a.eval x = .pointer (some ad)) (hy : a.eval y = bV v) {u : Value} (hc : w.cell? ad = some u) (hf : w.frozen? ad = false) (hd : o.dst = none)
    (h : K a (w.setCell ad (bV v))) : WpI Try.prog o a w K Q := by
  refine ⟨?_⟩
  unfold bV at hy h
  unfold Oper.wp execOp
  rw [ho]
  dsimp only
  rw [hx, hy]
  go_simp
  exact h

theorem Vh.cellz {t : TypeId} {w : World} {b N cap : Nat} {g : Nat → Value} (h : Vh t w b N cap g) {i : Nat} (hi : i < N) : w.cell? ⟨b, 0 + i, none⟩ = some (g i) := by rw [Nat.zero_add]; exact h.cell hi
theorem Vh.setz {t : TypeId} {w : World} {b N cap : Nat} {g : Nat → Value} (h : Vh t w b N cap g) (i : Nat) (x : Value) : Vh t (w.setCell ⟨b, 0 + i, none⟩ x) b N cap (stW g i x) := by rw [Nat.zero_add]; exact h.set i x
/-- Filled as far as this. -/
def flF (F : Nat → Nat) (i j : Nat) : Nat := if j < i then F j else 0
theorem flF_step (F : Nat → Nat) (i : Nat) : stW (bF (flF F i)) i (bV (F i)) = bF (flF F (i + 1)) := by
  funext j
  by_cases e : j = i
  · subst e; rw [stW_same]; unfold bF flF; rw [if_pos (by omega)]
  · rw [stW_other _ _ e]; unfold bF flF
    by_cases h : j < i
    · rw [if_pos h, if_pos (by omega)]
    · rw [if_neg h, if_neg (by omega)]
theorem flF_end {t : TypeId} {w : World} {b n cap : Nat} {F : Nat → Nat} (h : Vh t w b n cap (bF (flF F n))) : Vh t w b n cap (bF F) := h.congr (fun i hi => by unfold bF flF; rw [if_pos hi])

end Go.Proofs.Ytngmeaaglogieab
