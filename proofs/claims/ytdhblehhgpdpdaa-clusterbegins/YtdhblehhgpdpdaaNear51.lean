import Derived.Test.YtdhblehhgpdpdaaNodMem
import Derived.Test.YtdhblehhgpdpdaaVotOps
import Derived.Test.YtdhblehhgpdpdaaRowBase
namespace Go.Proofs.Ytdhblehhgpdpdaa
open Go.RowKit
section
variable {f : Operand → Value} {o : Oper} {x : Operand} {b off : Nat}
theorem fldNd0 (ho : o.op = .fieldAddr 38 x 0) (hx : f x = .pointer (some ⟨b, off, none⟩)) (w : World) : (execOp f o).run Try.prog w = .ok (.value (.pointer (some ⟨b, off + 0, none⟩))) w := by
 unfold execOp
 rw [ho]
 dsimp only
 rw [hx]
 go_simp
theorem fldNd1 (ho : o.op = .fieldAddr 38 x 1) (hx : f x = .pointer (some ⟨b, off, none⟩)) (w : World) : (execOp f o).run Try.prog w = .ok (.value (.pointer (some ⟨b, off + 1, none⟩))) w := by
 unfold execOp
 rw [ho]
 dsimp only
 rw [hx]
 go_simp
theorem fldNd2 (ho : o.op = .fieldAddr 38 x 2) (hx : f x = .pointer (some ⟨b, off, none⟩)) (w : World) : (execOp f o).run Try.prog w = .ok (.value (.pointer (some ⟨b, off + 2, none⟩))) w := by
 unfold execOp
 rw [ho]
 dsimp only
 rw [hx]
 go_simp
theorem fldNd3 (ho : o.op = .fieldAddr 38 x 3) (hx : f x = .pointer (some ⟨b, off, none⟩)) (w : World) : (execOp f o).run Try.prog w = .ok (.value (.pointer (some ⟨b, off + 6, none⟩))) w := by
 unfold execOp
 rw [ho]
 dsimp only
 rw [hx]
 go_simp
theorem fldNd4 (ho : o.op = .fieldAddr 38 x 4) (hx : f x = .pointer (some ⟨b, off, none⟩)) (w : World) : (execOp f o).run Try.prog w = .ok (.value (.pointer (some ⟨b, off + 27, none⟩))) w := by
 unfold execOp
 rw [ho]
 dsimp only
 rw [hx]
 go_simp
theorem fldNd5 (ho : o.op = .fieldAddr 38 x 5) (hx : f x = .pointer (some ⟨b, off, none⟩)) (w : World) : (execOp f o).run Try.prog w = .ok (.value (.pointer (some ⟨b, off + 39, none⟩))) w := by
 unfold execOp
 rw [ho]
 dsimp only
 rw [hx]
 go_simp
theorem fldNd6 (ho : o.op = .fieldAddr 38 x 6) (hx : f x = .pointer (some ⟨b, off, none⟩)) (w : World) : (execOp f o).run Try.prog w = .ok (.value (.pointer (some ⟨b, off + 51, none⟩))) w := by
 unfold execOp
 rw [ho]
 dsimp only
 rw [hx]
 go_simp
theorem fldNd7 (ho : o.op = .fieldAddr 38 x 7) (hx : f x = .pointer (some ⟨b, off, none⟩)) (w : World) : (execOp f o).run Try.prog w = .ok (.value (.pointer (some ⟨b, off + 55, none⟩))) w := by
 unfold execOp
 rw [ho]
 dsimp only
 rw [hx]
 go_simp
theorem fldNd8 (ho : o.op = .fieldAddr 38 x 8) (hx : f x = .pointer (some ⟨b, off, none⟩)) (w : World) : (execOp f o).run Try.prog w = .ok (.value (.pointer (some ⟨b, off + 67, none⟩))) w := by
 unfold execOp
 rw [ho]
 dsimp only
 rw [hx]
 go_simp
theorem fldNd9 (ho : o.op = .fieldAddr 38 x 9) (hx : f x = .pointer (some ⟨b, off, none⟩)) (w : World) : (execOp f o).run Try.prog w = .ok (.value (.pointer (some ⟨b, off + 70, none⟩))) w := by
 unfold execOp
 rw [ho]
 dsimp only
 rw [hx]
 go_simp
theorem fldNd10 (ho : o.op = .fieldAddr 38 x 10) (hx : f x = .pointer (some ⟨b, off, none⟩)) (w : World) : (execOp f o).run Try.prog w = .ok (.value (.pointer (some ⟨b, off + 71, none⟩))) w := by
 unfold execOp
 rw [ho]
 dsimp only
 rw [hx]
 go_simp
theorem run_addI (x y : Operand) (ho : o.op = .binOp .add 3 x y 3) {u v : Int} (hx : f x = .int .i64 u) (hy : f y = .int .i64 v) (h1 : -9223372036854775808 ≤ u + v) (h2 : u + v ≤ 9223372036854775807) (w : World) : (execOp f o).run Try.prog w = .ok (.value (.int .i64 (u + v))) w := by
 unfold execOp
 rw [ho]
 dsimp only
 rw [hx, hy]
 go_simp
 rw [IntKind.wrap_i64]
 omega
theorem run_subI (x y : Operand) (ho : o.op = .binOp .sub 3 x y 3) {u v : Int} (hx : f x = .int .i64 u) (hy : f y = .int .i64 v) (h1 : -9223372036854775808 ≤ u - v) (h2 : u - v ≤ 9223372036854775807) (w : World) : (execOp f o).run Try.prog w = .ok (.value (.int .i64 (u - v))) w := by
 unfold execOp
 rw [ho]
 dsimp only
 rw [hx, hy]
 go_simp
 rw [IntKind.wrap_i64]
 omega
theorem run_lssI {b : Bool} (x y : Operand) (ho : o.op = .binOp .lss 3 x y 3) {u v : Int} (hx : f x = .int .i64 u) (hy : f y = .int .i64 v) (hb : decide (u < v) = b) (w : World) : (execOp f o).run Try.prog w = .ok (.value (.bool b)) w := by
 subst hb
 unfold execOp
 rw [ho]
 dsimp only
 rw [hx, hy]
 go_simp
theorem run_gtrI {b : Bool} (x y : Operand) (ho : o.op = .binOp .gtr 3 x y 3) {u v : Int} (hx : f x = .int .i64 u) (hy : f y = .int .i64 v) (hb : decide (v < u) = b) (w : World) : (execOp f o).run Try.prog w = .ok (.value (.bool b)) w := by
 subst hb
 unfold execOp
 rw [ho]
 dsimp only
 rw [hx, hy]
 go_simp
theorem run_eqlI {b : Bool} (x y : Operand) (ho : o.op = .binOp .eql 3 x y 3) {u v : Int} (hx : f x = .int .i64 u) (hy : f y = .int .i64 v) (hb : decide (u = v) = b) (w : World) : (execOp f o).run Try.prog w = .ok (.value (.bool b)) w := by
 have e : (u == v) = b := by rw [← hb, Bool.eq_iff_iff]; simp
 unfold execOp
 rw [ho]
 dsimp only
 rw [hx, hy]
 go_simp
theorem run_neqI {b : Bool} (x y : Operand) (ho : o.op = .binOp .neq 3 x y 3) {u v : Int} (hx : f x = .int .i64 u) (hy : f y = .int .i64 v) (hb : decide (u ≠ v) = b) (w : World) : (execOp f o).run Try.prog w = .ok (.value (.bool b)) w := by
 have e : (u != v) = b := by rw [← hb, Bool.eq_iff_iff]; simp
 unfold execOp
 rw [ho]
 dsimp only
 rw [hx, hy]
 go_simp
end
theorem zeroNd (w : World) : (zeroValue 38).run Try.prog w = .ok (agV (ndF zeroN (.slice none 0 0)) 0 74) w := by
 obtain ⟨z, e⟩ : ∃ z, z = agV (ndF zeroN (.slice none 0 0)) 0 74 := ⟨_, rfl⟩
 have h : ∀ w, (zeroValue 38).run Try.prog w = .ok z w := fun w => by rw [e]; kernel_rfl
 rw [h w, e]
end Go.Proofs.Ytdhblehhgpdpdaa
namespace Go.Proofs.Ytdhblehhgpdpdaa
open Go.RowKit
section
variable {t : TypeId} {B s n z : Nat} {w w' : World} {v : Value} {xs : List Value} {r : Option Nat}
theorem rw_base {C : Nat} (h : w.ownsRow B t s v n xs) (e : C ≤ B) : w.ownsRow C t s v n xs := by
 refine ⟨h.1, ?_⟩
 rcases h.2 with hn | ⟨g, cap, cur, rfl, hb, rest⟩
 ·exact .inl hn
 ·exact .inr ⟨g, cap, cur, rfl, Nat.le_trans e hb, rest⟩
end
end Go.Proofs.Ytdhblehhgpdpdaa
namespace Go.Proofs.Ytdhblehhgpdpdaa
open Go.RowKit
structure Lm where
 m : Ms
 ao : Option Addr
 cap : Nat
def lmV (c : Lm) : Value := .slice c.ao c.m.L.length c.cap
def msF (K F R : Int) (v : Value) (j : Nat) : Value := if j = 0 then iV K else if j = 1 then iV F else if j = 2 then iV R else v
def lmF (c : Lm) : Nat → Value := msF c.m.K c.m.F c.m.R (lmV c)
def LmRd (w : World) (ao : Option Addr) (L : List Lm) : Prop := 0 < L.length → ∃ b o, ao = some ⟨b, o, none⟩ ∧ ∀ i c, L[i]? = some c → ∀ k, k < 4 → w.cell? ⟨b, o + i * 4 + k, none⟩ = some (lmF c k)
def gL (l : List Int) (i : Nat) : Int := l.getD i 0
def LvRd (w : World) (c : Lm) : Prop := Sr w c.ao c.m.L.length c.cap (iF (gL c.m.L)) ∧ c.m.L.length ≤ c.cap ∧ c.m.L.length ≤ 17592186044404
def MRd (w : World) (ao : Option Addr) (L : List Lm) : Prop := LmRd w ao L ∧ ∀ c, c ∈ L → LvRd w c
theorem LmRd.below {w w' : World} {ao : Option Addr} {L : List Lm} (h : LmRd w ao L) (k : Below w.heap.size w w') : LmRd w' ao L := fun hl => by
 obtain ⟨b, o, e, hc⟩ := h hl
 exact ⟨b, o, e, fun i c hi j hj => at_below (hc i c hi j hj) k⟩
theorem LvRd.below {w w' : World} {c : Lm} (h : LvRd w c) (k : Below w.heap.size w w') : LvRd w' c := ⟨h.1.below k, h.2⟩
theorem MRd.below {w w' : World} {ao : Option Addr} {L : List Lm} (h : MRd w ao L) (k : Below w.heap.size w w') : MRd w' ao L := ⟨h.1.below k, fun c hc => (h.2 c hc).below k⟩
end Go.Proofs.Ytdhblehhgpdpdaa
namespace Go.Proofs.Ytdhblehhgpdpdaa
open Go.RowKit
end Go.Proofs.Ytdhblehhgpdpdaa
namespace Go.Proofs.Ytdhblehhgpdpdaa
open Go.RowKit
def bA (n : Nd) (i : Nat) : Bool := n.vA.getD i false
theorem stP_all (g : Nat → Value) (h : Nat → Value) : ∀ j, j < 74 → stP g 0 74 h j = h j := fun j hj => by
 have := stP_in g (o := 0) (n := 74) h hj
 rwa [Nat.zero_add] at this
end Go.Proofs.Ytdhblehhgpdpdaa
