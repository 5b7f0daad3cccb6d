/- Joined: NodOps, RowOwn, NodMsg, RefNod2, RefNod1. -/
import Derived.Test.YtngmeaaglogieabGreatNodMem
import Derived.Test.YtngmeaaglogieabGreatVotOps
import Derived.Test.YtngmeaaglogieabGreatRowBase
namespace Go.Proofs.YtngmeaaglogieabGreat
open Go.RowKit

section
variable {f : Operand → Value} {o : Oper} {x : Operand} {b off : Nat}
theorem fldNd0 (ho : o.op = .fieldAddr 37 x 0) (hx : f x = .pointer (some ⟨b, off, none⟩)) (w : World) : (execOp f o).run Tryz.prog w = .ok (.value (.pointer (some ⟨b, off + 0, none⟩))) w := by
  unfold execOp
  rw [ho]
  dsimp only
  rw [hx]
  go_simp
theorem fldNd1 (ho : o.op = .fieldAddr 37 x 1) (hx : f x = .pointer (some ⟨b, off, none⟩)) (w : World) : (execOp f o).run Tryz.prog w = .ok (.value (.pointer (some ⟨b, off + 1, none⟩))) w := by
  unfold execOp
  rw [ho]
  dsimp only
  rw [hx]
  go_simp
theorem fldNd2 (ho : o.op = .fieldAddr 37 x 2) (hx : f x = .pointer (some ⟨b, off, none⟩)) (w : World) : (execOp f o).run Tryz.prog w = .ok (.value (.pointer (some ⟨b, off + 2, none⟩))) w := by
  unfold execOp
  rw [ho]
  dsimp only
  rw [hx]
  go_simp
theorem fldNd3 (ho : o.op = .fieldAddr 37 x 3) (hx : f x = .pointer (some ⟨b, off, none⟩)) (w : World) : (execOp f o).run Tryz.prog w = .ok (.value (.pointer (some ⟨b, off + 6, none⟩))) w := by
  unfold execOp
  rw [ho]
  dsimp only
  rw [hx]
  go_simp
theorem fldNd4 (ho : o.op = .fieldAddr 37 x 4) (hx : f x = .pointer (some ⟨b, off, none⟩)) (w : World) : (execOp f o).run Tryz.prog w = .ok (.value (.pointer (some ⟨b, off + 27, none⟩))) w := by
  unfold execOp
  rw [ho]
  dsimp only
  rw [hx]
  go_simp
theorem fldNd5 (ho : o.op = .fieldAddr 37 x 5) (hx : f x = .pointer (some ⟨b, off, none⟩)) (w : World) : (execOp f o).run Tryz.prog w = .ok (.value (.pointer (some ⟨b, off + 39, none⟩))) w := by
  unfold execOp
  rw [ho]
  dsimp only
  rw [hx]
  go_simp
theorem fldNd6 (ho : o.op = .fieldAddr 37 x 6) (hx : f x = .pointer (some ⟨b, off, none⟩)) (w : World) : (execOp f o).run Tryz.prog w = .ok (.value (.pointer (some ⟨b, off + 51, none⟩))) w := by
  unfold execOp
  rw [ho]
  dsimp only
  rw [hx]
  go_simp
theorem fldNd7 (ho : o.op = .fieldAddr 37 x 7) (hx : f x = .pointer (some ⟨b, off, none⟩)) (w : World) : (execOp f o).run Tryz.prog w = .ok (.value (.pointer (some ⟨b, off + 55, none⟩))) w := by
  unfold execOp
  rw [ho]
  dsimp only
  rw [hx]
  go_simp
theorem fldNd8 (ho : o.op = .fieldAddr 37 x 8) (hx : f x = .pointer (some ⟨b, off, none⟩)) (w : World) : (execOp f o).run Tryz.prog w = .ok (.value (.pointer (some ⟨b, off + 67, none⟩))) w := by
  unfold execOp
  rw [ho]
  dsimp only
  rw [hx]
  go_simp
theorem fldNd9 (ho : o.op = .fieldAddr 37 x 9) (hx : f x = .pointer (some ⟨b, off, none⟩)) (w : World) : (execOp f o).run Tryz.prog w = .ok (.value (.pointer (some ⟨b, off + 70, none⟩))) w := by
  unfold execOp
  rw [ho]
  dsimp only
  rw [hx]
  go_simp
theorem fldNd10 (ho : o.op = .fieldAddr 37 x 10) (hx : f x = .pointer (some ⟨b, off, none⟩)) (w : World) : (execOp f o).run Tryz.prog w = .ok (.value (.pointer (some ⟨b, off + 71, none⟩))) w := by
  unfold execOp
  rw [ho]
  dsimp only
  rw [hx]
  go_simp
theorem fldMs0 (ho : o.op = .fieldAddr 41 x 0) (hx : f x = .pointer (some ⟨b, off, none⟩)) (w : World) : (execOp f o).run Tryz.prog w = .ok (.value (.pointer (some ⟨b, off + 0, none⟩))) w := by
  unfold execOp
  rw [ho]
  dsimp only
  rw [hx]
  go_simp
theorem fldMs1 (ho : o.op = .fieldAddr 41 x 1) (hx : f x = .pointer (some ⟨b, off, none⟩)) (w : World) : (execOp f o).run Tryz.prog w = .ok (.value (.pointer (some ⟨b, off + 1, none⟩))) w := by
  unfold execOp
  rw [ho]
  dsimp only
  rw [hx]
  go_simp
theorem fldMs2 (ho : o.op = .fieldAddr 41 x 2) (hx : f x = .pointer (some ⟨b, off, none⟩)) (w : World) : (execOp f o).run Tryz.prog w = .ok (.value (.pointer (some ⟨b, off + 2, none⟩))) w := by
  unfold execOp
  rw [ho]
  dsimp only
  rw [hx]
  go_simp
theorem fldMs3 (ho : o.op = .fieldAddr 41 x 3) (hx : f x = .pointer (some ⟨b, off, none⟩)) (w : World) : (execOp f o).run Tryz.prog w = .ok (.value (.pointer (some ⟨b, off + 3, none⟩))) w := by
  unfold execOp
  rw [ho]
  dsimp only
  rw [hx]
  go_simp
theorem fldVd0 (ho : o.op = .fieldAddr 35 x 0) (hx : f x = .pointer (some ⟨b, off, none⟩)) (w : World) : (execOp f o).run Tryz.prog w = .ok (.value (.pointer (some ⟨b, off + 0, none⟩))) w := by
  unfold execOp
  rw [ho]
  dsimp only
  rw [hx]
  go_simp
theorem fldVd1 (ho : o.op = .fieldAddr 35 x 1) (hx : f x = .pointer (some ⟨b, off, none⟩)) (w : World) : (execOp f o).run Tryz.prog w = .ok (.value (.pointer (some ⟨b, off + 1, none⟩))) w := by
  unfold execOp
  rw [ho]
  dsimp only
  rw [hx]
  go_simp
theorem fldVd2 (ho : o.op = .fieldAddr 35 x 2) (hx : f x = .pointer (some ⟨b, off, none⟩)) (w : World) : (execOp f o).run Tryz.prog w = .ok (.value (.pointer (some ⟨b, off + 2, none⟩))) w := by
  unfold execOp
  rw [ho]
  dsimp only
  rw [hx]
  go_simp
theorem fldRl0 (ho : o.op = .fieldAddr 30 x 0) (hx : f x = .pointer (some ⟨b, off, none⟩)) (w : World) : (execOp f o).run Tryz.prog w = .ok (.value (.pointer (some ⟨b, off + 0, none⟩))) w := by
  unfold execOp
  rw [ho]
  dsimp only
  rw [hx]
  go_simp
theorem fldRl1 (ho : o.op = .fieldAddr 30 x 1) (hx : f x = .pointer (some ⟨b, off, none⟩)) (w : World) : (execOp f o).run Tryz.prog w = .ok (.value (.pointer (some ⟨b, off + 4, none⟩))) w := by
  unfold execOp
  rw [ho]
  dsimp only
  rw [hx]
  go_simp
theorem fldRl2 (ho : o.op = .fieldAddr 30 x 2) (hx : f x = .pointer (some ⟨b, off, none⟩)) (w : World) : (execOp f o).run Tryz.prog w = .ok (.value (.pointer (some ⟨b, off + 8, none⟩))) w := by
  unfold execOp
  rw [ho]
  dsimp only
  rw [hx]
  go_simp
theorem fldSt0 (ho : o.op = .fieldAddr 25 x 0) (hx : f x = .pointer (some ⟨b, off, none⟩)) (w : World) : (execOp f o).run Tryz.prog w = .ok (.value (.pointer (some ⟨b, off + 0, none⟩))) w := by
  unfold execOp
  rw [ho]
  dsimp only
  rw [hx]
  go_simp
theorem fldSt1 (ho : o.op = .fieldAddr 25 x 1) (hx : f x = .pointer (some ⟨b, off, none⟩)) (w : World) : (execOp f o).run Tryz.prog w = .ok (.value (.pointer (some ⟨b, off + 1, none⟩))) w := by
  unfold execOp
  rw [ho]
  dsimp only
  rw [hx]
  go_simp
theorem fldSt2 (ho : o.op = .fieldAddr 25 x 2) (hx : f x = .pointer (some ⟨b, off, none⟩)) (w : World) : (execOp f o).run Tryz.prog w = .ok (.value (.pointer (some ⟨b, off + 2, none⟩))) w := by
  unfold execOp
  rw [ho]
  dsimp only
  rw [hx]
  go_simp
theorem fldSt3 (ho : o.op = .fieldAddr 25 x 3) (hx : f x = .pointer (some ⟨b, off, none⟩)) (w : World) : (execOp f o).run Tryz.prog w = .ok (.value (.pointer (some ⟨b, off + 3, none⟩))) w := by
  unfold execOp
  rw [ho]
  dsimp only
  rw [hx]
  go_simp
theorem fldSt4 (ho : o.op = .fieldAddr 25 x 4) (hx : f x = .pointer (some ⟨b, off, none⟩)) (w : World) : (execOp f o).run Tryz.prog w = .ok (.value (.pointer (some ⟨b, off + 4, none⟩))) w := by
  unfold execOp
  rw [ho]
  dsimp only
  rw [hx]
  go_simp
theorem fldSt5 (ho : o.op = .fieldAddr 25 x 5) (hx : f x = .pointer (some ⟨b, off, none⟩)) (w : World) : (execOp f o).run Tryz.prog w = .ok (.value (.pointer (some ⟨b, off + 5, none⟩))) w := by
  unfold execOp
  rw [ho]
  dsimp only
  rw [hx]
  go_simp
theorem fldSt6 (ho : o.op = .fieldAddr 25 x 6) (hx : f x = .pointer (some ⟨b, off, none⟩)) (w : World) : (execOp f o).run Tryz.prog w = .ok (.value (.pointer (some ⟨b, off + 6, none⟩))) w := by
  unfold execOp
  rw [ho]
  dsimp only
  rw [hx]
  go_simp
theorem fldTn0 (ho : o.op = .fieldAddr 23 x 0) (hx : f x = .pointer (some ⟨b, off, none⟩)) (w : World) : (execOp f o).run Tryz.prog w = .ok (.value (.pointer (some ⟨b, off + 0, none⟩))) w := by
  unfold execOp
  rw [ho]
  dsimp only
  rw [hx]
  go_simp
theorem fldTn1 (ho : o.op = .fieldAddr 23 x 1) (hx : f x = .pointer (some ⟨b, off, none⟩)) (w : World) : (execOp f o).run Tryz.prog w = .ok (.value (.pointer (some ⟨b, off + 1, none⟩))) w := by
  unfold execOp
  rw [ho]
  dsimp only
  rw [hx]
  go_simp
theorem fldTn2 (ho : o.op = .fieldAddr 23 x 2) (hx : f x = .pointer (some ⟨b, off, none⟩)) (w : World) : (execOp f o).run Tryz.prog w = .ok (.value (.pointer (some ⟨b, off + 2, none⟩))) w := by
  unfold execOp
  rw [ho]
  dsimp only
  rw [hx]
  go_simp
theorem fldTn3 (ho : o.op = .fieldAddr 23 x 3) (hx : f x = .pointer (some ⟨b, off, none⟩)) (w : World) : (execOp f o).run Tryz.prog w = .ok (.value (.pointer (some ⟨b, off + 3, none⟩))) w := by
  unfold execOp
  rw [ho]
  dsimp only
  rw [hx]
  go_simp
theorem run_addI (x y : Operand) (ho : o.op = .binOp .add 3 x y 3) {u v : Int} (hx : f x = .int .i64 u) (hy : f y = .int .i64 v) (h1 : -9223372036854775808 ≤ u + v) (h2 : u + v ≤ 9223372036854775807) (w : World) : (execOp f o).run Tryz.prog w = .ok (.value (.int .i64 (u + v))) w := by
  unfold execOp
  rw [ho]
  dsimp only
  rw [hx, hy]
  go_simp
  rw [IntKind.wrap_i64]
  omega
theorem run_subI (x y : Operand) (ho : o.op = .binOp .sub 3 x y 3) {u v : Int} (hx : f x = .int .i64 u) (hy : f y = .int .i64 v) (h1 : -9223372036854775808 ≤ u - v) (h2 : u - v ≤ 9223372036854775807) (w : World) : (execOp f o).run Tryz.prog w = .ok (.value (.int .i64 (u - v))) w := by
  unfold execOp
  rw [ho]
  dsimp only
  rw [hx, hy]
  go_simp
  rw [IntKind.wrap_i64]
  omega
theorem run_lssI {b : Bool} (x y : Operand) (ho : o.op = .binOp .lss 3 x y 3) {u v : Int} (hx : f x = .int .i64 u) (hy : f y = .int .i64 v) (hb : decide (u < v) = b) (w : World) : (execOp f o).run Tryz.prog w = .ok (.value (.bool b)) w := by
  subst hb
  unfold execOp
  rw [ho]
  dsimp only
  rw [hx, hy]
  go_simp
theorem run_gtrI {b : Bool} (x y : Operand) (ho : o.op = .binOp .gtr 3 x y 3) {u v : Int} (hx : f x = .int .i64 u) (hy : f y = .int .i64 v) (hb : decide (v < u) = b) (w : World) : (execOp f o).run Tryz.prog w = .ok (.value (.bool b)) w := by
  subst hb
  unfold execOp
  rw [ho]
  dsimp only
  rw [hx, hy]
  go_simp
theorem run_eqlI {b : Bool} (x y : Operand) (ho : o.op = .binOp .eql 3 x y 3) {u v : Int} (hx : f x = .int .i64 u) (hy : f y = .int .i64 v) (hb : decide (u = v) = b) (w : World) : (execOp f o).run Tryz.prog w = .ok (.value (.bool b)) w := by
  have e : (u == v) = b := by rw [← hb, Bool.eq_iff_iff]; simp
  unfold execOp
  rw [ho]
  dsimp only
  rw [hx, hy]
  go_simp
theorem run_neqI {b : Bool} (x y : Operand) (ho : o.op = .binOp .neq 3 x y 3) {u v : Int} (hx : f x = .int .i64 u) (hy : f y = .int .i64 v) (hb : decide (u ≠ v) = b) (w : World) : (execOp f o).run Tryz.prog w = .ok (.value (.bool b)) w := by
  have e : (u != v) = b := by rw [← hb, Bool.eq_iff_iff]; simp
  unfold execOp
  rw [ho]
  dsimp only
  rw [hx, hy]
  go_simp
end
theorem zeroNd (w : World) : (zeroValue 37).run Tryz.prog w = .ok (agV (ndF zeroN (.slice none 0 0)) 0 74) w := by
  obtain ⟨z, e⟩ : ∃ z, z = agV (ndF zeroN (.slice none 0 0)) 0 74 := ⟨_, rfl⟩
  have h : ∀ w, (zeroValue 37).run Tryz.prog w = .ok z w := fun w => by rw [e]; kernel_rfl
  rw [h w, e]

end Go.Proofs.YtngmeaaglogieabGreat

namespace Go.Proofs.YtngmeaaglogieabGreat
open Go.RowKit

section
variable {t : TypeId} {B s n z : Nat} {w w' : World} {v : Value} {xs : List Value} {r : Option Nat}
theorem rw_below (h : w.ownsRow B t s v n xs) (k : Below w.heap.size w w') : w'.ownsRow B t s v n xs := by
  refine ⟨h.1, ?_⟩
  rcases h.2 with hn | ⟨g, cap, cur, rfl, hb, hgg, rest⟩
  · exact .inl hn
  · exact .inr ⟨g, cap, cur, rfl, hb, (k.block g (lt_of_block hgg)).trans hgg, rest⟩
theorem rw_kept (h : w.ownsRow B t s v n xs) (k : Kept z w w') (hz : v.ownBlock ≠ some z) : w'.ownsRow B t s v n xs := by
  refine ⟨h.1, ?_⟩
  rcases h.2 with hn | ⟨g, cap, cur, rfl, hb, hgg, rest⟩
  · exact .inl hn
  · exact .inr ⟨g, cap, cur, rfl, hb, (k.block g (lt_of_block hgg) (fun e => hz (by rw [← e]; rfl))).trans hgg, rest⟩
theorem rw_under (h : w.ownsRow B t s v n xs) (k : Kept z w w') (hz : z < B) : w'.ownsRow B t s v n xs := rw_kept h k (fun e => by have := (h.lt z e).1; omega)
theorem rw_grown (h : w.ownsRow B t s v n xs) (k : w.grownBy w' r) (hr : ∀ b, v.ownBlock = some b → r ≠ some b) : w'.ownsRow B t s v n xs := by
  refine ⟨h.1, ?_⟩
  rcases h.2 with hn | ⟨g, cap, cur, rfl, hb, hgg, rest⟩
  · exact .inl hn
  · exact .inr ⟨g, cap, cur, rfl, hb, (k.block g (lt_of_block hgg) (fun e => hr g rfl e.symm)).trans hgg, rest⟩
theorem rw_base {C : Nat} (h : w.ownsRow B t s v n xs) (e : C ≤ B) : w.ownsRow C t s v n xs := by
  refine ⟨h.1, ?_⟩
  rcases h.2 with hn | ⟨g, cap, cur, rfl, hb, rest⟩
  · exact .inl hn
  · exact .inr ⟨g, cap, cur, rfl, Nat.le_trans e hb, rest⟩
theorem rw_slice (h : w.ownsRow B t s v n xs) : ∃ ao cap, v = .slice ao n cap ∧ n ≤ cap := by
  rcases h.2 with ⟨rfl, h0⟩ | ⟨g, cap, cur, rfl, _, _, hc, _⟩
  · exact ⟨none, 0, by rw [h0], by omega⟩
  · exact ⟨_, cap, rfl, hc⟩
end
theorem rw_low {t : TypeId} {A B s n : Nat} {w w' : World} {v : Value} {xs : List Value} (h : w.ownsRow A t s v n xs) (k : Below B w w') (hb : ∀ b, v.ownBlock = some b → b < B) : w'.ownsRow A t s v n xs := by
  refine ⟨h.1, ?_⟩
  rcases h.2 with hn | ⟨g, cap, cur, rfl, hg, hgg, rest⟩
  · exact .inl hn
  · exact .inr ⟨g, cap, cur, rfl, hg, (k.block g (hb g rfl)).trans hgg, rest⟩

end Go.Proofs.YtngmeaaglogieabGreat

namespace Go.Proofs.YtngmeaaglogieabGreat
open Go.RowKit

/-- A message, and where its numbers lie. -/
structure Lm where
  m : Ms
  ao : Option Addr
  cap : Nat
def lmV (c : Lm) : Value := .slice c.ao c.m.L.length c.cap
def msF (K F R : Int) (v : Value) (j : Nat) : Value := if j = 0 then iV K else if j = 1 then iV F else if j = 2 then iV R else v
def lmF (c : Lm) : Nat → Value := msF c.m.K c.m.F c.m.R (lmV c)
/-- A list of messages in memory. -/
def LmRd (w : World) (ao : Option Addr) (L : List Lm) : Prop := 0 < L.length → ∃ b o, ao = some ⟨b, o, none⟩ ∧ ∀ i c, L[i]? = some c → ∀ k, k < 4 → w.cell? ⟨b, o + i * 4 + k, none⟩ = some (lmF c k)
def gL (l : List Int) (i : Nat) : Int := l.getD i 0
/-- Its numbers. -/
def LvRd (w : World) (c : Lm) : Prop := Sr w c.ao c.m.L.length c.cap (iF (gL c.m.L)) ∧ c.m.L.length ≤ c.cap ∧ c.m.L.length ≤ 17592186044404
def MRd (w : World) (ao : Option Addr) (L : List Lm) : Prop := LmRd w ao L ∧ ∀ c, c ∈ L → LvRd w c
theorem LmRd.below {w w' : World} {ao : Option Addr} {L : List Lm} (h : LmRd w ao L) (k : Below w.heap.size w w') : LmRd w' ao L := fun hl => by
  obtain ⟨b, o, e, hc⟩ := h hl
  exact ⟨b, o, e, fun i c hi j hj => at_below (hc i c hi j hj) k⟩
theorem LvRd.below {w w' : World} {c : Lm} (h : LvRd w c) (k : Below w.heap.size w w') : LvRd w' c := ⟨h.1.below k, h.2⟩
theorem MRd.below {w w' : World} {ao : Option Addr} {L : List Lm} (h : MRd w ao L) (k : Below w.heap.size w w') : MRd w' ao L := ⟨h.1.below k, fun c hc => (h.2 c hc).below k⟩
/-- Does a message fit? The first that does. -/
def fitB (id fr : Int) (s kind : Int) (many : Int) (m : Ms) : Bool := decide (m.F = s) && decide (m.F ≠ id) && decide (m.K = kind) && decide (m.R = fr) && decide ((m.L.length : Int) = many)
def fL (id fr : Int) (L : List Lm) (s kind many : Int) : Option Lm := L.find? fun c => fitB id fr s kind many c.m
theorem fL_frst (n : Nd) (L : List Lm) (s : Nat) (kind : Int) (many : Nat) : (fL n.id n.fr L s kind many).map (fun c => c.m.L) = frst n (L.map Lm.m) s kind many := by
  unfold fL frst
  induction L with
  | nil => rfl
  | cons c L ih =>
    rw [List.map_cons, List.find?_cons, List.find?_cons]
    have e : fitB n.id n.fr s kind many c.m = (decide (c.m.F = (s : Int)) && decide (c.m.F ≠ n.id) && decide (c.m.K = kind) && decide (c.m.R = n.fr) && decide (c.m.L.length = many)) := by
      unfold fitB
      congr 1
      exact decide_eq_decide.2 (by omega)
    rw [e]
    split
    · rfl
    · exact ih
/-- One message of a row read. -/
theorem run_ixM {f : Operand → Value} {o : Oper} (x y : Operand) (ho : o.op = .indexAddr 38 x y) {b off n cap i : Nat} {z : Int} (hx : f x = .slice (some ⟨b, off, none⟩) n cap) (hy : f y = .int .i64 z) (hz : z = (i : Int)) (hi : i < n) (w : World) :
    (execOp f o).run Tryz.prog w = .ok (.value (.pointer (some ⟨b, off + i * 4, none⟩))) w := by
  subst hz
  have hi2 : (i : Int) < n := by omega
  unfold execOp
  rw [ho]
  dsimp only
  rw [hx, hy]
  go_simp
theorem run_lodM {f : Operand → Value} {o : Oper} (x : Operand) (ho : o.op = .load 41 x) {b off : Nat} {c : Lm} (hx : f x = .pointer (some ⟨b, off, none⟩)) {w : World} (hc : ∀ k, k < 4 → w.cell? ⟨b, off + k, none⟩ = some (lmF c k)) :
    (execOp f o).run Tryz.prog w = .ok (.value (agV (lmF c) 0 4)) w := by
  have hl : (loadCells ⟨b, off, none⟩ 4).run Tryz.prog w = .ok ((List.range 4).map fun j => lmF c (0 + j)).toArray w :=
    run_loadCells w ⟨b, off, none⟩ 4 (fun j => lmF c (0 + j)) (fun j hj => by rw [add_at, Nat.zero_add]; exact hc j hj)
  unfold execOp
  simp only [ho, hx, Instr.loadAt, Instr.sureAddr, loadVar, Sem.run_bind, Sem.run_pure, Result.andThen_ok, manyMs.agg, manyMs.size, hl, if_true]
  rfl
theorem zeroMs (w : World) : (zeroValue 41).run Tryz.prog w = .ok (agV (msF 0 0 0 (.slice none 0 0)) 0 4) w := by kernel_rfl
theorem stP_all4 (g : Nat → Value) (h : Nat → Value) : ∀ j, j < 4 → stP g 0 4 h j = h j := fun j hj => by
  have := stP_in g (o := 0) (n := 4) h hj
  rwa [Nat.zero_add] at this
theorem lmF_one (c : Lm) : ∀ j, j < 4 → (lmF c j).oneCell' = true := by
  intro j _
  unfold lmF msF iV lmV
  repeat' split
  all_goals rfl
theorem run_lenI {f : Operand → Value} {o : Oper} (x : Operand) (ho : o.op = .call { callee := .builtin .len, args := #[x], argTypes := #[39] }) {ao : Option Addr} {n c : Nat} (hx : f x = .slice ao n c) (w : World) : (execOp f o).run Tryz.prog w = .ok (.value (.int .i64 ((n : Nat) : Int))) w := by
  unfold execOp
  rw [ho]
  dsimp only
  go_simp
theorem run_lenM {f : Operand → Value} {o : Oper} (x : Operand) (ho : o.op = .call { callee := .builtin .len, args := #[x], argTypes := #[38] }) {ao : Option Addr} {n c : Nat} (hx : f x = .slice ao n c) (w : World) : (execOp f o).run Tryz.prog w = .ok (.value (.int .i64 ((n : Nat) : Int))) w := by
  unfold execOp
  rw [ho]
  dsimp only
  go_simp

end Go.Proofs.YtngmeaaglogieabGreat

namespace Go.Proofs.YtngmeaaglogieabGreat
open Go.RowKit

theorem fL_none {id fr s kind many : Int} {L : List Lm} (h : ∀ (j : Nat) (c : Lm), L[j]? = some c → fitB id fr s kind many c.m = false) : fL id fr L s kind many = none := by
  unfold fL
  rw [List.find?_eq_none]
  intro c hc
  obtain ⟨j, hj⟩ := List.getElem?_of_mem hc
  rw [h j c hj]; decide
theorem fL_some {id fr s kind many : Int} {L : List Lm} {i : Nat} {c : Lm} (hc : L[i]? = some c) (h : ∀ (j : Nat) (c : Lm), j < i → L[j]? = some c → fitB id fr s kind many c.m = false) (hy : fitB id fr s kind many c.m = true) : fL id fr L s kind many = some c := by
  unfold fL
  induction L generalizing i with
  | nil => simp at hc
  | cons x L ih =>
    rw [List.find?_cons]
    cases i with
    | zero => simp at hc; subst hc; rw [hy]
    | succ i =>
      rw [h 0 x (by omega) rfl]
      exact ih (by simpa using hc) (fun j c hj hjc => h (j + 1) c (by omega) (by simpa using hjc))
/-- What is handed back of it. -/
def fstV : Option Lm → Value
  | some c => .tuple #[lmV c, .bool true]
  | none => .tuple #[.slice none 0 0, .bool false]
end Go.Proofs.YtngmeaaglogieabGreat

namespace Go.Proofs.YtngmeaaglogieabGreat
open Go.RowKit

/-- Who agreed, of a verdict. -/
def bA (n : Nd) (i : Nat) : Bool := n.vA.getD i false
theorem stP_all (g : Nat → Value) (h : Nat → Value) : ∀ j, j < 74 → stP g 0 74 h j = h j := fun j hj => by
  have := stP_in g (o := 0) (n := 74) h hj
  rwa [Nat.zero_add] at this
end Go.Proofs.YtngmeaaglogieabGreat
