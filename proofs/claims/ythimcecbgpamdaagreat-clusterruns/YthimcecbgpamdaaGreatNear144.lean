/- Joined: NodOps, RowOwn, NodMsg, RefNod2, RefNod1, NodUpd, NodOK. -/
import Derived.Test.YthimcecbgpamdaaGreatNear171
import Derived.Test.YthimcecbgpamdaaGreatVotOps
import Derived.Test.YthimcecbgpamdaaGreatNear168
namespace Go.Proofs.YthimcecbgpamdaaGreat
open Go.RowKit

section
variable {f : Operand → Value} {o : Oper} {x : Operand} {b off : Nat}
theorem fldNd0 (ho : o.op = .fieldAddr 37 x 0) (hx : f x = .pointer (some ⟨b, off, none⟩)) (w : World) : (execOp f o).run Tryz.prog w = .ok (.value (.pointer (some ⟨b, off + 0, none⟩))) w := by
  unfold execOp
  rw [ho]
  dsimp only
  rw [hx]
  go_simp
theorem fldNd1 (ho : o.op = .fieldAddr 37 x 1) (hx : f x = .pointer (some ⟨b, off, none⟩)) (w : World) : (execOp f o).run Tryz.prog w = .ok (.value (.pointer (some ⟨b, off + 1, none⟩))) w := by
  unfold execOp
  rw [ho]
  dsimp only
  rw [hx]
  go_simp
theorem fldNd2 (ho : o.op = .fieldAddr 37 x 2) (hx : f x = .pointer (some ⟨b, off, none⟩)) (w : World) : (execOp f o).run Tryz.prog w = .ok (.value (.pointer (some ⟨b, off + 2, none⟩))) w := by
  unfold execOp
  rw [ho]
  dsimp only
  rw [hx]
  go_simp
theorem fldNd3 (ho : o.op = .fieldAddr 37 x 3) (hx : f x = .pointer (some ⟨b, off, none⟩)) (w : World) : (execOp f o).run Tryz.prog w = .ok (.value (.pointer (some ⟨b, off + 6, none⟩))) w := by
  unfold execOp
  rw [ho]
  dsimp only
  rw [hx]
  go_simp
theorem fldNd4 (ho : o.op = .fieldAddr 37 x 4) (hx : f x = .pointer (some ⟨b, off, none⟩)) (w : World) : (execOp f o).run Tryz.prog w = .ok (.value (.pointer (some ⟨b, off + 27, none⟩))) w := by
  unfold execOp
  rw [ho]
  dsimp only
  rw [hx]
  go_simp
theorem fldNd5 (ho : o.op = .fieldAddr 37 x 5) (hx : f x = .pointer (some ⟨b, off, none⟩)) (w : World) : (execOp f o).run Tryz.prog w = .ok (.value (.pointer (some ⟨b, off + 39, none⟩))) w := by
  unfold execOp
  rw [ho]
  dsimp only
  rw [hx]
  go_simp
theorem fldNd6 (ho : o.op = .fieldAddr 37 x 6) (hx : f x = .pointer (some ⟨b, off, none⟩)) (w : World) : (execOp f o).run Tryz.prog w = .ok (.value (.pointer (some ⟨b, off + 51, none⟩))) w := by
  unfold execOp
  rw [ho]
  dsimp only
  rw [hx]
  go_simp
theorem fldNd7 (ho : o.op = .fieldAddr 37 x 7) (hx : f x = .pointer (some ⟨b, off, none⟩)) (w : World) : (execOp f o).run Tryz.prog w = .ok (.value (.pointer (some ⟨b, off + 55, none⟩))) w := by
  unfold execOp
  rw [ho]
  dsimp only
  rw [hx]
  go_simp
theorem fldNd8 (ho : o.op = .fieldAddr 37 x 8) (hx : f x = .pointer (some ⟨b, off, none⟩)) (w : World) : (execOp f o).run Tryz.prog w = .ok (.value (.pointer (some ⟨b, off + 67, none⟩))) w := by
  unfold execOp
  rw [ho]
  dsimp only
  rw [hx]
  go_simp
theorem fldNd9 (ho : o.op = .fieldAddr 37 x 9) (hx : f x = .pointer (some ⟨b, off, none⟩)) (w : World) : (execOp f o).run Tryz.prog w = .ok (.value (.pointer (some ⟨b, off + 70, none⟩))) w := by
  unfold execOp
  rw [ho]
  dsimp only
  rw [hx]
  go_simp
theorem fldNd10 (ho : o.op = .fieldAddr 37 x 10) (hx : f x = .pointer (some ⟨b, off, none⟩)) (w : World) : (execOp f o).run Tryz.prog w = .ok (.value (.pointer (some ⟨b, off + 71, none⟩))) w := by
  unfold execOp
  rw [ho]
  dsimp only
  rw [hx]
  go_simp
theorem fldMs0 (ho : o.op = .fieldAddr 67 x 0) (hx : f x = .pointer (some ⟨b, off, none⟩)) (w : World) : (execOp f o).run Tryz.prog w = .ok (.value (.pointer (some ⟨b, off + 0, none⟩))) w := by
  unfold execOp
  rw [ho]
  dsimp only
  rw [hx]
  go_simp
theorem fldMs1 (ho : o.op = .fieldAddr 67 x 1) (hx : f x = .pointer (some ⟨b, off, none⟩)) (w : World) : (execOp f o).run Tryz.prog w = .ok (.value (.pointer (some ⟨b, off + 1, none⟩))) w := by
  unfold execOp
  rw [ho]
  dsimp only
  rw [hx]
  go_simp
theorem fldMs2 (ho : o.op = .fieldAddr 67 x 2) (hx : f x = .pointer (some ⟨b, off, none⟩)) (w : World) : (execOp f o).run Tryz.prog w = .ok (.value (.pointer (some ⟨b, off + 2, none⟩))) w := by
  unfold execOp
  rw [ho]
  dsimp only
  rw [hx]
  go_simp
theorem fldMs3 (ho : o.op = .fieldAddr 67 x 3) (hx : f x = .pointer (some ⟨b, off, none⟩)) (w : World) : (execOp f o).run Tryz.prog w = .ok (.value (.pointer (some ⟨b, off + 3, none⟩))) w := by
  unfold execOp
  rw [ho]
  dsimp only
  rw [hx]
  go_simp
theorem fldVd0 (ho : o.op = .fieldAddr 35 x 0) (hx : f x = .pointer (some ⟨b, off, none⟩)) (w : World) : (execOp f o).run Tryz.prog w = .ok (.value (.pointer (some ⟨b, off + 0, none⟩))) w := by
  unfold execOp
  rw [ho]
  dsimp only
  rw [hx]
  go_simp
theorem fldVd1 (ho : o.op = .fieldAddr 35 x 1) (hx : f x = .pointer (some ⟨b, off, none⟩)) (w : World) : (execOp f o).run Tryz.prog w = .ok (.value (.pointer (some ⟨b, off + 1, none⟩))) w := by
  unfold execOp
  rw [ho]
  dsimp only
  rw [hx]
  go_simp
theorem fldVd2 (ho : o.op = .fieldAddr 35 x 2) (hx : f x = .pointer (some ⟨b, off, none⟩)) (w : World) : (execOp f o).run Tryz.prog w = .ok (.value (.pointer (some ⟨b, off + 2, none⟩))) w := by
  unfold execOp
  rw [ho]
  dsimp only
  rw [hx]
  go_simp
theorem fldRl0 (ho : o.op = .fieldAddr 30 x 0) (hx : f x = .pointer (some ⟨b, off, none⟩)) (w : World) : (execOp f o).run Tryz.prog w = .ok (.value (.pointer (some ⟨b, off + 0, none⟩))) w := by
  unfold execOp
  rw [ho]
  dsimp only
  rw [hx]
  go_simp
theorem fldRl1 (ho : o.op = .fieldAddr 30 x 1) (hx : f x = .pointer (some ⟨b, off, none⟩)) (w : World) : (execOp f o).run Tryz.prog w = .ok (.value (.pointer (some ⟨b, off + 4, none⟩))) w := by
  unfold execOp
  rw [ho]
  dsimp only
  rw [hx]
  go_simp
theorem fldRl2 (ho : o.op = .fieldAddr 30 x 2) (hx : f x = .pointer (some ⟨b, off, none⟩)) (w : World) : (execOp f o).run Tryz.prog w = .ok (.value (.pointer (some ⟨b, off + 8, none⟩))) w := by
  unfold execOp
  rw [ho]
  dsimp only
  rw [hx]
  go_simp
theorem fldSt0 (ho : o.op = .fieldAddr 25 x 0) (hx : f x = .pointer (some ⟨b, off, none⟩)) (w : World) : (execOp f o).run Tryz.prog w = .ok (.value (.pointer (some ⟨b, off + 0, none⟩))) w := by
  unfold execOp
  rw [ho]
  dsimp only
  rw [hx]
  go_simp
theorem fldSt1 (ho : o.op = .fieldAddr 25 x 1) (hx : f x = .pointer (some ⟨b, off, none⟩)) (w : World) : (execOp f o).run Tryz.prog w = .ok (.value (.pointer (some ⟨b, off + 1, none⟩))) w := by
  unfold execOp
  rw [ho]
  dsimp only
  rw [hx]
  go_simp
theorem fldSt2 (ho : o.op = .fieldAddr 25 x 2) (hx : f x = .pointer (some ⟨b, off, none⟩)) (w : World) : (execOp f o).run Tryz.prog w = .ok (.value (.pointer (some ⟨b, off + 2, none⟩))) w := by
  unfold execOp
  rw [ho]
  dsimp only
  rw [hx]
  go_simp
theorem fldSt3 (ho : o.op = .fieldAddr 25 x 3) (hx : f x = .pointer (some ⟨b, off, none⟩)) (w : World) : (execOp f o).run Tryz.prog w = .ok (.value (.pointer (some ⟨b, off + 3, none⟩))) w := by
  unfold execOp
  rw [ho]
  dsimp only
  rw [hx]
  go_simp
theorem fldSt4 (ho : o.op = .fieldAddr 25 x 4) (hx : f x = .pointer (some ⟨b, off, none⟩)) (w : World) : (execOp f o).run Tryz.prog w = .ok (.value (.pointer (some ⟨b, off + 4, none⟩))) w := by
  unfold execOp
  rw [ho]
  dsimp only
  rw [hx]
  go_simp
theorem fldSt5 (ho : o.op = .fieldAddr 25 x 5) (hx : f x = .pointer (some ⟨b, off, none⟩)) (w : World) : (execOp f o).run Tryz.prog w = .ok (.value (.pointer (some ⟨b, off + 5, none⟩))) w := by
  unfold execOp
  rw [ho]
  dsimp only
  rw [hx]
  go_simp
theorem fldSt6 (ho : o.op = .fieldAddr 25 x 6) (hx : f x = .pointer (some ⟨b, off, none⟩)) (w : World) : (execOp f o).run Tryz.prog w = .ok (.value (.pointer (some ⟨b, off + 6, none⟩))) w := by
  unfold execOp
  rw [ho]
  dsimp only
  rw [hx]
  go_simp
theorem fldTn0 (ho : o.op = .fieldAddr 23 x 0) (hx : f x = .pointer (some ⟨b, off, none⟩)) (w : World) : (execOp f o).run Tryz.prog w = .ok (.value (.pointer (some ⟨b, off + 0, none⟩))) w := by
  unfold execOp
  rw [ho]
  dsimp only
  rw [hx]
  go_simp
theorem fldTn1 (ho : o.op = .fieldAddr 23 x 1) (hx : f x = .pointer (some ⟨b, off, none⟩)) (w : World) : (execOp f o).run Tryz.prog w = .ok (.value (.pointer (some ⟨b, off + 1, none⟩))) w := by
  unfold execOp
  rw [ho]
  dsimp only
  rw [hx]
  go_simp
theorem fldTn2 (ho : o.op = .fieldAddr 23 x 2) (hx : f x = .pointer (some ⟨b, off, none⟩)) (w : World) : (execOp f o).run Tryz.prog w = .ok (.value (.pointer (some ⟨b, off + 2, none⟩))) w := by
  unfold execOp
  rw [ho]
  dsimp only
  rw [hx]
  go_simp
theorem fldTn3 (ho : o.op = .fieldAddr 23 x 3) (hx : f x = .pointer (some ⟨b, off, none⟩)) (w : World) : (execOp f o).run Tryz.prog w = .ok (.value (.pointer (some ⟨b, off + 3, none⟩))) w := by
  unfold execOp
  rw [ho]
  dsimp only
  rw [hx]
  go_simp
theorem run_addI (x y : Operand) (ho : o.op = .binOp .add 3 x y 3) {u v : Int} (hx : f x = .int .i64 u) (hy : f y = .int .i64 v) (h1 : -9223372036854775808 ≤ u + v) (h2 : u + v ≤ 9223372036854775807) (w : World) : (execOp f o).run Tryz.prog w = .ok (.value (.int .i64 (u + v))) w := by
  unfold execOp
  rw [ho]
  dsimp only
  rw [hx, hy]
  go_simp
  rw [IntKind.wrap_i64]
  omega
theorem run_subI (x y : Operand) (ho : o.op = .binOp .sub 3 x y 3) {u v : Int} (hx : f x = .int .i64 u) (hy : f y = .int .i64 v) (h1 : -9223372036854775808 ≤ u - v) (h2 : u - v ≤ 9223372036854775807) (w : World) : (execOp f o).run Tryz.prog w = .ok (.value (.int .i64 (u - v))) w := by
  unfold execOp
  rw [ho]
  dsimp only
  rw [hx, hy]
  go_simp
  rw [IntKind.wrap_i64]
  omega
theorem run_lssI {b : Bool} (x y : Operand) (ho : o.op = .binOp .lss 3 x y 3) {u v : Int} (hx : f x = .int .i64 u) (hy : f y = .int .i64 v) (hb : decide (u < v) = b) (w : World) : (execOp f o).run Tryz.prog w = .ok (.value (.bool b)) w := by
  subst hb
  unfold execOp
  rw [ho]
  dsimp only
  rw [hx, hy]
  go_simp
theorem run_gtrI {b : Bool} (x y : Operand) (ho : o.op = .binOp .gtr 3 x y 3) {u v : Int} (hx : f x = .int .i64 u) (hy : f y = .int .i64 v) (hb : decide (v < u) = b) (w : World) : (execOp f o).run Tryz.prog w = .ok (.value (.bool b)) w := by
  subst hb
  unfold execOp
  rw [ho]
  dsimp only
  rw [hx, hy]
  go_simp
theorem run_eqlI {b : Bool} (x y : Operand) (ho : o.op = .binOp .eql 3 x y 3) {u v : Int} (hx : f x = .int .i64 u) (hy : f y = .int .i64 v) (hb : decide (u = v) = b) (w : World) : (execOp f o).run Tryz.prog w = .ok (.value (.bool b)) w := by
  have e : (u == v) = b := by rw [← hb, Bool.eq_iff_iff]; simp
  unfold execOp
  rw [ho]
  dsimp only
  rw [hx, hy]
  go_simp
theorem run_neqI {b : Bool} (x y : Operand) (ho : o.op = .binOp .neq 3 x y 3) {u v : Int} (hx : f x = .int .i64 u) (hy : f y = .int .i64 v) (hb : decide (u ≠ v) = b) (w : World) : (execOp f o).run Tryz.prog w = .ok (.value (.bool b)) w := by
  have e : (u != v) = b := by rw [← hb, Bool.eq_iff_iff]; simp
  unfold execOp
  rw [ho]
  dsimp only
  rw [hx, hy]
  go_simp
end
theorem zeroNd (w : World) : (zeroValue 37).run Tryz.prog w = .ok (agV (ndF zeroN (.slice none 0 0)) 0 74) w := by
  obtain ⟨z, e⟩ : ∃ z, z = agV (ndF zeroN (.slice none 0 0)) 0 74 := ⟨_, rfl⟩
  have h : ∀ w, (zeroValue 37).run Tryz.prog w = .ok z w := fun w => by rw [e]; kernel_rfl
  rw [h w, e]

end Go.Proofs.YthimcecbgpamdaaGreat

namespace Go.Proofs.YthimcecbgpamdaaGreat
open Go.RowKit

section
variable {t : TypeId} {B s n z : Nat} {w w' : World} {v : Value} {xs : List Value} {r : Option Nat}
theorem rw_below (h : w.ownsRow B t s v n xs) (k : Below w.heap.size w w') : w'.ownsRow B t s v n xs := by
  refine ⟨h.1, ?_⟩
  rcases h.2 with hn | ⟨g, cap, cur, rfl, hb, hgg, rest⟩
  · exact .inl hn
  · exact .inr ⟨g, cap, cur, rfl, hb, (k.block g (lt_of_block hgg)).trans hgg, rest⟩
theorem rw_kept (h : w.ownsRow B t s v n xs) (k : Kept z w w') (hz : v.ownBlock ≠ some z) : w'.ownsRow B t s v n xs := by
  refine ⟨h.1, ?_⟩
  rcases h.2 with hn | ⟨g, cap, cur, rfl, hb, hgg, rest⟩
  · exact .inl hn
  · exact .inr ⟨g, cap, cur, rfl, hb, (k.block g (lt_of_block hgg) (fun e => hz (by rw [← e]; rfl))).trans hgg, rest⟩
theorem rw_under (h : w.ownsRow B t s v n xs) (k : Kept z w w') (hz : z < B) : w'.ownsRow B t s v n xs := rw_kept h k (fun e => by have := (h.lt z e).1; omega)
theorem rw_grown (h : w.ownsRow B t s v n xs) (k : w.grownBy w' r) (hr : ∀ b, v.ownBlock = some b → r ≠ some b) : w'.ownsRow B t s v n xs := by
  refine ⟨h.1, ?_⟩
  rcases h.2 with hn | ⟨g, cap, cur, rfl, hb, hgg, rest⟩
  · exact .inl hn
  · exact .inr ⟨g, cap, cur, rfl, hb, (k.block g (lt_of_block hgg) (fun e => hr g rfl e.symm)).trans hgg, rest⟩
theorem rw_base {C : Nat} (h : w.ownsRow B t s v n xs) (e : C ≤ B) : w.ownsRow C t s v n xs := by
  refine ⟨h.1, ?_⟩
  rcases h.2 with hn | ⟨g, cap, cur, rfl, hb, rest⟩
  · exact .inl hn
  · exact .inr ⟨g, cap, cur, rfl, Nat.le_trans e hb, rest⟩
theorem rw_slice (h : w.ownsRow B t s v n xs) : ∃ ao cap, v = .slice ao n cap ∧ n ≤ cap := by
  rcases h.2 with ⟨rfl, h0⟩ | ⟨g, cap, cur, rfl, _, _, hc, _⟩
  · exact ⟨none, 0, by rw [h0], by omega⟩
  · exact ⟨_, cap, rfl, hc⟩
end
theorem rw_low {t : TypeId} {A B s n : Nat} {w w' : World} {v : Value} {xs : List Value} (h : w.ownsRow A t s v n xs) (k : Below B w w') (hb : ∀ b, v.ownBlock = some b → b < B) : w'.ownsRow A t s v n xs := by
  refine ⟨h.1, ?_⟩
  rcases h.2 with hn | ⟨g, cap, cur, rfl, hg, hgg, rest⟩
  · exact .inl hn
  · exact .inr ⟨g, cap, cur, rfl, hg, (k.block g (hb g rfl)).trans hgg, rest⟩

end Go.Proofs.YthimcecbgpamdaaGreat

namespace Go.Proofs.YthimcecbgpamdaaGreat
open Go.RowKit

/-- A message, and where its numbers lie. -/
structure Lm where
  m : Ms
  ao : Option Addr
  cap : Nat
def lmV (c : Lm) : Value := .slice c.ao c.m.L.length c.cap
def msF (K F R : Int) (v : Value) (j : Nat) : Value := if j = 0 then iV K else if j = 1 then iV F else if j = 2 then iV R else v
def lmF (c : Lm) : Nat → Value := msF c.m.K c.m.F c.m.R (lmV c)
/-- A list of messages in memory. -/
def LmRd (w : World) (ao : Option Addr) (L : List Lm) : Prop := 0 < L.length → ∃ b o, ao = some ⟨b, o, none⟩ ∧ ∀ i c, L[i]? = some c → ∀ k, k < 4 → w.cell? ⟨b, o + i * 4 + k, none⟩ = some (lmF c k)
def gL (l : List Int) (i : Nat) : Int := l.getD i 0
/-- Its numbers. -/
def LvRd (w : World) (c : Lm) : Prop := Sr w c.ao c.m.L.length c.cap (iF (gL c.m.L)) ∧ c.m.L.length ≤ c.cap ∧ c.m.L.length ≤ 17592186044404
def MRd (w : World) (ao : Option Addr) (L : List Lm) : Prop := LmRd w ao L ∧ ∀ c, c ∈ L → LvRd w c
theorem LmRd.below {w w' : World} {ao : Option Addr} {L : List Lm} (h : LmRd w ao L) (k : Below w.heap.size w w') : LmRd w' ao L := fun hl => by
  obtain ⟨b, o, e, hc⟩ := h hl
  exact ⟨b, o, e, fun i c hi j hj => at_below (hc i c hi j hj) k⟩
theorem LvRd.below {w w' : World} {c : Lm} (h : LvRd w c) (k : Below w.heap.size w w') : LvRd w' c := ⟨h.1.below k, h.2⟩
theorem MRd.below {w w' : World} {ao : Option Addr} {L : List Lm} (h : MRd w ao L) (k : Below w.heap.size w w') : MRd w' ao L := ⟨h.1.below k, fun c hc => (h.2 c hc).below k⟩
/-- Does a message fit? The first that does. -/
def fitB (id fr : Int) (s kind : Int) (many : Int) (m : Ms) : Bool := decide (m.F = s) && decide (m.F ≠ id) && decide (m.K = kind) && decide (m.R = fr) && decide ((m.L.length : Int) = many)
def fL (id fr : Int) (L : List Lm) (s kind many : Int) : Option Lm := L.find? fun c => fitB id fr s kind many c.m
theorem fL_frst (n : Nd) (L : List Lm) (s : Nat) (kind : Int) (many : Nat) : (fL n.id n.fr L s kind many).map (fun c => c.m.L) = frst n (L.map Lm.m) s kind many := by
  unfold fL frst
  induction L with
  | nil => rfl
  | cons c L ih =>
    rw [List.map_cons, List.find?_cons, List.find?_cons]
    have e : fitB n.id n.fr s kind many c.m = (decide (c.m.F = (s : Int)) && decide (c.m.F ≠ n.id) && decide (c.m.K = kind) && decide (c.m.R = n.fr) && decide (c.m.L.length = many)) := by
      unfold fitB
      congr 1
      exact decide_eq_decide.2 (by omega)
    rw [e]
    split
    · rfl
    · exact ih
/-- One message of a row read. -/
theorem run_ixM {f : Operand → Value} {o : Oper} (x y : Operand) (ho : o.op = .indexAddr 71 x y) {b off n cap i : Nat} {z : Int} (hx : f x = .slice (some ⟨b, off, none⟩) n cap) (hy : f y = .int .i64 z) (hz : z = (i : Int)) (hi : i < n) (w : World) :
    (execOp f o).run Tryz.prog w = .ok (.value (.pointer (some ⟨b, off + i * 4, none⟩))) w := by
  subst hz
  have hi2 : (i : Int) < n := by omega
  unfold execOp
  rw [ho]
  dsimp only
  rw [hx, hy]
  go_simp
theorem run_lodM {f : Operand → Value} {o : Oper} (x : Operand) (ho : o.op = .load 67 x) {b off : Nat} {c : Lm} (hx : f x = .pointer (some ⟨b, off, none⟩)) {w : World} (hc : ∀ k, k < 4 → w.cell? ⟨b, off + k, none⟩ = some (lmF c k)) :
    (execOp f o).run Tryz.prog w = .ok (.value (agV (lmF c) 0 4)) w := by
  have hl : (loadCells ⟨b, off, none⟩ 4).run Tryz.prog w = .ok ((List.range 4).map fun j => lmF c (0 + j)).toArray w :=
    run_loadCells w ⟨b, off, none⟩ 4 (fun j => lmF c (0 + j)) (fun j hj => by rw [add_at, Nat.zero_add]; exact hc j hj)
  unfold execOp
  simp only [ho, hx, Instr.loadAt, Instr.sureAddr, loadVar, Sem.run_bind, Sem.run_pure, Result.andThen_ok, manyMs.agg, manyMs.size, hl, if_true]
  rfl
theorem zeroMs (w : World) : (zeroValue 67).run Tryz.prog w = .ok (agV (msF 0 0 0 (.slice none 0 0)) 0 4) w := by kernel_rfl
theorem stP_all4 (g : Nat → Value) (h : Nat → Value) : ∀ j, j < 4 → stP g 0 4 h j = h j := fun j hj => by
  have := stP_in g (o := 0) (n := 4) h hj
  rwa [Nat.zero_add] at this
theorem lmF_one (c : Lm) : ∀ j, j < 4 → (lmF c j).oneCell' = true := by
  intro j _
  unfold lmF msF iV lmV
  repeat' split
  all_goals rfl
theorem run_lenI {f : Operand → Value} {o : Oper} (x : Operand) (ho : o.op = .call { callee := .builtin .len, args := #[x], argTypes := #[65] }) {ao : Option Addr} {n c : Nat} (hx : f x = .slice ao n c) (w : World) : (execOp f o).run Tryz.prog w = .ok (.value (.int .i64 ((n : Nat) : Int))) w := by
  unfold execOp
  rw [ho]
  dsimp only
  go_simp
theorem run_lenM {f : Operand → Value} {o : Oper} (x : Operand) (ho : o.op = .call { callee := .builtin .len, args := #[x], argTypes := #[71] }) {ao : Option Addr} {n c : Nat} (hx : f x = .slice ao n c) (w : World) : (execOp f o).run Tryz.prog w = .ok (.value (.int .i64 ((n : Nat) : Int))) w := by
  unfold execOp
  rw [ho]
  dsimp only
  go_simp

end Go.Proofs.YthimcecbgpamdaaGreat

namespace Go.Proofs.YthimcecbgpamdaaGreat
open Go.RowKit

theorem fL_none {id fr s kind many : Int} {L : List Lm} (h : ∀ (j : Nat) (c : Lm), L[j]? = some c → fitB id fr s kind many c.m = false) : fL id fr L s kind many = none := by
  unfold fL
  rw [List.find?_eq_none]
  intro c hc
  obtain ⟨j, hj⟩ := List.getElem?_of_mem hc
  rw [h j c hj]; decide
theorem fL_some {id fr s kind many : Int} {L : List Lm} {i : Nat} {c : Lm} (hc : L[i]? = some c) (h : ∀ (j : Nat) (c : Lm), j < i → L[j]? = some c → fitB id fr s kind many c.m = false) (hy : fitB id fr s kind many c.m = true) : fL id fr L s kind many = some c := by
  unfold fL
  induction L generalizing i with
  | nil => simp at hc
  | cons x L ih =>
    rw [List.find?_cons]
    cases i with
    | zero => simp at hc; subst hc; rw [hy]
    | succ i =>
      rw [h 0 x (by omega) rfl]
      exact ih (by simpa using hc) (fun j c hj hjc => h (j + 1) c (by omega) (by simpa using hjc))
/-- What is handed back of it. -/
def fstV : Option Lm → Value
  | some c => .tuple #[lmV c, .bool true]
  | none => .tuple #[.slice none 0 0, .bool false]
set_option maxHeartbeats 1000000 in
theorem refFirst_any (n : Nd) (v : Value) (ao : Option Addr) (cap : Nat) (L : List Lm) (s kind many : Int) (w : World) (hr : MRd w ao L) (hN : L.length ≤ 140737488351232) :
    Calls Tryz.prog 44 #[ndV n v, .slice ao L.length cap, .int .i64 s, .int .i64 kind, .int .i64 many] w fun e w' => e = .returned (fstV (fL n.id n.fr L s kind many)) ∧ Below w.heap.size w w' := by
  refine enterF Tryz.func44 rfl 54 rfl (of_decide_eq_true rfl) (fun A hs hd hb => ?_)
  have b0 := hb 0 _ rfl
  have b1 := hb 1 _ rfl
  have b2 := hb 2 _ rfl
  have b3 := hb 3 _ rfl
  have b4 := hb 4 _ rfl
  clear hb
  refine c_rs (m_start ?_)
  refine m_do rfl (wanted_rd rfl) (fun K hK => ?_)
  refine wp_boxG _ _ _ rfl (ev_out rfl b0) (of_decide_eq_true rfl) ?_
  intro w1 m1 k1 z1
  refine hK _ _ ?_
  clear hK K
  refine m_mv rfl (wanted_rd rfl) (run_assign _ rfl (ev_const _ _) _) ?_
  refine m_mv rfl (wanted_rd rfl) (run_assign _ rfl (ev_const _ _) _) ?_
  refine l_nx ?_
  refine c_nx ?_
  refine c_rs ?_
  refine m_mv rfl (wanted_rd rfl) (run_move _ rfl (ev_out rfl b1) _) ?_
  refine m_mv rfl (wanted_rd rfl) (run_lenM _ rfl (ev_in rfl (by omega)) _) ?_
  refine m_mv rfl (wanted_rd rfl) (run_move _ rfl (ev_const _ _) _) ?_
  refine l_nx ?_
  refine c_block ?_
  refine c_loop (fun r a W => ∃ i : Nat, i ≤ L.length ∧ L.length - i ≤ r ∧ a.tmps.size = 54 ∧ a.defers = [] ∧ a.eval (.tmp 2) = .int .i64 s ∧ a.eval (.tmp 3) = .int .i64 kind ∧ a.eval (.tmp 4) = .int .i64 many ∧ a.eval (.tmp 5) = .pointer (some ⟨w.heap.size, 0, none⟩) ∧ a.eval (.tmp 14) = .slice ao L.length cap ∧ a.eval (.tmp 15) = .int .i64 (L.length : Int) ∧ a.eval (.tmp 16) = .int .i64 (i : Int) ∧ (∀ j c, j < i → L[j]? = some c → fitB n.id n.fr s kind many c.m = false) ∧ Vh 37 W w.heap.size 74 74 (ndF n v) ∧ Below w.heap.size w W) L.length ⟨0, Nat.zero_le _, by omega, (szL _ _).trans hs, (defL _ _).trans hd, (ev_out rfl b2), (ev_out rfl b3), (ev_out rfl b4), (ev_in rfl (by omega)), (ev_in rfl (by omega)), (ev_in rfl (by omega)), (ev_in rfl (by omega)), fun j c h => absurd h (by omega), m1, k1⟩ (fun r B W hI => ?_)
  clear b0 b1 b2 b3 b4 hs hd m1
  obtain ⟨i, hi, hr2, hs, hd, b2, b3, b4, b5, b14, b15, b16, hne, mn, kB⟩ := hI
  have hW := mn.lt
  by_cases hin : i < L.length
  · have hc := List.getElem?_eq_getElem hin
    obtain ⟨c, ec⟩ : ∃ c, c = L[i] := ⟨_, rfl⟩
    rw [← ec] at hc
    obtain ⟨bl, of, rfl, hq⟩ := (hr.below kB).1 (by omega)
    have hcell := hq i c hc
    have w1 := W
    clear w1
    by_cases h1 : c.m.F = s
    · by_cases h2 : c.m.F ≠ n.id
      · by_cases h3 : c.m.K = kind
        · by_cases h4 : c.m.R = n.fr
          · by_cases h5 : (c.m.L.length : Int) = many
            · refine c_rs (m_start ?_)
              refine m_mv rfl (wanted_rd rfl) (run_lssI (b := true) _ _ rfl (ev_out rfl b16) (ev_out rfl b15) (decide_eq_true (by omega)) _) ?_
              refine l_nx ?_
              refine c_nx (c_true (ev_in rfl (by omega)) (c_fin ?_))
              refine c_nx (c_block ?_)
              refine c_rs ?_
              refine m_mv rfl (wanted_rd rfl) (run_ixM _ _ rfl (ev_out rfl b14) (ev_out rfl b16) rfl hin _) ?_
              refine m_mv rfl (wanted_rd rfl) (run_lodM _ rfl (ev_in rfl (by omega)) hcell) ?_
              refine m_do rfl (wanted_rd rfl) (fun K hK => ?_)
              refine wp_allocG _ _ rfl zeroMs (of_decide_eq_true rfl) ?_
              intro w2 m2 k2 z2
              have mn2 := mn.below k2
              refine hK _ _ ?_
              clear hK K
              refine m_st (wanted_rd rfl) (fun K hK => ?_)
              refine wp_storeP _ _ _ _ rfl manyMs (ev_in rfl (by omega)) (ev_in rfl (by omega)) m2 (by decide) (lmF_one _) rfl ?_
              intro w3 mm3 k3 z3
              have mm3 := Vh.congr mm3 (stP_all4 _ _)
              have mn3 := mn2.kept k3 (by omega)
              refine hK _ ?_
              clear hK K
              refine l_nx ?_
              refine c_rs ?_
              refine m_mv rfl (wanted_rd rfl) (fldMs1 rfl (ev_in rfl (by omega)) _) ?_
              refine m_mv rfl (wanted_rd rfl) (run_lod1 _ _ rfl oneI (ev_in rfl (by omega)) mm3 (by decide) rfl) ?_
              refine m_mv rfl (wanted_rd rfl) (run_move _ rfl (ev_out rfl b2) _) ?_
              refine m_mv rfl (wanted_rd rfl) (run_eqlI (b := true) _ _ rfl (ev_in rfl (by omega)) (ev_in rfl (by omega)) (decide_eq_true h1) _) ?_
              refine m_mv rfl (wanted_rd rfl) (run_move _ rfl (ev_in rfl (by omega)) _) ?_
              refine m_mv rfl (wanted_g (j := 4) rfl rfl rfl (ev_in rfl (by omega))) (fldMs1 rfl (ev_in rfl (by omega)) _) ?_
              refine m_mv rfl (wanted_g (j := 4) rfl rfl rfl (ev_in rfl (by omega))) (run_lod1 _ _ rfl oneI (ev_in rfl (by omega)) mm3 (by decide) rfl) ?_
              refine m_mv rfl (wanted_g (j := 4) rfl rfl rfl (ev_in rfl (by omega))) (fldNd0 rfl (ev_out rfl b5) _) ?_
              refine m_mv rfl (wanted_g (j := 4) rfl rfl rfl (ev_in rfl (by omega))) (run_lod1 _ _ rfl oneI (ev_in rfl (by omega)) mn3 (by decide) rfl) ?_
              refine m_mv rfl (wanted_g (j := 4) rfl rfl rfl (ev_in rfl (by omega))) (run_neqI (b := true) _ _ rfl (ev_in rfl (by omega)) (ev_in rfl (by omega)) (decide_eq_true h2) _) ?_
              refine m_mv rfl (wanted_rd rfl) (run_pickT' _ _ _ rfl (ev_in rfl (by omega)) (ev_in rfl (by omega)) _) ?_
              refine m_mv rfl (wanted_rd rfl) (run_move _ rfl (ev_in rfl (by omega)) _) ?_
              refine m_mv rfl (wanted_g (j := 11) rfl rfl rfl (ev_in rfl (by omega))) (fldMs0 rfl (ev_in rfl (by omega)) _) ?_
              refine m_mv rfl (wanted_g (j := 11) rfl rfl rfl (ev_in rfl (by omega))) (run_lod1 _ _ rfl oneI (ev_in rfl (by omega)) mm3 (by decide) rfl) ?_
              refine m_mv rfl (wanted_g (j := 11) rfl rfl rfl (ev_in rfl (by omega))) (run_move _ rfl (ev_out rfl b3) _) ?_
              refine m_mv rfl (wanted_g (j := 11) rfl rfl rfl (ev_in rfl (by omega))) (run_eqlI (b := true) _ _ rfl (ev_in rfl (by omega)) (ev_in rfl (by omega)) (decide_eq_true h3) _) ?_
              refine m_mv rfl (wanted_rd rfl) (run_pickT' _ _ _ rfl (ev_in rfl (by omega)) (ev_in rfl (by omega)) _) ?_
              refine m_mv rfl (wanted_rd rfl) (run_move _ rfl (ev_in rfl (by omega)) _) ?_
              refine m_mv rfl (wanted_g (j := 17) rfl rfl rfl (ev_in rfl (by omega))) (fldMs2 rfl (ev_in rfl (by omega)) _) ?_
              refine m_mv rfl (wanted_g (j := 17) rfl rfl rfl (ev_in rfl (by omega))) (run_lod1 _ _ rfl oneI (ev_in rfl (by omega)) mm3 (by decide) rfl) ?_
              refine m_mv rfl (wanted_g (j := 17) rfl rfl rfl (ev_in rfl (by omega))) (fldNd1 rfl (ev_out rfl b5) _) ?_
              refine m_mv rfl (wanted_g (j := 17) rfl rfl rfl (ev_in rfl (by omega))) (run_lod1 _ _ rfl oneI (ev_in rfl (by omega)) mn3 (by decide) rfl) ?_
              refine m_mv rfl (wanted_g (j := 17) rfl rfl rfl (ev_in rfl (by omega))) (run_eqlI (b := true) _ _ rfl (ev_in rfl (by omega)) (ev_in rfl (by omega)) (decide_eq_true h4) _) ?_
              refine m_mv rfl (wanted_rd rfl) (run_pickT' _ _ _ rfl (ev_in rfl (by omega)) (ev_in rfl (by omega)) _) ?_
              refine m_mv rfl (wanted_rd rfl) (run_move _ rfl (ev_in rfl (by omega)) _) ?_
              refine m_mv rfl (wanted_g (j := 24) rfl rfl rfl (ev_in rfl (by omega))) (fldMs3 rfl (ev_in rfl (by omega)) _) ?_
              refine m_mv rfl (wanted_g (j := 24) rfl rfl rfl (ev_in rfl (by omega))) (run_lod1 _ _ rfl oneIs (ev_in rfl (by omega)) mm3 (by decide) rfl) ?_
              refine m_mv rfl (wanted_g (j := 24) rfl rfl rfl (ev_in rfl (by omega))) (run_lenI _ rfl (ev_in rfl (by omega)) _) ?_
              refine m_mv rfl (wanted_g (j := 24) rfl rfl rfl (ev_in rfl (by omega))) (run_move _ rfl (ev_out rfl b4) _) ?_
              refine m_mv rfl (wanted_g (j := 24) rfl rfl rfl (ev_in rfl (by omega))) (run_eqlI (b := true) _ _ rfl (ev_in rfl (by omega)) (ev_in rfl (by omega)) (decide_eq_true h5) _) ?_
              refine m_mv rfl (wanted_rd rfl) (run_pickT' _ _ _ rfl (ev_in rfl (by omega)) (ev_in rfl (by omega)) _) ?_
              refine l_nx ?_
              refine c_true (ev_in rfl (by omega)) ?_
              refine c_rs ?_
              refine m_mv rfl (wanted_rd rfl) (fldMs3 rfl (ev_in rfl (by omega)) _) ?_
              refine m_mv rfl (wanted_rd rfl) (run_lod1 _ _ rfl oneIs (ev_in rfl (by omega)) mm3 (by decide) rfl) ?_
              refine m_mv rfl (wanted_rd rfl) (run_assign _ rfl (ev_in rfl (by omega)) _) ?_
              refine m_mv rfl (wanted_rd rfl) (run_assign _ rfl (ev_const _ _) _) ?_
              refine l_nx ?_
              refine c_ret ?_
              simp only [Nx, Exit.inBlock, Exit.then]
              refine ret_of ((defL _ _).trans hd) (res_tt rfl (ev_in rfl (by omega)) (ev_in rfl (by omega))) ⟨?_, below_of_kept (kB.trans (k2.mono kB.size)) k3 kB.size (Nat.le_trans kB.size k2.size)⟩
              rw [fL_some hc hne (by unfold fitB; rw [decide_eq_true h1, decide_eq_true h2, decide_eq_true h3, decide_eq_true h4, decide_eq_true h5]; rfl)]
              rfl
            · refine c_rs (m_start ?_)
              refine m_mv rfl (wanted_rd rfl) (run_lssI (b := true) _ _ rfl (ev_out rfl b16) (ev_out rfl b15) (decide_eq_true (by omega)) _) ?_
              refine l_nx ?_
              refine c_nx (c_true (ev_in rfl (by omega)) (c_fin ?_))
              refine c_nx (c_block ?_)
              refine c_rs ?_
              refine m_mv rfl (wanted_rd rfl) (run_ixM _ _ rfl (ev_out rfl b14) (ev_out rfl b16) rfl hin _) ?_
              refine m_mv rfl (wanted_rd rfl) (run_lodM _ rfl (ev_in rfl (by omega)) hcell) ?_
              refine m_do rfl (wanted_rd rfl) (fun K hK => ?_)
              refine wp_allocG _ _ rfl zeroMs (of_decide_eq_true rfl) ?_
              intro w2 m2 k2 z2
              have mn2 := mn.below k2
              refine hK _ _ ?_
              clear hK K
              refine m_st (wanted_rd rfl) (fun K hK => ?_)
              refine wp_storeP _ _ _ _ rfl manyMs (ev_in rfl (by omega)) (ev_in rfl (by omega)) m2 (by decide) (lmF_one _) rfl ?_
              intro w3 mm3 k3 z3
              have mm3 := Vh.congr mm3 (stP_all4 _ _)
              have mn3 := mn2.kept k3 (by omega)
              refine hK _ ?_
              clear hK K
              refine l_nx ?_
              refine c_rs ?_
              refine m_mv rfl (wanted_rd rfl) (fldMs1 rfl (ev_in rfl (by omega)) _) ?_
              refine m_mv rfl (wanted_rd rfl) (run_lod1 _ _ rfl oneI (ev_in rfl (by omega)) mm3 (by decide) rfl) ?_
              refine m_mv rfl (wanted_rd rfl) (run_move _ rfl (ev_out rfl b2) _) ?_
              refine m_mv rfl (wanted_rd rfl) (run_eqlI (b := true) _ _ rfl (ev_in rfl (by omega)) (ev_in rfl (by omega)) (decide_eq_true h1) _) ?_
              refine m_mv rfl (wanted_rd rfl) (run_move _ rfl (ev_in rfl (by omega)) _) ?_
              refine m_mv rfl (wanted_g (j := 4) rfl rfl rfl (ev_in rfl (by omega))) (fldMs1 rfl (ev_in rfl (by omega)) _) ?_
              refine m_mv rfl (wanted_g (j := 4) rfl rfl rfl (ev_in rfl (by omega))) (run_lod1 _ _ rfl oneI (ev_in rfl (by omega)) mm3 (by decide) rfl) ?_
              refine m_mv rfl (wanted_g (j := 4) rfl rfl rfl (ev_in rfl (by omega))) (fldNd0 rfl (ev_out rfl b5) _) ?_
              refine m_mv rfl (wanted_g (j := 4) rfl rfl rfl (ev_in rfl (by omega))) (run_lod1 _ _ rfl oneI (ev_in rfl (by omega)) mn3 (by decide) rfl) ?_
              refine m_mv rfl (wanted_g (j := 4) rfl rfl rfl (ev_in rfl (by omega))) (run_neqI (b := true) _ _ rfl (ev_in rfl (by omega)) (ev_in rfl (by omega)) (decide_eq_true h2) _) ?_
              refine m_mv rfl (wanted_rd rfl) (run_pickT' _ _ _ rfl (ev_in rfl (by omega)) (ev_in rfl (by omega)) _) ?_
              refine m_mv rfl (wanted_rd rfl) (run_move _ rfl (ev_in rfl (by omega)) _) ?_
              refine m_mv rfl (wanted_g (j := 11) rfl rfl rfl (ev_in rfl (by omega))) (fldMs0 rfl (ev_in rfl (by omega)) _) ?_
              refine m_mv rfl (wanted_g (j := 11) rfl rfl rfl (ev_in rfl (by omega))) (run_lod1 _ _ rfl oneI (ev_in rfl (by omega)) mm3 (by decide) rfl) ?_
              refine m_mv rfl (wanted_g (j := 11) rfl rfl rfl (ev_in rfl (by omega))) (run_move _ rfl (ev_out rfl b3) _) ?_
              refine m_mv rfl (wanted_g (j := 11) rfl rfl rfl (ev_in rfl (by omega))) (run_eqlI (b := true) _ _ rfl (ev_in rfl (by omega)) (ev_in rfl (by omega)) (decide_eq_true h3) _) ?_
              refine m_mv rfl (wanted_rd rfl) (run_pickT' _ _ _ rfl (ev_in rfl (by omega)) (ev_in rfl (by omega)) _) ?_
              refine m_mv rfl (wanted_rd rfl) (run_move _ rfl (ev_in rfl (by omega)) _) ?_
              refine m_mv rfl (wanted_g (j := 17) rfl rfl rfl (ev_in rfl (by omega))) (fldMs2 rfl (ev_in rfl (by omega)) _) ?_
              refine m_mv rfl (wanted_g (j := 17) rfl rfl rfl (ev_in rfl (by omega))) (run_lod1 _ _ rfl oneI (ev_in rfl (by omega)) mm3 (by decide) rfl) ?_
              refine m_mv rfl (wanted_g (j := 17) rfl rfl rfl (ev_in rfl (by omega))) (fldNd1 rfl (ev_out rfl b5) _) ?_
              refine m_mv rfl (wanted_g (j := 17) rfl rfl rfl (ev_in rfl (by omega))) (run_lod1 _ _ rfl oneI (ev_in rfl (by omega)) mn3 (by decide) rfl) ?_
              refine m_mv rfl (wanted_g (j := 17) rfl rfl rfl (ev_in rfl (by omega))) (run_eqlI (b := true) _ _ rfl (ev_in rfl (by omega)) (ev_in rfl (by omega)) (decide_eq_true h4) _) ?_
              refine m_mv rfl (wanted_rd rfl) (run_pickT' _ _ _ rfl (ev_in rfl (by omega)) (ev_in rfl (by omega)) _) ?_
              refine m_mv rfl (wanted_rd rfl) (run_move _ rfl (ev_in rfl (by omega)) _) ?_
              refine m_mv rfl (wanted_g (j := 24) rfl rfl rfl (ev_in rfl (by omega))) (fldMs3 rfl (ev_in rfl (by omega)) _) ?_
              refine m_mv rfl (wanted_g (j := 24) rfl rfl rfl (ev_in rfl (by omega))) (run_lod1 _ _ rfl oneIs (ev_in rfl (by omega)) mm3 (by decide) rfl) ?_
              refine m_mv rfl (wanted_g (j := 24) rfl rfl rfl (ev_in rfl (by omega))) (run_lenI _ rfl (ev_in rfl (by omega)) _) ?_
              refine m_mv rfl (wanted_g (j := 24) rfl rfl rfl (ev_in rfl (by omega))) (run_move _ rfl (ev_out rfl b4) _) ?_
              refine m_mv rfl (wanted_g (j := 24) rfl rfl rfl (ev_in rfl (by omega))) (run_eqlI (b := false) _ _ rfl (ev_in rfl (by omega)) (ev_in rfl (by omega)) (decide_eq_false h5) _) ?_
              refine m_mv rfl (wanted_rd rfl) (run_pickT' _ _ _ rfl (ev_in rfl (by omega)) (ev_in rfl (by omega)) _) ?_
              refine l_nx ?_
              refine c_false (ev_in rfl (by omega)) (c_finB ?_)
              refine c_region ?_
              refine m_mv rfl (wanted_rd rfl) (run_addI _ _ rfl (ev_out rfl b16) (ev_const _ _) (by omega) (by omega) _) ?_
              refine m_mv rfl (wanted_rd rfl) (run_move _ rfl (ev_in rfl (by omega)) _) ?_
              refine l_round ⟨L.length - (i + 1), by omega, i + 1, by omega, by omega, (szL _ _).trans hs, (defL _ _).trans hd, (ev_out rfl b2), (ev_out rfl b3), (ev_out rfl b4), (ev_out rfl b5), (ev_out rfl b14), (ev_out rfl b15), (ev_in rfl (by omega)).trans (by rw [Int.natCast_add]; rfl), ?_, mn3, below_of_kept (kB.trans (k2.mono kB.size)) k3 kB.size (Nat.le_trans kB.size k2.size)⟩
              exact fun j c' hj hc' => by
                by_cases e : j = i
                · subst e
                  rw [hc] at hc'
                  cases hc'
                  unfold fitB
                  rw [decide_eq_false h5]
                  simp
                · exact hne j c' (by omega) hc'
          · refine c_rs (m_start ?_)
            refine m_mv rfl (wanted_rd rfl) (run_lssI (b := true) _ _ rfl (ev_out rfl b16) (ev_out rfl b15) (decide_eq_true (by omega)) _) ?_
            refine l_nx ?_
            refine c_nx (c_true (ev_in rfl (by omega)) (c_fin ?_))
            refine c_nx (c_block ?_)
            refine c_rs ?_
            refine m_mv rfl (wanted_rd rfl) (run_ixM _ _ rfl (ev_out rfl b14) (ev_out rfl b16) rfl hin _) ?_
            refine m_mv rfl (wanted_rd rfl) (run_lodM _ rfl (ev_in rfl (by omega)) hcell) ?_
            refine m_do rfl (wanted_rd rfl) (fun K hK => ?_)
            refine wp_allocG _ _ rfl zeroMs (of_decide_eq_true rfl) ?_
            intro w2 m2 k2 z2
            have mn2 := mn.below k2
            refine hK _ _ ?_
            clear hK K
            refine m_st (wanted_rd rfl) (fun K hK => ?_)
            refine wp_storeP _ _ _ _ rfl manyMs (ev_in rfl (by omega)) (ev_in rfl (by omega)) m2 (by decide) (lmF_one _) rfl ?_
            intro w3 mm3 k3 z3
            have mm3 := Vh.congr mm3 (stP_all4 _ _)
            have mn3 := mn2.kept k3 (by omega)
            refine hK _ ?_
            clear hK K
            refine l_nx ?_
            refine c_rs ?_
            refine m_mv rfl (wanted_rd rfl) (fldMs1 rfl (ev_in rfl (by omega)) _) ?_
            refine m_mv rfl (wanted_rd rfl) (run_lod1 _ _ rfl oneI (ev_in rfl (by omega)) mm3 (by decide) rfl) ?_
            refine m_mv rfl (wanted_rd rfl) (run_move _ rfl (ev_out rfl b2) _) ?_
            refine m_mv rfl (wanted_rd rfl) (run_eqlI (b := true) _ _ rfl (ev_in rfl (by omega)) (ev_in rfl (by omega)) (decide_eq_true h1) _) ?_
            refine m_mv rfl (wanted_rd rfl) (run_move _ rfl (ev_in rfl (by omega)) _) ?_
            refine m_mv rfl (wanted_g (j := 4) rfl rfl rfl (ev_in rfl (by omega))) (fldMs1 rfl (ev_in rfl (by omega)) _) ?_
            refine m_mv rfl (wanted_g (j := 4) rfl rfl rfl (ev_in rfl (by omega))) (run_lod1 _ _ rfl oneI (ev_in rfl (by omega)) mm3 (by decide) rfl) ?_
            refine m_mv rfl (wanted_g (j := 4) rfl rfl rfl (ev_in rfl (by omega))) (fldNd0 rfl (ev_out rfl b5) _) ?_
            refine m_mv rfl (wanted_g (j := 4) rfl rfl rfl (ev_in rfl (by omega))) (run_lod1 _ _ rfl oneI (ev_in rfl (by omega)) mn3 (by decide) rfl) ?_
            refine m_mv rfl (wanted_g (j := 4) rfl rfl rfl (ev_in rfl (by omega))) (run_neqI (b := true) _ _ rfl (ev_in rfl (by omega)) (ev_in rfl (by omega)) (decide_eq_true h2) _) ?_
            refine m_mv rfl (wanted_rd rfl) (run_pickT' _ _ _ rfl (ev_in rfl (by omega)) (ev_in rfl (by omega)) _) ?_
            refine m_mv rfl (wanted_rd rfl) (run_move _ rfl (ev_in rfl (by omega)) _) ?_
            refine m_mv rfl (wanted_g (j := 11) rfl rfl rfl (ev_in rfl (by omega))) (fldMs0 rfl (ev_in rfl (by omega)) _) ?_
            refine m_mv rfl (wanted_g (j := 11) rfl rfl rfl (ev_in rfl (by omega))) (run_lod1 _ _ rfl oneI (ev_in rfl (by omega)) mm3 (by decide) rfl) ?_
            refine m_mv rfl (wanted_g (j := 11) rfl rfl rfl (ev_in rfl (by omega))) (run_move _ rfl (ev_out rfl b3) _) ?_
            refine m_mv rfl (wanted_g (j := 11) rfl rfl rfl (ev_in rfl (by omega))) (run_eqlI (b := true) _ _ rfl (ev_in rfl (by omega)) (ev_in rfl (by omega)) (decide_eq_true h3) _) ?_
            refine m_mv rfl (wanted_rd rfl) (run_pickT' _ _ _ rfl (ev_in rfl (by omega)) (ev_in rfl (by omega)) _) ?_
            refine m_mv rfl (wanted_rd rfl) (run_move _ rfl (ev_in rfl (by omega)) _) ?_
            refine m_mv rfl (wanted_g (j := 17) rfl rfl rfl (ev_in rfl (by omega))) (fldMs2 rfl (ev_in rfl (by omega)) _) ?_
            refine m_mv rfl (wanted_g (j := 17) rfl rfl rfl (ev_in rfl (by omega))) (run_lod1 _ _ rfl oneI (ev_in rfl (by omega)) mm3 (by decide) rfl) ?_
            refine m_mv rfl (wanted_g (j := 17) rfl rfl rfl (ev_in rfl (by omega))) (fldNd1 rfl (ev_out rfl b5) _) ?_
            refine m_mv rfl (wanted_g (j := 17) rfl rfl rfl (ev_in rfl (by omega))) (run_lod1 _ _ rfl oneI (ev_in rfl (by omega)) mn3 (by decide) rfl) ?_
            refine m_mv rfl (wanted_g (j := 17) rfl rfl rfl (ev_in rfl (by omega))) (run_eqlI (b := false) _ _ rfl (ev_in rfl (by omega)) (ev_in rfl (by omega)) (decide_eq_false h4) _) ?_
            refine m_mv rfl (wanted_rd rfl) (run_pickT' _ _ _ rfl (ev_in rfl (by omega)) (ev_in rfl (by omega)) _) ?_
            refine m_mv rfl (wanted_rd rfl) (run_move _ rfl (ev_in rfl (by omega)) _) ?_
            refine m_skip rfl (wanted_n (j := 24) rfl rfl rfl (ev_in rfl (by omega)) (by decide)) ?_
            refine m_skip rfl (wanted_n (j := 24) rfl rfl rfl (ev_in rfl (by omega)) (by decide)) ?_
            refine m_skip rfl (wanted_n (j := 24) rfl rfl rfl (ev_in rfl (by omega)) (by decide)) ?_
            refine m_skip rfl (wanted_n (j := 24) rfl rfl rfl (ev_in rfl (by omega)) (by decide)) ?_
            refine m_skip rfl (wanted_n (j := 24) rfl rfl rfl (ev_in rfl (by omega)) (by decide)) ?_
            refine m_mv rfl (wanted_rd rfl) (run_pickF _ _ _ rfl (ev_in rfl (by omega)) (ev_const _ _) _) ?_
            refine l_nx ?_
            refine c_false (ev_in rfl (by omega)) (c_finB ?_)
            refine c_region ?_
            refine m_mv rfl (wanted_rd rfl) (run_addI _ _ rfl (ev_out rfl b16) (ev_const _ _) (by omega) (by omega) _) ?_
            refine m_mv rfl (wanted_rd rfl) (run_move _ rfl (ev_in rfl (by omega)) _) ?_
            refine l_round ⟨L.length - (i + 1), by omega, i + 1, by omega, by omega, (szL _ _).trans hs, (defL _ _).trans hd, (ev_out rfl b2), (ev_out rfl b3), (ev_out rfl b4), (ev_out rfl b5), (ev_out rfl b14), (ev_out rfl b15), (ev_in rfl (by omega)).trans (by rw [Int.natCast_add]; rfl), ?_, mn3, below_of_kept (kB.trans (k2.mono kB.size)) k3 kB.size (Nat.le_trans kB.size k2.size)⟩
            exact fun j c' hj hc' => by
              by_cases e : j = i
              · subst e
                rw [hc] at hc'
                cases hc'
                unfold fitB
                rw [decide_eq_false h4]
                simp
              · exact hne j c' (by omega) hc'
        · refine c_rs (m_start ?_)
          refine m_mv rfl (wanted_rd rfl) (run_lssI (b := true) _ _ rfl (ev_out rfl b16) (ev_out rfl b15) (decide_eq_true (by omega)) _) ?_
          refine l_nx ?_
          refine c_nx (c_true (ev_in rfl (by omega)) (c_fin ?_))
          refine c_nx (c_block ?_)
          refine c_rs ?_
          refine m_mv rfl (wanted_rd rfl) (run_ixM _ _ rfl (ev_out rfl b14) (ev_out rfl b16) rfl hin _) ?_
          refine m_mv rfl (wanted_rd rfl) (run_lodM _ rfl (ev_in rfl (by omega)) hcell) ?_
          refine m_do rfl (wanted_rd rfl) (fun K hK => ?_)
          refine wp_allocG _ _ rfl zeroMs (of_decide_eq_true rfl) ?_
          intro w2 m2 k2 z2
          have mn2 := mn.below k2
          refine hK _ _ ?_
          clear hK K
          refine m_st (wanted_rd rfl) (fun K hK => ?_)
          refine wp_storeP _ _ _ _ rfl manyMs (ev_in rfl (by omega)) (ev_in rfl (by omega)) m2 (by decide) (lmF_one _) rfl ?_
          intro w3 mm3 k3 z3
          have mm3 := Vh.congr mm3 (stP_all4 _ _)
          have mn3 := mn2.kept k3 (by omega)
          refine hK _ ?_
          clear hK K
          refine l_nx ?_
          refine c_rs ?_
          refine m_mv rfl (wanted_rd rfl) (fldMs1 rfl (ev_in rfl (by omega)) _) ?_
          refine m_mv rfl (wanted_rd rfl) (run_lod1 _ _ rfl oneI (ev_in rfl (by omega)) mm3 (by decide) rfl) ?_
          refine m_mv rfl (wanted_rd rfl) (run_move _ rfl (ev_out rfl b2) _) ?_
          refine m_mv rfl (wanted_rd rfl) (run_eqlI (b := true) _ _ rfl (ev_in rfl (by omega)) (ev_in rfl (by omega)) (decide_eq_true h1) _) ?_
          refine m_mv rfl (wanted_rd rfl) (run_move _ rfl (ev_in rfl (by omega)) _) ?_
          refine m_mv rfl (wanted_g (j := 4) rfl rfl rfl (ev_in rfl (by omega))) (fldMs1 rfl (ev_in rfl (by omega)) _) ?_
          refine m_mv rfl (wanted_g (j := 4) rfl rfl rfl (ev_in rfl (by omega))) (run_lod1 _ _ rfl oneI (ev_in rfl (by omega)) mm3 (by decide) rfl) ?_
          refine m_mv rfl (wanted_g (j := 4) rfl rfl rfl (ev_in rfl (by omega))) (fldNd0 rfl (ev_out rfl b5) _) ?_
          refine m_mv rfl (wanted_g (j := 4) rfl rfl rfl (ev_in rfl (by omega))) (run_lod1 _ _ rfl oneI (ev_in rfl (by omega)) mn3 (by decide) rfl) ?_
          refine m_mv rfl (wanted_g (j := 4) rfl rfl rfl (ev_in rfl (by omega))) (run_neqI (b := true) _ _ rfl (ev_in rfl (by omega)) (ev_in rfl (by omega)) (decide_eq_true h2) _) ?_
          refine m_mv rfl (wanted_rd rfl) (run_pickT' _ _ _ rfl (ev_in rfl (by omega)) (ev_in rfl (by omega)) _) ?_
          refine m_mv rfl (wanted_rd rfl) (run_move _ rfl (ev_in rfl (by omega)) _) ?_
          refine m_mv rfl (wanted_g (j := 11) rfl rfl rfl (ev_in rfl (by omega))) (fldMs0 rfl (ev_in rfl (by omega)) _) ?_
          refine m_mv rfl (wanted_g (j := 11) rfl rfl rfl (ev_in rfl (by omega))) (run_lod1 _ _ rfl oneI (ev_in rfl (by omega)) mm3 (by decide) rfl) ?_
          refine m_mv rfl (wanted_g (j := 11) rfl rfl rfl (ev_in rfl (by omega))) (run_move _ rfl (ev_out rfl b3) _) ?_
          refine m_mv rfl (wanted_g (j := 11) rfl rfl rfl (ev_in rfl (by omega))) (run_eqlI (b := false) _ _ rfl (ev_in rfl (by omega)) (ev_in rfl (by omega)) (decide_eq_false h3) _) ?_
          refine m_mv rfl (wanted_rd rfl) (run_pickT' _ _ _ rfl (ev_in rfl (by omega)) (ev_in rfl (by omega)) _) ?_
          refine m_mv rfl (wanted_rd rfl) (run_move _ rfl (ev_in rfl (by omega)) _) ?_
          refine m_skip rfl (wanted_n (j := 17) rfl rfl rfl (ev_in rfl (by omega)) (by decide)) ?_
          refine m_skip rfl (wanted_n (j := 17) rfl rfl rfl (ev_in rfl (by omega)) (by decide)) ?_
          refine m_skip rfl (wanted_n (j := 17) rfl rfl rfl (ev_in rfl (by omega)) (by decide)) ?_
          refine m_skip rfl (wanted_n (j := 17) rfl rfl rfl (ev_in rfl (by omega)) (by decide)) ?_
          refine m_skip rfl (wanted_n (j := 17) rfl rfl rfl (ev_in rfl (by omega)) (by decide)) ?_
          refine m_mv rfl (wanted_rd rfl) (run_pickF _ _ _ rfl (ev_in rfl (by omega)) (ev_const _ _) _) ?_
          refine m_mv rfl (wanted_rd rfl) (run_move _ rfl (ev_in rfl (by omega)) _) ?_
          refine m_skip rfl (wanted_n (j := 24) rfl rfl rfl (ev_in rfl (by omega)) (by decide)) ?_
          refine m_skip rfl (wanted_n (j := 24) rfl rfl rfl (ev_in rfl (by omega)) (by decide)) ?_
          refine m_skip rfl (wanted_n (j := 24) rfl rfl rfl (ev_in rfl (by omega)) (by decide)) ?_
          refine m_skip rfl (wanted_n (j := 24) rfl rfl rfl (ev_in rfl (by omega)) (by decide)) ?_
          refine m_skip rfl (wanted_n (j := 24) rfl rfl rfl (ev_in rfl (by omega)) (by decide)) ?_
          refine m_mv rfl (wanted_rd rfl) (run_pickF _ _ _ rfl (ev_in rfl (by omega)) (ev_const _ _) _) ?_
          refine l_nx ?_
          refine c_false (ev_in rfl (by omega)) (c_finB ?_)
          refine c_region ?_
          refine m_mv rfl (wanted_rd rfl) (run_addI _ _ rfl (ev_out rfl b16) (ev_const _ _) (by omega) (by omega) _) ?_
          refine m_mv rfl (wanted_rd rfl) (run_move _ rfl (ev_in rfl (by omega)) _) ?_
          refine l_round ⟨L.length - (i + 1), by omega, i + 1, by omega, by omega, (szL _ _).trans hs, (defL _ _).trans hd, (ev_out rfl b2), (ev_out rfl b3), (ev_out rfl b4), (ev_out rfl b5), (ev_out rfl b14), (ev_out rfl b15), (ev_in rfl (by omega)).trans (by rw [Int.natCast_add]; rfl), ?_, mn3, below_of_kept (kB.trans (k2.mono kB.size)) k3 kB.size (Nat.le_trans kB.size k2.size)⟩
          exact fun j c' hj hc' => by
            by_cases e : j = i
            · subst e
              rw [hc] at hc'
              cases hc'
              unfold fitB
              rw [decide_eq_false h3]
              simp
            · exact hne j c' (by omega) hc'
      · refine c_rs (m_start ?_)
        refine m_mv rfl (wanted_rd rfl) (run_lssI (b := true) _ _ rfl (ev_out rfl b16) (ev_out rfl b15) (decide_eq_true (by omega)) _) ?_
        refine l_nx ?_
        refine c_nx (c_true (ev_in rfl (by omega)) (c_fin ?_))
        refine c_nx (c_block ?_)
        refine c_rs ?_
        refine m_mv rfl (wanted_rd rfl) (run_ixM _ _ rfl (ev_out rfl b14) (ev_out rfl b16) rfl hin _) ?_
        refine m_mv rfl (wanted_rd rfl) (run_lodM _ rfl (ev_in rfl (by omega)) hcell) ?_
        refine m_do rfl (wanted_rd rfl) (fun K hK => ?_)
        refine wp_allocG _ _ rfl zeroMs (of_decide_eq_true rfl) ?_
        intro w2 m2 k2 z2
        have mn2 := mn.below k2
        refine hK _ _ ?_
        clear hK K
        refine m_st (wanted_rd rfl) (fun K hK => ?_)
        refine wp_storeP _ _ _ _ rfl manyMs (ev_in rfl (by omega)) (ev_in rfl (by omega)) m2 (by decide) (lmF_one _) rfl ?_
        intro w3 mm3 k3 z3
        have mm3 := Vh.congr mm3 (stP_all4 _ _)
        have mn3 := mn2.kept k3 (by omega)
        refine hK _ ?_
        clear hK K
        refine l_nx ?_
        refine c_rs ?_
        refine m_mv rfl (wanted_rd rfl) (fldMs1 rfl (ev_in rfl (by omega)) _) ?_
        refine m_mv rfl (wanted_rd rfl) (run_lod1 _ _ rfl oneI (ev_in rfl (by omega)) mm3 (by decide) rfl) ?_
        refine m_mv rfl (wanted_rd rfl) (run_move _ rfl (ev_out rfl b2) _) ?_
        refine m_mv rfl (wanted_rd rfl) (run_eqlI (b := true) _ _ rfl (ev_in rfl (by omega)) (ev_in rfl (by omega)) (decide_eq_true h1) _) ?_
        refine m_mv rfl (wanted_rd rfl) (run_move _ rfl (ev_in rfl (by omega)) _) ?_
        refine m_mv rfl (wanted_g (j := 4) rfl rfl rfl (ev_in rfl (by omega))) (fldMs1 rfl (ev_in rfl (by omega)) _) ?_
        refine m_mv rfl (wanted_g (j := 4) rfl rfl rfl (ev_in rfl (by omega))) (run_lod1 _ _ rfl oneI (ev_in rfl (by omega)) mm3 (by decide) rfl) ?_
        refine m_mv rfl (wanted_g (j := 4) rfl rfl rfl (ev_in rfl (by omega))) (fldNd0 rfl (ev_out rfl b5) _) ?_
        refine m_mv rfl (wanted_g (j := 4) rfl rfl rfl (ev_in rfl (by omega))) (run_lod1 _ _ rfl oneI (ev_in rfl (by omega)) mn3 (by decide) rfl) ?_
        refine m_mv rfl (wanted_g (j := 4) rfl rfl rfl (ev_in rfl (by omega))) (run_neqI (b := false) _ _ rfl (ev_in rfl (by omega)) (ev_in rfl (by omega)) (decide_eq_false h2) _) ?_
        refine m_mv rfl (wanted_rd rfl) (run_pickT' _ _ _ rfl (ev_in rfl (by omega)) (ev_in rfl (by omega)) _) ?_
        refine m_mv rfl (wanted_rd rfl) (run_move _ rfl (ev_in rfl (by omega)) _) ?_
        refine m_skip rfl (wanted_n (j := 11) rfl rfl rfl (ev_in rfl (by omega)) (by decide)) ?_
        refine m_skip rfl (wanted_n (j := 11) rfl rfl rfl (ev_in rfl (by omega)) (by decide)) ?_
        refine m_skip rfl (wanted_n (j := 11) rfl rfl rfl (ev_in rfl (by omega)) (by decide)) ?_
        refine m_skip rfl (wanted_n (j := 11) rfl rfl rfl (ev_in rfl (by omega)) (by decide)) ?_
        refine m_mv rfl (wanted_rd rfl) (run_pickF _ _ _ rfl (ev_in rfl (by omega)) (ev_const _ _) _) ?_
        refine m_mv rfl (wanted_rd rfl) (run_move _ rfl (ev_in rfl (by omega)) _) ?_
        refine m_skip rfl (wanted_n (j := 17) rfl rfl rfl (ev_in rfl (by omega)) (by decide)) ?_
        refine m_skip rfl (wanted_n (j := 17) rfl rfl rfl (ev_in rfl (by omega)) (by decide)) ?_
        refine m_skip rfl (wanted_n (j := 17) rfl rfl rfl (ev_in rfl (by omega)) (by decide)) ?_
        refine m_skip rfl (wanted_n (j := 17) rfl rfl rfl (ev_in rfl (by omega)) (by decide)) ?_
        refine m_skip rfl (wanted_n (j := 17) rfl rfl rfl (ev_in rfl (by omega)) (by decide)) ?_
        refine m_mv rfl (wanted_rd rfl) (run_pickF _ _ _ rfl (ev_in rfl (by omega)) (ev_const _ _) _) ?_
        refine m_mv rfl (wanted_rd rfl) (run_move _ rfl (ev_in rfl (by omega)) _) ?_
        refine m_skip rfl (wanted_n (j := 24) rfl rfl rfl (ev_in rfl (by omega)) (by decide)) ?_
        refine m_skip rfl (wanted_n (j := 24) rfl rfl rfl (ev_in rfl (by omega)) (by decide)) ?_
        refine m_skip rfl (wanted_n (j := 24) rfl rfl rfl (ev_in rfl (by omega)) (by decide)) ?_
        refine m_skip rfl (wanted_n (j := 24) rfl rfl rfl (ev_in rfl (by omega)) (by decide)) ?_
        refine m_skip rfl (wanted_n (j := 24) rfl rfl rfl (ev_in rfl (by omega)) (by decide)) ?_
        refine m_mv rfl (wanted_rd rfl) (run_pickF _ _ _ rfl (ev_in rfl (by omega)) (ev_const _ _) _) ?_
        refine l_nx ?_
        refine c_false (ev_in rfl (by omega)) (c_finB ?_)
        refine c_region ?_
        refine m_mv rfl (wanted_rd rfl) (run_addI _ _ rfl (ev_out rfl b16) (ev_const _ _) (by omega) (by omega) _) ?_
        refine m_mv rfl (wanted_rd rfl) (run_move _ rfl (ev_in rfl (by omega)) _) ?_
        refine l_round ⟨L.length - (i + 1), by omega, i + 1, by omega, by omega, (szL _ _).trans hs, (defL _ _).trans hd, (ev_out rfl b2), (ev_out rfl b3), (ev_out rfl b4), (ev_out rfl b5), (ev_out rfl b14), (ev_out rfl b15), (ev_in rfl (by omega)).trans (by rw [Int.natCast_add]; rfl), ?_, mn3, below_of_kept (kB.trans (k2.mono kB.size)) k3 kB.size (Nat.le_trans kB.size k2.size)⟩
        exact fun j c' hj hc' => by
          by_cases e : j = i
          · subst e
            rw [hc] at hc'
            cases hc'
            unfold fitB
            rw [decide_eq_false h2]
            simp
          · exact hne j c' (by omega) hc'
    · refine c_rs (m_start ?_)
      refine m_mv rfl (wanted_rd rfl) (run_lssI (b := true) _ _ rfl (ev_out rfl b16) (ev_out rfl b15) (decide_eq_true (by omega)) _) ?_
      refine l_nx ?_
      refine c_nx (c_true (ev_in rfl (by omega)) (c_fin ?_))
      refine c_nx (c_block ?_)
      refine c_rs ?_
      refine m_mv rfl (wanted_rd rfl) (run_ixM _ _ rfl (ev_out rfl b14) (ev_out rfl b16) rfl hin _) ?_
      refine m_mv rfl (wanted_rd rfl) (run_lodM _ rfl (ev_in rfl (by omega)) hcell) ?_
      refine m_do rfl (wanted_rd rfl) (fun K hK => ?_)
      refine wp_allocG _ _ rfl zeroMs (of_decide_eq_true rfl) ?_
      intro w2 m2 k2 z2
      have mn2 := mn.below k2
      refine hK _ _ ?_
      clear hK K
      refine m_st (wanted_rd rfl) (fun K hK => ?_)
      refine wp_storeP _ _ _ _ rfl manyMs (ev_in rfl (by omega)) (ev_in rfl (by omega)) m2 (by decide) (lmF_one _) rfl ?_
      intro w3 mm3 k3 z3
      have mm3 := Vh.congr mm3 (stP_all4 _ _)
      have mn3 := mn2.kept k3 (by omega)
      refine hK _ ?_
      clear hK K
      refine l_nx ?_
      refine c_rs ?_
      refine m_mv rfl (wanted_rd rfl) (fldMs1 rfl (ev_in rfl (by omega)) _) ?_
      refine m_mv rfl (wanted_rd rfl) (run_lod1 _ _ rfl oneI (ev_in rfl (by omega)) mm3 (by decide) rfl) ?_
      refine m_mv rfl (wanted_rd rfl) (run_move _ rfl (ev_out rfl b2) _) ?_
      refine m_mv rfl (wanted_rd rfl) (run_eqlI (b := false) _ _ rfl (ev_in rfl (by omega)) (ev_in rfl (by omega)) (decide_eq_false h1) _) ?_
      refine m_mv rfl (wanted_rd rfl) (run_move _ rfl (ev_in rfl (by omega)) _) ?_
      refine m_skip rfl (wanted_n (j := 4) rfl rfl rfl (ev_in rfl (by omega)) (by decide)) ?_
      refine m_skip rfl (wanted_n (j := 4) rfl rfl rfl (ev_in rfl (by omega)) (by decide)) ?_
      refine m_skip rfl (wanted_n (j := 4) rfl rfl rfl (ev_in rfl (by omega)) (by decide)) ?_
      refine m_skip rfl (wanted_n (j := 4) rfl rfl rfl (ev_in rfl (by omega)) (by decide)) ?_
      refine m_skip rfl (wanted_n (j := 4) rfl rfl rfl (ev_in rfl (by omega)) (by decide)) ?_
      refine m_mv rfl (wanted_rd rfl) (run_pickF _ _ _ rfl (ev_in rfl (by omega)) (ev_const _ _) _) ?_
      refine m_mv rfl (wanted_rd rfl) (run_move _ rfl (ev_in rfl (by omega)) _) ?_
      refine m_skip rfl (wanted_n (j := 11) rfl rfl rfl (ev_in rfl (by omega)) (by decide)) ?_
      refine m_skip rfl (wanted_n (j := 11) rfl rfl rfl (ev_in rfl (by omega)) (by decide)) ?_
      refine m_skip rfl (wanted_n (j := 11) rfl rfl rfl (ev_in rfl (by omega)) (by decide)) ?_
      refine m_skip rfl (wanted_n (j := 11) rfl rfl rfl (ev_in rfl (by omega)) (by decide)) ?_
      refine m_mv rfl (wanted_rd rfl) (run_pickF _ _ _ rfl (ev_in rfl (by omega)) (ev_const _ _) _) ?_
      refine m_mv rfl (wanted_rd rfl) (run_move _ rfl (ev_in rfl (by omega)) _) ?_
      refine m_skip rfl (wanted_n (j := 17) rfl rfl rfl (ev_in rfl (by omega)) (by decide)) ?_
      refine m_skip rfl (wanted_n (j := 17) rfl rfl rfl (ev_in rfl (by omega)) (by decide)) ?_
      refine m_skip rfl (wanted_n (j := 17) rfl rfl rfl (ev_in rfl (by omega)) (by decide)) ?_
      refine m_skip rfl (wanted_n (j := 17) rfl rfl rfl (ev_in rfl (by omega)) (by decide)) ?_
      refine m_skip rfl (wanted_n (j := 17) rfl rfl rfl (ev_in rfl (by omega)) (by decide)) ?_
      refine m_mv rfl (wanted_rd rfl) (run_pickF _ _ _ rfl (ev_in rfl (by omega)) (ev_const _ _) _) ?_
      refine m_mv rfl (wanted_rd rfl) (run_move _ rfl (ev_in rfl (by omega)) _) ?_
      refine m_skip rfl (wanted_n (j := 24) rfl rfl rfl (ev_in rfl (by omega)) (by decide)) ?_
      refine m_skip rfl (wanted_n (j := 24) rfl rfl rfl (ev_in rfl (by omega)) (by decide)) ?_
      refine m_skip rfl (wanted_n (j := 24) rfl rfl rfl (ev_in rfl (by omega)) (by decide)) ?_
      refine m_skip rfl (wanted_n (j := 24) rfl rfl rfl (ev_in rfl (by omega)) (by decide)) ?_
      refine m_skip rfl (wanted_n (j := 24) rfl rfl rfl (ev_in rfl (by omega)) (by decide)) ?_
      refine m_mv rfl (wanted_rd rfl) (run_pickF _ _ _ rfl (ev_in rfl (by omega)) (ev_const _ _) _) ?_
      refine l_nx ?_
      refine c_false (ev_in rfl (by omega)) (c_finB ?_)
      refine c_region ?_
      refine m_mv rfl (wanted_rd rfl) (run_addI _ _ rfl (ev_out rfl b16) (ev_const _ _) (by omega) (by omega) _) ?_
      refine m_mv rfl (wanted_rd rfl) (run_move _ rfl (ev_in rfl (by omega)) _) ?_
      refine l_round ⟨L.length - (i + 1), by omega, i + 1, by omega, by omega, (szL _ _).trans hs, (defL _ _).trans hd, (ev_out rfl b2), (ev_out rfl b3), (ev_out rfl b4), (ev_out rfl b5), (ev_out rfl b14), (ev_out rfl b15), (ev_in rfl (by omega)).trans (by rw [Int.natCast_add]; rfl), ?_, mn3, below_of_kept (kB.trans (k2.mono kB.size)) k3 kB.size (Nat.le_trans kB.size k2.size)⟩
      exact fun j c' hj hc' => by
        by_cases e : j = i
        · subst e
          rw [hc] at hc'
          cases hc'
          unfold fitB
          rw [decide_eq_false h1]
          simp
        · exact hne j c' (by omega) hc'
  · have hin2 : ¬ (i : Int) < (L.length : Int) := by omega
    refine c_rs (m_start ?_)
    refine m_mv rfl (wanted_rd rfl) (run_lssI (b := false) _ _ rfl (ev_out rfl b16) (ev_out rfl b15) (decide_eq_false (by omega)) _) ?_
    refine l_nx ?_
    refine c_nx (c_false (ev_in rfl (by omega)) (c_exit (x_out ?_)))
    refine c_rs ?_
    refine m_mv rfl (wanted_rd rfl) (run_assign _ rfl (ev_const _ _) _) ?_
    refine m_mv rfl (wanted_rd rfl) (run_assign _ rfl (ev_const _ _) _) ?_
    refine l_nx ?_
    refine c_ret ?_
    refine ret_of ((defL _ _).trans hd) (res_tt rfl (ev_in rfl (by omega)) (ev_in rfl (by omega))) ⟨?_, kB⟩
    rw [fL_none (fun j c hj => hne j c (by have := (List.getElem?_eq_some_iff.1 hj).1; omega) hj)]
    rfl

end Go.Proofs.YthimcecbgpamdaaGreat

namespace Go.Proofs.YthimcecbgpamdaaGreat
open Go.RowKit

theorem refNone_any (n : Nd) (v : Value) (w : World) : Calls Tryz.prog 43 #[ndV n v] w fun e w' => e = .returned (.bool (noN n.id)) ∧ Below w.heap.size w w' := by
  unfold noN
  by_cases h1 : n.id < 0
  · rw [decide_eq_true h1, Bool.true_or]
    refine enterF Tryz.func43 rfl 11 rfl (of_decide_eq_true rfl) (fun A hs hd hb => ?_)
    have b0 := hb 0 _ rfl
    clear hb
    refine c_rs (m_start ?_)
    refine m_do rfl (wanted_rd rfl) (fun K hK => ?_)
    refine wp_boxG _ _ _ rfl (ev_out rfl b0) (by decide) ?_
    intro w1 m1 k1 z1
    refine hK _ _ ?_
    clear hK K
    refine m_mv rfl (wanted_rd rfl) (run_assign _ rfl rfl _) ?_
    refine l_nx ?_
    refine c_rs ?_
    refine m_mv rfl (wanted_rd rfl) (fldNd0 rfl (ev_in rfl (by omega)) _) ?_
    refine m_mv rfl (wanted_rd rfl) (run_lod1 _ _ rfl oneI (ev_in rfl (by omega)) m1 (by decide) rfl) ?_
    refine m_mv rfl (wanted_rd rfl) (run_lssI (b := true) _ _ rfl (ev_in rfl (by omega)) rfl (decide_eq_true h1) _) ?_
    refine m_mv rfl (wanted_rd rfl) (run_move _ rfl (ev_in rfl (by omega)) _) ?_
    refine m_skip rfl (wanted_n (j := 3) rfl rfl rfl (ev_in rfl (by omega)) (by decide)) ?_
    refine m_skip rfl (wanted_n (j := 3) rfl rfl rfl (ev_in rfl (by omega)) (by decide)) ?_
    refine m_skip rfl (wanted_n (j := 3) rfl rfl rfl (ev_in rfl (by omega)) (by decide)) ?_
    refine m_mv rfl (wanted_rd rfl) (run_pickT' _ _ _ rfl (ev_in rfl (by omega)) rfl _) ?_
    refine m_mv rfl (wanted_rd rfl) (run_assign _ rfl (ev_in rfl (by omega)) _) ?_
    refine l_nx ?_
    exact c_ret (ret_of ((defL _ _).trans hd) (res_t rfl (ev_in rfl (by omega))) ⟨rfl, k1⟩)
  · by_cases h2 : 3 < n.id
    · rw [decide_eq_false h1, decide_eq_true h2, Bool.or_true]
      refine enterF Tryz.func43 rfl 11 rfl (of_decide_eq_true rfl) (fun A hs hd hb => ?_)
      have b0 := hb 0 _ rfl
      clear hb
      refine c_rs (m_start ?_)
      refine m_do rfl (wanted_rd rfl) (fun K hK => ?_)
      refine wp_boxG _ _ _ rfl (ev_out rfl b0) (by decide) ?_
      intro w1 m1 k1 z1
      refine hK _ _ ?_
      clear hK K
      refine m_mv rfl (wanted_rd rfl) (run_assign _ rfl rfl _) ?_
      refine l_nx ?_
      refine c_rs ?_
      refine m_mv rfl (wanted_rd rfl) (fldNd0 rfl (ev_in rfl (by omega)) _) ?_
      refine m_mv rfl (wanted_rd rfl) (run_lod1 _ _ rfl oneI (ev_in rfl (by omega)) m1 (by decide) rfl) ?_
      refine m_mv rfl (wanted_rd rfl) (run_lssI (b := false) _ _ rfl (ev_in rfl (by omega)) rfl (decide_eq_false h1) _) ?_
      refine m_mv rfl (wanted_rd rfl) (run_move _ rfl (ev_in rfl (by omega)) _) ?_
      refine m_mv rfl (wanted_g (j := 3) rfl rfl rfl (ev_in rfl (by omega))) (fldNd0 rfl (ev_in rfl (by omega)) _) ?_
      refine m_mv rfl (wanted_g (j := 3) rfl rfl rfl (ev_in rfl (by omega))) (run_lod1 _ _ rfl oneI (ev_in rfl (by omega)) m1 (by decide) rfl) ?_
      refine m_mv rfl (wanted_g (j := 3) rfl rfl rfl (ev_in rfl (by omega))) (run_gtrI (b := true) _ _ rfl (ev_in rfl (by omega)) rfl (decide_eq_true h2) _) ?_
      refine m_mv rfl (wanted_rd rfl) (run_pickF _ _ _ rfl (ev_in rfl (by omega)) (ev_in rfl (by omega)) _) ?_
      refine m_mv rfl (wanted_rd rfl) (run_assign _ rfl (ev_in rfl (by omega)) _) ?_
      refine l_nx ?_
      exact c_ret (ret_of ((defL _ _).trans hd) (res_t rfl (ev_in rfl (by omega))) ⟨rfl, k1⟩)
    · rw [decide_eq_false h1, decide_eq_false h2, Bool.or_false]
      refine enterF Tryz.func43 rfl 11 rfl (of_decide_eq_true rfl) (fun A hs hd hb => ?_)
      have b0 := hb 0 _ rfl
      clear hb
      refine c_rs (m_start ?_)
      refine m_do rfl (wanted_rd rfl) (fun K hK => ?_)
      refine wp_boxG _ _ _ rfl (ev_out rfl b0) (by decide) ?_
      intro w1 m1 k1 z1
      refine hK _ _ ?_
      clear hK K
      refine m_mv rfl (wanted_rd rfl) (run_assign _ rfl rfl _) ?_
      refine l_nx ?_
      refine c_rs ?_
      refine m_mv rfl (wanted_rd rfl) (fldNd0 rfl (ev_in rfl (by omega)) _) ?_
      refine m_mv rfl (wanted_rd rfl) (run_lod1 _ _ rfl oneI (ev_in rfl (by omega)) m1 (by decide) rfl) ?_
      refine m_mv rfl (wanted_rd rfl) (run_lssI (b := false) _ _ rfl (ev_in rfl (by omega)) rfl (decide_eq_false h1) _) ?_
      refine m_mv rfl (wanted_rd rfl) (run_move _ rfl (ev_in rfl (by omega)) _) ?_
      refine m_mv rfl (wanted_g (j := 3) rfl rfl rfl (ev_in rfl (by omega))) (fldNd0 rfl (ev_in rfl (by omega)) _) ?_
      refine m_mv rfl (wanted_g (j := 3) rfl rfl rfl (ev_in rfl (by omega))) (run_lod1 _ _ rfl oneI (ev_in rfl (by omega)) m1 (by decide) rfl) ?_
      refine m_mv rfl (wanted_g (j := 3) rfl rfl rfl (ev_in rfl (by omega))) (run_gtrI (b := false) _ _ rfl (ev_in rfl (by omega)) rfl (decide_eq_false h2) _) ?_
      refine m_mv rfl (wanted_rd rfl) (run_pickF _ _ _ rfl (ev_in rfl (by omega)) (ev_in rfl (by omega)) _) ?_
      refine m_mv rfl (wanted_rd rfl) (run_assign _ rfl (ev_in rfl (by omega)) _) ?_
      refine l_nx ?_
      exact c_ret (ret_of ((defL _ _).trans hd) (res_t rfl (ev_in rfl (by omega))) ⟨rfl, k1⟩)
/-- Who agreed, of a verdict. -/
def bA (n : Nd) (i : Nat) : Bool := n.vA.getD i false
theorem stP_all (g : Nat → Value) (h : Nat → Value) : ∀ j, j < 74 → stP g 0 74 h j = h j := fun j hj => by
  have := stP_in g (o := 0) (n := 74) h hj
  rwa [Nat.zero_add] at this
theorem refCopy_any (n : Nd) (ao : Option Addr) (c : Nat) (w : World) (hs0 : Sr w ao n.vA.length c (tF (bA n))) (hl : n.vA.length ≤ 140737488351232) :
    Calls Tryz.prog 20 #[ndV n (.slice ao n.vA.length c)] w fun e w' => ∃ a' c', e = .returned (ndV n (.slice a' n.vA.length c')) ∧ w'.ownsRow w.heap.size 4 1 (.slice a' n.vA.length c') n.vA.length (rowV (tF (bA n)) n.vA.length) ∧ Below w.heap.size w w' := by
  refine enterF Tryz.func20 rfl 10 rfl (of_decide_eq_true rfl) (fun A hs hd hb => ?_)
  have b0 := hb 0 _ rfl
  clear hb
  refine c_rs (m_start ?_)
  refine m_do rfl (wanted_rd rfl) (fun K hK => ?_)
  refine wp_boxG _ _ _ rfl (ev_out rfl b0) (of_decide_eq_true rfl) ?_
  intro w1 m1 k1 z1
  have sr1 := hs0.below k1
  refine hK _ _ ?_
  clear hK K
  refine m_do rfl (wanted_rd rfl) (fun K hK => ?_)
  refine wp_allocG _ _ rfl zeroNd (of_decide_eq_true rfl) ?_
  intro w2 m2 k2 z2
  have mn2 := m1.below k2
  have sr2 := sr1.below k2
  refine hK _ _ ?_
  clear hK K
  refine l_nx ?_
  refine c_rs ?_
  refine m_mv rfl (wanted_rd rfl) (fldNd10 rfl (ev_in rfl (by omega)) _) ?_
  refine m_mv rfl (wanted_rd rfl) (fldVd2 rfl (ev_in rfl (by omega)) _) ?_
  refine m_mv rfl (wanted_rd rfl) (run_lod1 _ _ rfl oneBs (ev_in rfl (by omega)) mn2 (by decide) rfl) ?_
  refine m_do rfl (wanted_rd rfl) (fun K hK => ?_)
  refine ⟨wp_joinT _ _ _ rfl w2.heap.size (Nat.le_refl _) (.slice none 0 0) 0 [] rfl (World.ownsRow_nil _ _ _ _) ao n.vA.length c (tF (bA n)) (ev_in rfl (by omega)) sr2 (fun i _ => rfl) (by omega) ?_⟩
  intro v3 w3 o3 k3
  rw [Nat.zero_add, List.nil_append] at o3
  obtain ⟨a3, c3, rfl, hc3⟩ := rw_slice o3
  have mn3 := mn2.below k3
  have mr3 := m2.below k3
  refine hK _ _ ?_
  clear hK K
  refine m_mv rfl (wanted_rd rfl) (fldNd10 rfl (ev_in rfl (by omega)) _) ?_
  refine m_mv rfl (wanted_rd rfl) (fldVd2 rfl (ev_in rfl (by omega)) _) ?_
  refine m_st (wanted_rd rfl) (fun K hK => ?_)
  refine wp_sto1 _ _ _ _ rfl oneBs (ev_in rfl (by omega)) (ev_in rfl (by omega)) mn3 (by decide) rfl rfl rfl ?_
  intro w4 mm4 k4 z4
  have mn4 := Vh.congr mm4 (ndF_list _ _ _)
  have mr4 := mr3.kept k4 (by omega)
  have ow4 := rw_under o3 k4 (by omega)
  refine hK _ ?_
  clear hK K
  refine l_nx ?_
  refine c_rs ?_
  refine m_mv rfl (wanted_rd rfl) (run_loadP _ _ rfl manyNd (ev_in rfl (by omega)) mn4 (by decide)) ?_
  refine m_st (wanted_rd rfl) (fun K hK => ?_)
  refine wp_storeP _ _ _ _ rfl manyNd (ev_in rfl (by omega)) (ev_in rfl (by omega)) mr4 (by decide) (ndF_one _ _ _ _) rfl ?_
  intro w5 mm5 k5 z5
  have mr5 := Vh.congr mm5 (stP_all _ _)
  have mn5 := mn4.kept k5 (by omega)
  have ow5 := rw_under ow4 k5 (by omega)
  refine hK _ ?_
  clear hK K
  refine l_nx ?_
  refine c_ret (ret_of ((defL _ _).trans hd) (res_c rfl (ev_in rfl (by omega)) manyNd mr5 (Nat.le_refl _)) ⟨a3, c3, rfl, rw_base ow5 (by omega), ?_⟩)
  exact below_of_kept (below_of_kept ((k1.trans (k2.mono (by omega))).trans (k3.mono (by omega))) k4 (by omega) (by have := k3.size; omega)) k5 (by omega) (by have := k3.size; omega)

end Go.Proofs.YthimcecbgpamdaaGreat

namespace Go.Proofs.YthimcecbgpamdaaGreat

theorem each74 {f g : Nat → Value} (h : (List.range 74).map f = (List.range 74).map g) : ∀ j, j < 74 → f j = g j := by simp_all

theorem ndF_ext {n : Nd} {v : Value} {d d' g g' : Nat → Nat → Int} {u u' : Nat → Int} {x x' : Nat → St} (hd : ∀ s k, s < 4 → d s k = d' s k) (hg : ∀ s k, s < 4 → k < 3 → g s k = g' s k) (hu : ∀ k, k < 3 → u k = u' k) (hx : ∀ k, k < 3 → x k = x' k) : ndF { n with di := d, ag := g, us := u, ax := x } v = ndF { n with di := d', ag := g', us := u', ax := x' } v := by grind [ndF]
theorem upd_fr (n : Nd) (v : Value) (x : Int) : ∀ j, j < 74 → stW (ndF n v) (0 + 1) (.int .i64 x) j = ndF { n with fr := x } v j :=
  each74 rfl
theorem upd_di (n : Nd) (v : Value) (d : Nat → Nat → Int) : ∀ j, j < 74 → stP (ndF n v) (0 + 39) 12 (fun i => iV (d (i / 3) (i % 3))) j = ndF { n with di := d } v j :=
  each74 rfl
theorem upd_he (n : Nd) (v : Value) (d : Nat → Int) : ∀ j, j < 74 → stP (ndF n v) (0 + 51) 4 (fun i => iV (d i)) j = ndF { n with he := d } v j :=
  each74 rfl
theorem upd_dg (n : Nd) (v : Value) (x : Int) : ∀ j, j < 74 → stW (ndF n v) (0 + 70) (.int .i64 x) j = ndF { n with dg := x } v j :=
  each74 rfl
theorem upd_rl (n : Nd) (v : Value) (r : Rl) : ∀ j, j < 74 → stP (ndF n v) (0 + 27) 12 (nrlF r) j = ndF { n with rl := r } v j :=
  each74 rfl
theorem upd_vd (n : Nd) (v u : Value) (x : Int) (b : Bool) (l : List Bool) : ∀ j, j < 74 → stP (ndF n v) (0 + 71) 3 (fun i => if i = 0 then iV x else if i = 1 then .bool b else u) j = ndF { n with vX := x, vS := b, vA := l } u j :=
  each74 rfl
theorem upd_he0 (n : Nd) (v : Value) (x : Int) : ∀ j, j < 74 → stW (ndF n v) (0 + 51 + 0 * 1) (.int .i64 x) j = ndF { n with he := fun s => if s = 0 then x else n.he s } v j :=
  each74 rfl
theorem upd_he1 (n : Nd) (v : Value) (x : Int) : ∀ j, j < 74 → stW (ndF n v) (0 + 51 + 1 * 1) (.int .i64 x) j = ndF { n with he := fun s => if s = 1 then x else n.he s } v j :=
  each74 rfl
theorem upd_he2 (n : Nd) (v : Value) (x : Int) : ∀ j, j < 74 → stW (ndF n v) (0 + 51 + 2 * 1) (.int .i64 x) j = ndF { n with he := fun s => if s = 2 then x else n.he s } v j :=
  each74 rfl
theorem upd_he3 (n : Nd) (v : Value) (x : Int) : ∀ j, j < 74 → stW (ndF n v) (0 + 51 + 3 * 1) (.int .i64 x) j = ndF { n with he := fun s => if s = 3 then x else n.he s } v j :=
  each74 rfl
theorem upd_heAt (n : Nd) (v : Value) (x : Int) (i : Nat) (hi : i < 4) : ∀ j, j < 74 → stW (ndF n v) (0 + 51 + i * 1) (.int .i64 x) j = ndF { n with he := fun s => if s = i then x else n.he s } v j := by
  have : i = 0 ∨ i = 1 ∨ i = 2 ∨ i = 3 := by omega
  rcases this with rfl | rfl | rfl | rfl
  · exact upd_he0 n v x
  · exact upd_he1 n v x
  · exact upd_he2 n v x
  · exact upd_he3 n v x
theorem upd_us0 (n : Nd) (v : Value) (x : Int) : ∀ j, j < 74 → stW (ndF n v) (0 + 67 + 0 * 1) (.int .i64 x) j = ndF { n with us := fun s => if s = 0 then x else n.us s } v j :=
  each74 rfl
theorem upd_us1 (n : Nd) (v : Value) (x : Int) : ∀ j, j < 74 → stW (ndF n v) (0 + 67 + 1 * 1) (.int .i64 x) j = ndF { n with us := fun s => if s = 1 then x else n.us s } v j :=
  each74 rfl
theorem upd_us2 (n : Nd) (v : Value) (x : Int) : ∀ j, j < 74 → stW (ndF n v) (0 + 67 + 2 * 1) (.int .i64 x) j = ndF { n with us := fun s => if s = 2 then x else n.us s } v j :=
  each74 rfl
theorem upd_usAt (n : Nd) (v : Value) (x : Int) (i : Nat) (hi : i < 3) : ∀ j, j < 74 → stW (ndF n v) (0 + 67 + i * 1) (.int .i64 x) j = ndF { n with us := fun s => if s = i then x else n.us s } v j := by
  have : i = 0 ∨ i = 1 ∨ i = 2 := by omega
  rcases this with rfl | rfl | rfl
  · exact upd_us0 n v x
  · exact upd_us1 n v x
  · exact upd_us2 n v x
theorem upd_dr0 (n : Nd) (v : Value) (d : Nat → Int) : ∀ j, j < 74 → stP (ndF n v) (0 + 39 + 0 * 3) 3 (fun k => iV (d k)) j = ndF { n with di := fun s a => if s = 0 then d a else n.di s a } v j :=
  each74 rfl
theorem upd_dr1 (n : Nd) (v : Value) (d : Nat → Int) : ∀ j, j < 74 → stP (ndF n v) (0 + 39 + 1 * 3) 3 (fun k => iV (d k)) j = ndF { n with di := fun s a => if s = 1 then d a else n.di s a } v j :=
  each74 rfl
theorem upd_dr2 (n : Nd) (v : Value) (d : Nat → Int) : ∀ j, j < 74 → stP (ndF n v) (0 + 39 + 2 * 3) 3 (fun k => iV (d k)) j = ndF { n with di := fun s a => if s = 2 then d a else n.di s a } v j :=
  each74 rfl
theorem upd_dr3 (n : Nd) (v : Value) (d : Nat → Int) : ∀ j, j < 74 → stP (ndF n v) (0 + 39 + 3 * 3) 3 (fun k => iV (d k)) j = ndF { n with di := fun s a => if s = 3 then d a else n.di s a } v j :=
  each74 rfl
theorem upd_drAt (n : Nd) (v : Value) (d : Nat → Int) (i : Nat) (hi : i < 4) : ∀ j, j < 74 → stP (ndF n v) (0 + 39 + i * 3) 3 (fun k => iV (d k)) j = ndF { n with di := fun s a => if s = i then d a else n.di s a } v j := by
  have : i = 0 ∨ i = 1 ∨ i = 2 ∨ i = 3 := by omega
  rcases this with rfl | rfl | rfl | rfl
  · exact upd_dr0 n v d
  · exact upd_dr1 n v d
  · exact upd_dr2 n v d
  · exact upd_dr3 n v d
theorem upd_ax0 (n : Nd) (v : Value) (s : St) : ∀ j, j < 74 → stP (ndF n v) (0 + 6 + 0 * 7) 7 (nstF s) j = ndF { n with ax := fun a => if a = 0 then s else n.ax a } v j :=
  each74 rfl
theorem upd_ax1 (n : Nd) (v : Value) (s : St) : ∀ j, j < 74 → stP (ndF n v) (0 + 6 + 1 * 7) 7 (nstF s) j = ndF { n with ax := fun a => if a = 1 then s else n.ax a } v j :=
  each74 rfl
theorem upd_ax2 (n : Nd) (v : Value) (s : St) : ∀ j, j < 74 → stP (ndF n v) (0 + 6 + 2 * 7) 7 (nstF s) j = ndF { n with ax := fun a => if a = 2 then s else n.ax a } v j :=
  each74 rfl
theorem upd_axAt (n : Nd) (v : Value) (s : St) (i : Nat) (hi : i < 3) : ∀ j, j < 74 → stP (ndF n v) (0 + 6 + i * 7) 7 (nstF s) j = ndF { n with ax := fun a => if a = i then s else n.ax a } v j := by
  have : i = 0 ∨ i = 1 ∨ i = 2 := by omega
  rcases this with rfl | rfl | rfl
  · exact upd_ax0 n v s
  · exact upd_ax1 n v s
  · exact upd_ax2 n v s
theorem upd_ag00 (n : Nd) (v : Value) (x : Int) : ∀ j, j < 74 → stW (ndF n v) (0 + 55 + 0 * 3 + 0 * 1) (.int .i64 x) j = ndF { n with ag := fun s k => if s = 0 ∧ k = 0 then x else n.ag s k } v j :=
  each74 rfl
theorem upd_ag01 (n : Nd) (v : Value) (x : Int) : ∀ j, j < 74 → stW (ndF n v) (0 + 55 + 0 * 3 + 1 * 1) (.int .i64 x) j = ndF { n with ag := fun s k => if s = 0 ∧ k = 1 then x else n.ag s k } v j :=
  each74 rfl
theorem upd_ag02 (n : Nd) (v : Value) (x : Int) : ∀ j, j < 74 → stW (ndF n v) (0 + 55 + 0 * 3 + 2 * 1) (.int .i64 x) j = ndF { n with ag := fun s k => if s = 0 ∧ k = 2 then x else n.ag s k } v j :=
  each74 rfl
theorem upd_ag10 (n : Nd) (v : Value) (x : Int) : ∀ j, j < 74 → stW (ndF n v) (0 + 55 + 1 * 3 + 0 * 1) (.int .i64 x) j = ndF { n with ag := fun s k => if s = 1 ∧ k = 0 then x else n.ag s k } v j :=
  each74 rfl
theorem upd_ag11 (n : Nd) (v : Value) (x : Int) : ∀ j, j < 74 → stW (ndF n v) (0 + 55 + 1 * 3 + 1 * 1) (.int .i64 x) j = ndF { n with ag := fun s k => if s = 1 ∧ k = 1 then x else n.ag s k } v j :=
  each74 rfl
theorem upd_ag12 (n : Nd) (v : Value) (x : Int) : ∀ j, j < 74 → stW (ndF n v) (0 + 55 + 1 * 3 + 2 * 1) (.int .i64 x) j = ndF { n with ag := fun s k => if s = 1 ∧ k = 2 then x else n.ag s k } v j :=
  each74 rfl
theorem upd_ag20 (n : Nd) (v : Value) (x : Int) : ∀ j, j < 74 → stW (ndF n v) (0 + 55 + 2 * 3 + 0 * 1) (.int .i64 x) j = ndF { n with ag := fun s k => if s = 2 ∧ k = 0 then x else n.ag s k } v j :=
  each74 rfl
theorem upd_ag21 (n : Nd) (v : Value) (x : Int) : ∀ j, j < 74 → stW (ndF n v) (0 + 55 + 2 * 3 + 1 * 1) (.int .i64 x) j = ndF { n with ag := fun s k => if s = 2 ∧ k = 1 then x else n.ag s k } v j :=
  each74 rfl
theorem upd_ag22 (n : Nd) (v : Value) (x : Int) : ∀ j, j < 74 → stW (ndF n v) (0 + 55 + 2 * 3 + 2 * 1) (.int .i64 x) j = ndF { n with ag := fun s k => if s = 2 ∧ k = 2 then x else n.ag s k } v j :=
  each74 rfl
theorem upd_ag30 (n : Nd) (v : Value) (x : Int) : ∀ j, j < 74 → stW (ndF n v) (0 + 55 + 3 * 3 + 0 * 1) (.int .i64 x) j = ndF { n with ag := fun s k => if s = 3 ∧ k = 0 then x else n.ag s k } v j :=
  each74 rfl
theorem upd_ag31 (n : Nd) (v : Value) (x : Int) : ∀ j, j < 74 → stW (ndF n v) (0 + 55 + 3 * 3 + 1 * 1) (.int .i64 x) j = ndF { n with ag := fun s k => if s = 3 ∧ k = 1 then x else n.ag s k } v j :=
  each74 rfl
theorem upd_ag32 (n : Nd) (v : Value) (x : Int) : ∀ j, j < 74 → stW (ndF n v) (0 + 55 + 3 * 3 + 2 * 1) (.int .i64 x) j = ndF { n with ag := fun s k => if s = 3 ∧ k = 2 then x else n.ag s k } v j :=
  each74 rfl
theorem upd_agAt (n : Nd) (v : Value) (x : Int) (i a : Nat) (hi : i < 4) (ha : a < 3) : ∀ j, j < 74 → stW (ndF n v) (0 + 55 + i * 3 + a * 1) (.int .i64 x) j = ndF { n with ag := fun s k => if s = i ∧ k = a then x else n.ag s k } v j := by
  have h1 : i = 0 ∨ i = 1 ∨ i = 2 ∨ i = 3 := by omega
  have h2 : a = 0 ∨ a = 1 ∨ a = 2 := by omega
  rcases h1 with rfl | rfl | rfl | rfl <;> rcases h2 with rfl | rfl | rfl
  · exact upd_ag00 n v x
  · exact upd_ag01 n v x
  · exact upd_ag02 n v x
  · exact upd_ag10 n v x
  · exact upd_ag11 n v x
  · exact upd_ag12 n v x
  · exact upd_ag20 n v x
  · exact upd_ag21 n v x
  · exact upd_ag22 n v x
  · exact upd_ag30 n v x
  · exact upd_ag31 n v x
  · exact upd_ag32 n v x

end Go.Proofs.YthimcecbgpamdaaGreat

namespace Go.Proofs.YthimcecbgpamdaaGreat
open Go.RowKit

/-- All its numbers have 64 bits. -/
structure NdOK (n : Nd) : Prop where
  id : R64 n.id
  fr : R64 n.fr
  tn : n.tn.Ok
  ax : ∀ a, (n.ax a).Ok
  rM : ∀ i, R64 (n.rl.M i)
  rJ : ∀ i, R64 (n.rl.J i)
  di : ∀ s a, R64 (n.di s a)
  he : ∀ s, R64 (n.he s)
  ag : ∀ s a, R64 (n.ag s a)
  us : ∀ a, R64 (n.us a)
  dg : R64 n.dg
  vX : R64 n.vX
  vA : n.vA.length ≤ 140737488351232
/-- A computer that is handed in; one that is handed back. -/
def AgRd (w : World) (n : Nd) (ao : Option Addr) (c : Nat) : Prop := Sr w ao n.vA.length c (tF (bA n))
def AgNew (B : Nat) (w : World) (n : Nd) (ao : Option Addr) (c : Nat) : Prop := w.ownsRow B 4 1 (.slice ao n.vA.length c) n.vA.length (rowV (tF (bA n)) n.vA.length)
/-- A message as a value; its numbers handed back. -/
def lsV (m : Ms) (v : Value) : Value := agV (msF m.K m.F m.R v) 0 4
def VaNew (B : Nat) (w : World) (m : Ms) (ao : Option Addr) (c : Nat) : Prop := w.ownsRow B 3 1 (.slice ao m.L.length c) m.L.length (rowV (iF (gL m.L)) m.L.length)
/-- Sense; the phases that hear. -/
def SnOK (fn : Nat) : Prop := ∀ (n : Nd) (ao : Option Addr) (c : Nat) (frame : Int) (rd : Nat → Int) (w : World), NdOK n → AgRd w n ao c → R64 frame → (∀ a, R64 (rd a)) →
  Calls Tryz.prog fn #[ndV n (.slice ao n.vA.length c), .int .i64 frame, agV (fun a => iV (rd a)) 0 3] w fun e w' => ∃ a' c' a2 c2, e = .returned (.tuple #[ndV (senN n frame rd) (.slice a' n.vA.length c'), lsV (senM n frame rd) (.slice a2 (senM n frame rd).L.length c2)]) ∧ AgNew w.heap.size w' n a' c' ∧ VaNew w.heap.size w' (senM n frame rd) a2 c2 ∧ Below w.heap.size w w'
def PhOK (N : Nd → List Ms → Nd) (M : Nd → List Ms → Ms) (fn : Nat) : Prop := ∀ (n : Nd) (ao : Option Addr) (c : Nat) (mo : Option Addr) (mc : Nat) (L : List Lm) (w : World), NdOK n → AgRd w n ao c → MRd w mo L → L.length ≤ 140737488351232 → L.length ≤ mc → (∀ m, m ∈ L → ∀ i, R64 (gL m.m.L i)) →
  Calls Tryz.prog fn #[ndV n (.slice ao n.vA.length c), .slice mo L.length mc] w fun e w' => ∃ a' c' a2 c2, e = .returned (.tuple #[ndV (N n (L.map Lm.m)) (.slice a' (N n (L.map Lm.m)).vA.length c'), lsV (M n (L.map Lm.m)) (.slice a2 (M n (L.map Lm.m)).L.length c2)]) ∧ AgNew w.heap.size w' (N n (L.map Lm.m)) a' c' ∧ VaNew w.heap.size w' (M n (L.map Lm.m)) a2 c2 ∧ Below w.heap.size w w'

theorem enter_copy (x : Value) (w : World) : (callFunc 20 #[x]).run Tryz.prog w = .ok (.enter 20 #[x]) w := by go_simp
theorem enter_none (x : Value) (w : World) : (callFunc 43 #[x]).run Tryz.prog w = .ok (.enter 43 #[x]) w := by go_simp
theorem enter_first (x y z u v : Value) (w : World) : (callFunc 44 #[x, y, z, u, v]).run Tryz.prog w = .ok (.enter 44 #[x, y, z, u, v]) w := by go_simp
theorem zero43 (w : World) : (zeroValue 32).run Tryz.prog w = .ok (agV (fun _ => iV 0) 0 12) w := by kernel_rfl
section
variable {f : Operand → Value} {o : Oper}
theorem run_bld0 (ho : o.op = .build 67 #[]) (w : World) : (execOp f o).run Tryz.prog w = .ok (.value (agV (msF 0 0 0 (.slice none 0 0)) 0 4)) w := by
  unfold execOp
  rw [ho]
  go_simp
  rfl
theorem run_bldM (a b c d : Operand) (ho : o.op = .build 67 #[(0, a), (1, b), (2, c), (3, d)]) {K F R : Int} {ao : Option Addr} {n q : Nat} (h0 : f a = .int .i64 K) (h1 : f b = .int .i64 F) (h2 : f c = .int .i64 R) (h3 : f d = .slice ao n q) (w : World) :
    (execOp f o).run Tryz.prog w = .ok (.value (agV (msF K F R (.slice ao n q)) 0 4)) w := by
  unfold execOp
  rw [ho]
  go_simp
  rfl
theorem run_bldM3 (a b c : Operand) (ho : o.op = .build 67 #[(0, a), (1, b), (2, c)]) {K F R : Int} (h0 : f a = .int .i64 K) (h1 : f b = .int .i64 F) (h2 : f c = .int .i64 R) (w : World) :
    (execOp f o).run Tryz.prog w = .ok (.value (agV (msF K F R (.slice none 0 0)) 0 4)) w := by
  unfold execOp
  rw [ho]
  go_simp
  rfl
theorem run_bld4 (ho : o.op = .build 28 #[]) (w : World) : (execOp f o).run Tryz.prog w = .ok (.value (agV (fun _ => iV 0) 0 4)) w := by
  unfold execOp
  rw [ho]
  go_simp
  rfl
theorem run_bld3 (a b c : Operand) (ho : o.op = .build 31 #[(0, a), (1, b), (2, c)]) {g : Nat → Int} (h0 : f a = .int .i64 (g 0)) (h1 : f b = .int .i64 (g 1)) (h2 : f c = .int .i64 (g 2)) (w : World) : (execOp f o).run Tryz.prog w = .ok (.value (agV (fun i => iV (g i)) 0 3)) w := by
  unfold execOp
  rw [ho]
  go_simp
  rfl
end
/-- A row of three numbers; of one. -/
theorem wp_row3 (w : World) {o : Oper} {a : Act} {K : Act → World → Prop} {Q : Exit → Act → World → Prop} (x y z : Operand) (ho : o.op = .buildSlice 65 3 #[(0, x), (1, y), (2, z)]) {g : Nat → Int} (hx : a.eval x = .int .i64 (g 0)) (hy : a.eval y = .int .i64 (g 1)) (hz : a.eval z = .int .i64 (g 2))
    (h : ∀ w', Vh 3 w' w.heap.size 3 3 (fun i => iV (g i)) → Below w.heap.size w w' → w'.heap.size = w.heap.size + 1 → K (a.put o.dst (.slice (some ⟨w.heap.size, 0, none⟩) 3 3)) w') : WpI Tryz.prog o a w K Q := by
  have hh := h (w.alloc (.cells #[.int .i64 (g 0), .int .i64 (g 1), .int .i64 (g 2)] 3)) (Vh.of_row (fun i => iV (g i)) 3 (by decide) (by show (w.heap.push _)[w.heap.size]? = _; rw [Array.getElem?_push_size]; rfl)) (al_below _ _) (al_size _ _)
  have e : (execOp a.eval o).run Tryz.prog w = .ok (.value (.slice (some ⟨w.heap.size, 0, none⟩) 3 3)) (w.alloc (.cells #[.int .i64 (g 0), .int .i64 (g 1), .int .i64 (g 2)] 3)) := by
    generalize a.eval = f at hx hy hz
    unfold execOp
    rw [ho]
    simp only [List.map_toArray, List.map_cons, List.map_nil]
    rw [hx, hy, hz]
    go_simp
  refine ⟨?_⟩
  unfold Oper.wp
  rw [e]
  exact hh
theorem wp_row1 (w : World) {o : Oper} {a : Act} {K : Act → World → Prop} {Q : Exit → Act → World → Prop} (x : Operand) (ho : o.op = .buildSlice 65 1 #[(0, x)]) {g : Int} (hx : a.eval x = .int .i64 g)
    (h : ∀ w', Vh 3 w' w.heap.size 1 1 (fun _ => iV g) → Below w.heap.size w w' → w'.heap.size = w.heap.size + 1 → K (a.put o.dst (.slice (some ⟨w.heap.size, 0, none⟩) 1 1)) w') : WpI Tryz.prog o a w K Q := by
  have hh := h (w.alloc (.cells #[.int .i64 g] 3)) (Vh.of_row (fun _ => iV g) 1 (by decide) (by show (w.heap.push _)[w.heap.size]? = _; rw [Array.getElem?_push_size]; rfl)) (al_below _ _) (al_size _ _)
  have e : (execOp a.eval o).run Tryz.prog w = .ok (.value (.slice (some ⟨w.heap.size, 0, none⟩) 1 1)) (w.alloc (.cells #[.int .i64 g] 3)) := by
    generalize a.eval = f at hx
    unfold execOp
    rw [ho]
    simp only [List.map_toArray, List.map_cons, List.map_nil]
    rw [hx]
    go_simp
  refine ⟨?_⟩
  unfold Oper.wp
  rw [e]
  exact hh
theorem msF_one (K F R : Int) (ao : Option Addr) (n c : Nat) : ∀ j, j < 4 → (msF K F R (.slice ao n c) j).oneCell' = true := by
  intro j _
  unfold msF iV
  repeat' split
  all_goals rfl
theorem noN_in {x : Int} (h : noN x = false) : 0 ≤ x ∧ x ≤ 3 := by
  unfold noN at h
  simp at h
  omega

end Go.Proofs.YthimcecbgpamdaaGreat
