import Derived.Test.YtdhblehhgpdpdaaGreatNodMem
import Derived.Test.YtdhblehhgpdpdaaGreatVotOps
import Derived.Test.YtdhblehhgpdpdaaGreatRowBase
namespace Go.Proofs.YtdhblehhgpdpdaaGreat
open Go.RowKit
section
variable {f : Operand → Value} {o : Oper} {x : Operand} {b off : Nat}
theorem fldNd0 (ho : o.op = .fieldAddr 37 x 0) (hx : f x = .pointer (some ⟨b, off, none⟩)) (w : World) : (execOp f o).run Tryz.prog w = .ok (.value (.pointer (some ⟨b, off + 0, none⟩))) w := by
 unfold execOp
 rw [ho]
 dsimp only
 rw [hx]
 go_simp
theorem fldNd1 (ho : o.op = .fieldAddr 37 x 1) (hx : f x = .pointer (some ⟨b, off, none⟩)) (w : World) : (execOp f o).run Tryz.prog w = .ok (.value (.pointer (some ⟨b, off + 1, none⟩))) w := by
 unfold execOp
 rw [ho]
 dsimp only
 rw [hx]
 go_simp
theorem fldNd2 (ho : o.op = .fieldAddr 37 x 2) (hx : f x = .pointer (some ⟨b, off, none⟩)) (w : World) : (execOp f o).run Tryz.prog w = .ok (.value (.pointer (some ⟨b, off + 2, none⟩))) w := by
 unfold execOp
 rw [ho]
 dsimp only
 rw [hx]
 go_simp
theorem fldNd3 (ho : o.op = .fieldAddr 37 x 3) (hx : f x = .pointer (some ⟨b, off, none⟩)) (w : World) : (execOp f o).run Tryz.prog w = .ok (.value (.pointer (some ⟨b, off + 6, none⟩))) w := by
 unfold execOp
 rw [ho]
 dsimp only
 rw [hx]
 go_simp
theorem fldNd4 (ho : o.op = .fieldAddr 37 x 4) (hx : f x = .pointer (some ⟨b, off, none⟩)) (w : World) : (execOp f o).run Tryz.prog w = .ok (.value (.pointer (some ⟨b, off + 27, none⟩))) w := by
 unfold execOp
 rw [ho]
 dsimp only
 rw [hx]
 go_simp
theorem fldNd5 (ho : o.op = .fieldAddr 37 x 5) (hx : f x = .pointer (some ⟨b, off, none⟩)) (w : World) : (execOp f o).run Tryz.prog w = .ok (.value (.pointer (some ⟨b, off + 39, none⟩))) w := by
 unfold execOp
 rw [ho]
 dsimp only
 rw [hx]
 go_simp
theorem fldNd6 (ho : o.op = .fieldAddr 37 x 6) (hx : f x = .pointer (some ⟨b, off, none⟩)) (w : World) : (execOp f o).run Tryz.prog w = .ok (.value (.pointer (some ⟨b, off + 51, none⟩))) w := by
 unfold execOp
 rw [ho]
 dsimp only
 rw [hx]
 go_simp
theorem fldNd7 (ho : o.op = .fieldAddr 37 x 7) (hx : f x = .pointer (some ⟨b, off, none⟩)) (w : World) : (execOp f o).run Tryz.prog w = .ok (.value (.pointer (some ⟨b, off + 55, none⟩))) w := by
 unfold execOp
 rw [ho]
 dsimp only
 rw [hx]
 go_simp
theorem fldNd8 (ho : o.op = .fieldAddr 37 x 8) (hx : f x = .pointer (some ⟨b, off, none⟩)) (w : World) : (execOp f o).run Tryz.prog w = .ok (.value (.pointer (some ⟨b, off + 67, none⟩))) w := by
 unfold execOp
 rw [ho]
 dsimp only
 rw [hx]
 go_simp
theorem fldNd9 (ho : o.op = .fieldAddr 37 x 9) (hx : f x = .pointer (some ⟨b, off, none⟩)) (w : World) : (execOp f o).run Tryz.prog w = .ok (.value (.pointer (some ⟨b, off + 70, none⟩))) w := by
 unfold execOp
 rw [ho]
 dsimp only
 rw [hx]
 go_simp
theorem fldNd10 (ho : o.op = .fieldAddr 37 x 10) (hx : f x = .pointer (some ⟨b, off, none⟩)) (w : World) : (execOp f o).run Tryz.prog w = .ok (.value (.pointer (some ⟨b, off + 71, none⟩))) w := by
 unfold execOp
 rw [ho]
 dsimp only
 rw [hx]
 go_simp
theorem fldMs0 (ho : o.op = .fieldAddr 81 x 0) (hx : f x = .pointer (some ⟨b, off, none⟩)) (w : World) : (execOp f o).run Tryz.prog w = .ok (.value (.pointer (some ⟨b, off + 0, none⟩))) w := by
 unfold execOp
 rw [ho]
 dsimp only
 rw [hx]
 go_simp
theorem fldMs1 (ho : o.op = .fieldAddr 81 x 1) (hx : f x = .pointer (some ⟨b, off, none⟩)) (w : World) : (execOp f o).run Tryz.prog w = .ok (.value (.pointer (some ⟨b, off + 1, none⟩))) w := by
 unfold execOp
 rw [ho]
 dsimp only
 rw [hx]
 go_simp
theorem fldMs2 (ho : o.op = .fieldAddr 81 x 2) (hx : f x = .pointer (some ⟨b, off, none⟩)) (w : World) : (execOp f o).run Tryz.prog w = .ok (.value (.pointer (some ⟨b, off + 2, none⟩))) w := by
 unfold execOp
 rw [ho]
 dsimp only
 rw [hx]
 go_simp
theorem fldMs3 (ho : o.op = .fieldAddr 81 x 3) (hx : f x = .pointer (some ⟨b, off, none⟩)) (w : World) : (execOp f o).run Tryz.prog w = .ok (.value (.pointer (some ⟨b, off + 3, none⟩))) w := by
 unfold execOp
 rw [ho]
 dsimp only
 rw [hx]
 go_simp
theorem fldVd0 (ho : o.op = .fieldAddr 35 x 0) (hx : f x = .pointer (some ⟨b, off, none⟩)) (w : World) : (execOp f o).run Tryz.prog w = .ok (.value (.pointer (some ⟨b, off + 0, none⟩))) w := by
 unfold execOp
 rw [ho]
 dsimp only
 rw [hx]
 go_simp
theorem fldVd1 (ho : o.op = .fieldAddr 35 x 1) (hx : f x = .pointer (some ⟨b, off, none⟩)) (w : World) : (execOp f o).run Tryz.prog w = .ok (.value (.pointer (some ⟨b, off + 1, none⟩))) w := by
 unfold execOp
 rw [ho]
 dsimp only
 rw [hx]
 go_simp
theorem fldVd2 (ho : o.op = .fieldAddr 35 x 2) (hx : f x = .pointer (some ⟨b, off, none⟩)) (w : World) : (execOp f o).run Tryz.prog w = .ok (.value (.pointer (some ⟨b, off + 2, none⟩))) w := by
 unfold execOp
 rw [ho]
 dsimp only
 rw [hx]
 go_simp
theorem fldRl0 (ho : o.op = .fieldAddr 30 x 0) (hx : f x = .pointer (some ⟨b, off, none⟩)) (w : World) : (execOp f o).run Tryz.prog w = .ok (.value (.pointer (some ⟨b, off + 0, none⟩))) w := by
 unfold execOp
 rw [ho]
 dsimp only
 rw [hx]
 go_simp
theorem fldRl1 (ho : o.op = .fieldAddr 30 x 1) (hx : f x = .pointer (some ⟨b, off, none⟩)) (w : World) : (execOp f o).run Tryz.prog w = .ok (.value (.pointer (some ⟨b, off + 4, none⟩))) w := by
 unfold execOp
 rw [ho]
 dsimp only
 rw [hx]
 go_simp
theorem fldRl2 (ho : o.op = .fieldAddr 30 x 2) (hx : f x = .pointer (some ⟨b, off, none⟩)) (w : World) : (execOp f o).run Tryz.prog w = .ok (.value (.pointer (some ⟨b, off + 8, none⟩))) w := by
 unfold execOp
 rw [ho]
 dsimp only
 rw [hx]
 go_simp
theorem fldSt0 (ho : o.op = .fieldAddr 25 x 0) (hx : f x = .pointer (some ⟨b, off, none⟩)) (w : World) : (execOp f o).run Tryz.prog w = .ok (.value (.pointer (some ⟨b, off + 0, none⟩))) w := by
 unfold execOp
 rw [ho]
 dsimp only
 rw [hx]
 go_simp
theorem fldSt1 (ho : o.op = .fieldAddr 25 x 1) (hx : f x = .pointer (some ⟨b, off, none⟩)) (w : World) : (execOp f o).run Tryz.prog w = .ok (.value (.pointer (some ⟨b, off + 1, none⟩))) w := by
 unfold execOp
 rw [ho]
 dsimp only
 rw [hx]
 go_simp
theorem fldSt2 (ho : o.op = .fieldAddr 25 x 2) (hx : f x = .pointer (some ⟨b, off, none⟩)) (w : World) : (execOp f o).run Tryz.prog w = .ok (.value (.pointer (some ⟨b, off + 2, none⟩))) w := by
 unfold execOp
 rw [ho]
 dsimp only
 rw [hx]
 go_simp
theorem fldSt3 (ho : o.op = .fieldAddr 25 x 3) (hx : f x = .pointer (some ⟨b, off, none⟩)) (w : World) : (execOp f o).run Tryz.prog w = .ok (.value (.pointer (some ⟨b, off + 3, none⟩))) w := by
 unfold execOp
 rw [ho]
 dsimp only
 rw [hx]
 go_simp
theorem fldSt4 (ho : o.op = .fieldAddr 25 x 4) (hx : f x = .pointer (some ⟨b, off, none⟩)) (w : World) : (execOp f o).run Tryz.prog w = .ok (.value (.pointer (some ⟨b, off + 4, none⟩))) w := by
 unfold execOp
 rw [ho]
 dsimp only
 rw [hx]
 go_simp
theorem fldSt5 (ho : o.op = .fieldAddr 25 x 5) (hx : f x = .pointer (some ⟨b, off, none⟩)) (w : World) : (execOp f o).run Tryz.prog w = .ok (.value (.pointer (some ⟨b, off + 5, none⟩))) w := by
 unfold execOp
 rw [ho]
 dsimp only
 rw [hx]
 go_simp
theorem fldSt6 (ho : o.op = .fieldAddr 25 x 6) (hx : f x = .pointer (some ⟨b, off, none⟩)) (w : World) : (execOp f o).run Tryz.prog w = .ok (.value (.pointer (some ⟨b, off + 6, none⟩))) w := by
 unfold execOp
 rw [ho]
 dsimp only
 rw [hx]
 go_simp
theorem run_addI (x y : Operand) (ho : o.op = .binOp .add 3 x y 3) {u v : Int} (hx : f x = .int .i64 u) (hy : f y = .int .i64 v) (h1 : -9223372036854775808 ≤ u + v) (h2 : u + v ≤ 9223372036854775807) (w : World) : (execOp f o).run Tryz.prog w = .ok (.value (.int .i64 (u + v))) w := by
 unfold execOp
 rw [ho]
 dsimp only
 rw [hx, hy]
 go_simp
 rw [IntKind.wrap_i64]
 omega
theorem run_subI (x y : Operand) (ho : o.op = .binOp .sub 3 x y 3) {u v : Int} (hx : f x = .int .i64 u) (hy : f y = .int .i64 v) (h1 : -9223372036854775808 ≤ u - v) (h2 : u - v ≤ 9223372036854775807) (w : World) : (execOp f o).run Tryz.prog w = .ok (.value (.int .i64 (u - v))) w := by
 unfold execOp
 rw [ho]
 dsimp only
 rw [hx, hy]
 go_simp
 rw [IntKind.wrap_i64]
 omega
theorem run_lssI {b : Bool} (x y : Operand) (ho : o.op = .binOp .lss 3 x y 3) {u v : Int} (hx : f x = .int .i64 u) (hy : f y = .int .i64 v) (hb : decide (u < v) = b) (w : World) : (execOp f o).run Tryz.prog w = .ok (.value (.bool b)) w := by
 subst hb
 unfold execOp
 rw [ho]
 dsimp only
 rw [hx, hy]
 go_simp
theorem run_gtrI {b : Bool} (x y : Operand) (ho : o.op = .binOp .gtr 3 x y 3) {u v : Int} (hx : f x = .int .i64 u) (hy : f y = .int .i64 v) (hb : decide (v < u) = b) (w : World) : (execOp f o).run Tryz.prog w = .ok (.value (.bool b)) w := by
 subst hb
 unfold execOp
 rw [ho]
 dsimp only
 rw [hx, hy]
 go_simp
theorem run_eqlI {b : Bool} (x y : Operand) (ho : o.op = .binOp .eql 3 x y 3) {u v : Int} (hx : f x = .int .i64 u) (hy : f y = .int .i64 v) (hb : decide (u = v) = b) (w : World) : (execOp f o).run Tryz.prog w = .ok (.value (.bool b)) w := by
 have e : (u == v) = b := by rw [← hb, Bool.eq_iff_iff]; simp
 unfold execOp
 rw [ho]
 dsimp only
 rw [hx, hy]
 go_simp
theorem run_neqI {b : Bool} (x y : Operand) (ho : o.op = .binOp .neq 3 x y 3) {u v : Int} (hx : f x = .int .i64 u) (hy : f y = .int .i64 v) (hb : decide (u ≠ v) = b) (w : World) : (execOp f o).run Tryz.prog w = .ok (.value (.bool b)) w := by
 have e : (u != v) = b := by rw [← hb, Bool.eq_iff_iff]; simp
 unfold execOp
 rw [ho]
 dsimp only
 rw [hx, hy]
 go_simp
end
theorem zeroNd (w : World) : (zeroValue 37).run Tryz.prog w = .ok (agV (ndF zeroN (.slice none 0 0)) 0 74) w := by
 obtain ⟨z, e⟩ : ∃ z, z = agV (ndF zeroN (.slice none 0 0)) 0 74 := ⟨_, rfl⟩
 have h : ∀ w, (zeroValue 37).run Tryz.prog w = .ok z w := fun w => by rw [e]; kernel_rfl
 rw [h w, e]
end Go.Proofs.YtdhblehhgpdpdaaGreat
namespace Go.Proofs.YtdhblehhgpdpdaaGreat
open Go.RowKit
section
variable {t : TypeId} {B s n z : Nat} {w w' : World} {v : Value} {xs : List Value} {r : Option Nat}
theorem rw_below (h : w.ownsRow B t s v n xs) (k : Below w.heap.size w w') : w'.ownsRow B t s v n xs := by
 refine ⟨h.1, ?_⟩
 rcases h.2 with hn | ⟨g, cap, cur, rfl, hb, hgg, rest⟩
 ·exact .inl hn
 ·exact .inr ⟨g, cap, cur, rfl, hb, (k.block g (lt_of_block hgg)).trans hgg, rest⟩
theorem rw_kept (h : w.ownsRow B t s v n xs) (k : Kept z w w') (hz : v.ownBlock ≠ some z) : w'.ownsRow B t s v n xs := by
 refine ⟨h.1, ?_⟩
 rcases h.2 with hn | ⟨g, cap, cur, rfl, hb, hgg, rest⟩
 ·exact .inl hn
 ·exact .inr ⟨g, cap, cur, rfl, hb, (k.block g (lt_of_block hgg) (fun e => hz (by rw [← e]; rfl))).trans hgg, rest⟩
theorem rw_under (h : w.ownsRow B t s v n xs) (k : Kept z w w') (hz : z < B) : w'.ownsRow B t s v n xs := rw_kept h k (fun e => by have := (h.lt z e).1; omega)
theorem rw_base {C : Nat} (h : w.ownsRow B t s v n xs) (e : C ≤ B) : w.ownsRow C t s v n xs := by
 refine ⟨h.1, ?_⟩
 rcases h.2 with hn | ⟨g, cap, cur, rfl, hb, rest⟩
 ·exact .inl hn
 ·exact .inr ⟨g, cap, cur, rfl, Nat.le_trans e hb, rest⟩
theorem rw_slice (h : w.ownsRow B t s v n xs) : ∃ ao cap, v = .slice ao n cap ∧ n ≤ cap := by
 rcases h.2 with ⟨rfl, h0⟩ | ⟨g, cap, cur, rfl, _, _, hc, _⟩
 ·exact ⟨none, 0, by rw [h0], by omega⟩
 ·exact ⟨_, cap, rfl, hc⟩
end
end Go.Proofs.YtdhblehhgpdpdaaGreat
namespace Go.Proofs.YtdhblehhgpdpdaaGreat
open Go.RowKit
structure Lm where
 m : Ms
 ao : Option Addr
 cap : Nat
def lmV (c : Lm) : Value := .slice c.ao c.m.L.length c.cap
def msF (K F R : Int) (v : Value) (j : Nat) : Value := if j = 0 then iV K else if j = 1 then iV F else if j = 2 then iV R else v
def lmF (c : Lm) : Nat → Value := msF c.m.K c.m.F c.m.R (lmV c)
def LmRd (w : World) (ao : Option Addr) (L : List Lm) : Prop := 0 < L.length → ∃ b o, ao = some ⟨b, o, none⟩ ∧ ∀ i c, L[i]? = some c → ∀ k, k < 4 → w.cell? ⟨b, o + i * 4 + k, none⟩ = some (lmF c k)
def gL (l : List Int) (i : Nat) : Int := l.getD i 0
def LvRd (w : World) (c : Lm) : Prop := Sr w c.ao c.m.L.length c.cap (iF (gL c.m.L)) ∧ c.m.L.length ≤ c.cap ∧ c.m.L.length ≤ 17592186044404
def MRd (w : World) (ao : Option Addr) (L : List Lm) : Prop := LmRd w ao L ∧ ∀ c, c ∈ L → LvRd w c
theorem LmRd.below {w w' : World} {ao : Option Addr} {L : List Lm} (h : LmRd w ao L) (k : Below w.heap.size w w') : LmRd w' ao L := fun hl => by
 obtain ⟨b, o, e, hc⟩ := h hl
 exact ⟨b, o, e, fun i c hi j hj => at_below (hc i c hi j hj) k⟩
theorem LvRd.below {w w' : World} {c : Lm} (h : LvRd w c) (k : Below w.heap.size w w') : LvRd w' c := ⟨h.1.below k, h.2⟩
theorem MRd.below {w w' : World} {ao : Option Addr} {L : List Lm} (h : MRd w ao L) (k : Below w.heap.size w w') : MRd w' ao L := ⟨h.1.below k, fun c hc => (h.2 c hc).below k⟩
def fitB (id fr : Int) (s kind : Int) (many : Int) (m : Ms) : Bool := decide (m.F = s) && decide (m.F ≠ id) && decide (m.K = kind) && decide (m.R = fr) && decide ((m.L.length : Int) = many)
def fL (id fr : Int) (L : List Lm) (s kind many : Int) : Option Lm := L.find? fun c => fitB id fr s kind many c.m
theorem fL_frst (n : Nd) (L : List Lm) (s : Nat) (kind : Int) (many : Nat) : (fL n.id n.fr L s kind many).map (fun c => c.m.L) = frst n (L.map Lm.m) s kind many := by
 unfold fL frst
 induction L with
 | nil => rfl
 | cons c L ih =>
  rw [List.map_cons, List.find?_cons, List.find?_cons]
  have e : fitB n.id n.fr s kind many c.m = (decide (c.m.F = (s : Int)) && decide (c.m.F ≠ n.id) && decide (c.m.K = kind) && decide (c.m.R = n.fr) && decide (c.m.L.length = many)) := by
   unfold fitB
   congr 1
   exact decide_eq_decide.2 (by omega)
  rw [e]
  split
  ·rfl
  ·exact ih
theorem run_ixM {f : Operand → Value} {o : Oper} (x y : Operand) (ho : o.op = .indexAddr 85 x y) {b off n cap i : Nat} {z : Int} (hx : f x = .slice (some ⟨b, off, none⟩) n cap) (hy : f y = .int .i64 z) (hz : z = (i : Int)) (hi : i < n) (w : World) :
  (execOp f o).run Tryz.prog w = .ok (.value (.pointer (some ⟨b, off + i * 4, none⟩))) w := by
 subst hz
 have hi2 : (i : Int) < n := by omega
 unfold execOp
 rw [ho]
 dsimp only
 rw [hx, hy]
 go_simp
theorem run_lodM {f : Operand → Value} {o : Oper} (x : Operand) (ho : o.op = .load 81 x) {b off : Nat} {c : Lm} (hx : f x = .pointer (some ⟨b, off, none⟩)) {w : World} (hc : ∀ k, k < 4 → w.cell? ⟨b, off + k, none⟩ = some (lmF c k)) :
  (execOp f o).run Tryz.prog w = .ok (.value (agV (lmF c) 0 4)) w := by
 have hl : (loadCells ⟨b, off, none⟩ 4).run Tryz.prog w = .ok ((List.range 4).map fun j => lmF c (0 + j)).toArray w :=
  run_loadCells w ⟨b, off, none⟩ 4 (fun j => lmF c (0 + j)) (fun j hj => by rw [add_at, Nat.zero_add]; exact hc j hj)
 unfold execOp
 simp only [ho, hx, Instr.loadAt, Instr.sureAddr, loadVar, Sem.run_bind, Sem.run_pure, Result.andThen_ok, manyMs.agg, manyMs.size, hl, if_true]
 rfl
theorem zeroMs (w : World) : (zeroValue 81).run Tryz.prog w = .ok (agV (msF 0 0 0 (.slice none 0 0)) 0 4) w := by kernel_rfl
theorem stP_all4 (g : Nat → Value) (h : Nat → Value) : ∀ j, j < 4 → stP g 0 4 h j = h j := fun j hj => by
 have := stP_in g (o := 0) (n := 4) h hj
 rwa [Nat.zero_add] at this
theorem lmF_one (c : Lm) : ∀ j, j < 4 → (lmF c j).oneCell' = true := by
 intro j _
 unfold lmF msF iV lmV
 repeat' split
 all_goals rfl
theorem run_lenI {f : Operand → Value} {o : Oper} (x : Operand) (ho : o.op = .call { callee := .builtin .len, args := #[x], argTypes := #[79] }) {ao : Option Addr} {n c : Nat} (hx : f x = .slice ao n c) (w : World) : (execOp f o).run Tryz.prog w = .ok (.value (.int .i64 ((n : Nat) : Int))) w := by
 unfold execOp
 rw [ho]
 dsimp only
 go_simp
theorem run_lenM {f : Operand → Value} {o : Oper} (x : Operand) (ho : o.op = .call { callee := .builtin .len, args := #[x], argTypes := #[85] }) {ao : Option Addr} {n c : Nat} (hx : f x = .slice ao n c) (w : World) : (execOp f o).run Tryz.prog w = .ok (.value (.int .i64 ((n : Nat) : Int))) w := by
 unfold execOp
 rw [ho]
 dsimp only
 go_simp
end Go.Proofs.YtdhblehhgpdpdaaGreat
namespace Go.Proofs.YtdhblehhgpdpdaaGreat
open Go.RowKit
end Go.Proofs.YtdhblehhgpdpdaaGreat
namespace Go.Proofs.YtdhblehhgpdpdaaGreat
open Go.RowKit
def bA (n : Nd) (i : Nat) : Bool := n.vA.getD i false
theorem stP_all (g : Nat → Value) (h : Nat → Value) : ∀ j, j < 74 → stP g 0 74 h j = h j := fun j hj => by
 have := stP_in g (o := 0) (n := 74) h hj
 rwa [Nat.zero_add] at this
end Go.Proofs.YtdhblehhgpdpdaaGreat
namespace Go.Proofs.YtdhblehhgpdpdaaGreat
theorem upd_fr (n : Nd) (v : Value) (x : Int) : ∀ j, j < 74 → stW (ndF n v) (0 + 1) (.int .i64 x) j = ndF { n with fr := x } v j
 | 0, _ => rfl
 | 1, _ => rfl
 | 2, _ => rfl
 | 3, _ => rfl
 | 4, _ => rfl
 | 5, _ => rfl
 | 6, _ => rfl
 | 7, _ => rfl
 | 8, _ => rfl
 | 9, _ => rfl
 | 10, _ => rfl
 | 11, _ => rfl
 | 12, _ => rfl
 | 13, _ => rfl
 | 14, _ => rfl
 | 15, _ => rfl
 | 16, _ => rfl
 | 17, _ => rfl
 | 18, _ => rfl
 | 19, _ => rfl
 | 20, _ => rfl
 | 21, _ => rfl
 | 22, _ => rfl
 | 23, _ => rfl
 | 24, _ => rfl
 | 25, _ => rfl
 | 26, _ => rfl
 | 27, _ => rfl
 | 28, _ => rfl
 | 29, _ => rfl
 | 30, _ => rfl
 | 31, _ => rfl
 | 32, _ => rfl
 | 33, _ => rfl
 | 34, _ => rfl
 | 35, _ => rfl
 | 36, _ => rfl
 | 37, _ => rfl
 | 38, _ => rfl
 | 39, _ => rfl
 | 40, _ => rfl
 | 41, _ => rfl
 | 42, _ => rfl
 | 43, _ => rfl
 | 44, _ => rfl
 | 45, _ => rfl
 | 46, _ => rfl
 | 47, _ => rfl
 | 48, _ => rfl
 | 49, _ => rfl
 | 50, _ => rfl
 | 51, _ => rfl
 | 52, _ => rfl
 | 53, _ => rfl
 | 54, _ => rfl
 | 55, _ => rfl
 | 56, _ => rfl
 | 57, _ => rfl
 | 58, _ => rfl
 | 59, _ => rfl
 | 60, _ => rfl
 | 61, _ => rfl
 | 62, _ => rfl
 | 63, _ => rfl
 | 64, _ => rfl
 | 65, _ => rfl
 | 66, _ => rfl
 | 67, _ => rfl
 | 68, _ => rfl
 | 69, _ => rfl
 | 70, _ => rfl
 | 71, _ => rfl
 | 72, _ => rfl
 | 73, _ => rfl
 | j + 74, h => absurd h (by omega)
theorem upd_di (n : Nd) (v : Value) (d : Nat → Nat → Int) : ∀ j, j < 74 → stP (ndF n v) (0 + 39) 12 (fun i => iV (d (i / 3) (i % 3))) j = ndF { n with di := d } v j
 | 0, _ => rfl
 | 1, _ => rfl
 | 2, _ => rfl
 | 3, _ => rfl
 | 4, _ => rfl
 | 5, _ => rfl
 | 6, _ => rfl
 | 7, _ => rfl
 | 8, _ => rfl
 | 9, _ => rfl
 | 10, _ => rfl
 | 11, _ => rfl
 | 12, _ => rfl
 | 13, _ => rfl
 | 14, _ => rfl
 | 15, _ => rfl
 | 16, _ => rfl
 | 17, _ => rfl
 | 18, _ => rfl
 | 19, _ => rfl
 | 20, _ => rfl
 | 21, _ => rfl
 | 22, _ => rfl
 | 23, _ => rfl
 | 24, _ => rfl
 | 25, _ => rfl
 | 26, _ => rfl
 | 27, _ => rfl
 | 28, _ => rfl
 | 29, _ => rfl
 | 30, _ => rfl
 | 31, _ => rfl
 | 32, _ => rfl
 | 33, _ => rfl
 | 34, _ => rfl
 | 35, _ => rfl
 | 36, _ => rfl
 | 37, _ => rfl
 | 38, _ => rfl
 | 39, _ => rfl
 | 40, _ => rfl
 | 41, _ => rfl
 | 42, _ => rfl
 | 43, _ => rfl
 | 44, _ => rfl
 | 45, _ => rfl
 | 46, _ => rfl
 | 47, _ => rfl
 | 48, _ => rfl
 | 49, _ => rfl
 | 50, _ => rfl
 | 51, _ => rfl
 | 52, _ => rfl
 | 53, _ => rfl
 | 54, _ => rfl
 | 55, _ => rfl
 | 56, _ => rfl
 | 57, _ => rfl
 | 58, _ => rfl
 | 59, _ => rfl
 | 60, _ => rfl
 | 61, _ => rfl
 | 62, _ => rfl
 | 63, _ => rfl
 | 64, _ => rfl
 | 65, _ => rfl
 | 66, _ => rfl
 | 67, _ => rfl
 | 68, _ => rfl
 | 69, _ => rfl
 | 70, _ => rfl
 | 71, _ => rfl
 | 72, _ => rfl
 | 73, _ => rfl
 | j + 74, h => absurd h (by omega)
theorem upd_he (n : Nd) (v : Value) (d : Nat → Int) : ∀ j, j < 74 → stP (ndF n v) (0 + 51) 4 (fun i => iV (d i)) j = ndF { n with he := d } v j
 | 0, _ => rfl
 | 1, _ => rfl
 | 2, _ => rfl
 | 3, _ => rfl
 | 4, _ => rfl
 | 5, _ => rfl
 | 6, _ => rfl
 | 7, _ => rfl
 | 8, _ => rfl
 | 9, _ => rfl
 | 10, _ => rfl
 | 11, _ => rfl
 | 12, _ => rfl
 | 13, _ => rfl
 | 14, _ => rfl
 | 15, _ => rfl
 | 16, _ => rfl
 | 17, _ => rfl
 | 18, _ => rfl
 | 19, _ => rfl
 | 20, _ => rfl
 | 21, _ => rfl
 | 22, _ => rfl
 | 23, _ => rfl
 | 24, _ => rfl
 | 25, _ => rfl
 | 26, _ => rfl
 | 27, _ => rfl
 | 28, _ => rfl
 | 29, _ => rfl
 | 30, _ => rfl
 | 31, _ => rfl
 | 32, _ => rfl
 | 33, _ => rfl
 | 34, _ => rfl
 | 35, _ => rfl
 | 36, _ => rfl
 | 37, _ => rfl
 | 38, _ => rfl
 | 39, _ => rfl
 | 40, _ => rfl
 | 41, _ => rfl
 | 42, _ => rfl
 | 43, _ => rfl
 | 44, _ => rfl
 | 45, _ => rfl
 | 46, _ => rfl
 | 47, _ => rfl
 | 48, _ => rfl
 | 49, _ => rfl
 | 50, _ => rfl
 | 51, _ => rfl
 | 52, _ => rfl
 | 53, _ => rfl
 | 54, _ => rfl
 | 55, _ => rfl
 | 56, _ => rfl
 | 57, _ => rfl
 | 58, _ => rfl
 | 59, _ => rfl
 | 60, _ => rfl
 | 61, _ => rfl
 | 62, _ => rfl
 | 63, _ => rfl
 | 64, _ => rfl
 | 65, _ => rfl
 | 66, _ => rfl
 | 67, _ => rfl
 | 68, _ => rfl
 | 69, _ => rfl
 | 70, _ => rfl
 | 71, _ => rfl
 | 72, _ => rfl
 | 73, _ => rfl
 | j + 74, h => absurd h (by omega)
theorem upd_dg (n : Nd) (v : Value) (x : Int) : ∀ j, j < 74 → stW (ndF n v) (0 + 70) (.int .i64 x) j = ndF { n with dg := x } v j
 | 0, _ => rfl
 | 1, _ => rfl
 | 2, _ => rfl
 | 3, _ => rfl
 | 4, _ => rfl
 | 5, _ => rfl
 | 6, _ => rfl
 | 7, _ => rfl
 | 8, _ => rfl
 | 9, _ => rfl
 | 10, _ => rfl
 | 11, _ => rfl
 | 12, _ => rfl
 | 13, _ => rfl
 | 14, _ => rfl
 | 15, _ => rfl
 | 16, _ => rfl
 | 17, _ => rfl
 | 18, _ => rfl
 | 19, _ => rfl
 | 20, _ => rfl
 | 21, _ => rfl
 | 22, _ => rfl
 | 23, _ => rfl
 | 24, _ => rfl
 | 25, _ => rfl
 | 26, _ => rfl
 | 27, _ => rfl
 | 28, _ => rfl
 | 29, _ => rfl
 | 30, _ => rfl
 | 31, _ => rfl
 | 32, _ => rfl
 | 33, _ => rfl
 | 34, _ => rfl
 | 35, _ => rfl
 | 36, _ => rfl
 | 37, _ => rfl
 | 38, _ => rfl
 | 39, _ => rfl
 | 40, _ => rfl
 | 41, _ => rfl
 | 42, _ => rfl
 | 43, _ => rfl
 | 44, _ => rfl
 | 45, _ => rfl
 | 46, _ => rfl
 | 47, _ => rfl
 | 48, _ => rfl
 | 49, _ => rfl
 | 50, _ => rfl
 | 51, _ => rfl
 | 52, _ => rfl
 | 53, _ => rfl
 | 54, _ => rfl
 | 55, _ => rfl
 | 56, _ => rfl
 | 57, _ => rfl
 | 58, _ => rfl
 | 59, _ => rfl
 | 60, _ => rfl
 | 61, _ => rfl
 | 62, _ => rfl
 | 63, _ => rfl
 | 64, _ => rfl
 | 65, _ => rfl
 | 66, _ => rfl
 | 67, _ => rfl
 | 68, _ => rfl
 | 69, _ => rfl
 | 70, _ => rfl
 | 71, _ => rfl
 | 72, _ => rfl
 | 73, _ => rfl
 | j + 74, h => absurd h (by omega)
theorem upd_rl (n : Nd) (v : Value) (r : Rl) : ∀ j, j < 74 → stP (ndF n v) (0 + 27) 12 (nrlF r) j = ndF { n with rl := r } v j
 | 0, _ => rfl
 | 1, _ => rfl
 | 2, _ => rfl
 | 3, _ => rfl
 | 4, _ => rfl
 | 5, _ => rfl
 | 6, _ => rfl
 | 7, _ => rfl
 | 8, _ => rfl
 | 9, _ => rfl
 | 10, _ => rfl
 | 11, _ => rfl
 | 12, _ => rfl
 | 13, _ => rfl
 | 14, _ => rfl
 | 15, _ => rfl
 | 16, _ => rfl
 | 17, _ => rfl
 | 18, _ => rfl
 | 19, _ => rfl
 | 20, _ => rfl
 | 21, _ => rfl
 | 22, _ => rfl
 | 23, _ => rfl
 | 24, _ => rfl
 | 25, _ => rfl
 | 26, _ => rfl
 | 27, _ => rfl
 | 28, _ => rfl
 | 29, _ => rfl
 | 30, _ => rfl
 | 31, _ => rfl
 | 32, _ => rfl
 | 33, _ => rfl
 | 34, _ => rfl
 | 35, _ => rfl
 | 36, _ => rfl
 | 37, _ => rfl
 | 38, _ => rfl
 | 39, _ => rfl
 | 40, _ => rfl
 | 41, _ => rfl
 | 42, _ => rfl
 | 43, _ => rfl
 | 44, _ => rfl
 | 45, _ => rfl
 | 46, _ => rfl
 | 47, _ => rfl
 | 48, _ => rfl
 | 49, _ => rfl
 | 50, _ => rfl
 | 51, _ => rfl
 | 52, _ => rfl
 | 53, _ => rfl
 | 54, _ => rfl
 | 55, _ => rfl
 | 56, _ => rfl
 | 57, _ => rfl
 | 58, _ => rfl
 | 59, _ => rfl
 | 60, _ => rfl
 | 61, _ => rfl
 | 62, _ => rfl
 | 63, _ => rfl
 | 64, _ => rfl
 | 65, _ => rfl
 | 66, _ => rfl
 | 67, _ => rfl
 | 68, _ => rfl
 | 69, _ => rfl
 | 70, _ => rfl
 | 71, _ => rfl
 | 72, _ => rfl
 | 73, _ => rfl
 | j + 74, h => absurd h (by omega)
theorem upd_vd (n : Nd) (v u : Value) (x : Int) (b : Bool) (l : List Bool) : ∀ j, j < 74 → stP (ndF n v) (0 + 71) 3 (fun i => if i = 0 then iV x else if i = 1 then .bool b else u) j = ndF { n with vX := x, vS := b, vA := l } u j
 | 0, _ => rfl
 | 1, _ => rfl
 | 2, _ => rfl
 | 3, _ => rfl
 | 4, _ => rfl
 | 5, _ => rfl
 | 6, _ => rfl
 | 7, _ => rfl
 | 8, _ => rfl
 | 9, _ => rfl
 | 10, _ => rfl
 | 11, _ => rfl
 | 12, _ => rfl
 | 13, _ => rfl
 | 14, _ => rfl
 | 15, _ => rfl
 | 16, _ => rfl
 | 17, _ => rfl
 | 18, _ => rfl
 | 19, _ => rfl
 | 20, _ => rfl
 | 21, _ => rfl
 | 22, _ => rfl
 | 23, _ => rfl
 | 24, _ => rfl
 | 25, _ => rfl
 | 26, _ => rfl
 | 27, _ => rfl
 | 28, _ => rfl
 | 29, _ => rfl
 | 30, _ => rfl
 | 31, _ => rfl
 | 32, _ => rfl
 | 33, _ => rfl
 | 34, _ => rfl
 | 35, _ => rfl
 | 36, _ => rfl
 | 37, _ => rfl
 | 38, _ => rfl
 | 39, _ => rfl
 | 40, _ => rfl
 | 41, _ => rfl
 | 42, _ => rfl
 | 43, _ => rfl
 | 44, _ => rfl
 | 45, _ => rfl
 | 46, _ => rfl
 | 47, _ => rfl
 | 48, _ => rfl
 | 49, _ => rfl
 | 50, _ => rfl
 | 51, _ => rfl
 | 52, _ => rfl
 | 53, _ => rfl
 | 54, _ => rfl
 | 55, _ => rfl
 | 56, _ => rfl
 | 57, _ => rfl
 | 58, _ => rfl
 | 59, _ => rfl
 | 60, _ => rfl
 | 61, _ => rfl
 | 62, _ => rfl
 | 63, _ => rfl
 | 64, _ => rfl
 | 65, _ => rfl
 | 66, _ => rfl
 | 67, _ => rfl
 | 68, _ => rfl
 | 69, _ => rfl
 | 70, _ => rfl
 | 71, _ => rfl
 | 72, _ => rfl
 | 73, _ => rfl
 | j + 74, h => absurd h (by omega)
theorem upd_he0 (n : Nd) (v : Value) (x : Int) : ∀ j, j < 74 → stW (ndF n v) (0 + 51 + 0 * 1) (.int .i64 x) j = ndF { n with he := fun s => if s = 0 then x else n.he s } v j
 | 0, _ => rfl
 | 1, _ => rfl
 | 2, _ => rfl
 | 3, _ => rfl
 | 4, _ => rfl
 | 5, _ => rfl
 | 6, _ => rfl
 | 7, _ => rfl
 | 8, _ => rfl
 | 9, _ => rfl
 | 10, _ => rfl
 | 11, _ => rfl
 | 12, _ => rfl
 | 13, _ => rfl
 | 14, _ => rfl
 | 15, _ => rfl
 | 16, _ => rfl
 | 17, _ => rfl
 | 18, _ => rfl
 | 19, _ => rfl
 | 20, _ => rfl
 | 21, _ => rfl
 | 22, _ => rfl
 | 23, _ => rfl
 | 24, _ => rfl
 | 25, _ => rfl
 | 26, _ => rfl
 | 27, _ => rfl
 | 28, _ => rfl
 | 29, _ => rfl
 | 30, _ => rfl
 | 31, _ => rfl
 | 32, _ => rfl
 | 33, _ => rfl
 | 34, _ => rfl
 | 35, _ => rfl
 | 36, _ => rfl
 | 37, _ => rfl
 | 38, _ => rfl
 | 39, _ => rfl
 | 40, _ => rfl
 | 41, _ => rfl
 | 42, _ => rfl
 | 43, _ => rfl
 | 44, _ => rfl
 | 45, _ => rfl
 | 46, _ => rfl
 | 47, _ => rfl
 | 48, _ => rfl
 | 49, _ => rfl
 | 50, _ => rfl
 | 51, _ => rfl
 | 52, _ => rfl
 | 53, _ => rfl
 | 54, _ => rfl
 | 55, _ => rfl
 | 56, _ => rfl
 | 57, _ => rfl
 | 58, _ => rfl
 | 59, _ => rfl
 | 60, _ => rfl
 | 61, _ => rfl
 | 62, _ => rfl
 | 63, _ => rfl
 | 64, _ => rfl
 | 65, _ => rfl
 | 66, _ => rfl
 | 67, _ => rfl
 | 68, _ => rfl
 | 69, _ => rfl
 | 70, _ => rfl
 | 71, _ => rfl
 | 72, _ => rfl
 | 73, _ => rfl
 | j + 74, h => absurd h (by omega)
theorem upd_he1 (n : Nd) (v : Value) (x : Int) : ∀ j, j < 74 → stW (ndF n v) (0 + 51 + 1 * 1) (.int .i64 x) j = ndF { n with he := fun s => if s = 1 then x else n.he s } v j
 | 0, _ => rfl
 | 1, _ => rfl
 | 2, _ => rfl
 | 3, _ => rfl
 | 4, _ => rfl
 | 5, _ => rfl
 | 6, _ => rfl
 | 7, _ => rfl
 | 8, _ => rfl
 | 9, _ => rfl
 | 10, _ => rfl
 | 11, _ => rfl
 | 12, _ => rfl
 | 13, _ => rfl
 | 14, _ => rfl
 | 15, _ => rfl
 | 16, _ => rfl
 | 17, _ => rfl
 | 18, _ => rfl
 | 19, _ => rfl
 | 20, _ => rfl
 | 21, _ => rfl
 | 22, _ => rfl
 | 23, _ => rfl
 | 24, _ => rfl
 | 25, _ => rfl
 | 26, _ => rfl
 | 27, _ => rfl
 | 28, _ => rfl
 | 29, _ => rfl
 | 30, _ => rfl
 | 31, _ => rfl
 | 32, _ => rfl
 | 33, _ => rfl
 | 34, _ => rfl
 | 35, _ => rfl
 | 36, _ => rfl
 | 37, _ => rfl
 | 38, _ => rfl
 | 39, _ => rfl
 | 40, _ => rfl
 | 41, _ => rfl
 | 42, _ => rfl
 | 43, _ => rfl
 | 44, _ => rfl
 | 45, _ => rfl
 | 46, _ => rfl
 | 47, _ => rfl
 | 48, _ => rfl
 | 49, _ => rfl
 | 50, _ => rfl
 | 51, _ => rfl
 | 52, _ => rfl
 | 53, _ => rfl
 | 54, _ => rfl
 | 55, _ => rfl
 | 56, _ => rfl
 | 57, _ => rfl
 | 58, _ => rfl
 | 59, _ => rfl
 | 60, _ => rfl
 | 61, _ => rfl
 | 62, _ => rfl
 | 63, _ => rfl
 | 64, _ => rfl
 | 65, _ => rfl
 | 66, _ => rfl
 | 67, _ => rfl
 | 68, _ => rfl
 | 69, _ => rfl
 | 70, _ => rfl
 | 71, _ => rfl
 | 72, _ => rfl
 | 73, _ => rfl
 | j + 74, h => absurd h (by omega)
theorem upd_he2 (n : Nd) (v : Value) (x : Int) : ∀ j, j < 74 → stW (ndF n v) (0 + 51 + 2 * 1) (.int .i64 x) j = ndF { n with he := fun s => if s = 2 then x else n.he s } v j
 | 0, _ => rfl
 | 1, _ => rfl
 | 2, _ => rfl
 | 3, _ => rfl
 | 4, _ => rfl
 | 5, _ => rfl
 | 6, _ => rfl
 | 7, _ => rfl
 | 8, _ => rfl
 | 9, _ => rfl
 | 10, _ => rfl
 | 11, _ => rfl
 | 12, _ => rfl
 | 13, _ => rfl
 | 14, _ => rfl
 | 15, _ => rfl
 | 16, _ => rfl
 | 17, _ => rfl
 | 18, _ => rfl
 | 19, _ => rfl
 | 20, _ => rfl
 | 21, _ => rfl
 | 22, _ => rfl
 | 23, _ => rfl
 | 24, _ => rfl
 | 25, _ => rfl
 | 26, _ => rfl
 | 27, _ => rfl
 | 28, _ => rfl
 | 29, _ => rfl
 | 30, _ => rfl
 | 31, _ => rfl
 | 32, _ => rfl
 | 33, _ => rfl
 | 34, _ => rfl
 | 35, _ => rfl
 | 36, _ => rfl
 | 37, _ => rfl
 | 38, _ => rfl
 | 39, _ => rfl
 | 40, _ => rfl
 | 41, _ => rfl
 | 42, _ => rfl
 | 43, _ => rfl
 | 44, _ => rfl
 | 45, _ => rfl
 | 46, _ => rfl
 | 47, _ => rfl
 | 48, _ => rfl
 | 49, _ => rfl
 | 50, _ => rfl
 | 51, _ => rfl
 | 52, _ => rfl
 | 53, _ => rfl
 | 54, _ => rfl
 | 55, _ => rfl
 | 56, _ => rfl
 | 57, _ => rfl
 | 58, _ => rfl
 | 59, _ => rfl
 | 60, _ => rfl
 | 61, _ => rfl
 | 62, _ => rfl
 | 63, _ => rfl
 | 64, _ => rfl
 | 65, _ => rfl
 | 66, _ => rfl
 | 67, _ => rfl
 | 68, _ => rfl
 | 69, _ => rfl
 | 70, _ => rfl
 | 71, _ => rfl
 | 72, _ => rfl
 | 73, _ => rfl
 | j + 74, h => absurd h (by omega)
theorem upd_he3 (n : Nd) (v : Value) (x : Int) : ∀ j, j < 74 → stW (ndF n v) (0 + 51 + 3 * 1) (.int .i64 x) j = ndF { n with he := fun s => if s = 3 then x else n.he s } v j
 | 0, _ => rfl
 | 1, _ => rfl
 | 2, _ => rfl
 | 3, _ => rfl
 | 4, _ => rfl
 | 5, _ => rfl
 | 6, _ => rfl
 | 7, _ => rfl
 | 8, _ => rfl
 | 9, _ => rfl
 | 10, _ => rfl
 | 11, _ => rfl
 | 12, _ => rfl
 | 13, _ => rfl
 | 14, _ => rfl
 | 15, _ => rfl
 | 16, _ => rfl
 | 17, _ => rfl
 | 18, _ => rfl
 | 19, _ => rfl
 | 20, _ => rfl
 | 21, _ => rfl
 | 22, _ => rfl
 | 23, _ => rfl
 | 24, _ => rfl
 | 25, _ => rfl
 | 26, _ => rfl
 | 27, _ => rfl
 | 28, _ => rfl
 | 29, _ => rfl
 | 30, _ => rfl
 | 31, _ => rfl
 | 32, _ => rfl
 | 33, _ => rfl
 | 34, _ => rfl
 | 35, _ => rfl
 | 36, _ => rfl
 | 37, _ => rfl
 | 38, _ => rfl
 | 39, _ => rfl
 | 40, _ => rfl
 | 41, _ => rfl
 | 42, _ => rfl
 | 43, _ => rfl
 | 44, _ => rfl
 | 45, _ => rfl
 | 46, _ => rfl
 | 47, _ => rfl
 | 48, _ => rfl
 | 49, _ => rfl
 | 50, _ => rfl
 | 51, _ => rfl
 | 52, _ => rfl
 | 53, _ => rfl
 | 54, _ => rfl
 | 55, _ => rfl
 | 56, _ => rfl
 | 57, _ => rfl
 | 58, _ => rfl
 | 59, _ => rfl
 | 60, _ => rfl
 | 61, _ => rfl
 | 62, _ => rfl
 | 63, _ => rfl
 | 64, _ => rfl
 | 65, _ => rfl
 | 66, _ => rfl
 | 67, _ => rfl
 | 68, _ => rfl
 | 69, _ => rfl
 | 70, _ => rfl
 | 71, _ => rfl
 | 72, _ => rfl
 | 73, _ => rfl
 | j + 74, h => absurd h (by omega)
theorem upd_heAt (n : Nd) (v : Value) (x : Int) (i : Nat) (hi : i < 4) : ∀ j, j < 74 → stW (ndF n v) (0 + 51 + i * 1) (.int .i64 x) j = ndF { n with he := fun s => if s = i then x else n.he s } v j := by
 have : i = 0 ∨ i = 1 ∨ i = 2 ∨ i = 3 := by omega
 rcases this with rfl | rfl | rfl | rfl
 ·exact upd_he0 n v x
 ·exact upd_he1 n v x
 ·exact upd_he2 n v x
 ·exact upd_he3 n v x
theorem upd_us0 (n : Nd) (v : Value) (x : Int) : ∀ j, j < 74 → stW (ndF n v) (0 + 67 + 0 * 1) (.int .i64 x) j = ndF { n with us := fun s => if s = 0 then x else n.us s } v j
 | 0, _ => rfl
 | 1, _ => rfl
 | 2, _ => rfl
 | 3, _ => rfl
 | 4, _ => rfl
 | 5, _ => rfl
 | 6, _ => rfl
 | 7, _ => rfl
 | 8, _ => rfl
 | 9, _ => rfl
 | 10, _ => rfl
 | 11, _ => rfl
 | 12, _ => rfl
 | 13, _ => rfl
 | 14, _ => rfl
 | 15, _ => rfl
 | 16, _ => rfl
 | 17, _ => rfl
 | 18, _ => rfl
 | 19, _ => rfl
 | 20, _ => rfl
 | 21, _ => rfl
 | 22, _ => rfl
 | 23, _ => rfl
 | 24, _ => rfl
 | 25, _ => rfl
 | 26, _ => rfl
 | 27, _ => rfl
 | 28, _ => rfl
 | 29, _ => rfl
 | 30, _ => rfl
 | 31, _ => rfl
 | 32, _ => rfl
 | 33, _ => rfl
 | 34, _ => rfl
 | 35, _ => rfl
 | 36, _ => rfl
 | 37, _ => rfl
 | 38, _ => rfl
 | 39, _ => rfl
 | 40, _ => rfl
 | 41, _ => rfl
 | 42, _ => rfl
 | 43, _ => rfl
 | 44, _ => rfl
 | 45, _ => rfl
 | 46, _ => rfl
 | 47, _ => rfl
 | 48, _ => rfl
 | 49, _ => rfl
 | 50, _ => rfl
 | 51, _ => rfl
 | 52, _ => rfl
 | 53, _ => rfl
 | 54, _ => rfl
 | 55, _ => rfl
 | 56, _ => rfl
 | 57, _ => rfl
 | 58, _ => rfl
 | 59, _ => rfl
 | 60, _ => rfl
 | 61, _ => rfl
 | 62, _ => rfl
 | 63, _ => rfl
 | 64, _ => rfl
 | 65, _ => rfl
 | 66, _ => rfl
 | 67, _ => rfl
 | 68, _ => rfl
 | 69, _ => rfl
 | 70, _ => rfl
 | 71, _ => rfl
 | 72, _ => rfl
 | 73, _ => rfl
 | j + 74, h => absurd h (by omega)
theorem upd_us1 (n : Nd) (v : Value) (x : Int) : ∀ j, j < 74 → stW (ndF n v) (0 + 67 + 1 * 1) (.int .i64 x) j = ndF { n with us := fun s => if s = 1 then x else n.us s } v j
 | 0, _ => rfl
 | 1, _ => rfl
 | 2, _ => rfl
 | 3, _ => rfl
 | 4, _ => rfl
 | 5, _ => rfl
 | 6, _ => rfl
 | 7, _ => rfl
 | 8, _ => rfl
 | 9, _ => rfl
 | 10, _ => rfl
 | 11, _ => rfl
 | 12, _ => rfl
 | 13, _ => rfl
 | 14, _ => rfl
 | 15, _ => rfl
 | 16, _ => rfl
 | 17, _ => rfl
 | 18, _ => rfl
 | 19, _ => rfl
 | 20, _ => rfl
 | 21, _ => rfl
 | 22, _ => rfl
 | 23, _ => rfl
 | 24, _ => rfl
 | 25, _ => rfl
 | 26, _ => rfl
 | 27, _ => rfl
 | 28, _ => rfl
 | 29, _ => rfl
 | 30, _ => rfl
 | 31, _ => rfl
 | 32, _ => rfl
 | 33, _ => rfl
 | 34, _ => rfl
 | 35, _ => rfl
 | 36, _ => rfl
 | 37, _ => rfl
 | 38, _ => rfl
 | 39, _ => rfl
 | 40, _ => rfl
 | 41, _ => rfl
 | 42, _ => rfl
 | 43, _ => rfl
 | 44, _ => rfl
 | 45, _ => rfl
 | 46, _ => rfl
 | 47, _ => rfl
 | 48, _ => rfl
 | 49, _ => rfl
 | 50, _ => rfl
 | 51, _ => rfl
 | 52, _ => rfl
 | 53, _ => rfl
 | 54, _ => rfl
 | 55, _ => rfl
 | 56, _ => rfl
 | 57, _ => rfl
 | 58, _ => rfl
 | 59, _ => rfl
 | 60, _ => rfl
 | 61, _ => rfl
 | 62, _ => rfl
 | 63, _ => rfl
 | 64, _ => rfl
 | 65, _ => rfl
 | 66, _ => rfl
 | 67, _ => rfl
 | 68, _ => rfl
 | 69, _ => rfl
 | 70, _ => rfl
 | 71, _ => rfl
 | 72, _ => rfl
 | 73, _ => rfl
 | j + 74, h => absurd h (by omega)
theorem upd_us2 (n : Nd) (v : Value) (x : Int) : ∀ j, j < 74 → stW (ndF n v) (0 + 67 + 2 * 1) (.int .i64 x) j = ndF { n with us := fun s => if s = 2 then x else n.us s } v j
 | 0, _ => rfl
 | 1, _ => rfl
 | 2, _ => rfl
 | 3, _ => rfl
 | 4, _ => rfl
 | 5, _ => rfl
 | 6, _ => rfl
 | 7, _ => rfl
 | 8, _ => rfl
 | 9, _ => rfl
 | 10, _ => rfl
 | 11, _ => rfl
 | 12, _ => rfl
 | 13, _ => rfl
 | 14, _ => rfl
 | 15, _ => rfl
 | 16, _ => rfl
 | 17, _ => rfl
 | 18, _ => rfl
 | 19, _ => rfl
 | 20, _ => rfl
 | 21, _ => rfl
 | 22, _ => rfl
 | 23, _ => rfl
 | 24, _ => rfl
 | 25, _ => rfl
 | 26, _ => rfl
 | 27, _ => rfl
 | 28, _ => rfl
 | 29, _ => rfl
 | 30, _ => rfl
 | 31, _ => rfl
 | 32, _ => rfl
 | 33, _ => rfl
 | 34, _ => rfl
 | 35, _ => rfl
 | 36, _ => rfl
 | 37, _ => rfl
 | 38, _ => rfl
 | 39, _ => rfl
 | 40, _ => rfl
 | 41, _ => rfl
 | 42, _ => rfl
 | 43, _ => rfl
 | 44, _ => rfl
 | 45, _ => rfl
 | 46, _ => rfl
 | 47, _ => rfl
 | 48, _ => rfl
 | 49, _ => rfl
 | 50, _ => rfl
 | 51, _ => rfl
 | 52, _ => rfl
 | 53, _ => rfl
 | 54, _ => rfl
 | 55, _ => rfl
 | 56, _ => rfl
 | 57, _ => rfl
 | 58, _ => rfl
 | 59, _ => rfl
 | 60, _ => rfl
 | 61, _ => rfl
 | 62, _ => rfl
 | 63, _ => rfl
 | 64, _ => rfl
 | 65, _ => rfl
 | 66, _ => rfl
 | 67, _ => rfl
 | 68, _ => rfl
 | 69, _ => rfl
 | 70, _ => rfl
 | 71, _ => rfl
 | 72, _ => rfl
 | 73, _ => rfl
 | j + 74, h => absurd h (by omega)
theorem upd_usAt (n : Nd) (v : Value) (x : Int) (i : Nat) (hi : i < 3) : ∀ j, j < 74 → stW (ndF n v) (0 + 67 + i * 1) (.int .i64 x) j = ndF { n with us := fun s => if s = i then x else n.us s } v j := by
 have : i = 0 ∨ i = 1 ∨ i = 2 := by omega
 rcases this with rfl | rfl | rfl
 ·exact upd_us0 n v x
 ·exact upd_us1 n v x
 ·exact upd_us2 n v x
theorem upd_dr0 (n : Nd) (v : Value) (d : Nat → Int) : ∀ j, j < 74 → stP (ndF n v) (0 + 39 + 0 * 3) 3 (fun k => iV (d k)) j = ndF { n with di := fun s a => if s = 0 then d a else n.di s a } v j
 | 0, _ => rfl
 | 1, _ => rfl
 | 2, _ => rfl
 | 3, _ => rfl
 | 4, _ => rfl
 | 5, _ => rfl
 | 6, _ => rfl
 | 7, _ => rfl
 | 8, _ => rfl
 | 9, _ => rfl
 | 10, _ => rfl
 | 11, _ => rfl
 | 12, _ => rfl
 | 13, _ => rfl
 | 14, _ => rfl
 | 15, _ => rfl
 | 16, _ => rfl
 | 17, _ => rfl
 | 18, _ => rfl
 | 19, _ => rfl
 | 20, _ => rfl
 | 21, _ => rfl
 | 22, _ => rfl
 | 23, _ => rfl
 | 24, _ => rfl
 | 25, _ => rfl
 | 26, _ => rfl
 | 27, _ => rfl
 | 28, _ => rfl
 | 29, _ => rfl
 | 30, _ => rfl
 | 31, _ => rfl
 | 32, _ => rfl
 | 33, _ => rfl
 | 34, _ => rfl
 | 35, _ => rfl
 | 36, _ => rfl
 | 37, _ => rfl
 | 38, _ => rfl
 | 39, _ => rfl
 | 40, _ => rfl
 | 41, _ => rfl
 | 42, _ => rfl
 | 43, _ => rfl
 | 44, _ => rfl
 | 45, _ => rfl
 | 46, _ => rfl
 | 47, _ => rfl
 | 48, _ => rfl
 | 49, _ => rfl
 | 50, _ => rfl
 | 51, _ => rfl
 | 52, _ => rfl
 | 53, _ => rfl
 | 54, _ => rfl
 | 55, _ => rfl
 | 56, _ => rfl
 | 57, _ => rfl
 | 58, _ => rfl
 | 59, _ => rfl
 | 60, _ => rfl
 | 61, _ => rfl
 | 62, _ => rfl
 | 63, _ => rfl
 | 64, _ => rfl
 | 65, _ => rfl
 | 66, _ => rfl
 | 67, _ => rfl
 | 68, _ => rfl
 | 69, _ => rfl
 | 70, _ => rfl
 | 71, _ => rfl
 | 72, _ => rfl
 | 73, _ => rfl
 | j + 74, h => absurd h (by omega)
theorem upd_dr1 (n : Nd) (v : Value) (d : Nat → Int) : ∀ j, j < 74 → stP (ndF n v) (0 + 39 + 1 * 3) 3 (fun k => iV (d k)) j = ndF { n with di := fun s a => if s = 1 then d a else n.di s a } v j
 | 0, _ => rfl
 | 1, _ => rfl
 | 2, _ => rfl
 | 3, _ => rfl
 | 4, _ => rfl
 | 5, _ => rfl
 | 6, _ => rfl
 | 7, _ => rfl
 | 8, _ => rfl
 | 9, _ => rfl
 | 10, _ => rfl
 | 11, _ => rfl
 | 12, _ => rfl
 | 13, _ => rfl
 | 14, _ => rfl
 | 15, _ => rfl
 | 16, _ => rfl
 | 17, _ => rfl
 | 18, _ => rfl
 | 19, _ => rfl
 | 20, _ => rfl
 | 21, _ => rfl
 | 22, _ => rfl
 | 23, _ => rfl
 | 24, _ => rfl
 | 25, _ => rfl
 | 26, _ => rfl
 | 27, _ => rfl
 | 28, _ => rfl
 | 29, _ => rfl
 | 30, _ => rfl
 | 31, _ => rfl
 | 32, _ => rfl
 | 33, _ => rfl
 | 34, _ => rfl
 | 35, _ => rfl
 | 36, _ => rfl
 | 37, _ => rfl
 | 38, _ => rfl
 | 39, _ => rfl
 | 40, _ => rfl
 | 41, _ => rfl
 | 42, _ => rfl
 | 43, _ => rfl
 | 44, _ => rfl
 | 45, _ => rfl
 | 46, _ => rfl
 | 47, _ => rfl
 | 48, _ => rfl
 | 49, _ => rfl
 | 50, _ => rfl
 | 51, _ => rfl
 | 52, _ => rfl
 | 53, _ => rfl
 | 54, _ => rfl
 | 55, _ => rfl
 | 56, _ => rfl
 | 57, _ => rfl
 | 58, _ => rfl
 | 59, _ => rfl
 | 60, _ => rfl
 | 61, _ => rfl
 | 62, _ => rfl
 | 63, _ => rfl
 | 64, _ => rfl
 | 65, _ => rfl
 | 66, _ => rfl
 | 67, _ => rfl
 | 68, _ => rfl
 | 69, _ => rfl
 | 70, _ => rfl
 | 71, _ => rfl
 | 72, _ => rfl
 | 73, _ => rfl
 | j + 74, h => absurd h (by omega)
theorem upd_dr2 (n : Nd) (v : Value) (d : Nat → Int) : ∀ j, j < 74 → stP (ndF n v) (0 + 39 + 2 * 3) 3 (fun k => iV (d k)) j = ndF { n with di := fun s a => if s = 2 then d a else n.di s a } v j
 | 0, _ => rfl
 | 1, _ => rfl
 | 2, _ => rfl
 | 3, _ => rfl
 | 4, _ => rfl
 | 5, _ => rfl
 | 6, _ => rfl
 | 7, _ => rfl
 | 8, _ => rfl
 | 9, _ => rfl
 | 10, _ => rfl
 | 11, _ => rfl
 | 12, _ => rfl
 | 13, _ => rfl
 | 14, _ => rfl
 | 15, _ => rfl
 | 16, _ => rfl
 | 17, _ => rfl
 | 18, _ => rfl
 | 19, _ => rfl
 | 20, _ => rfl
 | 21, _ => rfl
 | 22, _ => rfl
 | 23, _ => rfl
 | 24, _ => rfl
 | 25, _ => rfl
 | 26, _ => rfl
 | 27, _ => rfl
 | 28, _ => rfl
 | 29, _ => rfl
 | 30, _ => rfl
 | 31, _ => rfl
 | 32, _ => rfl
 | 33, _ => rfl
 | 34, _ => rfl
 | 35, _ => rfl
 | 36, _ => rfl
 | 37, _ => rfl
 | 38, _ => rfl
 | 39, _ => rfl
 | 40, _ => rfl
 | 41, _ => rfl
 | 42, _ => rfl
 | 43, _ => rfl
 | 44, _ => rfl
 | 45, _ => rfl
 | 46, _ => rfl
 | 47, _ => rfl
 | 48, _ => rfl
 | 49, _ => rfl
 | 50, _ => rfl
 | 51, _ => rfl
 | 52, _ => rfl
 | 53, _ => rfl
 | 54, _ => rfl
 | 55, _ => rfl
 | 56, _ => rfl
 | 57, _ => rfl
 | 58, _ => rfl
 | 59, _ => rfl
 | 60, _ => rfl
 | 61, _ => rfl
 | 62, _ => rfl
 | 63, _ => rfl
 | 64, _ => rfl
 | 65, _ => rfl
 | 66, _ => rfl
 | 67, _ => rfl
 | 68, _ => rfl
 | 69, _ => rfl
 | 70, _ => rfl
 | 71, _ => rfl
 | 72, _ => rfl
 | 73, _ => rfl
 | j + 74, h => absurd h (by omega)
theorem upd_dr3 (n : Nd) (v : Value) (d : Nat → Int) : ∀ j, j < 74 → stP (ndF n v) (0 + 39 + 3 * 3) 3 (fun k => iV (d k)) j = ndF { n with di := fun s a => if s = 3 then d a else n.di s a } v j
 | 0, _ => rfl
 | 1, _ => rfl
 | 2, _ => rfl
 | 3, _ => rfl
 | 4, _ => rfl
 | 5, _ => rfl
 | 6, _ => rfl
 | 7, _ => rfl
 | 8, _ => rfl
 | 9, _ => rfl
 | 10, _ => rfl
 | 11, _ => rfl
 | 12, _ => rfl
 | 13, _ => rfl
 | 14, _ => rfl
 | 15, _ => rfl
 | 16, _ => rfl
 | 17, _ => rfl
 | 18, _ => rfl
 | 19, _ => rfl
 | 20, _ => rfl
 | 21, _ => rfl
 | 22, _ => rfl
 | 23, _ => rfl
 | 24, _ => rfl
 | 25, _ => rfl
 | 26, _ => rfl
 | 27, _ => rfl
 | 28, _ => rfl
 | 29, _ => rfl
 | 30, _ => rfl
 | 31, _ => rfl
 | 32, _ => rfl
 | 33, _ => rfl
 | 34, _ => rfl
 | 35, _ => rfl
 | 36, _ => rfl
 | 37, _ => rfl
 | 38, _ => rfl
 | 39, _ => rfl
 | 40, _ => rfl
 | 41, _ => rfl
 | 42, _ => rfl
 | 43, _ => rfl
 | 44, _ => rfl
 | 45, _ => rfl
 | 46, _ => rfl
 | 47, _ => rfl
 | 48, _ => rfl
 | 49, _ => rfl
 | 50, _ => rfl
 | 51, _ => rfl
 | 52, _ => rfl
 | 53, _ => rfl
 | 54, _ => rfl
 | 55, _ => rfl
 | 56, _ => rfl
 | 57, _ => rfl
 | 58, _ => rfl
 | 59, _ => rfl
 | 60, _ => rfl
 | 61, _ => rfl
 | 62, _ => rfl
 | 63, _ => rfl
 | 64, _ => rfl
 | 65, _ => rfl
 | 66, _ => rfl
 | 67, _ => rfl
 | 68, _ => rfl
 | 69, _ => rfl
 | 70, _ => rfl
 | 71, _ => rfl
 | 72, _ => rfl
 | 73, _ => rfl
 | j + 74, h => absurd h (by omega)
theorem upd_drAt (n : Nd) (v : Value) (d : Nat → Int) (i : Nat) (hi : i < 4) : ∀ j, j < 74 → stP (ndF n v) (0 + 39 + i * 3) 3 (fun k => iV (d k)) j = ndF { n with di := fun s a => if s = i then d a else n.di s a } v j := by
 have : i = 0 ∨ i = 1 ∨ i = 2 ∨ i = 3 := by omega
 rcases this with rfl | rfl | rfl | rfl
 ·exact upd_dr0 n v d
 ·exact upd_dr1 n v d
 ·exact upd_dr2 n v d
 ·exact upd_dr3 n v d
theorem upd_ax0 (n : Nd) (v : Value) (s : St) : ∀ j, j < 74 → stP (ndF n v) (0 + 6 + 0 * 7) 7 (nstF s) j = ndF { n with ax := fun a => if a = 0 then s else n.ax a } v j
 | 0, _ => rfl
 | 1, _ => rfl
 | 2, _ => rfl
 | 3, _ => rfl
 | 4, _ => rfl
 | 5, _ => rfl
 | 6, _ => rfl
 | 7, _ => rfl
 | 8, _ => rfl
 | 9, _ => rfl
 | 10, _ => rfl
 | 11, _ => rfl
 | 12, _ => rfl
 | 13, _ => rfl
 | 14, _ => rfl
 | 15, _ => rfl
 | 16, _ => rfl
 | 17, _ => rfl
 | 18, _ => rfl
 | 19, _ => rfl
 | 20, _ => rfl
 | 21, _ => rfl
 | 22, _ => rfl
 | 23, _ => rfl
 | 24, _ => rfl
 | 25, _ => rfl
 | 26, _ => rfl
 | 27, _ => rfl
 | 28, _ => rfl
 | 29, _ => rfl
 | 30, _ => rfl
 | 31, _ => rfl
 | 32, _ => rfl
 | 33, _ => rfl
 | 34, _ => rfl
 | 35, _ => rfl
 | 36, _ => rfl
 | 37, _ => rfl
 | 38, _ => rfl
 | 39, _ => rfl
 | 40, _ => rfl
 | 41, _ => rfl
 | 42, _ => rfl
 | 43, _ => rfl
 | 44, _ => rfl
 | 45, _ => rfl
 | 46, _ => rfl
 | 47, _ => rfl
 | 48, _ => rfl
 | 49, _ => rfl
 | 50, _ => rfl
 | 51, _ => rfl
 | 52, _ => rfl
 | 53, _ => rfl
 | 54, _ => rfl
 | 55, _ => rfl
 | 56, _ => rfl
 | 57, _ => rfl
 | 58, _ => rfl
 | 59, _ => rfl
 | 60, _ => rfl
 | 61, _ => rfl
 | 62, _ => rfl
 | 63, _ => rfl
 | 64, _ => rfl
 | 65, _ => rfl
 | 66, _ => rfl
 | 67, _ => rfl
 | 68, _ => rfl
 | 69, _ => rfl
 | 70, _ => rfl
 | 71, _ => rfl
 | 72, _ => rfl
 | 73, _ => rfl
 | j + 74, h => absurd h (by omega)
theorem upd_ax1 (n : Nd) (v : Value) (s : St) : ∀ j, j < 74 → stP (ndF n v) (0 + 6 + 1 * 7) 7 (nstF s) j = ndF { n with ax := fun a => if a = 1 then s else n.ax a } v j
 | 0, _ => rfl
 | 1, _ => rfl
 | 2, _ => rfl
 | 3, _ => rfl
 | 4, _ => rfl
 | 5, _ => rfl
 | 6, _ => rfl
 | 7, _ => rfl
 | 8, _ => rfl
 | 9, _ => rfl
 | 10, _ => rfl
 | 11, _ => rfl
 | 12, _ => rfl
 | 13, _ => rfl
 | 14, _ => rfl
 | 15, _ => rfl
 | 16, _ => rfl
 | 17, _ => rfl
 | 18, _ => rfl
 | 19, _ => rfl
 | 20, _ => rfl
 | 21, _ => rfl
 | 22, _ => rfl
 | 23, _ => rfl
 | 24, _ => rfl
 | 25, _ => rfl
 | 26, _ => rfl
 | 27, _ => rfl
 | 28, _ => rfl
 | 29, _ => rfl
 | 30, _ => rfl
 | 31, _ => rfl
 | 32, _ => rfl
 | 33, _ => rfl
 | 34, _ => rfl
 | 35, _ => rfl
 | 36, _ => rfl
 | 37, _ => rfl
 | 38, _ => rfl
 | 39, _ => rfl
 | 40, _ => rfl
 | 41, _ => rfl
 | 42, _ => rfl
 | 43, _ => rfl
 | 44, _ => rfl
 | 45, _ => rfl
 | 46, _ => rfl
 | 47, _ => rfl
 | 48, _ => rfl
 | 49, _ => rfl
 | 50, _ => rfl
 | 51, _ => rfl
 | 52, _ => rfl
 | 53, _ => rfl
 | 54, _ => rfl
 | 55, _ => rfl
 | 56, _ => rfl
 | 57, _ => rfl
 | 58, _ => rfl
 | 59, _ => rfl
 | 60, _ => rfl
 | 61, _ => rfl
 | 62, _ => rfl
 | 63, _ => rfl
 | 64, _ => rfl
 | 65, _ => rfl
 | 66, _ => rfl
 | 67, _ => rfl
 | 68, _ => rfl
 | 69, _ => rfl
 | 70, _ => rfl
 | 71, _ => rfl
 | 72, _ => rfl
 | 73, _ => rfl
 | j + 74, h => absurd h (by omega)
theorem upd_ax2 (n : Nd) (v : Value) (s : St) : ∀ j, j < 74 → stP (ndF n v) (0 + 6 + 2 * 7) 7 (nstF s) j = ndF { n with ax := fun a => if a = 2 then s else n.ax a } v j
 | 0, _ => rfl
 | 1, _ => rfl
 | 2, _ => rfl
 | 3, _ => rfl
 | 4, _ => rfl
 | 5, _ => rfl
 | 6, _ => rfl
 | 7, _ => rfl
 | 8, _ => rfl
 | 9, _ => rfl
 | 10, _ => rfl
 | 11, _ => rfl
 | 12, _ => rfl
 | 13, _ => rfl
 | 14, _ => rfl
 | 15, _ => rfl
 | 16, _ => rfl
 | 17, _ => rfl
 | 18, _ => rfl
 | 19, _ => rfl
 | 20, _ => rfl
 | 21, _ => rfl
 | 22, _ => rfl
 | 23, _ => rfl
 | 24, _ => rfl
 | 25, _ => rfl
 | 26, _ => rfl
 | 27, _ => rfl
 | 28, _ => rfl
 | 29, _ => rfl
 | 30, _ => rfl
 | 31, _ => rfl
 | 32, _ => rfl
 | 33, _ => rfl
 | 34, _ => rfl
 | 35, _ => rfl
 | 36, _ => rfl
 | 37, _ => rfl
 | 38, _ => rfl
 | 39, _ => rfl
 | 40, _ => rfl
 | 41, _ => rfl
 | 42, _ => rfl
 | 43, _ => rfl
 | 44, _ => rfl
 | 45, _ => rfl
 | 46, _ => rfl
 | 47, _ => rfl
 | 48, _ => rfl
 | 49, _ => rfl
 | 50, _ => rfl
 | 51, _ => rfl
 | 52, _ => rfl
 | 53, _ => rfl
 | 54, _ => rfl
 | 55, _ => rfl
 | 56, _ => rfl
 | 57, _ => rfl
 | 58, _ => rfl
 | 59, _ => rfl
 | 60, _ => rfl
 | 61, _ => rfl
 | 62, _ => rfl
 | 63, _ => rfl
 | 64, _ => rfl
 | 65, _ => rfl
 | 66, _ => rfl
 | 67, _ => rfl
 | 68, _ => rfl
 | 69, _ => rfl
 | 70, _ => rfl
 | 71, _ => rfl
 | 72, _ => rfl
 | 73, _ => rfl
 | j + 74, h => absurd h (by omega)
theorem upd_axAt (n : Nd) (v : Value) (s : St) (i : Nat) (hi : i < 3) : ∀ j, j < 74 → stP (ndF n v) (0 + 6 + i * 7) 7 (nstF s) j = ndF { n with ax := fun a => if a = i then s else n.ax a } v j := by
 have : i = 0 ∨ i = 1 ∨ i = 2 := by omega
 rcases this with rfl | rfl | rfl
 ·exact upd_ax0 n v s
 ·exact upd_ax1 n v s
 ·exact upd_ax2 n v s
end Go.Proofs.YtdhblehhgpdpdaaGreat
namespace Go.Proofs.YtdhblehhgpdpdaaGreat
open Go.RowKit
structure NdOK (n : Nd) : Prop where
 id : R64 n.id
 fr : R64 n.fr
 tn : n.tn.Ok
 ax : ∀ a, (n.ax a).Ok
 rM : ∀ i, R64 (n.rl.M i)
 rJ : ∀ i, R64 (n.rl.J i)
 di : ∀ s a, R64 (n.di s a)
 he : ∀ s, R64 (n.he s)
 ag : ∀ s a, R64 (n.ag s a)
 us : ∀ a, R64 (n.us a)
 dg : R64 n.dg
 vX : R64 n.vX
 vA : n.vA.length ≤ 140737488351232
def AgRd (w : World) (n : Nd) (ao : Option Addr) (c : Nat) : Prop := Sr w ao n.vA.length c (tF (bA n))
def AgNew (B : Nat) (w : World) (n : Nd) (ao : Option Addr) (c : Nat) : Prop := w.ownsRow B 4 1 (.slice ao n.vA.length c) n.vA.length (rowV (tF (bA n)) n.vA.length)
def lsV (m : Ms) (v : Value) : Value := agV (msF m.K m.F m.R v) 0 4
def VaNew (B : Nat) (w : World) (m : Ms) (ao : Option Addr) (c : Nat) : Prop := w.ownsRow B 3 1 (.slice ao m.L.length c) m.L.length (rowV (iF (gL m.L)) m.L.length)
def SnOK (fn : Nat) : Prop := ∀ (n : Nd) (ao : Option Addr) (c : Nat) (frame : Int) (rd : Nat → Int) (w : World), NdOK n → AgRd w n ao c → R64 frame → (∀ a, R64 (rd a)) →
 Calls Tryz.prog fn #[ndV n (.slice ao n.vA.length c), .int .i64 frame, agV (fun a => iV (rd a)) 0 3] w fun e w' => ∃ a' c' a2 c2, e = .returned (.tuple #[ndV (senN n frame rd) (.slice a' n.vA.length c'), lsV (senM n frame rd) (.slice a2 (senM n frame rd).L.length c2)]) ∧ AgNew w.heap.size w' n a' c' ∧ VaNew w.heap.size w' (senM n frame rd) a2 c2 ∧ Below w.heap.size w w'
def PhOK (N : Nd → List Ms → Nd) (M : Nd → List Ms → Ms) (fn : Nat) : Prop := ∀ (n : Nd) (ao : Option Addr) (c : Nat) (mo : Option Addr) (mc : Nat) (L : List Lm) (w : World), NdOK n → AgRd w n ao c → MRd w mo L → L.length ≤ 140737488351232 → L.length ≤ mc → (∀ m, m ∈ L → ∀ i, R64 (gL m.m.L i)) →
 Calls Tryz.prog fn #[ndV n (.slice ao n.vA.length c), .slice mo L.length mc] w fun e w' => ∃ a' c' a2 c2, e = .returned (.tuple #[ndV (N n (L.map Lm.m)) (.slice a' (N n (L.map Lm.m)).vA.length c'), lsV (M n (L.map Lm.m)) (.slice a2 (M n (L.map Lm.m)).L.length c2)]) ∧ AgNew w.heap.size w' (N n (L.map Lm.m)) a' c' ∧ VaNew w.heap.size w' (M n (L.map Lm.m)) a2 c2 ∧ Below w.heap.size w w'
theorem zero43 (w : World) : (zeroValue 32).run Tryz.prog w = .ok (agV (fun _ => iV 0) 0 12) w := by kernel_rfl
section
variable {f : Operand → Value} {o : Oper}
theorem run_bld0 (ho : o.op = .build 81 #[]) (w : World) : (execOp f o).run Tryz.prog w = .ok (.value (agV (msF 0 0 0 (.slice none 0 0)) 0 4)) w := by
 unfold execOp
 rw [ho]
 go_simp
 rfl
theorem run_bldM (a b c d : Operand) (ho : o.op = .build 81 #[(0, a), (1, b), (2, c), (3, d)]) {K F R : Int} {ao : Option Addr} {n q : Nat} (h0 : f a = .int .i64 K) (h1 : f b = .int .i64 F) (h2 : f c = .int .i64 R) (h3 : f d = .slice ao n q) (w : World) :
  (execOp f o).run Tryz.prog w = .ok (.value (agV (msF K F R (.slice ao n q)) 0 4)) w := by
 unfold execOp
 rw [ho]
 go_simp
 rfl
theorem run_bld4 (ho : o.op = .build 28 #[]) (w : World) : (execOp f o).run Tryz.prog w = .ok (.value (agV (fun _ => iV 0) 0 4)) w := by
 unfold execOp
 rw [ho]
 go_simp
 rfl
end
theorem wp_row3 (w : World) {o : Oper} {a : Act} {K : Act → World → Prop} {Q : Exit → Act → World → Prop} (x y z : Operand) (ho : o.op = .buildSlice 79 3 #[(0, x), (1, y), (2, z)]) {g : Nat → Int} (hx : a.eval x = .int .i64 (g 0)) (hy : a.eval y = .int .i64 (g 1)) (hz : a.eval z = .int .i64 (g 2))
  (h : ∀ w', Vh 3 w' w.heap.size 3 3 (fun i => iV (g i)) → Below w.heap.size w w' → w'.heap.size = w.heap.size + 1 → K (a.put o.dst (.slice (some ⟨w.heap.size, 0, none⟩) 3 3)) w') : WpI Tryz.prog o a w K Q := by
 have hh := h (w.alloc (.cells #[.int .i64 (g 0), .int .i64 (g 1), .int .i64 (g 2)] 3)) (Vh.of_row (fun i => iV (g i)) 3 (by decide) (by show (w.heap.push _)[w.heap.size]? = _; rw [Array.getElem?_push_size]; rfl)) (al_below _ _) (al_size _ _)
 have e : (execOp a.eval o).run Tryz.prog w = .ok (.value (.slice (some ⟨w.heap.size, 0, none⟩) 3 3)) (w.alloc (.cells #[.int .i64 (g 0), .int .i64 (g 1), .int .i64 (g 2)] 3)) := by
  generalize a.eval = f at hx hy hz
  unfold execOp
  rw [ho]
  simp only [List.map_toArray, List.map_cons, List.map_nil]
  rw [hx, hy, hz]
  go_simp
 refine ⟨?_⟩
 unfold Oper.wp
 rw [e]
 exact hh
theorem wp_row1 (w : World) {o : Oper} {a : Act} {K : Act → World → Prop} {Q : Exit → Act → World → Prop} (x : Operand) (ho : o.op = .buildSlice 79 1 #[(0, x)]) {g : Int} (hx : a.eval x = .int .i64 g)
  (h : ∀ w', Vh 3 w' w.heap.size 1 1 (fun _ => iV g) → Below w.heap.size w w' → w'.heap.size = w.heap.size + 1 → K (a.put o.dst (.slice (some ⟨w.heap.size, 0, none⟩) 1 1)) w') : WpI Tryz.prog o a w K Q := by
 have hh := h (w.alloc (.cells #[.int .i64 g] 3)) (Vh.of_row (fun _ => iV g) 1 (by decide) (by show (w.heap.push _)[w.heap.size]? = _; rw [Array.getElem?_push_size]; rfl)) (al_below _ _) (al_size _ _)
 have e : (execOp a.eval o).run Tryz.prog w = .ok (.value (.slice (some ⟨w.heap.size, 0, none⟩) 1 1)) (w.alloc (.cells #[.int .i64 g] 3)) := by
  generalize a.eval = f at hx
  unfold execOp
  rw [ho]
  simp only [List.map_toArray, List.map_cons, List.map_nil]
  rw [hx]
  go_simp
 refine ⟨?_⟩
 unfold Oper.wp
 rw [e]
 exact hh
theorem msF_one (K F R : Int) (ao : Option Addr) (n c : Nat) : ∀ j, j < 4 → (msF K F R (.slice ao n c) j).oneCell' = true := by
 intro j _
 unfold msF iV
 repeat' split
 all_goals rfl
theorem noN_in {x : Int} (h : noN x = false) : 0 ≤ x ∧ x ≤ 3 := by
 unfold noN at h
 simp at h
 omega
end Go.Proofs.YtdhblehhgpdpdaaGreat
