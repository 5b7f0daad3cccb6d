/- Four rows of four read and written whole. -/
import Derived.Test.YtomlpcbccfmejaaVecOps2
namespace Go.Proofs.Ytomlpcbccfmejaa
open Go.RowKit

theorem G16.at {w : World} {b : Nat} {x : Nat → Nat → Int} (h : G16 w b x) (k : Nat) (hk : k < 16) : w.cell? ⟨b, k, none⟩ = some (.int .i64 (x (k / 4) (k % 4))) := by
  have := h.cell (i := k / 4) (j := k % 4) (by omega) (by omega)
  rwa [show k / 4 * 4 + k % 4 = k by omega] at this
theorem run_loadG {f : Operand → Value} {o : Oper} (x : Operand) (ho : o.op = .load 28 x) {b : Nat} {y : Nat → Nat → Int} (hx : f x = .pointer (some ⟨b, 0, none⟩)) {w : World} (hm : G16 w b y) :
    (execOp f o).run Try.prog w = .ok (.value (gridV y)) w := by
  have c0 : w.cell? ⟨b, 0, none⟩ = some (.int .i64 (y 0 0)) := hm.at 0 (by omega)
  have c1 : w.cell? ⟨b, 1, none⟩ = some (.int .i64 (y 0 1)) := hm.at 1 (by omega)
  have c2 : w.cell? ⟨b, 2, none⟩ = some (.int .i64 (y 0 2)) := hm.at 2 (by omega)
  have c3 : w.cell? ⟨b, 3, none⟩ = some (.int .i64 (y 0 3)) := hm.at 3 (by omega)
  have c4 : w.cell? ⟨b, 4, none⟩ = some (.int .i64 (y 1 0)) := hm.at 4 (by omega)
  have c5 : w.cell? ⟨b, 5, none⟩ = some (.int .i64 (y 1 1)) := hm.at 5 (by omega)
  have c6 : w.cell? ⟨b, 6, none⟩ = some (.int .i64 (y 1 2)) := hm.at 6 (by omega)
  have c7 : w.cell? ⟨b, 7, none⟩ = some (.int .i64 (y 1 3)) := hm.at 7 (by omega)
  have c8 : w.cell? ⟨b, 8, none⟩ = some (.int .i64 (y 2 0)) := hm.at 8 (by omega)
  have c9 : w.cell? ⟨b, 9, none⟩ = some (.int .i64 (y 2 1)) := hm.at 9 (by omega)
  have c10 : w.cell? ⟨b, 10, none⟩ = some (.int .i64 (y 2 2)) := hm.at 10 (by omega)
  have c11 : w.cell? ⟨b, 11, none⟩ = some (.int .i64 (y 2 3)) := hm.at 11 (by omega)
  have c12 : w.cell? ⟨b, 12, none⟩ = some (.int .i64 (y 3 0)) := hm.at 12 (by omega)
  have c13 : w.cell? ⟨b, 13, none⟩ = some (.int .i64 (y 3 1)) := hm.at 13 (by omega)
  have c14 : w.cell? ⟨b, 14, none⟩ = some (.int .i64 (y 3 2)) := hm.at 14 (by omega)
  have c15 : w.cell? ⟨b, 15, none⟩ = some (.int .i64 (y 3 3)) := hm.at 15 (by omega)
  clear hm
  unfold execOp
  rw [ho]
  dsimp only
  rw [hx]
  unfold gridV
  go_simp
theorem wpList_loadG (w : World) {ops : Array Oper} {rest : List Oper} {o : Oper} {a : Act} {Q : Exit → Act → World → Prop} (hgd : o.guard = none) (x : Operand) (ho : o.op = .load 28 x) {b : Nat} {y : Nat → Nat → Int} (hx : a.eval x = .pointer (some ⟨b, 0, none⟩)) (hm : G16 w b y)
    (h : wpList Try.prog ops Q rest (a.put o.dst (gridV y)) w) : wpList Try.prog ops Q (o :: rest) a w :=
  wpList_plain hgd fun _ hK => by
    unfold Oper.wp
    rw [run_loadG x ho hx hm]
    exact hK _ _ h
theorem wpList_storeG (w : World) {ops : Array Oper} {rest : List Oper} {o : Oper} {a : Act} {Q : Exit → Act → World → Prop} (hgd : o.guard = none) (x y : Operand) (ho : o.op = .store 28 x y) {b : Nat} {u v : Nat → Nat → Int} (hx : a.eval x = .pointer (some ⟨b, 0, none⟩)) (hy : a.eval y = gridV v) (hm : G16 w b u) (hd : o.dst = none)
    (h : ∀ w', G16 w' b v → Kept b w w' → wpList Try.prog ops Q rest a w') : wpList Try.prog ops Q (o :: rest) a w :=
  wpList_plain hgd fun _ hK => (wp_storeG w x y ho hx hy hm hd (fun w' m k => hK _ _ (h w' m k))).out

end Go.Proofs.Ytomlpcbccfmejaa
