import Derived.Test.YtdhblehhgpdpdaaJoin
import Derived.Test.YtdhblehhgpdpdaaNear45
import Derived.Test.YtdhblehhgpdpdaaNear53
import Derived.Test.YtdhblehhgpdpdaaNear59
namespace Go.Proofs.Ytdhblehhgpdpdaa
open Go.RowKit
instance : FldK Try.prog 38 0 0 := ⟨fun ho hx w => by
 unfold execOp
 rw [ho]
 dsimp only
 rw [hx]
 go_simp⟩
instance : FldK Try.prog 38 1 1 := ⟨fun ho hx w => by
 unfold execOp
 rw [ho]
 dsimp only
 rw [hx]
 go_simp⟩
instance : FldK Try.prog 38 2 2 := ⟨fun ho hx w => by
 unfold execOp
 rw [ho]
 dsimp only
 rw [hx]
 go_simp⟩
instance : FldK Try.prog 38 3 6 := ⟨fun ho hx w => by
 unfold execOp
 rw [ho]
 dsimp only
 rw [hx]
 go_simp⟩
instance : FldK Try.prog 38 4 27 := ⟨fun ho hx w => by
 unfold execOp
 rw [ho]
 dsimp only
 rw [hx]
 go_simp⟩
instance : FldK Try.prog 38 5 39 := ⟨fun ho hx w => by
 unfold execOp
 rw [ho]
 dsimp only
 rw [hx]
 go_simp⟩
instance : FldK Try.prog 38 6 51 := ⟨fun ho hx w => by
 unfold execOp
 rw [ho]
 dsimp only
 rw [hx]
 go_simp⟩
instance : FldK Try.prog 38 7 55 := ⟨fun ho hx w => by
 unfold execOp
 rw [ho]
 dsimp only
 rw [hx]
 go_simp⟩
instance : FldK Try.prog 38 8 67 := ⟨fun ho hx w => by
 unfold execOp
 rw [ho]
 dsimp only
 rw [hx]
 go_simp⟩
instance : FldK Try.prog 38 9 70 := ⟨fun ho hx w => by
 unfold execOp
 rw [ho]
 dsimp only
 rw [hx]
 go_simp⟩
instance : FldK Try.prog 38 10 71 := ⟨fun ho hx w => by
 unfold execOp
 rw [ho]
 dsimp only
 rw [hx]
 go_simp⟩
instance : FldK Try.prog 36 0 0 := ⟨fun ho hx w => by
 unfold execOp
 rw [ho]
 dsimp only
 rw [hx]
 go_simp⟩
instance : FldK Try.prog 36 1 1 := ⟨fun ho hx w => by
 unfold execOp
 rw [ho]
 dsimp only
 rw [hx]
 go_simp⟩
instance : FldK Try.prog 36 2 2 := ⟨fun ho hx w => by
 unfold execOp
 rw [ho]
 dsimp only
 rw [hx]
 go_simp⟩
instance : FldK Try.prog 31 0 0 := ⟨fun ho hx w => by
 unfold execOp
 rw [ho]
 dsimp only
 rw [hx]
 go_simp⟩
instance : FldK Try.prog 31 1 4 := ⟨fun ho hx w => by
 unfold execOp
 rw [ho]
 dsimp only
 rw [hx]
 go_simp⟩
instance : FldK Try.prog 31 2 8 := ⟨fun ho hx w => by
 unfold execOp
 rw [ho]
 dsimp only
 rw [hx]
 go_simp⟩
instance : FldK Try.prog 26 0 0 := ⟨fun ho hx w => by
 unfold execOp
 rw [ho]
 dsimp only
 rw [hx]
 go_simp⟩
instance : FldK Try.prog 26 1 1 := ⟨fun ho hx w => by
 unfold execOp
 rw [ho]
 dsimp only
 rw [hx]
 go_simp⟩
instance : FldK Try.prog 26 2 2 := ⟨fun ho hx w => by
 unfold execOp
 rw [ho]
 dsimp only
 rw [hx]
 go_simp⟩
instance : FldK Try.prog 26 3 3 := ⟨fun ho hx w => by
 unfold execOp
 rw [ho]
 dsimp only
 rw [hx]
 go_simp⟩
instance : FldK Try.prog 26 4 4 := ⟨fun ho hx w => by
 unfold execOp
 rw [ho]
 dsimp only
 rw [hx]
 go_simp⟩
instance : FldK Try.prog 26 5 5 := ⟨fun ho hx w => by
 unfold execOp
 rw [ho]
 dsimp only
 rw [hx]
 go_simp⟩
instance : FldK Try.prog 26 6 6 := ⟨fun ho hx w => by
 unfold execOp
 rw [ho]
 dsimp only
 rw [hx]
 go_simp⟩
instance : FldK Try.prog 23 0 0 := ⟨fun ho hx w => by
 unfold execOp
 rw [ho]
 dsimp only
 rw [hx]
 go_simp⟩
instance : FldK Try.prog 23 1 1 := ⟨fun ho hx w => by
 unfold execOp
 rw [ho]
 dsimp only
 rw [hx]
 go_simp⟩
instance : FldK Try.prog 23 2 2 := ⟨fun ho hx w => by
 unfold execOp
 rw [ho]
 dsimp only
 rw [hx]
 go_simp⟩
instance : FldK Try.prog 23 3 3 := ⟨fun ho hx w => by
 unfold execOp
 rw [ho]
 dsimp only
 rw [hx]
 go_simp⟩
instance : FldK Try.prog 41 0 0 := ⟨fun ho hx w => by
 unfold execOp
 rw [ho]
 dsimp only
 rw [hx]
 go_simp⟩
instance : FldK Try.prog 41 1 1 := ⟨fun ho hx w => by
 unfold execOp
 rw [ho]
 dsimp only
 rw [hx]
 go_simp⟩
instance : ManyK Try.prog 38 74 := ⟨Many.of _ Try.underlying38 rfl (by kernel_rfl)⟩
instance : ManyK Try.prog 36 3 := ⟨Many.of _ Try.underlying36 rfl (by kernel_rfl)⟩
instance : ManyK Try.prog 31 12 := ⟨Many.of _ Try.underlying31 rfl (by kernel_rfl)⟩
instance : ManyK Try.prog 26 7 := ⟨Many.of _ Try.underlying26 rfl (by kernel_rfl)⟩
instance : ManyK Try.prog 23 4 := ⟨Many.of _ Try.underlying23 rfl (by kernel_rfl)⟩
instance : ManyK Try.prog 41 297 := ⟨Many.of _ Try.underlying41 rfl (by kernel_rfl)⟩
instance : ManyK Try.prog 32 3 := ⟨Many.of _ Try.underlying32 rfl (by kernel_rfl)⟩
instance : ManyK Try.prog 29 4 := ⟨Many.of _ Try.underlying29 rfl (by kernel_rfl)⟩
instance : ManyK Try.prog 28 4 := ⟨Many.of _ Try.underlying28 rfl (by kernel_rfl)⟩
instance : ManyK Try.prog 33 12 := ⟨Many.of _ Try.underlying33 rfl (by kernel_rfl)⟩
instance : ManyK Try.prog 27 21 := ⟨Many.of _ Try.underlying27 rfl (by kernel_rfl)⟩
instance : ManyK Try.prog 39 296 := ⟨Many.of _ Try.underlying39 rfl (by kernel_rfl)⟩
instance : OneK Try.prog 3 := ⟨⟨fun w => by go_simp, fun w => by go_simp⟩⟩
instance : OneK Try.prog 4 := ⟨⟨fun w => by go_simp, fun w => by go_simp⟩⟩
instance : OneK Try.prog 34 := ⟨⟨fun w => by go_simp, fun w => by go_simp⟩⟩
instance : OneK Try.prog 5 := ⟨⟨fun w => by go_simp, fun w => by go_simp⟩⟩
instance : OneK Try.prog 45 := ⟨⟨fun w => by go_simp, fun w => by go_simp⟩⟩
instance : ArrK Try.prog 32 3 3 := ⟨Try.underlying32⟩
instance : ArrK Try.prog 29 4 3 := ⟨Try.underlying29⟩
instance : ArrK Try.prog 28 4 4 := ⟨Try.underlying28⟩
instance : ArrK Try.prog 33 4 32 := ⟨Try.underlying33⟩
instance : ArrK Try.prog 27 3 26 := ⟨Try.underlying27⟩
instance : ArrK Try.prog 39 4 38 := ⟨Try.underlying39⟩
instance : SlcK Try.prog 34 4 := ⟨Try.underlying34⟩
instance : LenK Try.prog 34 := ⟨fun ho hx w => by
 unfold execOp
 rw [ho]
 dsimp only
 go_simp⟩
instance : EntK Try.prog 5 := ⟨fun args w => by go_simp⟩
instance : EntK Try.prog 8 := ⟨fun args w => by go_simp⟩
instance : EntK Try.prog 13 := ⟨fun args w => by go_simp⟩
instance : EntK Try.prog 6 := ⟨fun args w => by go_simp⟩
instance : EntK Try.prog 9 := ⟨fun args w => by go_simp⟩
instance : EntK Try.prog 4 := ⟨fun args w => by go_simp⟩
instance : EntK Try.prog 7 := ⟨fun args w => by go_simp⟩
instance : Zer1 Try.prog 3 (.int .i64 0) := ⟨fun w => by kernel_rfl, rfl⟩
instance : Zer1 Try.prog 4 (.bool false) := ⟨fun w => by kernel_rfl, rfl⟩
instance : ZerK Try.prog 38 74 (ndF zeroN (.slice none 0 0)) := ⟨fun w => by kernel_rfl⟩
instance : ZerK Try.prog 32 3 (fun _ => iV 0) := ⟨fun w => by kernel_rfl⟩
instance : ZerK Try.prog 29 4 (fun _ => iV 0) := ⟨fun w => by kernel_rfl⟩
instance : ZerK Try.prog 33 12 (fun _ => iV 0) := ⟨fun w => by kernel_rfl⟩
instance : InfK Try.prog 34 4 1 1 := ⟨Try.underlying34, by
 have h : (Try.prog.info? 4).map (fun i => (i.size, i.bytes, i.zero.map fun z => z.cells.size)) = some (1, 1, some 1) := by kernel_rfl
 obtain ⟨i, hi, e⟩ := Option.map_eq_some_iff.1 h
 cases hz : i.zero with
 | none => rw [hz] at e; simp at e
 | some z =>
  rw [hz] at e
  simp only [Prod.mk.injEq, Option.map_some, Option.some.injEq] at e
  exact ⟨i, z, hi, hz, e.1, e.2.1, e.2.2⟩, by decide⟩
theorem run_neqE {f : Operand → Value} {o : Oper} {b : Bool} (x y : Operand) (ho : o.op = .binOp .neq 45 x y 45) {u v : Int} (hx : f x = .int .i64 u) (hy : f y = .int .i64 v) (hb : decide (u ≠ v) = b) (w : World) : (execOp f o).run Try.prog w = .ok (.value (.bool b)) w := by
 have e : (u != v) = b := by rw [← hb, Bool.eq_iff_iff]; simp
 unfold execOp
 rw [ho]
 dsimp only
 rw [hx, hy]
 go_simp
end Go.Proofs.Ytdhblehhgpdpdaa
namespace Go.Proofs.Ytdhblehhgpdpdaa
open Go.RowKit
section
variable {w w' : World} {b : Nat} {K F R : Int} {v : Value}
end
end Go.Proofs.Ytdhblehhgpdpdaa
