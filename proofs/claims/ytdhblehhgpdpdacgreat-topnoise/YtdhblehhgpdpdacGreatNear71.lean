import Derived.Test.YtdhblehhgpdpdacGreatJoin
import Derived.Test.YtdhblehhgpdpdacGreatNear50
import Derived.Test.YtdhblehhgpdpdacGreatNear68
import Derived.Test.YtdhblehhgpdpdacGreatNear131
namespace Go.Proofs.YtdhblehhgpdpdacGreat
open Go.RowKit
instance : FldK Tryz.prog 55 0 0 := ⟨fun ho hx w => by
 unfold execOp
 rw [ho]
 dsimp only
 rw [hx]
 go_simp⟩
instance : FldK Tryz.prog 55 1 1 := ⟨fun ho hx w => by
 unfold execOp
 rw [ho]
 dsimp only
 rw [hx]
 go_simp⟩
instance : FldK Tryz.prog 55 2 2 := ⟨fun ho hx w => by
 unfold execOp
 rw [ho]
 dsimp only
 rw [hx]
 go_simp⟩
instance : FldK Tryz.prog 55 3 6 := ⟨fun ho hx w => by
 unfold execOp
 rw [ho]
 dsimp only
 rw [hx]
 go_simp⟩
instance : FldK Tryz.prog 55 4 27 := ⟨fun ho hx w => by
 unfold execOp
 rw [ho]
 dsimp only
 rw [hx]
 go_simp⟩
instance : FldK Tryz.prog 55 5 39 := ⟨fun ho hx w => by
 unfold execOp
 rw [ho]
 dsimp only
 rw [hx]
 go_simp⟩
instance : FldK Tryz.prog 55 6 51 := ⟨fun ho hx w => by
 unfold execOp
 rw [ho]
 dsimp only
 rw [hx]
 go_simp⟩
instance : FldK Tryz.prog 55 7 55 := ⟨fun ho hx w => by
 unfold execOp
 rw [ho]
 dsimp only
 rw [hx]
 go_simp⟩
instance : FldK Tryz.prog 55 8 67 := ⟨fun ho hx w => by
 unfold execOp
 rw [ho]
 dsimp only
 rw [hx]
 go_simp⟩
instance : FldK Tryz.prog 55 9 70 := ⟨fun ho hx w => by
 unfold execOp
 rw [ho]
 dsimp only
 rw [hx]
 go_simp⟩
instance : FldK Tryz.prog 55 10 71 := ⟨fun ho hx w => by
 unfold execOp
 rw [ho]
 dsimp only
 rw [hx]
 go_simp⟩
instance : FldK Tryz.prog 69 0 0 := ⟨fun ho hx w => by
 unfold execOp
 rw [ho]
 dsimp only
 rw [hx]
 go_simp⟩
instance : FldK Tryz.prog 69 1 1 := ⟨fun ho hx w => by
 unfold execOp
 rw [ho]
 dsimp only
 rw [hx]
 go_simp⟩
instance : FldK Tryz.prog 69 2 2 := ⟨fun ho hx w => by
 unfold execOp
 rw [ho]
 dsimp only
 rw [hx]
 go_simp⟩
instance : FldK Tryz.prog 69 3 3 := ⟨fun ho hx w => by
 unfold execOp
 rw [ho]
 dsimp only
 rw [hx]
 go_simp⟩
instance : FldK Tryz.prog 53 0 0 := ⟨fun ho hx w => by
 unfold execOp
 rw [ho]
 dsimp only
 rw [hx]
 go_simp⟩
instance : FldK Tryz.prog 53 1 1 := ⟨fun ho hx w => by
 unfold execOp
 rw [ho]
 dsimp only
 rw [hx]
 go_simp⟩
instance : FldK Tryz.prog 53 2 2 := ⟨fun ho hx w => by
 unfold execOp
 rw [ho]
 dsimp only
 rw [hx]
 go_simp⟩
instance : FldK Tryz.prog 50 0 0 := ⟨fun ho hx w => by
 unfold execOp
 rw [ho]
 dsimp only
 rw [hx]
 go_simp⟩
instance : FldK Tryz.prog 50 1 4 := ⟨fun ho hx w => by
 unfold execOp
 rw [ho]
 dsimp only
 rw [hx]
 go_simp⟩
instance : FldK Tryz.prog 50 2 8 := ⟨fun ho hx w => by
 unfold execOp
 rw [ho]
 dsimp only
 rw [hx]
 go_simp⟩
instance : FldK Tryz.prog 45 0 0 := ⟨fun ho hx w => by
 unfold execOp
 rw [ho]
 dsimp only
 rw [hx]
 go_simp⟩
instance : FldK Tryz.prog 45 1 1 := ⟨fun ho hx w => by
 unfold execOp
 rw [ho]
 dsimp only
 rw [hx]
 go_simp⟩
instance : FldK Tryz.prog 45 2 2 := ⟨fun ho hx w => by
 unfold execOp
 rw [ho]
 dsimp only
 rw [hx]
 go_simp⟩
instance : FldK Tryz.prog 45 3 3 := ⟨fun ho hx w => by
 unfold execOp
 rw [ho]
 dsimp only
 rw [hx]
 go_simp⟩
instance : FldK Tryz.prog 45 4 4 := ⟨fun ho hx w => by
 unfold execOp
 rw [ho]
 dsimp only
 rw [hx]
 go_simp⟩
instance : FldK Tryz.prog 45 5 5 := ⟨fun ho hx w => by
 unfold execOp
 rw [ho]
 dsimp only
 rw [hx]
 go_simp⟩
instance : FldK Tryz.prog 45 6 6 := ⟨fun ho hx w => by
 unfold execOp
 rw [ho]
 dsimp only
 rw [hx]
 go_simp⟩
instance : FldK Tryz.prog 23 0 0 := ⟨fun ho hx w => by
 unfold execOp
 rw [ho]
 dsimp only
 rw [hx]
 go_simp⟩
instance : FldK Tryz.prog 23 1 1 := ⟨fun ho hx w => by
 unfold execOp
 rw [ho]
 dsimp only
 rw [hx]
 go_simp⟩
instance : FldK Tryz.prog 23 2 2 := ⟨fun ho hx w => by
 unfold execOp
 rw [ho]
 dsimp only
 rw [hx]
 go_simp⟩
instance : FldK Tryz.prog 23 3 3 := ⟨fun ho hx w => by
 unfold execOp
 rw [ho]
 dsimp only
 rw [hx]
 go_simp⟩
instance : FldK Tryz.prog 61 0 0 := ⟨fun ho hx w => by
 unfold execOp
 rw [ho]
 dsimp only
 rw [hx]
 go_simp⟩
instance : FldK Tryz.prog 61 1 1 := ⟨fun ho hx w => by
 unfold execOp
 rw [ho]
 dsimp only
 rw [hx]
 go_simp⟩
instance : FldK Tryz.prog 61 2 2 := ⟨fun ho hx w => by
 unfold execOp
 rw [ho]
 dsimp only
 rw [hx]
 go_simp⟩
instance : FldK Tryz.prog 61 3 5 := ⟨fun ho hx w => by
 unfold execOp
 rw [ho]
 dsimp only
 rw [hx]
 go_simp⟩
instance : FldK Tryz.prog 61 4 8 := ⟨fun ho hx w => by
 unfold execOp
 rw [ho]
 dsimp only
 rw [hx]
 go_simp⟩
instance : FldK Tryz.prog 61 5 9 := ⟨fun ho hx w => by
 unfold execOp
 rw [ho]
 dsimp only
 rw [hx]
 go_simp⟩
instance : FldK Tryz.prog 61 6 10 := ⟨fun ho hx w => by
 unfold execOp
 rw [ho]
 dsimp only
 rw [hx]
 go_simp⟩
instance : FldK Tryz.prog 58 0 0 := ⟨fun ho hx w => by
 unfold execOp
 rw [ho]
 dsimp only
 rw [hx]
 go_simp⟩
instance : FldK Tryz.prog 58 1 1 := ⟨fun ho hx w => by
 unfold execOp
 rw [ho]
 dsimp only
 rw [hx]
 go_simp⟩
instance : FldK Tryz.prog 31 0 0 := ⟨fun ho hx w => by
 unfold execOp
 rw [ho]
 dsimp only
 rw [hx]
 go_simp⟩
instance : FldK Tryz.prog 31 1 12 := ⟨fun ho hx w => by
 unfold execOp
 rw [ho]
 dsimp only
 rw [hx]
 go_simp⟩
instance : FldK Tryz.prog 31 2 13 := ⟨fun ho hx w => by
 unfold execOp
 rw [ho]
 dsimp only
 rw [hx]
 go_simp⟩
instance : FldK Tryz.prog 35 0 0 := ⟨fun ho hx w => by
 unfold execOp
 rw [ho]
 dsimp only
 rw [hx]
 go_simp⟩
instance : FldK Tryz.prog 35 1 1 := ⟨fun ho hx w => by
 unfold execOp
 rw [ho]
 dsimp only
 rw [hx]
 go_simp⟩
instance : FldK Tryz.prog 35 2 2 := ⟨fun ho hx w => by
 unfold execOp
 rw [ho]
 dsimp only
 rw [hx]
 go_simp⟩
instance : FldK Tryz.prog 116 0 0 := ⟨fun ho hx w => by
 unfold execOp
 rw [ho]
 dsimp only
 rw [hx]
 go_simp⟩
instance : FldK Tryz.prog 116 1 297 := ⟨fun ho hx w => by
 unfold execOp
 rw [ho]
 dsimp only
 rw [hx]
 go_simp⟩
instance : FldK Tryz.prog 116 2 298 := ⟨fun ho hx w => by
 unfold execOp
 rw [ho]
 dsimp only
 rw [hx]
 go_simp⟩
instance : FldK Tryz.prog 116 3 299 := ⟨fun ho hx w => by
 unfold execOp
 rw [ho]
 dsimp only
 rw [hx]
 go_simp⟩
instance : ManyK Tryz.prog 55 74 := ⟨Many.of _ Tryz.underlying55 rfl (by kernel_rfl)⟩
instance : ManyK Tryz.prog 69 4 := ⟨Many.of _ Tryz.underlying69 rfl (by kernel_rfl)⟩
instance : ManyK Tryz.prog 53 3 := ⟨Many.of _ Tryz.underlying53 rfl (by kernel_rfl)⟩
instance : ManyK Tryz.prog 50 12 := ⟨Many.of _ Tryz.underlying50 rfl (by kernel_rfl)⟩
instance : ManyK Tryz.prog 45 7 := ⟨Many.of _ Tryz.underlying45 rfl (by kernel_rfl)⟩
instance : ManyK Tryz.prog 23 4 := ⟨Many.of _ Tryz.underlying23 rfl (by kernel_rfl)⟩
instance : ManyK Tryz.prog 61 14 := ⟨Many.of _ Tryz.underlying61 rfl (by kernel_rfl)⟩
instance : ManyK Tryz.prog 58 297 := ⟨Many.of _ Tryz.underlying58 rfl (by kernel_rfl)⟩
instance : ManyK Tryz.prog 31 14 := ⟨Many.of _ Tryz.underlying31 rfl (by kernel_rfl)⟩
instance : ManyK Tryz.prog 35 3 := ⟨Many.of _ Tryz.underlying35 rfl (by kernel_rfl)⟩
instance : ManyK Tryz.prog 116 303 := ⟨Many.of _ Tryz.underlying116 rfl (by kernel_rfl)⟩
instance : ManyK Tryz.prog 27 3 := ⟨Many.of _ Tryz.underlying27 rfl (by kernel_rfl)⟩
instance : ManyK Tryz.prog 48 4 := ⟨Many.of _ Tryz.underlying48 rfl (by kernel_rfl)⟩
instance : ManyK Tryz.prog 47 4 := ⟨Many.of _ Tryz.underlying47 rfl (by kernel_rfl)⟩
instance : ManyK Tryz.prog 28 12 := ⟨Many.of _ Tryz.underlying28 rfl (by kernel_rfl)⟩
instance : ManyK Tryz.prog 46 21 := ⟨Many.of _ Tryz.underlying46 rfl (by kernel_rfl)⟩
instance : ManyK Tryz.prog 56 296 := ⟨Many.of _ Tryz.underlying56 rfl (by kernel_rfl)⟩
instance : ManyK Tryz.prog 110 16 := ⟨Many.of _ Tryz.underlying110 rfl (by kernel_rfl)⟩
instance : ManyK Tryz.prog 114 4 := ⟨Many.of _ Tryz.underlying114 rfl (by kernel_rfl)⟩
instance : OneK Tryz.prog 3 := ⟨⟨fun w => by go_simp, fun w => by go_simp⟩⟩
instance : OneK Tryz.prog 4 := ⟨⟨fun w => by go_simp, fun w => by go_simp⟩⟩
instance : OneK Tryz.prog 67 := ⟨⟨fun w => by go_simp, fun w => by go_simp⟩⟩
instance : OneK Tryz.prog 51 := ⟨⟨fun w => by go_simp, fun w => by go_simp⟩⟩
instance : OneK Tryz.prog 33 := ⟨⟨fun w => by go_simp, fun w => by go_simp⟩⟩
instance : OneK Tryz.prog 5 := ⟨⟨fun w => by go_simp, fun w => by go_simp⟩⟩
instance : OneK Tryz.prog 113 := ⟨⟨fun w => by go_simp, fun w => by go_simp⟩⟩
instance : OneK Tryz.prog 29 := ⟨⟨fun w => by go_simp, fun w => by go_simp⟩⟩
instance : OneK Tryz.prog 24 := ⟨⟨fun w => by go_simp, fun w => by go_simp⟩⟩
instance : OneK Tryz.prog 59 := ⟨⟨fun w => by go_simp, fun w => by go_simp⟩⟩
instance : OneK Tryz.prog 38 := ⟨⟨fun w => by go_simp, fun w => by go_simp⟩⟩
instance : OneK Tryz.prog 39 := ⟨⟨fun w => by go_simp, fun w => by go_simp⟩⟩
instance : OneK Tryz.prog 64 := ⟨⟨fun w => by go_simp, fun w => by go_simp⟩⟩
instance : OneK Tryz.prog 108 := ⟨⟨fun w => by go_simp, fun w => by go_simp⟩⟩
instance : OneK Tryz.prog 103 := ⟨⟨fun w => by go_simp, fun w => by go_simp⟩⟩
instance : ArrK Tryz.prog 27 3 3 := ⟨Tryz.underlying27⟩
instance : ArrK Tryz.prog 48 4 3 := ⟨Tryz.underlying48⟩
instance : ArrK Tryz.prog 47 4 4 := ⟨Tryz.underlying47⟩
instance : ArrK Tryz.prog 28 4 27 := ⟨Tryz.underlying28⟩
instance : ArrK Tryz.prog 46 3 45 := ⟨Tryz.underlying46⟩
instance : ArrK Tryz.prog 56 4 55 := ⟨Tryz.underlying56⟩
instance : ArrK Tryz.prog 110 4 69 := ⟨Tryz.underlying110⟩
instance : ArrK Tryz.prog 114 4 113 := ⟨Tryz.underlying114⟩
instance : SlcK Tryz.prog 67 3 := ⟨Tryz.underlying67⟩
instance : LenK Tryz.prog 67 := ⟨fun ho hx w => by
 unfold execOp
 rw [ho]
 dsimp only
 go_simp⟩
instance : SlcK Tryz.prog 51 4 := ⟨Tryz.underlying51⟩
instance : LenK Tryz.prog 51 := ⟨fun ho hx w => by
 unfold execOp
 rw [ho]
 dsimp only
 go_simp⟩
instance : SlcK Tryz.prog 33 5 := ⟨Tryz.underlying33⟩
instance : LenK Tryz.prog 33 := ⟨fun ho hx w => by
 unfold execOp
 rw [ho]
 dsimp only
 go_simp⟩
instance : SlcK Tryz.prog 113 69 := ⟨Tryz.underlying113⟩
instance : LenK Tryz.prog 113 := ⟨fun ho hx w => by
 unfold execOp
 rw [ho]
 dsimp only
 go_simp⟩
instance : SlcK Tryz.prog 29 35 := ⟨Tryz.underlying29⟩
instance : LenK Tryz.prog 29 := ⟨fun ho hx w => by
 unfold execOp
 rw [ho]
 dsimp only
 go_simp⟩
instance : SlcK Tryz.prog 24 31 := ⟨Tryz.underlying24⟩
instance : LenK Tryz.prog 24 := ⟨fun ho hx w => by
 unfold execOp
 rw [ho]
 dsimp only
 go_simp⟩
instance : SlcK Tryz.prog 59 61 := ⟨Tryz.underlying59⟩
instance : LenK Tryz.prog 59 := ⟨fun ho hx w => by
 unfold execOp
 rw [ho]
 dsimp only
 go_simp⟩
instance : SlcK Tryz.prog 38 58 := ⟨Tryz.underlying38⟩
instance : LenK Tryz.prog 38 := ⟨fun ho hx w => by
 unfold execOp
 rw [ho]
 dsimp only
 go_simp⟩
instance : SlcK Tryz.prog 39 59 := ⟨Tryz.underlying39⟩
instance : LenK Tryz.prog 39 := ⟨fun ho hx w => by
 unfold execOp
 rw [ho]
 dsimp only
 go_simp⟩
instance : SlcK Tryz.prog 105 108 := ⟨Tryz.underlying105⟩
instance : LenK Tryz.prog 105 := ⟨fun ho hx w => by
 unfold execOp
 rw [ho]
 dsimp only
 go_simp⟩
instance : EntK Tryz.prog 20 := ⟨fun args w => by go_simp⟩
instance : EntK Tryz.prog 21 := ⟨fun args w => by go_simp⟩
instance : EntK Tryz.prog 14 := ⟨fun args w => by go_simp⟩
instance : EntK Tryz.prog 37 := ⟨fun args w => by go_simp⟩
instance : EntK Tryz.prog 38 := ⟨fun args w => by go_simp⟩
instance : EntK Tryz.prog 39 := ⟨fun args w => by go_simp⟩
instance : EntK Tryz.prog 40 := ⟨fun args w => by go_simp⟩
instance : EntK Tryz.prog 41 := ⟨fun args w => by go_simp⟩
instance : EntK Tryz.prog 42 := ⟨fun args w => by go_simp⟩
instance : EntK Tryz.prog 61 := ⟨fun args w => by go_simp⟩
instance : EntK Tryz.prog 82 := ⟨fun args w => by go_simp⟩
instance : EntK Tryz.prog 83 := ⟨fun args w => by go_simp⟩
instance : EntK Tryz.prog 100 := ⟨fun args w => by go_simp⟩
instance : EntK Tryz.prog 36 := ⟨fun args w => by go_simp⟩
instance : EntK Tryz.prog 56 := ⟨fun args w => by go_simp⟩
instance : EntK Tryz.prog 57 := ⟨fun args w => by go_simp⟩
instance : EntK Tryz.prog 58 := ⟨fun args w => by go_simp⟩
instance : EntK Tryz.prog 59 := ⟨fun args w => by go_simp⟩
instance : EntK Tryz.prog 60 := ⟨fun args w => by go_simp⟩
instance : EntK Tryz.prog 63 := ⟨fun args w => by go_simp⟩
instance : EntK Tryz.prog 15 := ⟨fun args w => by go_simp⟩
instance : EntK Tryz.prog 18 := ⟨fun args w => by go_simp⟩
instance : EntK Tryz.prog 54 := ⟨fun args w => by go_simp⟩
instance : EntK Tryz.prog 90 := ⟨fun args w => by go_simp⟩
instance : EntK Tryz.prog 98 := ⟨fun args w => by go_simp⟩
instance : EntK Tryz.prog 8 := ⟨fun args w => by go_simp⟩
instance : EntK Tryz.prog 12 := ⟨fun args w => by go_simp⟩
instance : EntK Tryz.prog 9 := ⟨fun args w => by go_simp⟩
instance : EntK Tryz.prog 11 := ⟨fun args w => by go_simp⟩
instance : EntK Tryz.prog 13 := ⟨fun args w => by go_simp⟩
instance : EntK Tryz.prog 10 := ⟨fun args w => by go_simp⟩
instance : EntK Tryz.prog 16 := ⟨fun args w => by go_simp⟩
instance : EntK Tryz.prog 17 := ⟨fun args w => by go_simp⟩
instance : EntK Tryz.prog 19 := ⟨fun args w => by go_simp⟩
instance : EntK Tryz.prog 55 := ⟨fun args w => by go_simp⟩
instance : EntK Tryz.prog 62 := ⟨fun args w => by go_simp⟩
instance : Zer1 Tryz.prog 59 (.slice none 0 0) := ⟨fun w => by kernel_rfl, rfl⟩
instance : Zer1 Tryz.prog 113 (.slice none 0 0) := ⟨fun w => by kernel_rfl, rfl⟩
instance : Zer1 Tryz.prog 3 (.int .i64 0) := ⟨fun w => by kernel_rfl, rfl⟩
instance : Zer1 Tryz.prog 4 (.bool false) := ⟨fun w => by kernel_rfl, rfl⟩
instance : Zer1 Tryz.prog 24 (.slice none 0 0) := ⟨fun w => by kernel_rfl, rfl⟩
instance : Zer1 Tryz.prog 67 (.slice none 0 0) := ⟨fun w => by kernel_rfl, rfl⟩
instance : ZerK Tryz.prog 55 74 (ndF zeroN (.slice none 0 0)) := ⟨fun w => by kernel_rfl⟩
instance : ZerK Tryz.prog 69 4 (msF 0 0 0 (.slice none 0 0)) := ⟨fun w => by kernel_rfl⟩
instance : ZerK Tryz.prog 27 3 (fun _ => iV 0) := ⟨fun w => by kernel_rfl⟩
instance : ZerK Tryz.prog 48 4 (fun _ => iV 0) := ⟨fun w => by kernel_rfl⟩
instance : ZerK Tryz.prog 28 12 (fun _ => iV 0) := ⟨fun w => by kernel_rfl⟩
instance : InfK Tryz.prog 51 4 1 1 := ⟨Tryz.underlying51, by
 have h : (Tryz.prog.info? 4).map (fun i => (i.size, i.bytes, i.zero.map fun z => z.cells.size)) = some (1, 1, some 1) := by kernel_rfl
 obtain ⟨i, hi, e⟩ := Option.map_eq_some_iff.1 h
 cases hz : i.zero with
 | none => rw [hz] at e; simp at e
 | some z =>
  rw [hz] at e
  simp only [Prod.mk.injEq, Option.map_some, Option.some.injEq] at e
  exact ⟨i, z, hi, hz, e.1, e.2.1, e.2.2⟩, by decide⟩
instance : InfK Tryz.prog 67 3 1 8 := ⟨Tryz.underlying67, by
 have h : (Tryz.prog.info? 3).map (fun i => (i.size, i.bytes, i.zero.map fun z => z.cells.size)) = some (1, 8, some 1) := by kernel_rfl
 obtain ⟨i, hi, e⟩ := Option.map_eq_some_iff.1 h
 cases hz : i.zero with
 | none => rw [hz] at e; simp at e
 | some z =>
  rw [hz] at e
  simp only [Prod.mk.injEq, Option.map_some, Option.some.injEq] at e
  exact ⟨i, z, hi, hz, e.1, e.2.1, e.2.2⟩, by decide⟩
instance : InfK Tryz.prog 33 5 1 1 := ⟨Tryz.underlying33, by
 have h : (Tryz.prog.info? 5).map (fun i => (i.size, i.bytes, i.zero.map fun z => z.cells.size)) = some (1, 1, some 1) := by kernel_rfl
 obtain ⟨i, hi, e⟩ := Option.map_eq_some_iff.1 h
 cases hz : i.zero with
 | none => rw [hz] at e; simp at e
 | some z =>
  rw [hz] at e
  simp only [Prod.mk.injEq, Option.map_some, Option.some.injEq] at e
  exact ⟨i, z, hi, hz, e.1, e.2.1, e.2.2⟩, by decide⟩
instance : InfK Tryz.prog 113 69 4 48 := ⟨Tryz.underlying113, by
 have h : (Tryz.prog.info? 69).map (fun i => (i.size, i.bytes, i.zero.map fun z => z.cells.size)) = some (4, 48, some 4) := by kernel_rfl
 obtain ⟨i, hi, e⟩ := Option.map_eq_some_iff.1 h
 cases hz : i.zero with
 | none => rw [hz] at e; simp at e
 | some z =>
  rw [hz] at e
  simp only [Prod.mk.injEq, Option.map_some, Option.some.injEq] at e
  exact ⟨i, z, hi, hz, e.1, e.2.1, e.2.2⟩, by decide⟩
instance : InfK Tryz.prog 29 35 3 40 := ⟨Tryz.underlying29, by
 have h : (Tryz.prog.info? 35).map (fun i => (i.size, i.bytes, i.zero.map fun z => z.cells.size)) = some (3, 40, some 3) := by kernel_rfl
 obtain ⟨i, hi, e⟩ := Option.map_eq_some_iff.1 h
 cases hz : i.zero with
 | none => rw [hz] at e; simp at e
 | some z =>
  rw [hz] at e
  simp only [Prod.mk.injEq, Option.map_some, Option.some.injEq] at e
  exact ⟨i, z, hi, hz, e.1, e.2.1, e.2.2⟩, by decide⟩
instance : InfK Tryz.prog 24 31 14 128 := ⟨Tryz.underlying24, by
 have h : (Tryz.prog.info? 31).map (fun i => (i.size, i.bytes, i.zero.map fun z => z.cells.size)) = some (14, 128, some 14) := by kernel_rfl
 obtain ⟨i, hi, e⟩ := Option.map_eq_some_iff.1 h
 cases hz : i.zero with
 | none => rw [hz] at e; simp at e
 | some z =>
  rw [hz] at e
  simp only [Prod.mk.injEq, Option.map_some, Option.some.injEq] at e
  exact ⟨i, z, hi, hz, e.1, e.2.1, e.2.2⟩, by decide⟩
instance : InfK Tryz.prog 59 61 14 80 := ⟨Tryz.underlying59, by
 have h : (Tryz.prog.info? 61).map (fun i => (i.size, i.bytes, i.zero.map fun z => z.cells.size)) = some (14, 80, some 14) := by kernel_rfl
 obtain ⟨i, hi, e⟩ := Option.map_eq_some_iff.1 h
 cases hz : i.zero with
 | none => rw [hz] at e; simp at e
 | some z =>
  rw [hz] at e
  simp only [Prod.mk.injEq, Option.map_some, Option.some.injEq] at e
  exact ⟨i, z, hi, hz, e.1, e.2.1, e.2.2⟩, by decide⟩
instance : InfK Tryz.prog 38 58 297 2344 := ⟨Tryz.underlying38, by
 have h : (Tryz.prog.info? 58).map (fun i => (i.size, i.bytes, i.zero.map fun z => z.cells.size)) = some (297, 2344, some 297) := by kernel_rfl
 obtain ⟨i, hi, e⟩ := Option.map_eq_some_iff.1 h
 cases hz : i.zero with
 | none => rw [hz] at e; simp at e
 | some z =>
  rw [hz] at e
  simp only [Prod.mk.injEq, Option.map_some, Option.some.injEq] at e
  exact ⟨i, z, hi, hz, e.1, e.2.1, e.2.2⟩, by decide⟩
instance : InfK Tryz.prog 39 59 1 24 := ⟨Tryz.underlying39, by
 have h : (Tryz.prog.info? 59).map (fun i => (i.size, i.bytes, i.zero.map fun z => z.cells.size)) = some (1, 24, some 1) := by kernel_rfl
 obtain ⟨i, hi, e⟩ := Option.map_eq_some_iff.1 h
 cases hz : i.zero with
 | none => rw [hz] at e; simp at e
 | some z =>
  rw [hz] at e
  simp only [Prod.mk.injEq, Option.map_some, Option.some.injEq] at e
  exact ⟨i, z, hi, hz, e.1, e.2.1, e.2.2⟩, by decide⟩
theorem run_neqE {f : Operand → Value} {o : Oper} {b : Bool} (x y : Operand) (ho : o.op = .binOp .neq 64 x y 64) {u v : Int} (hx : f x = .int .i64 u) (hy : f y = .int .i64 v) (hb : decide (u ≠ v) = b) (w : World) : (execOp f o).run Tryz.prog w = .ok (.value (.bool b)) w := by
 have e : (u != v) = b := by rw [← hb, Bool.eq_iff_iff]; simp
 unfold execOp
 rw [ho]
 dsimp only
 rw [hx, hy]
 go_simp
end Go.Proofs.YtdhblehhgpdpdacGreat
namespace Go.Proofs.YtdhblehhgpdpdacGreat
open Go.RowKit
def msV (K F R : Int) (v : Value) : Value := .agg #[.int .i64 K, .int .i64 F, .int .i64 R, v]
def MgAt (w : World) (b : Nat) (K F R : Int) (v : Value) : Prop := w.heap[b]? = some (.cells #[.int .i64 K, .int .i64 F, .int .i64 R, v] 69 (0, 0))
section
variable {w w' : World} {b : Nat} {K F R : Int} {v : Value}
theorem MgAt.cell0 (h : MgAt w b K F R v) : w.cell? ⟨b, 0, none⟩ = some (.int .i64 K) := by unfold MgAt at h; unfold World.cell?; rw [h]; rfl
theorem MgAt.cell1 (h : MgAt w b K F R v) : w.cell? ⟨b, 1, none⟩ = some (.int .i64 F) := by unfold MgAt at h; unfold World.cell?; rw [h]; rfl
theorem MgAt.cell2 (h : MgAt w b K F R v) : w.cell? ⟨b, 2, none⟩ = some (.int .i64 R) := by unfold MgAt at h; unfold World.cell?; rw [h]; rfl
theorem MgAt.cell3 (h : MgAt w b K F R v) : w.cell? ⟨b, 3, none⟩ = some v := by unfold MgAt at h; unfold World.cell?; rw [h]; rfl
theorem MgAt.free (h : MgAt w b K F R v) (i : Nat) : w.frozen? ⟨b, i, none⟩ = false := by unfold MgAt at h; simp [World.frozen?, h]
theorem MgAt.lt (h : MgAt w b K F R v) : b < w.heap.size := lt_of_block h
theorem MgAt.same (h : MgAt w b K F R v) (e : w'.heap[b]? = w.heap[b]?) : MgAt w' b K F R v := e.trans h
theorem MgAt.below (h : MgAt w b K F R v) (k : Below w.heap.size w w') : MgAt w' b K F R v := h.same (k.block b h.lt)
theorem MgAt.under {B : Nat} (h : MgAt w b K F R v) (k : Below B w w') (hb : b < B) : MgAt w' b K F R v := h.same (k.block b hb)
theorem MgAt.kept {z : Nat} (h : MgAt w b K F R v) (k : Kept z w w') (hz : b ≠ z) : MgAt w' b K F R v := h.same (k.block b h.lt hz)
theorem MgAt.new (w : World) (K F R : Int) (v : Value) : MgAt (w.alloc (.cells #[.int .i64 K, .int .i64 F, .int .i64 R, v] 69)) w.heap.size K F R v := by
 unfold MgAt
 show (w.heap.push _)[w.heap.size]? = _
 rw [Array.getElem?_push_size]
theorem MgAt.put (h : MgAt w b K F R v) (K' F' R' : Int) (u : Value) :
  ∃ w', w' = (((w.setCell ⟨b, 0, none⟩ (.int .i64 K')).setCell ⟨b, 1, none⟩ (.int .i64 F')).setCell ⟨b, 2, none⟩ (.int .i64 R')).setCell ⟨b, 3, none⟩ u ∧ MgAt w' b K' F' R' u ∧ Kept b w w' := by
 refine ⟨_, rfl, ?_, (((kept_set w b 0 _).trans (kept_set _ b 1 _) (Or.inl rfl)).trans (kept_set _ b 2 _) (Or.inl rfl)).trans (kept_set _ b 3 _) (Or.inl rfl)⟩
 unfold MgAt at h ⊢
 have h1 := heap_setCell_same w b 0 _ _ (.int .i64 K') h
 have h2 := heap_setCell_same _ b 1 _ _ (.int .i64 F') h1
 have h3 := heap_setCell_same _ b 2 _ _ (.int .i64 R') h2
 exact heap_setCell_same _ b 3 _ _ u h3
theorem MgAt.put3 (h : MgAt w b K F R v) (u : Value) : ∃ w', w' = w.setCell ⟨b, 3, none⟩ u ∧ MgAt w' b K F R u ∧ Kept b w w' := by
 refine ⟨_, rfl, ?_, kept_set w b 3 _⟩
 unfold MgAt at h ⊢
 exact heap_setCell_same w b 3 _ _ u h
end
theorem mg_alloc (w : World) (K F R : Int) (v : Value) : ∃ w1, w1 = w.alloc (.cells #[.int .i64 K, .int .i64 F, .int .i64 R, v] 69) ∧ MgAt w1 w.heap.size K F R v ∧ Below w.heap.size w w1 ∧ w1.heap.size = w.heap.size + 1 :=
 ⟨_, rfl, MgAt.new w K F R v, al_below w _, al_size w _⟩
end Go.Proofs.YtdhblehhgpdpdacGreat
