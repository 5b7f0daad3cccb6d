import Derived.Test.YtdhblehhgpdpdabGreatJoin
import Derived.Test.YtdhblehhgpdpdabGreatNear49
import Derived.Test.YtdhblehhgpdpdabGreatNear68
import Derived.Test.YtdhblehhgpdpdabGreatNear130
namespace Go.Proofs.YtdhblehhgpdpdabGreat
open Go.RowKit
instance : FldK Tryz.prog 45 0 0 := ⟨fun ho hx w => by
 unfold execOp
 rw [ho]
 dsimp only
 rw [hx]
 go_simp⟩
instance : FldK Tryz.prog 45 1 1 := ⟨fun ho hx w => by
 unfold execOp
 rw [ho]
 dsimp only
 rw [hx]
 go_simp⟩
instance : FldK Tryz.prog 45 2 2 := ⟨fun ho hx w => by
 unfold execOp
 rw [ho]
 dsimp only
 rw [hx]
 go_simp⟩
instance : FldK Tryz.prog 45 3 6 := ⟨fun ho hx w => by
 unfold execOp
 rw [ho]
 dsimp only
 rw [hx]
 go_simp⟩
instance : FldK Tryz.prog 45 4 27 := ⟨fun ho hx w => by
 unfold execOp
 rw [ho]
 dsimp only
 rw [hx]
 go_simp⟩
instance : FldK Tryz.prog 45 5 39 := ⟨fun ho hx w => by
 unfold execOp
 rw [ho]
 dsimp only
 rw [hx]
 go_simp⟩
instance : FldK Tryz.prog 45 6 51 := ⟨fun ho hx w => by
 unfold execOp
 rw [ho]
 dsimp only
 rw [hx]
 go_simp⟩
instance : FldK Tryz.prog 45 7 55 := ⟨fun ho hx w => by
 unfold execOp
 rw [ho]
 dsimp only
 rw [hx]
 go_simp⟩
instance : FldK Tryz.prog 45 8 67 := ⟨fun ho hx w => by
 unfold execOp
 rw [ho]
 dsimp only
 rw [hx]
 go_simp⟩
instance : FldK Tryz.prog 45 9 70 := ⟨fun ho hx w => by
 unfold execOp
 rw [ho]
 dsimp only
 rw [hx]
 go_simp⟩
instance : FldK Tryz.prog 45 10 71 := ⟨fun ho hx w => by
 unfold execOp
 rw [ho]
 dsimp only
 rw [hx]
 go_simp⟩
instance : FldK Tryz.prog 86 0 0 := ⟨fun ho hx w => by
 unfold execOp
 rw [ho]
 dsimp only
 rw [hx]
 go_simp⟩
instance : FldK Tryz.prog 86 1 1 := ⟨fun ho hx w => by
 unfold execOp
 rw [ho]
 dsimp only
 rw [hx]
 go_simp⟩
instance : FldK Tryz.prog 86 2 2 := ⟨fun ho hx w => by
 unfold execOp
 rw [ho]
 dsimp only
 rw [hx]
 go_simp⟩
instance : FldK Tryz.prog 86 3 3 := ⟨fun ho hx w => by
 unfold execOp
 rw [ho]
 dsimp only
 rw [hx]
 go_simp⟩
instance : FldK Tryz.prog 43 0 0 := ⟨fun ho hx w => by
 unfold execOp
 rw [ho]
 dsimp only
 rw [hx]
 go_simp⟩
instance : FldK Tryz.prog 43 1 1 := ⟨fun ho hx w => by
 unfold execOp
 rw [ho]
 dsimp only
 rw [hx]
 go_simp⟩
instance : FldK Tryz.prog 43 2 2 := ⟨fun ho hx w => by
 unfold execOp
 rw [ho]
 dsimp only
 rw [hx]
 go_simp⟩
instance : FldK Tryz.prog 38 0 0 := ⟨fun ho hx w => by
 unfold execOp
 rw [ho]
 dsimp only
 rw [hx]
 go_simp⟩
instance : FldK Tryz.prog 38 1 4 := ⟨fun ho hx w => by
 unfold execOp
 rw [ho]
 dsimp only
 rw [hx]
 go_simp⟩
instance : FldK Tryz.prog 38 2 8 := ⟨fun ho hx w => by
 unfold execOp
 rw [ho]
 dsimp only
 rw [hx]
 go_simp⟩
instance : FldK Tryz.prog 33 0 0 := ⟨fun ho hx w => by
 unfold execOp
 rw [ho]
 dsimp only
 rw [hx]
 go_simp⟩
instance : FldK Tryz.prog 33 1 1 := ⟨fun ho hx w => by
 unfold execOp
 rw [ho]
 dsimp only
 rw [hx]
 go_simp⟩
instance : FldK Tryz.prog 33 2 2 := ⟨fun ho hx w => by
 unfold execOp
 rw [ho]
 dsimp only
 rw [hx]
 go_simp⟩
instance : FldK Tryz.prog 33 3 3 := ⟨fun ho hx w => by
 unfold execOp
 rw [ho]
 dsimp only
 rw [hx]
 go_simp⟩
instance : FldK Tryz.prog 33 4 4 := ⟨fun ho hx w => by
 unfold execOp
 rw [ho]
 dsimp only
 rw [hx]
 go_simp⟩
instance : FldK Tryz.prog 33 5 5 := ⟨fun ho hx w => by
 unfold execOp
 rw [ho]
 dsimp only
 rw [hx]
 go_simp⟩
instance : FldK Tryz.prog 33 6 6 := ⟨fun ho hx w => by
 unfold execOp
 rw [ho]
 dsimp only
 rw [hx]
 go_simp⟩
instance : FldK Tryz.prog 23 0 0 := ⟨fun ho hx w => by
 unfold execOp
 rw [ho]
 dsimp only
 rw [hx]
 go_simp⟩
instance : FldK Tryz.prog 23 1 1 := ⟨fun ho hx w => by
 unfold execOp
 rw [ho]
 dsimp only
 rw [hx]
 go_simp⟩
instance : FldK Tryz.prog 23 2 2 := ⟨fun ho hx w => by
 unfold execOp
 rw [ho]
 dsimp only
 rw [hx]
 go_simp⟩
instance : FldK Tryz.prog 23 3 3 := ⟨fun ho hx w => by
 unfold execOp
 rw [ho]
 dsimp only
 rw [hx]
 go_simp⟩
instance : FldK Tryz.prog 55 0 0 := ⟨fun ho hx w => by
 unfold execOp
 rw [ho]
 dsimp only
 rw [hx]
 go_simp⟩
instance : FldK Tryz.prog 55 1 1 := ⟨fun ho hx w => by
 unfold execOp
 rw [ho]
 dsimp only
 rw [hx]
 go_simp⟩
instance : FldK Tryz.prog 55 2 2 := ⟨fun ho hx w => by
 unfold execOp
 rw [ho]
 dsimp only
 rw [hx]
 go_simp⟩
instance : FldK Tryz.prog 55 3 5 := ⟨fun ho hx w => by
 unfold execOp
 rw [ho]
 dsimp only
 rw [hx]
 go_simp⟩
instance : FldK Tryz.prog 55 4 8 := ⟨fun ho hx w => by
 unfold execOp
 rw [ho]
 dsimp only
 rw [hx]
 go_simp⟩
instance : FldK Tryz.prog 55 5 9 := ⟨fun ho hx w => by
 unfold execOp
 rw [ho]
 dsimp only
 rw [hx]
 go_simp⟩
instance : FldK Tryz.prog 55 6 10 := ⟨fun ho hx w => by
 unfold execOp
 rw [ho]
 dsimp only
 rw [hx]
 go_simp⟩
instance : FldK Tryz.prog 48 0 0 := ⟨fun ho hx w => by
 unfold execOp
 rw [ho]
 dsimp only
 rw [hx]
 go_simp⟩
instance : FldK Tryz.prog 48 1 1 := ⟨fun ho hx w => by
 unfold execOp
 rw [ho]
 dsimp only
 rw [hx]
 go_simp⟩
instance : FldK Tryz.prog 51 0 0 := ⟨fun ho hx w => by
 unfold execOp
 rw [ho]
 dsimp only
 rw [hx]
 go_simp⟩
instance : FldK Tryz.prog 51 1 12 := ⟨fun ho hx w => by
 unfold execOp
 rw [ho]
 dsimp only
 rw [hx]
 go_simp⟩
instance : FldK Tryz.prog 51 2 13 := ⟨fun ho hx w => by
 unfold execOp
 rw [ho]
 dsimp only
 rw [hx]
 go_simp⟩
instance : FldK Tryz.prog 148 0 0 := ⟨fun ho hx w => by
 unfold execOp
 rw [ho]
 dsimp only
 rw [hx]
 go_simp⟩
instance : FldK Tryz.prog 148 1 1 := ⟨fun ho hx w => by
 unfold execOp
 rw [ho]
 dsimp only
 rw [hx]
 go_simp⟩
instance : FldK Tryz.prog 148 2 2 := ⟨fun ho hx w => by
 unfold execOp
 rw [ho]
 dsimp only
 rw [hx]
 go_simp⟩
instance : FldK Tryz.prog 93 0 0 := ⟨fun ho hx w => by
 unfold execOp
 rw [ho]
 dsimp only
 rw [hx]
 go_simp⟩
instance : FldK Tryz.prog 93 1 297 := ⟨fun ho hx w => by
 unfold execOp
 rw [ho]
 dsimp only
 rw [hx]
 go_simp⟩
instance : FldK Tryz.prog 93 2 298 := ⟨fun ho hx w => by
 unfold execOp
 rw [ho]
 dsimp only
 rw [hx]
 go_simp⟩
instance : FldK Tryz.prog 93 3 299 := ⟨fun ho hx w => by
 unfold execOp
 rw [ho]
 dsimp only
 rw [hx]
 go_simp⟩
instance : ManyK Tryz.prog 45 74 := ⟨Many.of _ Tryz.underlying45 rfl (by kernel_rfl)⟩
instance : ManyK Tryz.prog 86 4 := ⟨Many.of _ Tryz.underlying86 rfl (by kernel_rfl)⟩
instance : ManyK Tryz.prog 43 3 := ⟨Many.of _ Tryz.underlying43 rfl (by kernel_rfl)⟩
instance : ManyK Tryz.prog 38 12 := ⟨Many.of _ Tryz.underlying38 rfl (by kernel_rfl)⟩
instance : ManyK Tryz.prog 33 7 := ⟨Many.of _ Tryz.underlying33 rfl (by kernel_rfl)⟩
instance : ManyK Tryz.prog 23 4 := ⟨Many.of _ Tryz.underlying23 rfl (by kernel_rfl)⟩
instance : ManyK Tryz.prog 55 14 := ⟨Many.of _ Tryz.underlying55 rfl (by kernel_rfl)⟩
instance : ManyK Tryz.prog 48 297 := ⟨Many.of _ Tryz.underlying48 rfl (by kernel_rfl)⟩
instance : ManyK Tryz.prog 51 14 := ⟨Many.of _ Tryz.underlying51 rfl (by kernel_rfl)⟩
instance : ManyK Tryz.prog 148 3 := ⟨Many.of _ Tryz.underlying148 rfl (by kernel_rfl)⟩
instance : ManyK Tryz.prog 93 303 := ⟨Many.of _ Tryz.underlying93 rfl (by kernel_rfl)⟩
instance : ManyK Tryz.prog 39 3 := ⟨Many.of _ Tryz.underlying39 rfl (by kernel_rfl)⟩
instance : ManyK Tryz.prog 36 4 := ⟨Many.of _ Tryz.underlying36 rfl (by kernel_rfl)⟩
instance : ManyK Tryz.prog 35 4 := ⟨Many.of _ Tryz.underlying35 rfl (by kernel_rfl)⟩
instance : ManyK Tryz.prog 40 12 := ⟨Many.of _ Tryz.underlying40 rfl (by kernel_rfl)⟩
instance : ManyK Tryz.prog 34 21 := ⟨Many.of _ Tryz.underlying34 rfl (by kernel_rfl)⟩
instance : ManyK Tryz.prog 46 296 := ⟨Many.of _ Tryz.underlying46 rfl (by kernel_rfl)⟩
instance : ManyK Tryz.prog 87 16 := ⟨Many.of _ Tryz.underlying87 rfl (by kernel_rfl)⟩
instance : ManyK Tryz.prog 91 4 := ⟨Many.of _ Tryz.underlying91 rfl (by kernel_rfl)⟩
instance : OneK Tryz.prog 3 := ⟨⟨fun w => by go_simp, fun w => by go_simp⟩⟩
instance : OneK Tryz.prog 4 := ⟨⟨fun w => by go_simp, fun w => by go_simp⟩⟩
instance : OneK Tryz.prog 57 := ⟨⟨fun w => by go_simp, fun w => by go_simp⟩⟩
instance : OneK Tryz.prog 41 := ⟨⟨fun w => by go_simp, fun w => by go_simp⟩⟩
instance : OneK Tryz.prog 136 := ⟨⟨fun w => by go_simp, fun w => by go_simp⟩⟩
instance : OneK Tryz.prog 5 := ⟨⟨fun w => by go_simp, fun w => by go_simp⟩⟩
instance : OneK Tryz.prog 90 := ⟨⟨fun w => by go_simp, fun w => by go_simp⟩⟩
instance : OneK Tryz.prog 49 := ⟨⟨fun w => by go_simp, fun w => by go_simp⟩⟩
instance : OneK Tryz.prog 24 := ⟨⟨fun w => by go_simp, fun w => by go_simp⟩⟩
instance : OneK Tryz.prog 53 := ⟨⟨fun w => by go_simp, fun w => by go_simp⟩⟩
instance : OneK Tryz.prog 27 := ⟨⟨fun w => by go_simp, fun w => by go_simp⟩⟩
instance : OneK Tryz.prog 28 := ⟨⟨fun w => by go_simp, fun w => by go_simp⟩⟩
instance : OneK Tryz.prog 61 := ⟨⟨fun w => by go_simp, fun w => by go_simp⟩⟩
instance : OneK Tryz.prog 83 := ⟨⟨fun w => by go_simp, fun w => by go_simp⟩⟩
instance : OneK Tryz.prog 78 := ⟨⟨fun w => by go_simp, fun w => by go_simp⟩⟩
instance : ArrK Tryz.prog 39 3 3 := ⟨Tryz.underlying39⟩
instance : ArrK Tryz.prog 36 4 3 := ⟨Tryz.underlying36⟩
instance : ArrK Tryz.prog 35 4 4 := ⟨Tryz.underlying35⟩
instance : ArrK Tryz.prog 40 4 39 := ⟨Tryz.underlying40⟩
instance : ArrK Tryz.prog 34 3 33 := ⟨Tryz.underlying34⟩
instance : ArrK Tryz.prog 46 4 45 := ⟨Tryz.underlying46⟩
instance : ArrK Tryz.prog 87 4 86 := ⟨Tryz.underlying87⟩
instance : ArrK Tryz.prog 91 4 90 := ⟨Tryz.underlying91⟩
instance : SlcK Tryz.prog 57 3 := ⟨Tryz.underlying57⟩
instance : LenK Tryz.prog 57 := ⟨fun ho hx w => by
 unfold execOp
 rw [ho]
 dsimp only
 go_simp⟩
instance : SlcK Tryz.prog 41 4 := ⟨Tryz.underlying41⟩
instance : LenK Tryz.prog 41 := ⟨fun ho hx w => by
 unfold execOp
 rw [ho]
 dsimp only
 go_simp⟩
instance : SlcK Tryz.prog 136 5 := ⟨Tryz.underlying136⟩
instance : LenK Tryz.prog 136 := ⟨fun ho hx w => by
 unfold execOp
 rw [ho]
 dsimp only
 go_simp⟩
instance : SlcK Tryz.prog 90 86 := ⟨Tryz.underlying90⟩
instance : LenK Tryz.prog 90 := ⟨fun ho hx w => by
 unfold execOp
 rw [ho]
 dsimp only
 go_simp⟩
instance : SlcK Tryz.prog 49 148 := ⟨Tryz.underlying49⟩
instance : LenK Tryz.prog 49 := ⟨fun ho hx w => by
 unfold execOp
 rw [ho]
 dsimp only
 go_simp⟩
instance : SlcK Tryz.prog 24 51 := ⟨Tryz.underlying24⟩
instance : LenK Tryz.prog 24 := ⟨fun ho hx w => by
 unfold execOp
 rw [ho]
 dsimp only
 go_simp⟩
instance : SlcK Tryz.prog 53 55 := ⟨Tryz.underlying53⟩
instance : LenK Tryz.prog 53 := ⟨fun ho hx w => by
 unfold execOp
 rw [ho]
 dsimp only
 go_simp⟩
instance : SlcK Tryz.prog 27 48 := ⟨Tryz.underlying27⟩
instance : LenK Tryz.prog 27 := ⟨fun ho hx w => by
 unfold execOp
 rw [ho]
 dsimp only
 go_simp⟩
instance : SlcK Tryz.prog 28 53 := ⟨Tryz.underlying28⟩
instance : LenK Tryz.prog 28 := ⟨fun ho hx w => by
 unfold execOp
 rw [ho]
 dsimp only
 go_simp⟩
instance : SlcK Tryz.prog 80 83 := ⟨Tryz.underlying80⟩
instance : LenK Tryz.prog 80 := ⟨fun ho hx w => by
 unfold execOp
 rw [ho]
 dsimp only
 go_simp⟩
instance : EntK Tryz.prog 17 := ⟨fun args w => by go_simp⟩
instance : EntK Tryz.prog 18 := ⟨fun args w => by go_simp⟩
instance : EntK Tryz.prog 24 := ⟨fun args w => by go_simp⟩
instance : EntK Tryz.prog 25 := ⟨fun args w => by go_simp⟩
instance : EntK Tryz.prog 26 := ⟨fun args w => by go_simp⟩
instance : EntK Tryz.prog 27 := ⟨fun args w => by go_simp⟩
instance : EntK Tryz.prog 28 := ⟨fun args w => by go_simp⟩
instance : EntK Tryz.prog 29 := ⟨fun args w => by go_simp⟩
instance : EntK Tryz.prog 43 := ⟨fun args w => by go_simp⟩
instance : EntK Tryz.prog 61 := ⟨fun args w => by go_simp⟩
instance : EntK Tryz.prog 62 := ⟨fun args w => by go_simp⟩
instance : EntK Tryz.prog 81 := ⟨fun args w => by go_simp⟩
instance : EntK Tryz.prog 23 := ⟨fun args w => by go_simp⟩
instance : EntK Tryz.prog 38 := ⟨fun args w => by go_simp⟩
instance : EntK Tryz.prog 39 := ⟨fun args w => by go_simp⟩
instance : EntK Tryz.prog 40 := ⟨fun args w => by go_simp⟩
instance : EntK Tryz.prog 41 := ⟨fun args w => by go_simp⟩
instance : EntK Tryz.prog 42 := ⟨fun args w => by go_simp⟩
instance : EntK Tryz.prog 45 := ⟨fun args w => by go_simp⟩
instance : EntK Tryz.prog 82 := ⟨fun args w => by go_simp⟩
instance : EntK Tryz.prog 105 := ⟨fun args w => by go_simp⟩
instance : EntK Tryz.prog 15 := ⟨fun args w => by go_simp⟩
instance : EntK Tryz.prog 14 := ⟨fun args w => by go_simp⟩
instance : EntK Tryz.prog 16 := ⟨fun args w => by go_simp⟩
instance : EntK Tryz.prog 13 := ⟨fun args w => by go_simp⟩
instance : EntK Tryz.prog 9 := ⟨fun args w => by go_simp⟩
instance : EntK Tryz.prog 12 := ⟨fun args w => by go_simp⟩
instance : EntK Tryz.prog 10 := ⟨fun args w => by go_simp⟩
instance : EntK Tryz.prog 11 := ⟨fun args w => by go_simp⟩
instance : EntK Tryz.prog 37 := ⟨fun args w => by go_simp⟩
instance : EntK Tryz.prog 44 := ⟨fun args w => by go_simp⟩
instance : Zer1 Tryz.prog 53 (.slice none 0 0) := ⟨fun w => by kernel_rfl, rfl⟩
instance : Zer1 Tryz.prog 90 (.slice none 0 0) := ⟨fun w => by kernel_rfl, rfl⟩
instance : Zer1 Tryz.prog 3 (.int .i64 0) := ⟨fun w => by kernel_rfl, rfl⟩
instance : Zer1 Tryz.prog 4 (.bool false) := ⟨fun w => by kernel_rfl, rfl⟩
instance : Zer1 Tryz.prog 24 (.slice none 0 0) := ⟨fun w => by kernel_rfl, rfl⟩
instance : Zer1 Tryz.prog 57 (.slice none 0 0) := ⟨fun w => by kernel_rfl, rfl⟩
instance : ZerK Tryz.prog 45 74 (ndF zeroN (.slice none 0 0)) := ⟨fun w => by kernel_rfl⟩
instance : ZerK Tryz.prog 86 4 (msF 0 0 0 (.slice none 0 0)) := ⟨fun w => by kernel_rfl⟩
instance : ZerK Tryz.prog 39 3 (fun _ => iV 0) := ⟨fun w => by kernel_rfl⟩
instance : ZerK Tryz.prog 36 4 (fun _ => iV 0) := ⟨fun w => by kernel_rfl⟩
instance : ZerK Tryz.prog 40 12 (fun _ => iV 0) := ⟨fun w => by kernel_rfl⟩
instance : InfK Tryz.prog 41 4 1 1 := ⟨Tryz.underlying41, by
 have h : (Tryz.prog.info? 4).map (fun i => (i.size, i.bytes, i.zero.map fun z => z.cells.size)) = some (1, 1, some 1) := by kernel_rfl
 obtain ⟨i, hi, e⟩ := Option.map_eq_some_iff.1 h
 cases hz : i.zero with
 | none => rw [hz] at e; simp at e
 | some z =>
  rw [hz] at e
  simp only [Prod.mk.injEq, Option.map_some, Option.some.injEq] at e
  exact ⟨i, z, hi, hz, e.1, e.2.1, e.2.2⟩, by decide⟩
instance : InfK Tryz.prog 57 3 1 8 := ⟨Tryz.underlying57, by
 have h : (Tryz.prog.info? 3).map (fun i => (i.size, i.bytes, i.zero.map fun z => z.cells.size)) = some (1, 8, some 1) := by kernel_rfl
 obtain ⟨i, hi, e⟩ := Option.map_eq_some_iff.1 h
 cases hz : i.zero with
 | none => rw [hz] at e; simp at e
 | some z =>
  rw [hz] at e
  simp only [Prod.mk.injEq, Option.map_some, Option.some.injEq] at e
  exact ⟨i, z, hi, hz, e.1, e.2.1, e.2.2⟩, by decide⟩
instance : InfK Tryz.prog 136 5 1 1 := ⟨Tryz.underlying136, by
 have h : (Tryz.prog.info? 5).map (fun i => (i.size, i.bytes, i.zero.map fun z => z.cells.size)) = some (1, 1, some 1) := by kernel_rfl
 obtain ⟨i, hi, e⟩ := Option.map_eq_some_iff.1 h
 cases hz : i.zero with
 | none => rw [hz] at e; simp at e
 | some z =>
  rw [hz] at e
  simp only [Prod.mk.injEq, Option.map_some, Option.some.injEq] at e
  exact ⟨i, z, hi, hz, e.1, e.2.1, e.2.2⟩, by decide⟩
instance : InfK Tryz.prog 90 86 4 48 := ⟨Tryz.underlying90, by
 have h : (Tryz.prog.info? 86).map (fun i => (i.size, i.bytes, i.zero.map fun z => z.cells.size)) = some (4, 48, some 4) := by kernel_rfl
 obtain ⟨i, hi, e⟩ := Option.map_eq_some_iff.1 h
 cases hz : i.zero with
 | none => rw [hz] at e; simp at e
 | some z =>
  rw [hz] at e
  simp only [Prod.mk.injEq, Option.map_some, Option.some.injEq] at e
  exact ⟨i, z, hi, hz, e.1, e.2.1, e.2.2⟩, by decide⟩
instance : InfK Tryz.prog 49 148 3 40 := ⟨Tryz.underlying49, by
 have h : (Tryz.prog.info? 148).map (fun i => (i.size, i.bytes, i.zero.map fun z => z.cells.size)) = some (3, 40, some 3) := by kernel_rfl
 obtain ⟨i, hi, e⟩ := Option.map_eq_some_iff.1 h
 cases hz : i.zero with
 | none => rw [hz] at e; simp at e
 | some z =>
  rw [hz] at e
  simp only [Prod.mk.injEq, Option.map_some, Option.some.injEq] at e
  exact ⟨i, z, hi, hz, e.1, e.2.1, e.2.2⟩, by decide⟩
instance : InfK Tryz.prog 24 51 14 128 := ⟨Tryz.underlying24, by
 have h : (Tryz.prog.info? 51).map (fun i => (i.size, i.bytes, i.zero.map fun z => z.cells.size)) = some (14, 128, some 14) := by kernel_rfl
 obtain ⟨i, hi, e⟩ := Option.map_eq_some_iff.1 h
 cases hz : i.zero with
 | none => rw [hz] at e; simp at e
 | some z =>
  rw [hz] at e
  simp only [Prod.mk.injEq, Option.map_some, Option.some.injEq] at e
  exact ⟨i, z, hi, hz, e.1, e.2.1, e.2.2⟩, by decide⟩
instance : InfK Tryz.prog 53 55 14 80 := ⟨Tryz.underlying53, by
 have h : (Tryz.prog.info? 55).map (fun i => (i.size, i.bytes, i.zero.map fun z => z.cells.size)) = some (14, 80, some 14) := by kernel_rfl
 obtain ⟨i, hi, e⟩ := Option.map_eq_some_iff.1 h
 cases hz : i.zero with
 | none => rw [hz] at e; simp at e
 | some z =>
  rw [hz] at e
  simp only [Prod.mk.injEq, Option.map_some, Option.some.injEq] at e
  exact ⟨i, z, hi, hz, e.1, e.2.1, e.2.2⟩, by decide⟩
instance : InfK Tryz.prog 27 48 297 2344 := ⟨Tryz.underlying27, by
 have h : (Tryz.prog.info? 48).map (fun i => (i.size, i.bytes, i.zero.map fun z => z.cells.size)) = some (297, 2344, some 297) := by kernel_rfl
 obtain ⟨i, hi, e⟩ := Option.map_eq_some_iff.1 h
 cases hz : i.zero with
 | none => rw [hz] at e; simp at e
 | some z =>
  rw [hz] at e
  simp only [Prod.mk.injEq, Option.map_some, Option.some.injEq] at e
  exact ⟨i, z, hi, hz, e.1, e.2.1, e.2.2⟩, by decide⟩
instance : InfK Tryz.prog 28 53 1 24 := ⟨Tryz.underlying28, by
 have h : (Tryz.prog.info? 53).map (fun i => (i.size, i.bytes, i.zero.map fun z => z.cells.size)) = some (1, 24, some 1) := by kernel_rfl
 obtain ⟨i, hi, e⟩ := Option.map_eq_some_iff.1 h
 cases hz : i.zero with
 | none => rw [hz] at e; simp at e
 | some z =>
  rw [hz] at e
  simp only [Prod.mk.injEq, Option.map_some, Option.some.injEq] at e
  exact ⟨i, z, hi, hz, e.1, e.2.1, e.2.2⟩, by decide⟩
theorem run_neqE {f : Operand → Value} {o : Oper} {b : Bool} (x y : Operand) (ho : o.op = .binOp .neq 61 x y 61) {u v : Int} (hx : f x = .int .i64 u) (hy : f y = .int .i64 v) (hb : decide (u ≠ v) = b) (w : World) : (execOp f o).run Tryz.prog w = .ok (.value (.bool b)) w := by
 have e : (u != v) = b := by rw [← hb, Bool.eq_iff_iff]; simp
 unfold execOp
 rw [ho]
 dsimp only
 rw [hx, hy]
 go_simp
end Go.Proofs.YtdhblehhgpdpdabGreat
namespace Go.Proofs.YtdhblehhgpdpdabGreat
open Go.RowKit
def msV (K F R : Int) (v : Value) : Value := .agg #[.int .i64 K, .int .i64 F, .int .i64 R, v]
def MgAt (w : World) (b : Nat) (K F R : Int) (v : Value) : Prop := w.heap[b]? = some (.cells #[.int .i64 K, .int .i64 F, .int .i64 R, v] 86 (0, 0))
section
variable {w w' : World} {b : Nat} {K F R : Int} {v : Value}
theorem MgAt.cell0 (h : MgAt w b K F R v) : w.cell? ⟨b, 0, none⟩ = some (.int .i64 K) := by unfold MgAt at h; unfold World.cell?; rw [h]; rfl
theorem MgAt.cell1 (h : MgAt w b K F R v) : w.cell? ⟨b, 1, none⟩ = some (.int .i64 F) := by unfold MgAt at h; unfold World.cell?; rw [h]; rfl
theorem MgAt.cell2 (h : MgAt w b K F R v) : w.cell? ⟨b, 2, none⟩ = some (.int .i64 R) := by unfold MgAt at h; unfold World.cell?; rw [h]; rfl
theorem MgAt.cell3 (h : MgAt w b K F R v) : w.cell? ⟨b, 3, none⟩ = some v := by unfold MgAt at h; unfold World.cell?; rw [h]; rfl
theorem MgAt.free (h : MgAt w b K F R v) (i : Nat) : w.frozen? ⟨b, i, none⟩ = false := by unfold MgAt at h; simp [World.frozen?, h]
theorem MgAt.lt (h : MgAt w b K F R v) : b < w.heap.size := lt_of_block h
theorem MgAt.same (h : MgAt w b K F R v) (e : w'.heap[b]? = w.heap[b]?) : MgAt w' b K F R v := e.trans h
theorem MgAt.below (h : MgAt w b K F R v) (k : Below w.heap.size w w') : MgAt w' b K F R v := h.same (k.block b h.lt)
theorem MgAt.under {B : Nat} (h : MgAt w b K F R v) (k : Below B w w') (hb : b < B) : MgAt w' b K F R v := h.same (k.block b hb)
theorem MgAt.kept {z : Nat} (h : MgAt w b K F R v) (k : Kept z w w') (hz : b ≠ z) : MgAt w' b K F R v := h.same (k.block b h.lt hz)
theorem MgAt.new (w : World) (K F R : Int) (v : Value) : MgAt (w.alloc (.cells #[.int .i64 K, .int .i64 F, .int .i64 R, v] 86)) w.heap.size K F R v := by
 unfold MgAt
 show (w.heap.push _)[w.heap.size]? = _
 rw [Array.getElem?_push_size]
theorem MgAt.put (h : MgAt w b K F R v) (K' F' R' : Int) (u : Value) :
  ∃ w', w' = (((w.setCell ⟨b, 0, none⟩ (.int .i64 K')).setCell ⟨b, 1, none⟩ (.int .i64 F')).setCell ⟨b, 2, none⟩ (.int .i64 R')).setCell ⟨b, 3, none⟩ u ∧ MgAt w' b K' F' R' u ∧ Kept b w w' := by
 refine ⟨_, rfl, ?_, (((kept_set w b 0 _).trans (kept_set _ b 1 _) (Or.inl rfl)).trans (kept_set _ b 2 _) (Or.inl rfl)).trans (kept_set _ b 3 _) (Or.inl rfl)⟩
 unfold MgAt at h ⊢
 have h1 := heap_setCell_same w b 0 _ _ (.int .i64 K') h
 have h2 := heap_setCell_same _ b 1 _ _ (.int .i64 F') h1
 have h3 := heap_setCell_same _ b 2 _ _ (.int .i64 R') h2
 exact heap_setCell_same _ b 3 _ _ u h3
theorem MgAt.put3 (h : MgAt w b K F R v) (u : Value) : ∃ w', w' = w.setCell ⟨b, 3, none⟩ u ∧ MgAt w' b K F R u ∧ Kept b w w' := by
 refine ⟨_, rfl, ?_, kept_set w b 3 _⟩
 unfold MgAt at h ⊢
 exact heap_setCell_same w b 3 _ _ u h
end
theorem mg_alloc (w : World) (K F R : Int) (v : Value) : ∃ w1, w1 = w.alloc (.cells #[.int .i64 K, .int .i64 F, .int .i64 R, v] 86) ∧ MgAt w1 w.heap.size K F R v ∧ Below w.heap.size w w1 ∧ w1.heap.size = w.heap.size + 1 :=
 ⟨_, rfl, MgAt.new w K F R v, al_below w _, al_size w _⟩
end Go.Proofs.YtdhblehhgpdpdabGreat
