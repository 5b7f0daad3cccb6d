import Derived.Test.YtdhblehhgpdpdaaGreatJoin
import Derived.Test.YtdhblehhgpdpdaaGreatNear35
import Derived.Test.YtdhblehhgpdpdaaGreatNear54
import Derived.Test.YtdhblehhgpdpdaaGreatNear124
namespace Go.Proofs.YtdhblehhgpdpdaaGreat
open Go.RowKit
instance : FldK Tryz.prog 37 0 0 := ⟨fun ho hx w => by
 unfold execOp
 rw [ho]
 dsimp only
 rw [hx]
 go_simp⟩
instance : FldK Tryz.prog 37 1 1 := ⟨fun ho hx w => by
 unfold execOp
 rw [ho]
 dsimp only
 rw [hx]
 go_simp⟩
instance : FldK Tryz.prog 37 2 2 := ⟨fun ho hx w => by
 unfold execOp
 rw [ho]
 dsimp only
 rw [hx]
 go_simp⟩
instance : FldK Tryz.prog 37 3 6 := ⟨fun ho hx w => by
 unfold execOp
 rw [ho]
 dsimp only
 rw [hx]
 go_simp⟩
instance : FldK Tryz.prog 37 4 27 := ⟨fun ho hx w => by
 unfold execOp
 rw [ho]
 dsimp only
 rw [hx]
 go_simp⟩
instance : FldK Tryz.prog 37 5 39 := ⟨fun ho hx w => by
 unfold execOp
 rw [ho]
 dsimp only
 rw [hx]
 go_simp⟩
instance : FldK Tryz.prog 37 6 51 := ⟨fun ho hx w => by
 unfold execOp
 rw [ho]
 dsimp only
 rw [hx]
 go_simp⟩
instance : FldK Tryz.prog 37 7 55 := ⟨fun ho hx w => by
 unfold execOp
 rw [ho]
 dsimp only
 rw [hx]
 go_simp⟩
instance : FldK Tryz.prog 37 8 67 := ⟨fun ho hx w => by
 unfold execOp
 rw [ho]
 dsimp only
 rw [hx]
 go_simp⟩
instance : FldK Tryz.prog 37 9 70 := ⟨fun ho hx w => by
 unfold execOp
 rw [ho]
 dsimp only
 rw [hx]
 go_simp⟩
instance : FldK Tryz.prog 37 10 71 := ⟨fun ho hx w => by
 unfold execOp
 rw [ho]
 dsimp only
 rw [hx]
 go_simp⟩
instance : FldK Tryz.prog 81 0 0 := ⟨fun ho hx w => by
 unfold execOp
 rw [ho]
 dsimp only
 rw [hx]
 go_simp⟩
instance : FldK Tryz.prog 81 1 1 := ⟨fun ho hx w => by
 unfold execOp
 rw [ho]
 dsimp only
 rw [hx]
 go_simp⟩
instance : FldK Tryz.prog 81 2 2 := ⟨fun ho hx w => by
 unfold execOp
 rw [ho]
 dsimp only
 rw [hx]
 go_simp⟩
instance : FldK Tryz.prog 81 3 3 := ⟨fun ho hx w => by
 unfold execOp
 rw [ho]
 dsimp only
 rw [hx]
 go_simp⟩
instance : FldK Tryz.prog 35 0 0 := ⟨fun ho hx w => by
 unfold execOp
 rw [ho]
 dsimp only
 rw [hx]
 go_simp⟩
instance : FldK Tryz.prog 35 1 1 := ⟨fun ho hx w => by
 unfold execOp
 rw [ho]
 dsimp only
 rw [hx]
 go_simp⟩
instance : FldK Tryz.prog 35 2 2 := ⟨fun ho hx w => by
 unfold execOp
 rw [ho]
 dsimp only
 rw [hx]
 go_simp⟩
instance : FldK Tryz.prog 30 0 0 := ⟨fun ho hx w => by
 unfold execOp
 rw [ho]
 dsimp only
 rw [hx]
 go_simp⟩
instance : FldK Tryz.prog 30 1 4 := ⟨fun ho hx w => by
 unfold execOp
 rw [ho]
 dsimp only
 rw [hx]
 go_simp⟩
instance : FldK Tryz.prog 30 2 8 := ⟨fun ho hx w => by
 unfold execOp
 rw [ho]
 dsimp only
 rw [hx]
 go_simp⟩
instance : FldK Tryz.prog 25 0 0 := ⟨fun ho hx w => by
 unfold execOp
 rw [ho]
 dsimp only
 rw [hx]
 go_simp⟩
instance : FldK Tryz.prog 25 1 1 := ⟨fun ho hx w => by
 unfold execOp
 rw [ho]
 dsimp only
 rw [hx]
 go_simp⟩
instance : FldK Tryz.prog 25 2 2 := ⟨fun ho hx w => by
 unfold execOp
 rw [ho]
 dsimp only
 rw [hx]
 go_simp⟩
instance : FldK Tryz.prog 25 3 3 := ⟨fun ho hx w => by
 unfold execOp
 rw [ho]
 dsimp only
 rw [hx]
 go_simp⟩
instance : FldK Tryz.prog 25 4 4 := ⟨fun ho hx w => by
 unfold execOp
 rw [ho]
 dsimp only
 rw [hx]
 go_simp⟩
instance : FldK Tryz.prog 25 5 5 := ⟨fun ho hx w => by
 unfold execOp
 rw [ho]
 dsimp only
 rw [hx]
 go_simp⟩
instance : FldK Tryz.prog 25 6 6 := ⟨fun ho hx w => by
 unfold execOp
 rw [ho]
 dsimp only
 rw [hx]
 go_simp⟩
instance : FldK Tryz.prog 23 0 0 := ⟨fun ho hx w => by
 unfold execOp
 rw [ho]
 dsimp only
 rw [hx]
 go_simp⟩
instance : FldK Tryz.prog 23 1 1 := ⟨fun ho hx w => by
 unfold execOp
 rw [ho]
 dsimp only
 rw [hx]
 go_simp⟩
instance : FldK Tryz.prog 23 2 2 := ⟨fun ho hx w => by
 unfold execOp
 rw [ho]
 dsimp only
 rw [hx]
 go_simp⟩
instance : FldK Tryz.prog 23 3 3 := ⟨fun ho hx w => by
 unfold execOp
 rw [ho]
 dsimp only
 rw [hx]
 go_simp⟩
instance : FldK Tryz.prog 96 0 0 := ⟨fun ho hx w => by
 unfold execOp
 rw [ho]
 dsimp only
 rw [hx]
 go_simp⟩
instance : FldK Tryz.prog 96 1 1 := ⟨fun ho hx w => by
 unfold execOp
 rw [ho]
 dsimp only
 rw [hx]
 go_simp⟩
instance : FldK Tryz.prog 96 2 2 := ⟨fun ho hx w => by
 unfold execOp
 rw [ho]
 dsimp only
 rw [hx]
 go_simp⟩
instance : FldK Tryz.prog 96 3 5 := ⟨fun ho hx w => by
 unfold execOp
 rw [ho]
 dsimp only
 rw [hx]
 go_simp⟩
instance : FldK Tryz.prog 96 4 8 := ⟨fun ho hx w => by
 unfold execOp
 rw [ho]
 dsimp only
 rw [hx]
 go_simp⟩
instance : FldK Tryz.prog 96 5 9 := ⟨fun ho hx w => by
 unfold execOp
 rw [ho]
 dsimp only
 rw [hx]
 go_simp⟩
instance : FldK Tryz.prog 96 6 10 := ⟨fun ho hx w => by
 unfold execOp
 rw [ho]
 dsimp only
 rw [hx]
 go_simp⟩
instance : FldK Tryz.prog 40 0 0 := ⟨fun ho hx w => by
 unfold execOp
 rw [ho]
 dsimp only
 rw [hx]
 go_simp⟩
instance : FldK Tryz.prog 40 1 1 := ⟨fun ho hx w => by
 unfold execOp
 rw [ho]
 dsimp only
 rw [hx]
 go_simp⟩
instance : FldK Tryz.prog 43 0 0 := ⟨fun ho hx w => by
 unfold execOp
 rw [ho]
 dsimp only
 rw [hx]
 go_simp⟩
instance : FldK Tryz.prog 43 1 12 := ⟨fun ho hx w => by
 unfold execOp
 rw [ho]
 dsimp only
 rw [hx]
 go_simp⟩
instance : FldK Tryz.prog 43 2 13 := ⟨fun ho hx w => by
 unfold execOp
 rw [ho]
 dsimp only
 rw [hx]
 go_simp⟩
instance : FldK Tryz.prog 59 0 0 := ⟨fun ho hx w => by
 unfold execOp
 rw [ho]
 dsimp only
 rw [hx]
 go_simp⟩
instance : FldK Tryz.prog 59 1 1 := ⟨fun ho hx w => by
 unfold execOp
 rw [ho]
 dsimp only
 rw [hx]
 go_simp⟩
instance : FldK Tryz.prog 59 2 2 := ⟨fun ho hx w => by
 unfold execOp
 rw [ho]
 dsimp only
 rw [hx]
 go_simp⟩
instance : FldK Tryz.prog 88 0 0 := ⟨fun ho hx w => by
 unfold execOp
 rw [ho]
 dsimp only
 rw [hx]
 go_simp⟩
instance : FldK Tryz.prog 88 1 297 := ⟨fun ho hx w => by
 unfold execOp
 rw [ho]
 dsimp only
 rw [hx]
 go_simp⟩
instance : FldK Tryz.prog 88 2 298 := ⟨fun ho hx w => by
 unfold execOp
 rw [ho]
 dsimp only
 rw [hx]
 go_simp⟩
instance : FldK Tryz.prog 88 3 299 := ⟨fun ho hx w => by
 unfold execOp
 rw [ho]
 dsimp only
 rw [hx]
 go_simp⟩
instance : ManyK Tryz.prog 37 74 := ⟨Many.of _ Tryz.underlying37 rfl (by kernel_rfl)⟩
instance : ManyK Tryz.prog 81 4 := ⟨Many.of _ Tryz.underlying81 rfl (by kernel_rfl)⟩
instance : ManyK Tryz.prog 35 3 := ⟨Many.of _ Tryz.underlying35 rfl (by kernel_rfl)⟩
instance : ManyK Tryz.prog 30 12 := ⟨Many.of _ Tryz.underlying30 rfl (by kernel_rfl)⟩
instance : ManyK Tryz.prog 25 7 := ⟨Many.of _ Tryz.underlying25 rfl (by kernel_rfl)⟩
instance : ManyK Tryz.prog 23 4 := ⟨Many.of _ Tryz.underlying23 rfl (by kernel_rfl)⟩
instance : ManyK Tryz.prog 96 14 := ⟨Many.of _ Tryz.underlying96 rfl (by kernel_rfl)⟩
instance : ManyK Tryz.prog 40 297 := ⟨Many.of _ Tryz.underlying40 rfl (by kernel_rfl)⟩
instance : ManyK Tryz.prog 43 14 := ⟨Many.of _ Tryz.underlying43 rfl (by kernel_rfl)⟩
instance : ManyK Tryz.prog 59 3 := ⟨Many.of _ Tryz.underlying59 rfl (by kernel_rfl)⟩
instance : ManyK Tryz.prog 88 303 := ⟨Many.of _ Tryz.underlying88 rfl (by kernel_rfl)⟩
instance : ManyK Tryz.prog 31 3 := ⟨Many.of _ Tryz.underlying31 rfl (by kernel_rfl)⟩
instance : ManyK Tryz.prog 28 4 := ⟨Many.of _ Tryz.underlying28 rfl (by kernel_rfl)⟩
instance : ManyK Tryz.prog 27 4 := ⟨Many.of _ Tryz.underlying27 rfl (by kernel_rfl)⟩
instance : ManyK Tryz.prog 32 12 := ⟨Many.of _ Tryz.underlying32 rfl (by kernel_rfl)⟩
instance : ManyK Tryz.prog 26 21 := ⟨Many.of _ Tryz.underlying26 rfl (by kernel_rfl)⟩
instance : ManyK Tryz.prog 38 296 := ⟨Many.of _ Tryz.underlying38 rfl (by kernel_rfl)⟩
instance : ManyK Tryz.prog 82 16 := ⟨Many.of _ Tryz.underlying82 rfl (by kernel_rfl)⟩
instance : ManyK Tryz.prog 86 4 := ⟨Many.of _ Tryz.underlying86 rfl (by kernel_rfl)⟩
instance : OneK Tryz.prog 3 := ⟨⟨fun w => by go_simp, fun w => by go_simp⟩⟩
instance : OneK Tryz.prog 4 := ⟨⟨fun w => by go_simp, fun w => by go_simp⟩⟩
instance : OneK Tryz.prog 79 := ⟨⟨fun w => by go_simp, fun w => by go_simp⟩⟩
instance : OneK Tryz.prog 33 := ⟨⟨fun w => by go_simp, fun w => by go_simp⟩⟩
instance : OneK Tryz.prog 57 := ⟨⟨fun w => by go_simp, fun w => by go_simp⟩⟩
instance : OneK Tryz.prog 5 := ⟨⟨fun w => by go_simp, fun w => by go_simp⟩⟩
instance : OneK Tryz.prog 85 := ⟨⟨fun w => by go_simp, fun w => by go_simp⟩⟩
instance : OneK Tryz.prog 41 := ⟨⟨fun w => by go_simp, fun w => by go_simp⟩⟩
instance : OneK Tryz.prog 49 := ⟨⟨fun w => by go_simp, fun w => by go_simp⟩⟩
instance : OneK Tryz.prog 44 := ⟨⟨fun w => by go_simp, fun w => by go_simp⟩⟩
instance : OneK Tryz.prog 63 := ⟨⟨fun w => by go_simp, fun w => by go_simp⟩⟩
instance : OneK Tryz.prog 64 := ⟨⟨fun w => by go_simp, fun w => by go_simp⟩⟩
instance : OneK Tryz.prog 45 := ⟨⟨fun w => by go_simp, fun w => by go_simp⟩⟩
instance : OneK Tryz.prog 77 := ⟨⟨fun w => by go_simp, fun w => by go_simp⟩⟩
instance : OneK Tryz.prog 72 := ⟨⟨fun w => by go_simp, fun w => by go_simp⟩⟩
instance : ArrK Tryz.prog 31 3 3 := ⟨Tryz.underlying31⟩
instance : ArrK Tryz.prog 28 4 3 := ⟨Tryz.underlying28⟩
instance : ArrK Tryz.prog 27 4 4 := ⟨Tryz.underlying27⟩
instance : ArrK Tryz.prog 32 4 31 := ⟨Tryz.underlying32⟩
instance : ArrK Tryz.prog 26 3 25 := ⟨Tryz.underlying26⟩
instance : ArrK Tryz.prog 38 4 37 := ⟨Tryz.underlying38⟩
instance : ArrK Tryz.prog 82 4 81 := ⟨Tryz.underlying82⟩
instance : ArrK Tryz.prog 86 4 85 := ⟨Tryz.underlying86⟩
instance : SlcK Tryz.prog 79 3 := ⟨Tryz.underlying79⟩
instance : LenK Tryz.prog 79 := ⟨fun ho hx w => by
 unfold execOp
 rw [ho]
 dsimp only
 go_simp⟩
instance : SlcK Tryz.prog 33 4 := ⟨Tryz.underlying33⟩
instance : LenK Tryz.prog 33 := ⟨fun ho hx w => by
 unfold execOp
 rw [ho]
 dsimp only
 go_simp⟩
instance : SlcK Tryz.prog 57 5 := ⟨Tryz.underlying57⟩
instance : LenK Tryz.prog 57 := ⟨fun ho hx w => by
 unfold execOp
 rw [ho]
 dsimp only
 go_simp⟩
instance : SlcK Tryz.prog 85 81 := ⟨Tryz.underlying85⟩
instance : LenK Tryz.prog 85 := ⟨fun ho hx w => by
 unfold execOp
 rw [ho]
 dsimp only
 go_simp⟩
instance : SlcK Tryz.prog 41 59 := ⟨Tryz.underlying41⟩
instance : LenK Tryz.prog 41 := ⟨fun ho hx w => by
 unfold execOp
 rw [ho]
 dsimp only
 go_simp⟩
instance : SlcK Tryz.prog 49 43 := ⟨Tryz.underlying49⟩
instance : LenK Tryz.prog 49 := ⟨fun ho hx w => by
 unfold execOp
 rw [ho]
 dsimp only
 go_simp⟩
instance : SlcK Tryz.prog 44 96 := ⟨Tryz.underlying44⟩
instance : LenK Tryz.prog 44 := ⟨fun ho hx w => by
 unfold execOp
 rw [ho]
 dsimp only
 go_simp⟩
instance : SlcK Tryz.prog 63 40 := ⟨Tryz.underlying63⟩
instance : LenK Tryz.prog 63 := ⟨fun ho hx w => by
 unfold execOp
 rw [ho]
 dsimp only
 go_simp⟩
instance : SlcK Tryz.prog 64 44 := ⟨Tryz.underlying64⟩
instance : LenK Tryz.prog 64 := ⟨fun ho hx w => by
 unfold execOp
 rw [ho]
 dsimp only
 go_simp⟩
instance : SlcK Tryz.prog 74 77 := ⟨Tryz.underlying74⟩
instance : LenK Tryz.prog 74 := ⟨fun ho hx w => by
 unfold execOp
 rw [ho]
 dsimp only
 go_simp⟩
instance : EntK Tryz.prog 40 := ⟨fun args w => by go_simp⟩
instance : EntK Tryz.prog 7 := ⟨fun args w => by go_simp⟩
instance : EntK Tryz.prog 14 := ⟨fun args w => by go_simp⟩
instance : EntK Tryz.prog 23 := ⟨fun args w => by go_simp⟩
instance : EntK Tryz.prog 24 := ⟨fun args w => by go_simp⟩
instance : EntK Tryz.prog 25 := ⟨fun args w => by go_simp⟩
instance : EntK Tryz.prog 26 := ⟨fun args w => by go_simp⟩
instance : EntK Tryz.prog 27 := ⟨fun args w => by go_simp⟩
instance : EntK Tryz.prog 28 := ⟨fun args w => by go_simp⟩
instance : EntK Tryz.prog 47 := ⟨fun args w => by go_simp⟩
instance : EntK Tryz.prog 80 := ⟨fun args w => by go_simp⟩
instance : EntK Tryz.prog 81 := ⟨fun args w => by go_simp⟩
instance : EntK Tryz.prog 115 := ⟨fun args w => by go_simp⟩
instance : EntK Tryz.prog 66 := ⟨fun args w => by go_simp⟩
instance : EntK Tryz.prog 42 := ⟨fun args w => by go_simp⟩
instance : EntK Tryz.prog 43 := ⟨fun args w => by go_simp⟩
instance : EntK Tryz.prog 44 := ⟨fun args w => by go_simp⟩
instance : EntK Tryz.prog 45 := ⟨fun args w => by go_simp⟩
instance : EntK Tryz.prog 46 := ⟨fun args w => by go_simp⟩
instance : EntK Tryz.prog 49 := ⟨fun args w => by go_simp⟩
instance : EntK Tryz.prog 116 := ⟨fun args w => by go_simp⟩
instance : EntK Tryz.prog 138 := ⟨fun args w => by go_simp⟩
instance : EntK Tryz.prog 102 := ⟨fun args w => by go_simp⟩
instance : EntK Tryz.prog 104 := ⟨fun args w => by go_simp⟩
instance : EntK Tryz.prog 113 := ⟨fun args w => by go_simp⟩
instance : EntK Tryz.prog 18 := ⟨fun args w => by go_simp⟩
instance : EntK Tryz.prog 21 := ⟨fun args w => by go_simp⟩
instance : EntK Tryz.prog 20 := ⟨fun args w => by go_simp⟩
instance : EntK Tryz.prog 19 := ⟨fun args w => by go_simp⟩
instance : EntK Tryz.prog 22 := ⟨fun args w => by go_simp⟩
instance : EntK Tryz.prog 41 := ⟨fun args w => by go_simp⟩
instance : EntK Tryz.prog 48 := ⟨fun args w => by go_simp⟩
instance : EntK Tryz.prog 16 := ⟨fun args w => by go_simp⟩
instance : EntK Tryz.prog 17 := ⟨fun args w => by go_simp⟩
instance : EntK Tryz.prog 11 := ⟨fun args w => by go_simp⟩
instance : EntK Tryz.prog 38 := ⟨fun args w => by go_simp⟩
instance : EntK Tryz.prog 12 := ⟨fun args w => by go_simp⟩
instance : EntK Tryz.prog 39 := ⟨fun args w => by go_simp⟩
instance : EntK Tryz.prog 13 := ⟨fun args w => by go_simp⟩
instance : EntK Tryz.prog 31 := ⟨fun args w => by go_simp⟩
instance : EntK Tryz.prog 10 := ⟨fun args w => by go_simp⟩
instance : EntK Tryz.prog 15 := ⟨fun args w => by go_simp⟩
instance : EntK Tryz.prog 29 := ⟨fun args w => by go_simp⟩
instance : EntK Tryz.prog 50 := ⟨fun args w => by go_simp⟩
instance : EntK Tryz.prog 51 := ⟨fun args w => by go_simp⟩
instance : EntK Tryz.prog 32 := ⟨fun args w => by go_simp⟩
instance : EntK Tryz.prog 33 := ⟨fun args w => by go_simp⟩
instance : EntK Tryz.prog 34 := ⟨fun args w => by go_simp⟩
instance : EntK Tryz.prog 35 := ⟨fun args w => by go_simp⟩
instance : EntK Tryz.prog 36 := ⟨fun args w => by go_simp⟩
instance : EntK Tryz.prog 37 := ⟨fun args w => by go_simp⟩
instance : EntK Tryz.prog 9 := ⟨fun args w => by go_simp⟩
instance : EntK Tryz.prog 8 := ⟨fun args w => by go_simp⟩
instance : EntK Tryz.prog 30 := ⟨fun args w => by go_simp⟩
instance : Zer1 Tryz.prog 44 (.slice none 0 0) := ⟨fun w => by kernel_rfl, rfl⟩
instance : Zer1 Tryz.prog 85 (.slice none 0 0) := ⟨fun w => by kernel_rfl, rfl⟩
instance : Zer1 Tryz.prog 3 (.int .i64 0) := ⟨fun w => by kernel_rfl, rfl⟩
instance : Zer1 Tryz.prog 4 (.bool false) := ⟨fun w => by kernel_rfl, rfl⟩
instance : Zer1 Tryz.prog 49 (.slice none 0 0) := ⟨fun w => by kernel_rfl, rfl⟩
instance : Zer1 Tryz.prog 79 (.slice none 0 0) := ⟨fun w => by kernel_rfl, rfl⟩
instance : ZerK Tryz.prog 37 74 (ndF zeroN (.slice none 0 0)) := ⟨fun w => by kernel_rfl⟩
instance : ZerK Tryz.prog 81 4 (msF 0 0 0 (.slice none 0 0)) := ⟨fun w => by kernel_rfl⟩
instance : ZerK Tryz.prog 31 3 (fun _ => iV 0) := ⟨fun w => by kernel_rfl⟩
instance : ZerK Tryz.prog 28 4 (fun _ => iV 0) := ⟨fun w => by kernel_rfl⟩
instance : ZerK Tryz.prog 32 12 (fun _ => iV 0) := ⟨fun w => by kernel_rfl⟩
instance : InfK Tryz.prog 33 4 1 1 := ⟨Tryz.underlying33, by
 have h : (Tryz.prog.info? 4).map (fun i => (i.size, i.bytes, i.zero.map fun z => z.cells.size)) = some (1, 1, some 1) := by kernel_rfl
 obtain ⟨i, hi, e⟩ := Option.map_eq_some_iff.1 h
 cases hz : i.zero with
 | none => rw [hz] at e; simp at e
 | some z =>
  rw [hz] at e
  simp only [Prod.mk.injEq, Option.map_some, Option.some.injEq] at e
  exact ⟨i, z, hi, hz, e.1, e.2.1, e.2.2⟩, by decide⟩
instance : InfK Tryz.prog 79 3 1 8 := ⟨Tryz.underlying79, by
 have h : (Tryz.prog.info? 3).map (fun i => (i.size, i.bytes, i.zero.map fun z => z.cells.size)) = some (1, 8, some 1) := by kernel_rfl
 obtain ⟨i, hi, e⟩ := Option.map_eq_some_iff.1 h
 cases hz : i.zero with
 | none => rw [hz] at e; simp at e
 | some z =>
  rw [hz] at e
  simp only [Prod.mk.injEq, Option.map_some, Option.some.injEq] at e
  exact ⟨i, z, hi, hz, e.1, e.2.1, e.2.2⟩, by decide⟩
instance : InfK Tryz.prog 57 5 1 1 := ⟨Tryz.underlying57, by
 have h : (Tryz.prog.info? 5).map (fun i => (i.size, i.bytes, i.zero.map fun z => z.cells.size)) = some (1, 1, some 1) := by kernel_rfl
 obtain ⟨i, hi, e⟩ := Option.map_eq_some_iff.1 h
 cases hz : i.zero with
 | none => rw [hz] at e; simp at e
 | some z =>
  rw [hz] at e
  simp only [Prod.mk.injEq, Option.map_some, Option.some.injEq] at e
  exact ⟨i, z, hi, hz, e.1, e.2.1, e.2.2⟩, by decide⟩
instance : InfK Tryz.prog 85 81 4 48 := ⟨Tryz.underlying85, by
 have h : (Tryz.prog.info? 81).map (fun i => (i.size, i.bytes, i.zero.map fun z => z.cells.size)) = some (4, 48, some 4) := by kernel_rfl
 obtain ⟨i, hi, e⟩ := Option.map_eq_some_iff.1 h
 cases hz : i.zero with
 | none => rw [hz] at e; simp at e
 | some z =>
  rw [hz] at e
  simp only [Prod.mk.injEq, Option.map_some, Option.some.injEq] at e
  exact ⟨i, z, hi, hz, e.1, e.2.1, e.2.2⟩, by decide⟩
instance : InfK Tryz.prog 41 59 3 40 := ⟨Tryz.underlying41, by
 have h : (Tryz.prog.info? 59).map (fun i => (i.size, i.bytes, i.zero.map fun z => z.cells.size)) = some (3, 40, some 3) := by kernel_rfl
 obtain ⟨i, hi, e⟩ := Option.map_eq_some_iff.1 h
 cases hz : i.zero with
 | none => rw [hz] at e; simp at e
 | some z =>
  rw [hz] at e
  simp only [Prod.mk.injEq, Option.map_some, Option.some.injEq] at e
  exact ⟨i, z, hi, hz, e.1, e.2.1, e.2.2⟩, by decide⟩
instance : InfK Tryz.prog 49 43 14 128 := ⟨Tryz.underlying49, by
 have h : (Tryz.prog.info? 43).map (fun i => (i.size, i.bytes, i.zero.map fun z => z.cells.size)) = some (14, 128, some 14) := by kernel_rfl
 obtain ⟨i, hi, e⟩ := Option.map_eq_some_iff.1 h
 cases hz : i.zero with
 | none => rw [hz] at e; simp at e
 | some z =>
  rw [hz] at e
  simp only [Prod.mk.injEq, Option.map_some, Option.some.injEq] at e
  exact ⟨i, z, hi, hz, e.1, e.2.1, e.2.2⟩, by decide⟩
instance : InfK Tryz.prog 44 96 14 80 := ⟨Tryz.underlying44, by
 have h : (Tryz.prog.info? 96).map (fun i => (i.size, i.bytes, i.zero.map fun z => z.cells.size)) = some (14, 80, some 14) := by kernel_rfl
 obtain ⟨i, hi, e⟩ := Option.map_eq_some_iff.1 h
 cases hz : i.zero with
 | none => rw [hz] at e; simp at e
 | some z =>
  rw [hz] at e
  simp only [Prod.mk.injEq, Option.map_some, Option.some.injEq] at e
  exact ⟨i, z, hi, hz, e.1, e.2.1, e.2.2⟩, by decide⟩
instance : InfK Tryz.prog 63 40 297 2344 := ⟨Tryz.underlying63, by
 have h : (Tryz.prog.info? 40).map (fun i => (i.size, i.bytes, i.zero.map fun z => z.cells.size)) = some (297, 2344, some 297) := by kernel_rfl
 obtain ⟨i, hi, e⟩ := Option.map_eq_some_iff.1 h
 cases hz : i.zero with
 | none => rw [hz] at e; simp at e
 | some z =>
  rw [hz] at e
  simp only [Prod.mk.injEq, Option.map_some, Option.some.injEq] at e
  exact ⟨i, z, hi, hz, e.1, e.2.1, e.2.2⟩, by decide⟩
instance : InfK Tryz.prog 64 44 1 24 := ⟨Tryz.underlying64, by
 have h : (Tryz.prog.info? 44).map (fun i => (i.size, i.bytes, i.zero.map fun z => z.cells.size)) = some (1, 24, some 1) := by kernel_rfl
 obtain ⟨i, hi, e⟩ := Option.map_eq_some_iff.1 h
 cases hz : i.zero with
 | none => rw [hz] at e; simp at e
 | some z =>
  rw [hz] at e
  simp only [Prod.mk.injEq, Option.map_some, Option.some.injEq] at e
  exact ⟨i, z, hi, hz, e.1, e.2.1, e.2.2⟩, by decide⟩
theorem run_neqE {f : Operand → Value} {o : Oper} {b : Bool} (x y : Operand) (ho : o.op = .binOp .neq 45 x y 45) {u v : Int} (hx : f x = .int .i64 u) (hy : f y = .int .i64 v) (hb : decide (u ≠ v) = b) (w : World) : (execOp f o).run Tryz.prog w = .ok (.value (.bool b)) w := by
 have e : (u != v) = b := by rw [← hb, Bool.eq_iff_iff]; simp
 unfold execOp
 rw [ho]
 dsimp only
 rw [hx, hy]
 go_simp
end Go.Proofs.YtdhblehhgpdpdaaGreat
namespace Go.Proofs.YtdhblehhgpdpdaaGreat
open Go.RowKit
def msV (K F R : Int) (v : Value) : Value := .agg #[.int .i64 K, .int .i64 F, .int .i64 R, v]
def MgAt (w : World) (b : Nat) (K F R : Int) (v : Value) : Prop := w.heap[b]? = some (.cells #[.int .i64 K, .int .i64 F, .int .i64 R, v] 81 (0, 0))
section
variable {w w' : World} {b : Nat} {K F R : Int} {v : Value}
theorem MgAt.cell0 (h : MgAt w b K F R v) : w.cell? ⟨b, 0, none⟩ = some (.int .i64 K) := by unfold MgAt at h; unfold World.cell?; rw [h]; rfl
theorem MgAt.cell1 (h : MgAt w b K F R v) : w.cell? ⟨b, 1, none⟩ = some (.int .i64 F) := by unfold MgAt at h; unfold World.cell?; rw [h]; rfl
theorem MgAt.cell2 (h : MgAt w b K F R v) : w.cell? ⟨b, 2, none⟩ = some (.int .i64 R) := by unfold MgAt at h; unfold World.cell?; rw [h]; rfl
theorem MgAt.cell3 (h : MgAt w b K F R v) : w.cell? ⟨b, 3, none⟩ = some v := by unfold MgAt at h; unfold World.cell?; rw [h]; rfl
theorem MgAt.free (h : MgAt w b K F R v) (i : Nat) : w.frozen? ⟨b, i, none⟩ = false := by unfold MgAt at h; simp [World.frozen?, h]
theorem MgAt.lt (h : MgAt w b K F R v) : b < w.heap.size := lt_of_block h
theorem MgAt.same (h : MgAt w b K F R v) (e : w'.heap[b]? = w.heap[b]?) : MgAt w' b K F R v := e.trans h
theorem MgAt.below (h : MgAt w b K F R v) (k : Below w.heap.size w w') : MgAt w' b K F R v := h.same (k.block b h.lt)
theorem MgAt.under {B : Nat} (h : MgAt w b K F R v) (k : Below B w w') (hb : b < B) : MgAt w' b K F R v := h.same (k.block b hb)
theorem MgAt.kept {z : Nat} (h : MgAt w b K F R v) (k : Kept z w w') (hz : b ≠ z) : MgAt w' b K F R v := h.same (k.block b h.lt hz)
theorem MgAt.new (w : World) (K F R : Int) (v : Value) : MgAt (w.alloc (.cells #[.int .i64 K, .int .i64 F, .int .i64 R, v] 81)) w.heap.size K F R v := by
 unfold MgAt
 show (w.heap.push _)[w.heap.size]? = _
 rw [Array.getElem?_push_size]
theorem MgAt.put (h : MgAt w b K F R v) (K' F' R' : Int) (u : Value) :
  ∃ w', w' = (((w.setCell ⟨b, 0, none⟩ (.int .i64 K')).setCell ⟨b, 1, none⟩ (.int .i64 F')).setCell ⟨b, 2, none⟩ (.int .i64 R')).setCell ⟨b, 3, none⟩ u ∧ MgAt w' b K' F' R' u ∧ Kept b w w' := by
 refine ⟨_, rfl, ?_, (((kept_set w b 0 _).trans (kept_set _ b 1 _) (Or.inl rfl)).trans (kept_set _ b 2 _) (Or.inl rfl)).trans (kept_set _ b 3 _) (Or.inl rfl)⟩
 unfold MgAt at h ⊢
 have h1 := heap_setCell_same w b 0 _ _ (.int .i64 K') h
 have h2 := heap_setCell_same _ b 1 _ _ (.int .i64 F') h1
 have h3 := heap_setCell_same _ b 2 _ _ (.int .i64 R') h2
 exact heap_setCell_same _ b 3 _ _ u h3
theorem MgAt.put3 (h : MgAt w b K F R v) (u : Value) : ∃ w', w' = w.setCell ⟨b, 3, none⟩ u ∧ MgAt w' b K F R u ∧ Kept b w w' := by
 refine ⟨_, rfl, ?_, kept_set w b 3 _⟩
 unfold MgAt at h ⊢
 exact heap_setCell_same w b 3 _ _ u h
end
theorem mg_alloc (w : World) (K F R : Int) (v : Value) : ∃ w1, w1 = w.alloc (.cells #[.int .i64 K, .int .i64 F, .int .i64 R, v] 81) ∧ MgAt w1 w.heap.size K F R v ∧ Below w.heap.size w w1 ∧ w1.heap.size = w.heap.size + 1 :=
 ⟨_, rfl, MgAt.new w K F R v, al_below w _, al_size w _⟩
end Go.Proofs.YtdhblehhgpdpdaaGreat
