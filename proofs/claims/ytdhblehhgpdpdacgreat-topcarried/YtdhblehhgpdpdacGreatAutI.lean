import Derived.Test.YtdhblehhgpdpdacGreatNear53
namespace Go.Proofs.YtdhblehhgpdpdacGreat
open Go.RowKit
instance:FldK Tryz.prog 55 0 0:=⟨λho hx w=>by
 unfold execOp
 rw[ho]
 dsimp only
 rw[hx]
 go_simp⟩
instance:FldK Tryz.prog 55 1 1:=⟨λho hx w=>by
 unfold execOp
 rw[ho]
 dsimp only
 rw[hx]
 go_simp⟩
instance:FldK Tryz.prog 55 2 2:=⟨λho hx w=>by
 unfold execOp
 rw[ho]
 dsimp only
 rw[hx]
 go_simp⟩
instance:FldK Tryz.prog 55 3 6:=⟨λho hx w=>by
 unfold execOp
 rw[ho]
 dsimp only
 rw[hx]
 go_simp⟩
instance:FldK Tryz.prog 55 4 27:=⟨λho hx w=>by
 unfold execOp
 rw[ho]
 dsimp only
 rw[hx]
 go_simp⟩
instance:FldK Tryz.prog 55 5 39:=⟨λho hx w=>by
 unfold execOp
 rw[ho]
 dsimp only
 rw[hx]
 go_simp⟩
instance:FldK Tryz.prog 55 6 51:=⟨λho hx w=>by
 unfold execOp
 rw[ho]
 dsimp only
 rw[hx]
 go_simp⟩
instance:FldK Tryz.prog 55 7 55:=⟨λho hx w=>by
 unfold execOp
 rw[ho]
 dsimp only
 rw[hx]
 go_simp⟩
instance:FldK Tryz.prog 55 8 67:=⟨λho hx w=>by
 unfold execOp
 rw[ho]
 dsimp only
 rw[hx]
 go_simp⟩
instance:FldK Tryz.prog 55 9 70:=⟨λho hx w=>by
 unfold execOp
 rw[ho]
 dsimp only
 rw[hx]
 go_simp⟩
instance:FldK Tryz.prog 55 10 71:=⟨λho hx w=>by
 unfold execOp
 rw[ho]
 dsimp only
 rw[hx]
 go_simp⟩
instance:FldK Tryz.prog 69 0 0:=⟨λho hx w=>by
 unfold execOp
 rw[ho]
 dsimp only
 rw[hx]
 go_simp⟩
instance:FldK Tryz.prog 69 1 1:=⟨λho hx w=>by
 unfold execOp
 rw[ho]
 dsimp only
 rw[hx]
 go_simp⟩
instance:FldK Tryz.prog 69 2 2:=⟨λho hx w=>by
 unfold execOp
 rw[ho]
 dsimp only
 rw[hx]
 go_simp⟩
instance:FldK Tryz.prog 69 3 3:=⟨λho hx w=>by
 unfold execOp
 rw[ho]
 dsimp only
 rw[hx]
 go_simp⟩
instance:FldK Tryz.prog 53 0 0:=⟨λho hx w=>by
 unfold execOp
 rw[ho]
 dsimp only
 rw[hx]
 go_simp⟩
instance:FldK Tryz.prog 53 1 1:=⟨λho hx w=>by
 unfold execOp
 rw[ho]
 dsimp only
 rw[hx]
 go_simp⟩
instance:FldK Tryz.prog 53 2 2:=⟨λho hx w=>by
 unfold execOp
 rw[ho]
 dsimp only
 rw[hx]
 go_simp⟩
instance:FldK Tryz.prog 50 0 0:=⟨λho hx w=>by
 unfold execOp
 rw[ho]
 dsimp only
 rw[hx]
 go_simp⟩
instance:FldK Tryz.prog 50 1 4:=⟨λho hx w=>by
 unfold execOp
 rw[ho]
 dsimp only
 rw[hx]
 go_simp⟩
instance:FldK Tryz.prog 50 2 8:=⟨λho hx w=>by
 unfold execOp
 rw[ho]
 dsimp only
 rw[hx]
 go_simp⟩
instance:FldK Tryz.prog 45 0 0:=⟨λho hx w=>by
 unfold execOp
 rw[ho]
 dsimp only
 rw[hx]
 go_simp⟩
instance:FldK Tryz.prog 45 1 1:=⟨λho hx w=>by
 unfold execOp
 rw[ho]
 dsimp only
 rw[hx]
 go_simp⟩
instance:FldK Tryz.prog 45 2 2:=⟨λho hx w=>by
 unfold execOp
 rw[ho]
 dsimp only
 rw[hx]
 go_simp⟩
instance:FldK Tryz.prog 45 3 3:=⟨λho hx w=>by
 unfold execOp
 rw[ho]
 dsimp only
 rw[hx]
 go_simp⟩
instance:FldK Tryz.prog 45 4 4:=⟨λho hx w=>by
 unfold execOp
 rw[ho]
 dsimp only
 rw[hx]
 go_simp⟩
instance:FldK Tryz.prog 45 5 5:=⟨λho hx w=>by
 unfold execOp
 rw[ho]
 dsimp only
 rw[hx]
 go_simp⟩
instance:FldK Tryz.prog 45 6 6:=⟨λho hx w=>by
 unfold execOp
 rw[ho]
 dsimp only
 rw[hx]
 go_simp⟩
instance:FldK Tryz.prog 23 0 0:=⟨λho hx w=>by
 unfold execOp
 rw[ho]
 dsimp only
 rw[hx]
 go_simp⟩
instance:FldK Tryz.prog 23 1 1:=⟨λho hx w=>by
 unfold execOp
 rw[ho]
 dsimp only
 rw[hx]
 go_simp⟩
instance:FldK Tryz.prog 23 2 2:=⟨λho hx w=>by
 unfold execOp
 rw[ho]
 dsimp only
 rw[hx]
 go_simp⟩
instance:FldK Tryz.prog 23 3 3:=⟨λho hx w=>by
 unfold execOp
 rw[ho]
 dsimp only
 rw[hx]
 go_simp⟩
instance:FldK Tryz.prog 61 0 0:=⟨λho hx w=>by
 unfold execOp
 rw[ho]
 dsimp only
 rw[hx]
 go_simp⟩
instance:FldK Tryz.prog 61 1 1:=⟨λho hx w=>by
 unfold execOp
 rw[ho]
 dsimp only
 rw[hx]
 go_simp⟩
instance:FldK Tryz.prog 61 2 2:=⟨λho hx w=>by
 unfold execOp
 rw[ho]
 dsimp only
 rw[hx]
 go_simp⟩
instance:FldK Tryz.prog 61 3 5:=⟨λho hx w=>by
 unfold execOp
 rw[ho]
 dsimp only
 rw[hx]
 go_simp⟩
instance:FldK Tryz.prog 61 4 8:=⟨λho hx w=>by
 unfold execOp
 rw[ho]
 dsimp only
 rw[hx]
 go_simp⟩
instance:FldK Tryz.prog 61 5 9:=⟨λho hx w=>by
 unfold execOp
 rw[ho]
 dsimp only
 rw[hx]
 go_simp⟩
instance:FldK Tryz.prog 61 6 10:=⟨λho hx w=>by
 unfold execOp
 rw[ho]
 dsimp only
 rw[hx]
 go_simp⟩
instance:FldK Tryz.prog 58 0 0:=⟨λho hx w=>by
 unfold execOp
 rw[ho]
 dsimp only
 rw[hx]
 go_simp⟩
instance:FldK Tryz.prog 58 1 1:=⟨λho hx w=>by
 unfold execOp
 rw[ho]
 dsimp only
 rw[hx]
 go_simp⟩
instance:FldK Tryz.prog 31 0 0:=⟨λho hx w=>by
 unfold execOp
 rw[ho]
 dsimp only
 rw[hx]
 go_simp⟩
instance:FldK Tryz.prog 31 1 12:=⟨λho hx w=>by
 unfold execOp
 rw[ho]
 dsimp only
 rw[hx]
 go_simp⟩
instance:FldK Tryz.prog 31 2 13:=⟨λho hx w=>by
 unfold execOp
 rw[ho]
 dsimp only
 rw[hx]
 go_simp⟩
instance:FldK Tryz.prog 35 0 0:=⟨λho hx w=>by
 unfold execOp
 rw[ho]
 dsimp only
 rw[hx]
 go_simp⟩
instance:FldK Tryz.prog 35 1 1:=⟨λho hx w=>by
 unfold execOp
 rw[ho]
 dsimp only
 rw[hx]
 go_simp⟩
instance:FldK Tryz.prog 35 2 2:=⟨λho hx w=>by
 unfold execOp
 rw[ho]
 dsimp only
 rw[hx]
 go_simp⟩
instance:FldK Tryz.prog 116 0 0:=⟨λho hx w=>by
 unfold execOp
 rw[ho]
 dsimp only
 rw[hx]
 go_simp⟩
instance:FldK Tryz.prog 116 1 297:=⟨λho hx w=>by
 unfold execOp
 rw[ho]
 dsimp only
 rw[hx]
 go_simp⟩
instance:FldK Tryz.prog 116 2 298:=⟨λho hx w=>by
 unfold execOp
 rw[ho]
 dsimp only
 rw[hx]
 go_simp⟩
instance:FldK Tryz.prog 116 3 299:=⟨λho hx w=>by
 unfold execOp
 rw[ho]
 dsimp only
 rw[hx]
 go_simp⟩
instance:ManyK Tryz.prog 55 74:=⟨Many.of _ Tryz.underlying55 rfl (by kernel_rfl)⟩
instance:ManyK Tryz.prog 69 4:=⟨Many.of _ Tryz.underlying69 rfl (by kernel_rfl)⟩
instance:ManyK Tryz.prog 53 3:=⟨Many.of _ Tryz.underlying53 rfl (by kernel_rfl)⟩
instance:ManyK Tryz.prog 50 12:=⟨Many.of _ Tryz.underlying50 rfl (by kernel_rfl)⟩
instance:ManyK Tryz.prog 45 7:=⟨Many.of _ Tryz.underlying45 rfl (by kernel_rfl)⟩
instance:ManyK Tryz.prog 23 4:=⟨Many.of _ Tryz.underlying23 rfl (by kernel_rfl)⟩
instance:ManyK Tryz.prog 61 14:=⟨Many.of _ Tryz.underlying61 rfl (by kernel_rfl)⟩
instance:ManyK Tryz.prog 58 297:=⟨Many.of _ Tryz.underlying58 rfl (by kernel_rfl)⟩
instance:ManyK Tryz.prog 31 14:=⟨Many.of _ Tryz.underlying31 rfl (by kernel_rfl)⟩
instance:ManyK Tryz.prog 35 3:=⟨Many.of _ Tryz.underlying35 rfl (by kernel_rfl)⟩
instance:ManyK Tryz.prog 116 303:=⟨Many.of _ Tryz.underlying116 rfl (by kernel_rfl)⟩
instance:ManyK Tryz.prog 27 3:=⟨Many.of _ Tryz.underlying27 rfl (by kernel_rfl)⟩
instance:ManyK Tryz.prog 48 4:=⟨Many.of _ Tryz.underlying48 rfl (by kernel_rfl)⟩
instance:ManyK Tryz.prog 47 4:=⟨Many.of _ Tryz.underlying47 rfl (by kernel_rfl)⟩
instance:ManyK Tryz.prog 28 12:=⟨Many.of _ Tryz.underlying28 rfl (by kernel_rfl)⟩
instance:ManyK Tryz.prog 46 21:=⟨Many.of _ Tryz.underlying46 rfl (by kernel_rfl)⟩
instance:ManyK Tryz.prog 56 296:=⟨Many.of _ Tryz.underlying56 rfl (by kernel_rfl)⟩
instance:ManyK Tryz.prog 110 16:=⟨Many.of _ Tryz.underlying110 rfl (by kernel_rfl)⟩
instance:ManyK Tryz.prog 114 4:=⟨Many.of _ Tryz.underlying114 rfl (by kernel_rfl)⟩
instance:OneK Tryz.prog 3:=⟨⟨λw=>by go_simp,λw=>by go_simp⟩⟩
instance:OneK Tryz.prog 4:=⟨⟨λw=>by go_simp,λw=>by go_simp⟩⟩
instance:OneK Tryz.prog 67:=⟨⟨λw=>by go_simp,λw=>by go_simp⟩⟩
instance:OneK Tryz.prog 51:=⟨⟨λw=>by go_simp,λw=>by go_simp⟩⟩
instance:OneK Tryz.prog 33:=⟨⟨λw=>by go_simp,λw=>by go_simp⟩⟩
instance:OneK Tryz.prog 5:=⟨⟨λw=>by go_simp,λw=>by go_simp⟩⟩
instance:OneK Tryz.prog 113:=⟨⟨λw=>by go_simp,λw=>by go_simp⟩⟩
instance:OneK Tryz.prog 29:=⟨⟨λw=>by go_simp,λw=>by go_simp⟩⟩
instance:OneK Tryz.prog 24:=⟨⟨λw=>by go_simp,λw=>by go_simp⟩⟩
instance:OneK Tryz.prog 59:=⟨⟨λw=>by go_simp,λw=>by go_simp⟩⟩
instance:OneK Tryz.prog 38:=⟨⟨λw=>by go_simp,λw=>by go_simp⟩⟩
instance:OneK Tryz.prog 39:=⟨⟨λw=>by go_simp,λw=>by go_simp⟩⟩
instance:OneK Tryz.prog 64:=⟨⟨λw=>by go_simp,λw=>by go_simp⟩⟩
instance:OneK Tryz.prog 108:=⟨⟨λw=>by go_simp,λw=>by go_simp⟩⟩
instance:OneK Tryz.prog 103:=⟨⟨λw=>by go_simp,λw=>by go_simp⟩⟩
instance:ArrK Tryz.prog 27 3 3:=⟨Tryz.underlying27⟩
instance:ArrK Tryz.prog 48 4 3:=⟨Tryz.underlying48⟩
instance:ArrK Tryz.prog 47 4 4:=⟨Tryz.underlying47⟩
instance:ArrK Tryz.prog 28 4 27:=⟨Tryz.underlying28⟩
instance:ArrK Tryz.prog 46 3 45:=⟨Tryz.underlying46⟩
instance:ArrK Tryz.prog 56 4 55:=⟨Tryz.underlying56⟩
instance:ArrK Tryz.prog 110 4 69:=⟨Tryz.underlying110⟩
instance:ArrK Tryz.prog 114 4 113:=⟨Tryz.underlying114⟩
instance:SlcK Tryz.prog 67 3:=⟨Tryz.underlying67⟩
instance:LenK Tryz.prog 67:=⟨λho hx w=>by
 unfold execOp
 rw[ho]
 dsimp only
 go_simp⟩
instance:SlcK Tryz.prog 51 4:=⟨Tryz.underlying51⟩
instance:LenK Tryz.prog 51:=⟨λho hx w=>by
 unfold execOp
 rw[ho]
 dsimp only
 go_simp⟩
instance:SlcK Tryz.prog 33 5:=⟨Tryz.underlying33⟩
instance:LenK Tryz.prog 33:=⟨λho hx w=>by
 unfold execOp
 rw[ho]
 dsimp only
 go_simp⟩
instance:SlcK Tryz.prog 113 69:=⟨Tryz.underlying113⟩
instance:LenK Tryz.prog 113:=⟨λho hx w=>by
 unfold execOp
 rw[ho]
 dsimp only
 go_simp⟩
instance:SlcK Tryz.prog 29 35:=⟨Tryz.underlying29⟩
instance:LenK Tryz.prog 29:=⟨λho hx w=>by
 unfold execOp
 rw[ho]
 dsimp only
 go_simp⟩
instance:SlcK Tryz.prog 24 31:=⟨Tryz.underlying24⟩
instance:LenK Tryz.prog 24:=⟨λho hx w=>by
 unfold execOp
 rw[ho]
 dsimp only
 go_simp⟩
instance:SlcK Tryz.prog 59 61:=⟨Tryz.underlying59⟩
instance:LenK Tryz.prog 59:=⟨λho hx w=>by
 unfold execOp
 rw[ho]
 dsimp only
 go_simp⟩
instance:SlcK Tryz.prog 38 58:=⟨Tryz.underlying38⟩
instance:LenK Tryz.prog 38:=⟨λho hx w=>by
 unfold execOp
 rw[ho]
 dsimp only
 go_simp⟩
instance:SlcK Tryz.prog 39 59:=⟨Tryz.underlying39⟩
instance:LenK Tryz.prog 39:=⟨λho hx w=>by
 unfold execOp
 rw[ho]
 dsimp only
 go_simp⟩
instance:SlcK Tryz.prog 105 108:=⟨Tryz.underlying105⟩
instance:LenK Tryz.prog 105:=⟨λho hx w=>by
 unfold execOp
 rw[ho]
 dsimp only
 go_simp⟩
instance:EntK Tryz.prog 20:=⟨λargs w=>by go_simp⟩
instance:EntK Tryz.prog 21:=⟨λargs w=>by go_simp⟩
instance:EntK Tryz.prog 14:=⟨λargs w=>by go_simp⟩
instance:EntK Tryz.prog 37:=⟨λargs w=>by go_simp⟩
instance:EntK Tryz.prog 38:=⟨λargs w=>by go_simp⟩
instance:EntK Tryz.prog 39:=⟨λargs w=>by go_simp⟩
instance:EntK Tryz.prog 40:=⟨λargs w=>by go_simp⟩
instance:EntK Tryz.prog 41:=⟨λargs w=>by go_simp⟩
instance:EntK Tryz.prog 42:=⟨λargs w=>by go_simp⟩
instance:EntK Tryz.prog 61:=⟨λargs w=>by go_simp⟩
instance:EntK Tryz.prog 82:=⟨λargs w=>by go_simp⟩
instance:EntK Tryz.prog 83:=⟨λargs w=>by go_simp⟩
instance:EntK Tryz.prog 100:=⟨λargs w=>by go_simp⟩
instance:EntK Tryz.prog 36:=⟨λargs w=>by go_simp⟩
instance:EntK Tryz.prog 56:=⟨λargs w=>by go_simp⟩
instance:EntK Tryz.prog 57:=⟨λargs w=>by go_simp⟩
instance:EntK Tryz.prog 58:=⟨λargs w=>by go_simp⟩
instance:EntK Tryz.prog 59:=⟨λargs w=>by go_simp⟩
instance:EntK Tryz.prog 60:=⟨λargs w=>by go_simp⟩
instance:EntK Tryz.prog 63:=⟨λargs w=>by go_simp⟩
instance:EntK Tryz.prog 15:=⟨λargs w=>by go_simp⟩
instance:EntK Tryz.prog 18:=⟨λargs w=>by go_simp⟩
instance:EntK Tryz.prog 54:=⟨λargs w=>by go_simp⟩
instance:EntK Tryz.prog 90:=⟨λargs w=>by go_simp⟩
instance:EntK Tryz.prog 98:=⟨λargs w=>by go_simp⟩
instance:EntK Tryz.prog 8:=⟨λargs w=>by go_simp⟩
instance:EntK Tryz.prog 12:=⟨λargs w=>by go_simp⟩
instance:EntK Tryz.prog 9:=⟨λargs w=>by go_simp⟩
instance:EntK Tryz.prog 11:=⟨λargs w=>by go_simp⟩
instance:EntK Tryz.prog 13:=⟨λargs w=>by go_simp⟩
instance:EntK Tryz.prog 10:=⟨λargs w=>by go_simp⟩
instance:EntK Tryz.prog 16:=⟨λargs w=>by go_simp⟩
instance:EntK Tryz.prog 17:=⟨λargs w=>by go_simp⟩
instance:EntK Tryz.prog 19:=⟨λargs w=>by go_simp⟩
instance:EntK Tryz.prog 55:=⟨λargs w=>by go_simp⟩
instance:EntK Tryz.prog 62:=⟨λargs w=>by go_simp⟩
instance:Zer1 Tryz.prog 59 (.slice none 0 0):=⟨λw=>by kernel_rfl,rfl⟩
instance:Zer1 Tryz.prog 113 (.slice none 0 0):=⟨λw=>by kernel_rfl,rfl⟩
instance:Zer1 Tryz.prog 3 (.int .i64 0):=⟨λw=>by kernel_rfl,rfl⟩
instance:Zer1 Tryz.prog 4 (.bool false):=⟨λw=>by kernel_rfl,rfl⟩
instance:Zer1 Tryz.prog 24 (.slice none 0 0):=⟨λw=>by kernel_rfl,rfl⟩
instance:Zer1 Tryz.prog 67 (.slice none 0 0):=⟨λw=>by kernel_rfl,rfl⟩
instance:ZerK Tryz.prog 55 74 (ndF fD (.slice none 0 0)):=⟨λw=>by kernel_rfl⟩
instance:ZerK Tryz.prog 69 4 (kK 0 0 0 (.slice none 0 0)):=⟨λw=>by kernel_rfl⟩
instance:ZerK Tryz.prog 27 3 (λ_=>iV 0):=⟨λw=>by kernel_rfl⟩
instance:ZerK Tryz.prog 48 4 (λ_=>iV 0):=⟨λw=>by kernel_rfl⟩
instance:ZerK Tryz.prog 28 12 (λ_=>iV 0):=⟨λw=>by kernel_rfl⟩
instance:InfK Tryz.prog 51 4 1 1:=⟨Tryz.underlying51,by
 have h:(Tryz.prog.info? 4).map (λi=>(i.size,i.bytes,i.zero.map λz=>z.cells.size))=some (1,1,some 1):=by kernel_rfl
 obtain⟨i,hi,e⟩:=Option.map_eq_some_iff.1 h
 cases hz:i.zero with
 |none=>rw[hz] at e;simp at e
 |some z=>
  rw[hz] at e
  simp only[Prod.mk.injEq,Option.map_some,Option.some.injEq] at e
  exact⟨i,z,hi,hz,e.1,e.2.1,e.2.2⟩,by decide⟩
instance:InfK Tryz.prog 67 3 1 8:=⟨Tryz.underlying67,by
 have h:(Tryz.prog.info? 3).map (λi=>(i.size,i.bytes,i.zero.map λz=>z.cells.size))=some (1,8,some 1):=by kernel_rfl
 obtain⟨i,hi,e⟩:=Option.map_eq_some_iff.1 h
 cases hz:i.zero with
 |none=>rw[hz] at e;simp at e
 |some z=>
  rw[hz] at e
  simp only[Prod.mk.injEq,Option.map_some,Option.some.injEq] at e
  exact⟨i,z,hi,hz,e.1,e.2.1,e.2.2⟩,by decide⟩
instance:InfK Tryz.prog 33 5 1 1:=⟨Tryz.underlying33,by
 have h:(Tryz.prog.info? 5).map (λi=>(i.size,i.bytes,i.zero.map λz=>z.cells.size))=some (1,1,some 1):=by kernel_rfl
 obtain⟨i,hi,e⟩:=Option.map_eq_some_iff.1 h
 cases hz:i.zero with
 |none=>rw[hz] at e;simp at e
 |some z=>
  rw[hz] at e
  simp only[Prod.mk.injEq,Option.map_some,Option.some.injEq] at e
  exact⟨i,z,hi,hz,e.1,e.2.1,e.2.2⟩,by decide⟩
instance:InfK Tryz.prog 113 69 4 48:=⟨Tryz.underlying113,by
 have h:(Tryz.prog.info? 69).map (λi=>(i.size,i.bytes,i.zero.map λz=>z.cells.size))=some (4,48,some 4):=by kernel_rfl
 obtain⟨i,hi,e⟩:=Option.map_eq_some_iff.1 h
 cases hz:i.zero with
 |none=>rw[hz] at e;simp at e
 |some z=>
  rw[hz] at e
  simp only[Prod.mk.injEq,Option.map_some,Option.some.injEq] at e
  exact⟨i,z,hi,hz,e.1,e.2.1,e.2.2⟩,by decide⟩
instance:InfK Tryz.prog 29 35 3 40:=⟨Tryz.underlying29,by
 have h:(Tryz.prog.info? 35).map (λi=>(i.size,i.bytes,i.zero.map λz=>z.cells.size))=some (3,40,some 3):=by kernel_rfl
 obtain⟨i,hi,e⟩:=Option.map_eq_some_iff.1 h
 cases hz:i.zero with
 |none=>rw[hz] at e;simp at e
 |some z=>
  rw[hz] at e
  simp only[Prod.mk.injEq,Option.map_some,Option.some.injEq] at e
  exact⟨i,z,hi,hz,e.1,e.2.1,e.2.2⟩,by decide⟩
instance:InfK Tryz.prog 24 31 14 128:=⟨Tryz.underlying24,by
 have h:(Tryz.prog.info? 31).map (λi=>(i.size,i.bytes,i.zero.map λz=>z.cells.size))=some (14,128,some 14):=by kernel_rfl
 obtain⟨i,hi,e⟩:=Option.map_eq_some_iff.1 h
 cases hz:i.zero with
 |none=>rw[hz] at e;simp at e
 |some z=>
  rw[hz] at e
  simp only[Prod.mk.injEq,Option.map_some,Option.some.injEq] at e
  exact⟨i,z,hi,hz,e.1,e.2.1,e.2.2⟩,by decide⟩
instance:InfK Tryz.prog 59 61 14 80:=⟨Tryz.underlying59,by
 have h:(Tryz.prog.info? 61).map (λi=>(i.size,i.bytes,i.zero.map λz=>z.cells.size))=some (14,80,some 14):=by kernel_rfl
 obtain⟨i,hi,e⟩:=Option.map_eq_some_iff.1 h
 cases hz:i.zero with
 |none=>rw[hz] at e;simp at e
 |some z=>
  rw[hz] at e
  simp only[Prod.mk.injEq,Option.map_some,Option.some.injEq] at e
  exact⟨i,z,hi,hz,e.1,e.2.1,e.2.2⟩,by decide⟩
instance:InfK Tryz.prog 38 58 297 2344:=⟨Tryz.underlying38,by
 have h:(Tryz.prog.info? 58).map (λi=>(i.size,i.bytes,i.zero.map λz=>z.cells.size))=some (297,2344,some 297):=by kernel_rfl
 obtain⟨i,hi,e⟩:=Option.map_eq_some_iff.1 h
 cases hz:i.zero with
 |none=>rw[hz] at e;simp at e
 |some z=>
  rw[hz] at e
  simp only[Prod.mk.injEq,Option.map_some,Option.some.injEq] at e
  exact⟨i,z,hi,hz,e.1,e.2.1,e.2.2⟩,by decide⟩
instance:InfK Tryz.prog 39 59 1 24:=⟨Tryz.underlying39,by
 have h:(Tryz.prog.info? 59).map (λi=>(i.size,i.bytes,i.zero.map λz=>z.cells.size))=some (1,24,some 1):=by kernel_rfl
 obtain⟨i,hi,e⟩:=Option.map_eq_some_iff.1 h
 cases hz:i.zero with
 |none=>rw[hz] at e;simp at e
 |some z=>
  rw[hz] at e
  simp only[Prod.mk.injEq,Option.map_some,Option.some.injEq] at e
  exact⟨i,z,hi,hz,e.1,e.2.1,e.2.2⟩,by decide⟩
theorem zT{f:Operand→Value}{o:Oper}{b:Bool}(x y:Operand)(ho:o.op=.binOp .neq 64 x y 64){u v:Int}(hx:f x=.int .i64 u)(hy:f y=.int .i64 v)(hb:decide (u≠v)=b)(w:World):(execOp f o).run Tryz.prog w=.ok (.value (.bool b)) w:=by
 have e:(u !=v)=b:=by rw[←hb,Bool.eq_iff_iff];simp
 unfold execOp
 rw[ho]
 dsimp only
 rw[hx,hy]
 go_simp
end Go.Proofs.YtdhblehhgpdpdacGreat
