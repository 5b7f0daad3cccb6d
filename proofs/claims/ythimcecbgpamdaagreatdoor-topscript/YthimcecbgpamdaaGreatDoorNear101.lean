import Derived.Test.YthimcecbgpamdaaGreatDoorNear204
namespace Go.Proofs.YthimcecbgpamdaaGreatDoor
open Go.RowKit
instance:FldK Tryz.prog 43 0 0:=⟨λho hx w=>Yg⟩
instance:FldK Tryz.prog 43 1 1:=⟨λho hx w=>Yg⟩
instance:FldK Tryz.prog 43 2 2:=⟨λho hx w=>Yg⟩
instance:FldK Tryz.prog 43 3 6:=⟨λho hx w=>Yg⟩
instance:FldK Tryz.prog 43 4 27:=⟨λho hx w=>Yg⟩
instance:FldK Tryz.prog 43 5 39:=⟨λho hx w=>Yg⟩
instance:FldK Tryz.prog 43 6 51:=⟨λho hx w=>Yg⟩
instance:FldK Tryz.prog 43 7 55:=⟨λho hx w=>Yg⟩
instance:FldK Tryz.prog 43 8 67:=⟨λho hx w=>Yg⟩
instance:FldK Tryz.prog 43 9 70:=⟨λho hx w=>Yg⟩
instance:FldK Tryz.prog 43 10 71:=⟨λho hx w=>Yg⟩
instance:FldK Tryz.prog 79 0 0:=⟨λho hx w=>Yg⟩
instance:FldK Tryz.prog 79 1 1:=⟨λho hx w=>Yg⟩
instance:FldK Tryz.prog 79 2 2:=⟨λho hx w=>Yg⟩
instance:FldK Tryz.prog 79 3 3:=⟨λho hx w=>Yg⟩
instance:FldK Tryz.prog 41 0 0:=⟨λho hx w=>Yg⟩
instance:FldK Tryz.prog 41 1 1:=⟨λho hx w=>Yg⟩
instance:FldK Tryz.prog 41 2 2:=⟨λho hx w=>Yg⟩
instance:FldK Tryz.prog 36 0 0:=⟨λho hx w=>Yg⟩
instance:FldK Tryz.prog 36 1 4:=⟨λho hx w=>Yg⟩
instance:FldK Tryz.prog 36 2 8:=⟨λho hx w=>Yg⟩
instance:FldK Tryz.prog 31 0 0:=⟨λho hx w=>Yg⟩
instance:FldK Tryz.prog 31 1 1:=⟨λho hx w=>Yg⟩
instance:FldK Tryz.prog 31 2 2:=⟨λho hx w=>Yg⟩
instance:FldK Tryz.prog 31 3 3:=⟨λho hx w=>Yg⟩
instance:FldK Tryz.prog 31 4 4:=⟨λho hx w=>Yg⟩
instance:FldK Tryz.prog 31 5 5:=⟨λho hx w=>Yg⟩
instance:FldK Tryz.prog 31 6 6:=⟨λho hx w=>Yg⟩
instance:FldK Tryz.prog 27 0 0:=⟨λho hx w=>Yg⟩
instance:FldK Tryz.prog 27 1 1:=⟨λho hx w=>Yg⟩
instance:FldK Tryz.prog 27 2 2:=⟨λho hx w=>Yg⟩
instance:FldK Tryz.prog 27 3 3:=⟨λho hx w=>Yg⟩
instance:FldK Tryz.prog 57 0 0:=⟨λho hx w=>Yg⟩
instance:FldK Tryz.prog 57 1 1:=⟨λho hx w=>Yg⟩
instance:FldK Tryz.prog 57 2 2:=⟨λho hx w=>Yg⟩
instance:FldK Tryz.prog 57 3 5:=⟨λho hx w=>Yg⟩
instance:FldK Tryz.prog 57 4 8:=⟨λho hx w=>Yg⟩
instance:FldK Tryz.prog 57 5 9:=⟨λho hx w=>Yg⟩
instance:FldK Tryz.prog 57 6 10:=⟨λho hx w=>Yg⟩
instance:FldK Tryz.prog 46 0 0:=⟨λho hx w=>Yg⟩
instance:FldK Tryz.prog 46 1 1:=⟨λho hx w=>Yg⟩
instance:FldK Tryz.prog 52 0 0:=⟨λho hx w=>Yg⟩
instance:FldK Tryz.prog 52 1 12:=⟨λho hx w=>Yg⟩
instance:FldK Tryz.prog 52 2 13:=⟨λho hx w=>Yg⟩
instance:FldK Tryz.prog 81 0 0:=⟨λho hx w=>Yg⟩
instance:FldK Tryz.prog 81 1 1:=⟨λho hx w=>Yg⟩
instance:FldK Tryz.prog 81 2 2:=⟨λho hx w=>Yg⟩
instance:FldK Tryz.prog 104 0 0:=⟨λho hx w=>Yg⟩
instance:FldK Tryz.prog 104 1 297:=⟨λho hx w=>Yg⟩
instance:FldK Tryz.prog 104 2 298:=⟨λho hx w=>Yg⟩
instance:FldK Tryz.prog 104 3 299:=⟨λho hx w=>Yg⟩
instance:ManyK Tryz.prog 43 74:=⟨Many.of _ Tryz.underlying43 rfl Yl⟩
instance:ManyK Tryz.prog 79 4:=⟨Many.of _ Tryz.underlying79 rfl Yl⟩
instance:ManyK Tryz.prog 41 3:=⟨Many.of _ Tryz.underlying41 rfl Yl⟩
instance:ManyK Tryz.prog 36 12:=⟨Many.of _ Tryz.underlying36 rfl Yl⟩
instance:ManyK Tryz.prog 31 7:=⟨Many.of _ Tryz.underlying31 rfl Yl⟩
instance:ManyK Tryz.prog 27 4:=⟨Many.of _ Tryz.underlying27 rfl Yl⟩
instance:ManyK Tryz.prog 57 14:=⟨Many.of _ Tryz.underlying57 rfl Yl⟩
instance:ManyK Tryz.prog 46 297:=⟨Many.of _ Tryz.underlying46 rfl Yl⟩
instance:ManyK Tryz.prog 52 14:=⟨Many.of _ Tryz.underlying52 rfl Yl⟩
instance:ManyK Tryz.prog 81 3:=⟨Many.of _ Tryz.underlying81 rfl Yl⟩
instance:ManyK Tryz.prog 104 303:=⟨Many.of _ Tryz.underlying104 rfl Yl⟩
instance:ManyK Tryz.prog 37 3:=⟨Many.of _ Tryz.underlying37 rfl Yl⟩
instance:ManyK Tryz.prog 34 4:=⟨Many.of _ Tryz.underlying34 rfl Yl⟩
instance:ManyK Tryz.prog 33 4:=⟨Many.of _ Tryz.underlying33 rfl Yl⟩
instance:ManyK Tryz.prog 38 12:=⟨Many.of _ Tryz.underlying38 rfl Yl⟩
instance:ManyK Tryz.prog 32 21:=⟨Many.of _ Tryz.underlying32 rfl Yl⟩
instance:ManyK Tryz.prog 44 296:=⟨Many.of _ Tryz.underlying44 rfl Yl⟩
instance:ManyK Tryz.prog 98 16:=⟨Many.of _ Tryz.underlying98 rfl Yl⟩
instance:ManyK Tryz.prog 102 4:=⟨Many.of _ Tryz.underlying102 rfl Yl⟩
instance:OneK Tryz.prog 3:=⟨⟨λw=>by go_simp,λw=>Yh⟩⟩
instance:OneK Tryz.prog 4:=⟨⟨λw=>by go_simp,λw=>Yh⟩⟩
instance:OneK Tryz.prog 72:=⟨⟨λw=>by go_simp,λw=>Yh⟩⟩
instance:OneK Tryz.prog 39:=⟨⟨λw=>by go_simp,λw=>Yh⟩⟩
instance:OneK Tryz.prog 65:=⟨⟨λw=>by go_simp,λw=>Yh⟩⟩
instance:OneK Tryz.prog 5:=⟨⟨λw=>by go_simp,λw=>Yh⟩⟩
instance:OneK Tryz.prog 101:=⟨⟨λw=>by go_simp,λw=>Yh⟩⟩
instance:OneK Tryz.prog 50:=⟨⟨λw=>by go_simp,λw=>Yh⟩⟩
instance:OneK Tryz.prog 28:=⟨⟨λw=>by go_simp,λw=>Yh⟩⟩
instance:OneK Tryz.prog 48:=⟨⟨λw=>by go_simp,λw=>Yh⟩⟩
instance:OneK Tryz.prog 22:=⟨⟨λw=>by go_simp,λw=>Yh⟩⟩
instance:OneK Tryz.prog 96:=⟨⟨λw=>by go_simp,λw=>Yh⟩⟩
instance:OneK Tryz.prog 91:=⟨⟨λw=>by go_simp,λw=>Yh⟩⟩
instance:ArrK Tryz.prog 37 3 3:=⟨Tryz.underlying37⟩
instance:ArrK Tryz.prog 34 4 3:=⟨Tryz.underlying34⟩
instance:ArrK Tryz.prog 33 4 4:=⟨Tryz.underlying33⟩
instance:ArrK Tryz.prog 38 4 37:=⟨Tryz.underlying38⟩
instance:ArrK Tryz.prog 32 3 31:=⟨Tryz.underlying32⟩
instance:ArrK Tryz.prog 44 4 43:=⟨Tryz.underlying44⟩
instance:ArrK Tryz.prog 98 4 79:=⟨Tryz.underlying98⟩
instance:ArrK Tryz.prog 102 4 101:=⟨Tryz.underlying102⟩
instance:SlcK Tryz.prog 72 3:=⟨Tryz.underlying72⟩
instance:LenK Tryz.prog 72:=⟨λho hx w=>by
 unfold execOp;rw[ho];dsimp only;go_simp⟩
instance:SlcK Tryz.prog 39 4:=⟨Tryz.underlying39⟩
instance:LenK Tryz.prog 39:=⟨λho hx w=>by
 unfold execOp;rw[ho];dsimp only;go_simp⟩
instance:SlcK Tryz.prog 65 5:=⟨Tryz.underlying65⟩
instance:LenK Tryz.prog 65:=⟨λho hx w=>by
 unfold execOp;rw[ho];dsimp only;go_simp⟩
instance:SlcK Tryz.prog 101 79:=⟨Tryz.underlying101⟩
instance:LenK Tryz.prog 101:=⟨λho hx w=>by
 unfold execOp;rw[ho];dsimp only;go_simp⟩
instance:SlcK Tryz.prog 50 81:=⟨Tryz.underlying50⟩
instance:LenK Tryz.prog 50:=⟨λho hx w=>by
 unfold execOp;rw[ho];dsimp only;go_simp⟩
instance:SlcK Tryz.prog 28 52:=⟨Tryz.underlying28⟩
instance:LenK Tryz.prog 28:=⟨λho hx w=>by
 unfold execOp;rw[ho];dsimp only;go_simp⟩
instance:SlcK Tryz.prog 48 57:=⟨Tryz.underlying48⟩
instance:LenK Tryz.prog 48:=⟨λho hx w=>by
 unfold execOp;rw[ho];dsimp only;go_simp⟩
instance:SlcK Tryz.prog 93 96:=⟨Tryz.underlying93⟩
instance:LenK Tryz.prog 93:=⟨λho hx w=>by
 unfold execOp;rw[ho];dsimp only;go_simp⟩
instance:EntK Tryz.prog 8:=⟨λargs w=>Yh⟩
instance:EntK Tryz.prog 10:=⟨λargs w=>Yh⟩
instance:EntK Tryz.prog 31:=⟨λargs w=>Yh⟩
instance:EntK Tryz.prog 32:=⟨λargs w=>Yh⟩
instance:EntK Tryz.prog 33:=⟨λargs w=>Yh⟩
instance:EntK Tryz.prog 34:=⟨λargs w=>Yh⟩
instance:EntK Tryz.prog 35:=⟨λargs w=>Yh⟩
instance:EntK Tryz.prog 36:=⟨λargs w=>Yh⟩
instance:EntK Tryz.prog 74:=⟨λargs w=>Yh⟩
instance:EntK Tryz.prog 131:=⟨λargs w=>Yh⟩
instance:EntK Tryz.prog 132:=⟨λargs w=>Yh⟩
instance:EntK Tryz.prog 191:=⟨λargs w=>Yh⟩
instance:EntK Tryz.prog 30:=⟨λargs w=>Yh⟩
instance:EntK Tryz.prog 69:=⟨λargs w=>Yh⟩
instance:EntK Tryz.prog 70:=⟨λargs w=>Yh⟩
instance:EntK Tryz.prog 71:=⟨λargs w=>Yh⟩
instance:EntK Tryz.prog 72:=⟨λargs w=>Yh⟩
instance:EntK Tryz.prog 73:=⟨λargs w=>Yh⟩
instance:EntK Tryz.prog 76:=⟨λargs w=>Yh⟩
instance:EntK Tryz.prog 82:=⟨λargs w=>Yh⟩
instance:EntK Tryz.prog 226:=⟨λargs w=>Yh⟩
instance:EntK Tryz.prog 67:=⟨λargs w=>Yh⟩
instance:EntK Tryz.prog 180:=⟨λargs w=>Yh⟩
instance:EntK Tryz.prog 189:=⟨λargs w=>Yh⟩
instance:EntK Tryz.prog 11:=⟨λargs w=>Yh⟩
instance:EntK Tryz.prog 68:=⟨λargs w=>Yh⟩
instance:EntK Tryz.prog 75:=⟨λargs w=>Yh⟩
instance:EntK Tryz.prog 19:=⟨λargs w=>Yh⟩
instance:EntK Tryz.prog 46:=⟨λargs w=>Yh⟩
instance:EntK Tryz.prog 53:=⟨λargs w=>Yh⟩
instance:EntK Tryz.prog 24:=⟨λargs w=>Yh⟩
instance:EntK Tryz.prog 52:=⟨λargs w=>Yh⟩
instance:EntK Tryz.prog 23:=⟨λargs w=>Yh⟩
instance:EntK Tryz.prog 98:=⟨λargs w=>Yh⟩
instance:EntK Tryz.prog 54:=⟨λargs w=>Yh⟩
instance:EntK Tryz.prog 55:=⟨λargs w=>Yh⟩
instance:EntK Tryz.prog 56:=⟨λargs w=>Yh⟩
instance:EntK Tryz.prog 57:=⟨λargs w=>Yh⟩
instance:EntK Tryz.prog 58:=⟨λargs w=>Yh⟩
instance:EntK Tryz.prog 59:=⟨λargs w=>Yh⟩
instance:Zer1 Tryz.prog 48 (.slice none 0 0):=⟨λw=>by kernel_rfl,rfl⟩
instance:Zer1 Tryz.prog 101 (.slice none 0 0):=⟨λw=>by kernel_rfl,rfl⟩
instance:Zer1 Tryz.prog 3 (.int .i64 0):=⟨λw=>by kernel_rfl,rfl⟩
instance:Zer1 Tryz.prog 4 (.bool false):=⟨λw=>by kernel_rfl,rfl⟩
instance:Zer1 Tryz.prog 28 (.slice none 0 0):=⟨λw=>by kernel_rfl,rfl⟩
instance:Zer1 Tryz.prog 72 (.slice none 0 0):=⟨λw=>by kernel_rfl,rfl⟩
instance:ZerK Tryz.prog 43 74 (ndF dW (.slice none 0 0)):=⟨λw=>Yl⟩
instance:ZerK Tryz.prog 79 4 (qN 0 0 0 (.slice none 0 0)):=⟨λw=>Yl⟩
instance:ZerK Tryz.prog 37 3 (λ_=>iV 0):=⟨λw=>Yl⟩
instance:ZerK Tryz.prog 34 4 (λ_=>iV 0):=⟨λw=>Yl⟩
instance:ZerK Tryz.prog 38 12 (λ_=>iV 0):=⟨λw=>Yl⟩
instance:InfK Tryz.prog 39 4 1 1:=⟨Tryz.underlying39,by
 have h:(Tryz.prog.info? 4).map (λi=>(i.size,i.bytes,i.zero.map λz=>z.cells.size))=some (1,1,some 1):=by kernel_rfl
 obtain⟨i,hi,e⟩:=Option.map_eq_some_iff.1 h
 cases hz:i.zero with
 |none=>rw[hz] at e;simp at e
 |some z=>
  rw[hz] at e;simp only[Prod.mk.injEq,Option.map_some,Option.some.injEq] at e;exact⟨i,z,hi,hz,e.1,e.2.1,e.2.2⟩,by decide⟩
instance:InfK Tryz.prog 72 3 1 8:=⟨Tryz.underlying72,by
 have h:(Tryz.prog.info? 3).map (λi=>(i.size,i.bytes,i.zero.map λz=>z.cells.size))=some (1,8,some 1):=by kernel_rfl
 obtain⟨i,hi,e⟩:=Option.map_eq_some_iff.1 h
 cases hz:i.zero with
 |none=>rw[hz] at e;simp at e
 |some z=>
  rw[hz] at e;simp only[Prod.mk.injEq,Option.map_some,Option.some.injEq] at e;exact⟨i,z,hi,hz,e.1,e.2.1,e.2.2⟩,by decide⟩
instance:InfK Tryz.prog 65 5 1 1:=⟨Tryz.underlying65,by
 have h:(Tryz.prog.info? 5).map (λi=>(i.size,i.bytes,i.zero.map λz=>z.cells.size))=some (1,1,some 1):=by kernel_rfl
 obtain⟨i,hi,e⟩:=Option.map_eq_some_iff.1 h
 cases hz:i.zero with
 |none=>rw[hz] at e;simp at e
 |some z=>
  rw[hz] at e;simp only[Prod.mk.injEq,Option.map_some,Option.some.injEq] at e;exact⟨i,z,hi,hz,e.1,e.2.1,e.2.2⟩,by decide⟩
instance:InfK Tryz.prog 101 79 4 48:=⟨Tryz.underlying101,by
 have h:(Tryz.prog.info? 79).map (λi=>(i.size,i.bytes,i.zero.map λz=>z.cells.size))=some (4,48,some 4):=by kernel_rfl
 obtain⟨i,hi,e⟩:=Option.map_eq_some_iff.1 h
 cases hz:i.zero with
 |none=>rw[hz] at e;simp at e
 |some z=>
  rw[hz] at e;simp only[Prod.mk.injEq,Option.map_some,Option.some.injEq] at e;exact⟨i,z,hi,hz,e.1,e.2.1,e.2.2⟩,by decide⟩
instance:InfK Tryz.prog 50 81 3 40:=⟨Tryz.underlying50,by
 have h:(Tryz.prog.info? 81).map (λi=>(i.size,i.bytes,i.zero.map λz=>z.cells.size))=some (3,40,some 3):=by kernel_rfl
 obtain⟨i,hi,e⟩:=Option.map_eq_some_iff.1 h
 cases hz:i.zero with
 |none=>rw[hz] at e;simp at e
 |some z=>
  rw[hz] at e;simp only[Prod.mk.injEq,Option.map_some,Option.some.injEq] at e;exact⟨i,z,hi,hz,e.1,e.2.1,e.2.2⟩,by decide⟩
instance:InfK Tryz.prog 28 52 14 128:=⟨Tryz.underlying28,by
 have h:(Tryz.prog.info? 52).map (λi=>(i.size,i.bytes,i.zero.map λz=>z.cells.size))=some (14,128,some 14):=by kernel_rfl
 obtain⟨i,hi,e⟩:=Option.map_eq_some_iff.1 h
 cases hz:i.zero with
 |none=>rw[hz] at e;simp at e
 |some z=>
  rw[hz] at e;simp only[Prod.mk.injEq,Option.map_some,Option.some.injEq] at e;exact⟨i,z,hi,hz,e.1,e.2.1,e.2.2⟩,by decide⟩
instance:InfK Tryz.prog 48 57 14 80:=⟨Tryz.underlying48,by
 have h:(Tryz.prog.info? 57).map (λi=>(i.size,i.bytes,i.zero.map λz=>z.cells.size))=some (14,80,some 14):=by kernel_rfl
 obtain⟨i,hi,e⟩:=Option.map_eq_some_iff.1 h
 cases hz:i.zero with
 |none=>rw[hz] at e;simp at e
 |some z=>
  rw[hz] at e;simp only[Prod.mk.injEq,Option.map_some,Option.some.injEq] at e;exact⟨i,z,hi,hz,e.1,e.2.1,e.2.2⟩,by decide⟩
variable{f:Operand->Value}{o:Oper}
theorem nQ{b:Bool}(x y:Operand)(ho:o.op=.binOp .neq 22 x y 22){u v:Int}(hx:f x=.int .i64 u)(hy:f y=.int .i64 v)(hb:decide (u≠v)=b)(w:World):(execOp f o).run Tryz.prog w=.ok (.value (.bool b)) w:=by
 have e:(u !=v)=b:=by rw[<-hb,Bool.eq_iff_iff];simp
 unfold execOp;rw[ho];dsimp only;rw[hx,hy];go_simp
theorem AU(o:Nat):∀(l:List Value) (k:Nat) (ds:Array Value),o+k+l.length<=ds.size->((l.zipIdx k).foldl (λa p=>a.setIfInBounds (o+p.2) p.1) ds).size=ds.size/\∀i,((l.zipIdx k).foldl (λa p=>a.setIfInBounds (o+p.2) p.1) ds)[i]?=if o+k<=i/\i<o+k+l.length then l[i-(o+k)]? else ds[i]?
 |[],k,ds,_=>⟨rfl,λi=>by rw[if_neg (by simp only[List.length_nil];omega)];rfl⟩
 |v::l,k,ds,h=>by
  rw[List.length_cons] at h;obtain⟨h1,h2⟩:=AU o l (k+1) (ds.setIfInBounds (o+k) v) (by rw[Array.size_setIfInBounds];omega);rw[Array.size_setIfInBounds] at h1;refine⟨h1,λi=>?_⟩;show ((l.zipIdx (k+1)).foldl (λa p=>a.setIfInBounds (o+p.2) p.1) (ds.setIfInBounds (o+k) v))[i]?=_
  rw[h2 i,List.length_cons];by_cases c:o+(k+1)<=i/\i<o+(k+1)+l.length
  .rw[if_pos c,if_pos Yo,show i-(o+k)=(i-(o+(k+1)))+1 by omega,List.getElem?_cons_succ]
  .rw[if_neg c];by_cases d:i=o+k
   .subst d;rw[if_pos Yo,Nat.sub_self,Array.getElem?_setIfInBounds,if_pos rfl,if_pos Yo];rfl
   .rw[if_neg Yo,Array.getElem?_setIfInBounds,if_neg (λe=>d e.symm)]
section
variable {P:Program} {Q:Exit->Act->World->Prop} {o:Oper} {a:Act} {K:Act->World->Prop} {w:World}
theorem VO{s e:TypeId}{x:Operand}{n:Nat}{f z:Nat->Value}(hu:P.underlying s=some (.slice e))(T:Many P e n)(hz:∀w,(zeroValue e).run P w=.ok (aP z 0 n) w)(hn:n<=16777216)(hp:0<n)(ho:o.op=.buildSlice s 1 #[(0,x)])(hx:a.eval x=aP f 0 n)(h:∀w',Vh e w' w.heap.size n n f->Below w.heap.size w w'->w'.heap.size=w.heap.size+1->K (a.put o.dst (.slice (some ⟨w.heap.size,0,none⟩) 1 1)) w'):WpI P o a w K Q:=by
 refine⟨?_⟩;have hh:=h (w.alloc (.cells ((List.range n).map f).toArray e)) (Vh.of_row f n Ym (by show (w.heap.push _)[w.heap.size]?=_;rw[Array.getElem?_push_size])) (bK _ _) (dG _ _);have hc:(aP f 0 n).cells=((List.range n).map f).toArray:=by
  unfold aP;show ((List.range n).map λj=>f (0+j)).toArray=_
  congr 1
  exact List.map_congr_left λj _=>by rw[Nat.zero_add]
 have hf:∀ds:Array Value,ds.size=n->Instr.fill (λi=>some (i*n,n)) ds [(0,aP f 0 n)]=some ((List.range n).map f).toArray:=λds hds=>by
  unfold Instr.fill;simp only[hc,List.size_toArray,List.length_map,List.length_range,Nat.zero_mul,Nat.zero_add,hds,ne_eq,not_true_eq_false,decide_false,Bool.false_or,decide_eq_true_eq];rw[if_neg Yo];unfold Instr.fill
  congr 1
  obtain⟨h1,h2⟩:=AU 0 ((List.range n).map f) 0 ds (by rw[List.length_map,List.length_range];omega);have e1:Array.foldl (λcs x=>cs.setIfInBounds x.2 x.1) ds ((List.range n).map f).toArray.zipIdx=(((List.range n).map f).zipIdx 0).foldl (λa p=>a.setIfInBounds (0+p.2) p.1) ds:=by
   rw[<-Array.foldl_toList];simp
  rw[e1];refine Array.ext_getElem? (λi=>?_);rw[h2 i,List.length_map,List.length_range];by_cases c:i<n
  .rw[if_pos Yo];simp
  .rw[if_neg Yo,Array.getElem?_eq_none (show ds.size<=i by omega),Array.getElem?_eq_none (by simpa using c)]
 unfold Oper.wp execOp;simp only[ho,List.map_toArray,List.map_cons,List.map_nil,hx,Instr.buildSlice,Sem.run_bind,run_underlying hu,Result.andThen_ok,T.size,Nat.one_mul,gt_iff_lt];rw[if_neg Yo,if_neg Yo];simp only[Sem.run_bind,hz,Result.andThen_ok,Sem.run_pure];rw[hf _ (by simp)];simp only[newRow,newObj];go_simp
 exact hh
end
def kG{α:Type}(F:α->Nat->Value)(s:Nat)(L:List α):List Value:=L.flatMap λx=>(List.range s).map (F x)
section
variable {α:Type} {F:α->Nat->Value} {s:Nat}
theorem GY(L M:List α):kG F s (L++M)=kG F s L++kG F s M:=List.flatMap_append
theorem GZ(L:List α):(kG F s L).length=L.length*s:=by
 induction L with
 |nil=>show 0=0*s;omega
 |cons x L ih=>
  show ((List.range s).map (F x)++kG F s L).length=(L.length+1)*s
  rw[List.length_append,ih,List.length_map,List.length_range,Nat.succ_mul];omega
variable{L:List α}
theorem IA(h:∀x,x∈L->∀k,k<s->(F x k).oneCell'=true):∀u,u∈kG F s L->u.oneCell'=true:=λu hu=>by
 obtain⟨x,hx,hu⟩:=List.mem_flatMap.1 hu;obtain⟨k,hk,rfl⟩:=List.mem_map.1 hu;exact h x hx k (List.mem_range.1 hk)
theorem PZ:∀(L:List α) (i:Nat) (x:α),L[i]?=some x->∀k,k<s->(kG F s L)[i*s+k]?=some (F x k)
 |[],i,x,h,_,_=>by simp at h
 |y::L,0,x,h,k,hk=>by
  obtain rfl:y=x:=by simpa using h
  show ((List.range s).map (F y)++kG F s L)[0*s+k]?=_
  rw[Nat.zero_mul,Nat.zero_add,List.getElem?_append_left (by rw[List.length_map,List.length_range];exact hk),List.getElem?_map,List.getElem?_range hk];rfl
 |y::L,i+1,x,h,k,hk=>by
  show ((List.range s).map (F y)++kG F s L)[(i+1)*s+k]?=_
  have e:(i+1)*s+k-s=i*s+k:=by rw[Nat.succ_mul];omega
  rw[List.getElem?_append_right (by rw[List.length_map,List.length_range,Nat.succ_mul];omega),List.length_map,List.length_range,e];exact PZ L i x (by simpa using h) k hk
variable{e:TypeId}{w:World}
theorem QA{b B:Nat}{x:α}(h:Vh e w b s s (F x))(hb:B<=b):w.ownsRow B e s (.slice (some ⟨b,0,none⟩) 1 1) 1 (kG F s [x]):=by
 obtain⟨cur,h1,h2,h3,h4,h5⟩:=h;refine⟨by rw[GZ];rfl,Or.inr ⟨b,1,cur,rfl,hb,h1,Xr _,by decide,Yo,?_⟩⟩;apply List.ext_getElem?;intro i;rw[List.getElem?_take];by_cases hi:i<1*s
 .rw[if_pos hi,Array.getElem?_toList,h5 i Yo];have:=PZ (F:=F) (s:=s) [x] 0 x rfl i Yo;rw[Nat.zero_mul,Nat.zero_add] at this;exact this.symm
 .rw[if_neg hi,List.getElem?_eq_none (by rw[GZ];exact Nat.le_of_not_lt hi)]
theorem aBZ{B n:Nat}{v:Value}(h:w.ownsRow B e s v n (kG F s L))(hp:0<L.length)(hs:0<s):∃g cap,v=.slice (some ⟨g,0,none⟩) n cap/\B<=g/\∀i x,L[i]?=some x->∀k,k<s->w.cell? ⟨g,0+i*s+k,none⟩=some (F x k):=by
 have hl:=h.1;rw[GZ] at hl;rcases h.2 with ⟨rfl,rfl⟩|⟨g,cap,cur,rfl,hb,hg,hc,hm,hsz,hcur⟩
 .have:=Nat.mul_pos hp hs;omega
 .refine⟨g,cap,rfl,hb,λi x hi k hk=>?_⟩;have:=h.cells (g:=g) rfl (i*s+k) (F x k) (PZ L i x hi k hk);rw[add_at, <-Nat.add_assoc] at this;exact this
end
variable{Q:Exit->Act->World->Prop}
theorem VN{P:Program}{a:Act}{K:Act->World->Prop}{w:World}{s e:TypeId}{x:Operand}{v z:Value}(hu:P.underlying s=some (.slice e))(T:OneC P e)(hz:∀w,(zeroValue e).run P w=.ok z w)(h1:z.cells=#[z])(h2:v.cells=#[v])(ho:o.op=.buildSlice s 1 #[(0,x)])(hx:a.eval x=v)(h:∀w',Vh e w' w.heap.size 1 1 (λ_=>v)->Below w.heap.size w w'->w'.heap.size=w.heap.size+1->K (a.put o.dst (.slice (some ⟨w.heap.size,0,none⟩) 1 1)) w'):WpI P o a w K Q:=by
 refine⟨?_⟩;have hh:=h (w.alloc (.cells #[v] e)) (Vh.of_row (λ_=>v) 1 Yc (by show (w.heap.push _)[w.heap.size]?=_;rw[Array.getElem?_push_size];rfl)) (bK _ _) (dG _ _);unfold Oper.wp execOp;simp only[ho,List.map_toArray,List.map_cons,List.map_nil,hx,Instr.buildSlice,Sem.run_bind,run_underlying hu,Result.andThen_ok,T.size,Nat.one_mul,gt_iff_lt];rw[if_neg Yc,if_neg Yc];simp only[Sem.run_bind,hz,Result.andThen_ok,Sem.run_pure,h1];have hf:∀ds:Array Value,ds.size=1->Instr.fill (λi=>some (i*1,1)) ds [(0,v)]=some #[v]:=λds hds=>by
  match ds,hds with
  |⟨[d]⟩,_=>simp[Instr.fill,h2]
 rw[hf _ (by simp)];simp only[newRow,newObj];go_simp
 exact hh
theorem bX{g f:Nat->Value}{n:Nat}:∀j,j<n->stP g 0 n f j=f j:=λj hj=>by
 have:=mF g (o:=0) (n:=n) f hj
 rwa [Nat.zero_add] at this
def nC(K F R:Int)(v:Value):Value:=.agg #[.int .i64 K,.int .i64 F,.int .i64 R,v]
def MgAt(w:World)(b:Nat)(K F R:Int)(v:Value):Prop:=w.heap[b]?=some (.cells #[.int .i64 K,.int .i64 F,.int .i64 R,v] 79 (0,0))
section
variable {w w':World} {b:Nat} {K F R:Int} {v:Value}
theorem MgAt.cell0(h:MgAt w b K F R v):w.cell? ⟨b,0,none⟩=some (.int .i64 K):=by unfold MgAt at h;unfold World.cell?;rw[h];rfl
theorem MgAt.cell1(h:MgAt w b K F R v):w.cell? ⟨b,1,none⟩=some (.int .i64 F):=by unfold MgAt at h;unfold World.cell?;rw[h];rfl
theorem MgAt.cell2(h:MgAt w b K F R v):w.cell? ⟨b,2,none⟩=some (.int .i64 R):=by unfold MgAt at h;unfold World.cell?;rw[h];rfl
theorem MgAt.cell3(h:MgAt w b K F R v):w.cell? ⟨b,3,none⟩=some v:=by unfold MgAt at h;unfold World.cell?;rw[h];rfl
theorem MgAt.free(h:MgAt w b K F R v)(i:Nat):w.frozen? ⟨b,i,none⟩=false:=by unfold MgAt at h;simp[World.frozen?,h]
theorem MgAt.lt(h:MgAt w b K F R v):b<w.heap.size:=lt_of_block h
theorem MgAt.same(h:MgAt w b K F R v)(e:w'.heap[b]?=w.heap[b]?):MgAt w' b K F R v:=e.trans h
theorem MgAt.below(h:MgAt w b K F R v)(k:Below w.heap.size w w'):MgAt w' b K F R v:=h.same (k.block b h.lt)
theorem MgAt.under{B:Nat}(h:MgAt w b K F R v)(k:Below B w w')(hb:b<B):MgAt w' b K F R v:=h.same (k.block b hb)
theorem MgAt.kept{z:Nat}(h:MgAt w b K F R v)(k:Kept z w w')(hz:b≠z):MgAt w' b K F R v:=h.same (k.block b h.lt hz)
theorem MgAt.new(w:World)(K F R:Int)(v:Value):MgAt (w.alloc (.cells #[.int .i64 K,.int .i64 F,.int .i64 R,v] 79)) w.heap.size K F R v:=by
 unfold MgAt;show (w.heap.push _)[w.heap.size]?=_
 rw[Array.getElem?_push_size]
theorem MgAt.put(h:MgAt w b K F R v)(K' F' R':Int)(u:Value):∃w',w'=(((w.setCell ⟨b,0,none⟩ (.int .i64 K')).setCell ⟨b,1,none⟩ (.int .i64 F')).setCell ⟨b,2,none⟩ (.int .i64 R')).setCell ⟨b,3,none⟩ u/\MgAt w' b K' F' R' u/\Kept b w w':=by
 refine⟨_,rfl,?_,(((bI w b 0 _).trans (bI _ b 1 _) (Or.inl rfl)).trans (bI _ b 2 _) (Or.inl rfl)).trans (bI _ b 3 _) (Or.inl rfl)⟩;unfold MgAt at h ⊢;have h1:=heap_setCell_same w b 0 _ _ (.int .i64 K') h;have h2:=heap_setCell_same _ b 1 _ _ (.int .i64 F') h1;have h3:=heap_setCell_same _ b 2 _ _ (.int .i64 R') h2;exact heap_setCell_same _ b 3 _ _ u h3
theorem MgAt.put3(h:MgAt w b K F R v)(u:Value):∃w',w'=w.setCell ⟨b,3,none⟩ u/\MgAt w' b K F R u/\Kept b w w':=by
 refine⟨_,rfl,?_,bI w b 3 _⟩;unfold MgAt at h ⊢;exact heap_setCell_same w b 3 _ _ u h
end
theorem rO(w:World)(K F R:Int)(v:Value):∃w1,w1=w.alloc (.cells #[.int .i64 K,.int .i64 F,.int .i64 R,v] 79)/\MgAt w1 w.heap.size K F R v/\Below w.heap.size w w1/\w1.heap.size=w.heap.size+1:=
 ⟨_,rfl,MgAt.new w K F R v,bK w _,dG w _⟩
end Go.Proofs.YthimcecbgpamdaaGreatDoor
