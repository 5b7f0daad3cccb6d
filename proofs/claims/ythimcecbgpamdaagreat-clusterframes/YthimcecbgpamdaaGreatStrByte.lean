import Derived.Test.YthimcecbgpamdaaGreatNear172
namespace Go.Proofs.YthimcecbgpamdaaGreat
open Go.RowKit
def sB(g:Nat->Nat)(n:Nat):ByteArray:=strOfNums ((List.range n).map λi=>(g i:Int))
variable{g:Nat->Nat}{n:Nat}
theorem aHz{f:Nat->Nat}(h:∀i,i<n->g i=f i):sB g n=sB f n:=by
 unfold sB
 congr 1
 apply List.map_congr_left;intro i hi;rw[h i (by simpa using hi)]
theorem aLD{f:Nat->Nat}(hg:∀i,g i<256)(hf:∀i,f i<256)(h:sB g n=sB f n):∀i,i<n->g i=f i:=by
 intro i hi;have h1:=congrArg (λb:ByteArray=>b.data.toList[i]?) h;simp only[sB,strOfNums_data,List.map_map,List.getElem?_map,List.getElem?_range hi,Option.map_some] at h1;have h2:=congrArg UInt8.toNat (Option.some.inj h1);simp only[Function.comp,Int.toNat_natCast,UInt8.toNat_ofNat'] at h2;have:=hg i;have:=hf i;omega
theorem aCV(w:World)(ao:Option Addr)(n c:Nat)(g:Nat->Nat)(hr:Rd w ao n (bF g)):(convert 76 9 (.slice ao n c)).run Tryz.prog w=.ok (.string (sB g n)) w:=by
 rcases Nat.eq_zero_or_pos n with h0|h0
 .subst h0;rw[run_convert_bytes_string w 76 9 5 _ 0 c Tryz.underlying76 Tryz.underlying5 Tryz.underlying9]
  cases ao with
  |none=>simp[Conv.bytesToString];rfl
  |some a=>simp[Conv.bytesToString,loadCells,loadCellsFrom];rfl
 .obtain⟨b,o,rfl,hc⟩:=hr h0;exact run_convert_bytes_arg w 76 5 Tryz.underlying76 Tryz.underlying5 b o n c ((List.range n).map λi=>(g i:Int)) (by simp) (λi hi=>by
   rw[hc i hi];show some (Value.int .u8 (g i:Int))=_
   simp[List.getD,hi]) 9 Tryz.underlying9
variable{o:Oper}{f:Operand->Value}{ao:Option Addr}
theorem OC(x:Operand)(ho:o.op=.convert 76 9 x){c:Nat}(hx:f x=.slice ao n c){w:World}(hr:Rd w ao n (bF g)):(execOp f o).run Tryz.prog w=.ok (.value (.string (sB g n))) w:=by
 have e:=aCV w ao n c g hr;unfold execOp;rw[ho];dsimp only;rw[hx];go_simp
variable{v u:ByteArray}
theorem aDi(x y:Operand)(ho:o.op=.binOp .neq 9 x y 9)(hx:f x=.string u)(hy:f y=.string v)(h:u=v)(w:World):(execOp f o).run Tryz.prog w=.ok (.value (.bool false)) w:=by
 subst h;unfold execOp;rw[ho];dsimp only;rw[hx,hy];go_simp
theorem aDw(x y:Operand)(ho:o.op=.binOp .neq 9 x y 9)(hx:f x=.string u)(hy:f y=.string v)(h:u≠v)(w:World):(execOp f o).run Tryz.prog w=.ok (.value (.bool true)) w:=by
 unfold execOp;rw[ho];dsimp only;rw[hx,hy];go_simp
 rw[ByteArray.toList_eq,ByteArray.toList_eq];intro e;apply h;obtain⟨⟨l⟩⟩:=u;obtain⟨⟨m⟩⟩:=v;have e2:l=m:=e;rw[e2]
variable{v u:Int}
theorem aGJ(x y:Operand)(ho:o.op=.binOp .lss 3 x y 3)(hx:f x=.int .i64 u)(hy:f y=.int .i64 v)(h:u<v)(w:World):(execOp f o).run Tryz.prog w=.ok (.value (.bool true)) w:=Yjq
theorem aFI(x y:Operand)(ho:o.op=.binOp .lss 3 x y 3)(hx:f x=.int .i64 u)(hy:f y=.int .i64 v)(h:¬u<v)(w:World):(execOp f o).run Tryz.prog w=.ok (.value (.bool false)) w:=Yjq
theorem aHW(x y:Operand)(ho:o.op=.binOp .sub 3 x y 3)(hx:f x=.int .i64 u)(hy:f y=.int .i64 v)(h1: -9223372036854775808<=u-v)(h2:u-v<=9223372036854775807)(w:World):(execOp f o).run Tryz.prog w=.ok (.value (.int .i64 (u-v))) w:=by
 unfold execOp;rw[ho];dsimp only;rw[hx,hy];go_simp
 rw[IntKind.wrap_i64];omega
end Go.Proofs.YthimcecbgpamdaaGreat
