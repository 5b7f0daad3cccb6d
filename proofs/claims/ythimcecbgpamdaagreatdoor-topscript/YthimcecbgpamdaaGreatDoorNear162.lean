import Derived.Test.YthimcecbgpamdaaGreatDoorNear209
namespace Go.Proofs.YthimcecbgpamdaaGreatDoor
open Go.RowKit
section
variable {f:Operand->Value} {o:Oper} {x:Operand} {b off:Nat}
theorem NF(ho:o.op=.fieldAddr 43 x 0)(hx:f x=.pointer (some ⟨b,off,none⟩))(w:World):(execOp f o).run Tryz.prog w=.ok (.value (.pointer (some ⟨b,off+0,none⟩))) w:=Yg
theorem aAf(ho:o.op=.fieldAddr 43 x 1)(hx:f x=.pointer (some ⟨b,off,none⟩))(w:World):(execOp f o).run Tryz.prog w=.ok (.value (.pointer (some ⟨b,off+1,none⟩))) w:=Yg
theorem aKz(ho:o.op=.fieldAddr 43 x 2)(hx:f x=.pointer (some ⟨b,off,none⟩))(w:World):(execOp f o).run Tryz.prog w=.ok (.value (.pointer (some ⟨b,off+2,none⟩))) w:=Yg
theorem CY(ho:o.op=.fieldAddr 43 x 3)(hx:f x=.pointer (some ⟨b,off,none⟩))(w:World):(execOp f o).run Tryz.prog w=.ok (.value (.pointer (some ⟨b,off+6,none⟩))) w:=Yg
theorem N8(ho:o.op=.fieldAddr 43 x 4)(hx:f x=.pointer (some ⟨b,off,none⟩))(w:World):(execOp f o).run Tryz.prog w=.ok (.value (.pointer (some ⟨b,off+27,none⟩))) w:=Yg
theorem aAg(ho:o.op=.fieldAddr 43 x 5)(hx:f x=.pointer (some ⟨b,off,none⟩))(w:World):(execOp f o).run Tryz.prog w=.ok (.value (.pointer (some ⟨b,off+39,none⟩))) w:=Yg
theorem aAh(ho:o.op=.fieldAddr 43 x 6)(hx:f x=.pointer (some ⟨b,off,none⟩))(w:World):(execOp f o).run Tryz.prog w=.ok (.value (.pointer (some ⟨b,off+51,none⟩))) w:=Yg
theorem aKA(ho:o.op=.fieldAddr 43 x 7)(hx:f x=.pointer (some ⟨b,off,none⟩))(w:World):(execOp f o).run Tryz.prog w=.ok (.value (.pointer (some ⟨b,off+55,none⟩))) w:=Yg
theorem aKB(ho:o.op=.fieldAddr 43 x 8)(hx:f x=.pointer (some ⟨b,off,none⟩))(w:World):(execOp f o).run Tryz.prog w=.ok (.value (.pointer (some ⟨b,off+67,none⟩))) w:=Yg
theorem aKC(ho:o.op=.fieldAddr 43 x 9)(hx:f x=.pointer (some ⟨b,off,none⟩))(w:World):(execOp f o).run Tryz.prog w=.ok (.value (.pointer (some ⟨b,off+70,none⟩))) w:=Yg
theorem UD(ho:o.op=.fieldAddr 43 x 10)(hx:f x=.pointer (some ⟨b,off,none⟩))(w:World):(execOp f o).run Tryz.prog w=.ok (.value (.pointer (some ⟨b,off+71,none⟩))) w:=Yg
theorem aKv(ho:o.op=.fieldAddr 79 x 0)(hx:f x=.pointer (some ⟨b,off,none⟩))(w:World):(execOp f o).run Tryz.prog w=.ok (.value (.pointer (some ⟨b,off+0,none⟩))) w:=Yg
theorem aKw(ho:o.op=.fieldAddr 79 x 1)(hx:f x=.pointer (some ⟨b,off,none⟩))(w:World):(execOp f o).run Tryz.prog w=.ok (.value (.pointer (some ⟨b,off+1,none⟩))) w:=Yg
theorem aKx(ho:o.op=.fieldAddr 79 x 2)(hx:f x=.pointer (some ⟨b,off,none⟩))(w:World):(execOp f o).run Tryz.prog w=.ok (.value (.pointer (some ⟨b,off+2,none⟩))) w:=Yg
theorem aKy(ho:o.op=.fieldAddr 79 x 3)(hx:f x=.pointer (some ⟨b,off,none⟩))(w:World):(execOp f o).run Tryz.prog w=.ok (.value (.pointer (some ⟨b,off+3,none⟩))) w:=Yg
theorem aKJ(ho:o.op=.fieldAddr 41 x 0)(hx:f x=.pointer (some ⟨b,off,none⟩))(w:World):(execOp f o).run Tryz.prog w=.ok (.value (.pointer (some ⟨b,off+0,none⟩))) w:=Yg
theorem aKK(ho:o.op=.fieldAddr 41 x 1)(hx:f x=.pointer (some ⟨b,off,none⟩))(w:World):(execOp f o).run Tryz.prog w=.ok (.value (.pointer (some ⟨b,off+1,none⟩))) w:=Yg
theorem aKL(ho:o.op=.fieldAddr 41 x 2)(hx:f x=.pointer (some ⟨b,off,none⟩))(w:World):(execOp f o).run Tryz.prog w=.ok (.value (.pointer (some ⟨b,off+2,none⟩))) w:=Yg
theorem NG(ho:o.op=.fieldAddr 36 x 0)(hx:f x=.pointer (some ⟨b,off,none⟩))(w:World):(execOp f o).run Tryz.prog w=.ok (.value (.pointer (some ⟨b,off+0,none⟩))) w:=Yg
theorem aAi(ho:o.op=.fieldAddr 36 x 1)(hx:f x=.pointer (some ⟨b,off,none⟩))(w:World):(execOp f o).run Tryz.prog w=.ok (.value (.pointer (some ⟨b,off+4,none⟩))) w:=Yg
theorem aAj(ho:o.op=.fieldAddr 36 x 2)(hx:f x=.pointer (some ⟨b,off,none⟩))(w:World):(execOp f o).run Tryz.prog w=.ok (.value (.pointer (some ⟨b,off+8,none⟩))) w:=Yg
theorem aAk(ho:o.op=.fieldAddr 31 x 0)(hx:f x=.pointer (some ⟨b,off,none⟩))(w:World):(execOp f o).run Tryz.prog w=.ok (.value (.pointer (some ⟨b,off+0,none⟩))) w:=Yg
theorem aAl(ho:o.op=.fieldAddr 31 x 1)(hx:f x=.pointer (some ⟨b,off,none⟩))(w:World):(execOp f o).run Tryz.prog w=.ok (.value (.pointer (some ⟨b,off+1,none⟩))) w:=Yg
theorem aAm(ho:o.op=.fieldAddr 31 x 2)(hx:f x=.pointer (some ⟨b,off,none⟩))(w:World):(execOp f o).run Tryz.prog w=.ok (.value (.pointer (some ⟨b,off+2,none⟩))) w:=Yg
theorem aAn(ho:o.op=.fieldAddr 31 x 3)(hx:f x=.pointer (some ⟨b,off,none⟩))(w:World):(execOp f o).run Tryz.prog w=.ok (.value (.pointer (some ⟨b,off+3,none⟩))) w:=Yg
theorem aAo(ho:o.op=.fieldAddr 31 x 4)(hx:f x=.pointer (some ⟨b,off,none⟩))(w:World):(execOp f o).run Tryz.prog w=.ok (.value (.pointer (some ⟨b,off+4,none⟩))) w:=Yg
theorem aAp(ho:o.op=.fieldAddr 31 x 5)(hx:f x=.pointer (some ⟨b,off,none⟩))(w:World):(execOp f o).run Tryz.prog w=.ok (.value (.pointer (some ⟨b,off+5,none⟩))) w:=Yg
theorem aAq(ho:o.op=.fieldAddr 31 x 6)(hx:f x=.pointer (some ⟨b,off,none⟩))(w:World):(execOp f o).run Tryz.prog w=.ok (.value (.pointer (some ⟨b,off+6,none⟩))) w:=Yg
theorem aKF(ho:o.op=.fieldAddr 27 x 0)(hx:f x=.pointer (some ⟨b,off,none⟩))(w:World):(execOp f o).run Tryz.prog w=.ok (.value (.pointer (some ⟨b,off+0,none⟩))) w:=Yg
theorem aKG(ho:o.op=.fieldAddr 27 x 1)(hx:f x=.pointer (some ⟨b,off,none⟩))(w:World):(execOp f o).run Tryz.prog w=.ok (.value (.pointer (some ⟨b,off+1,none⟩))) w:=Yg
theorem aKH(ho:o.op=.fieldAddr 27 x 2)(hx:f x=.pointer (some ⟨b,off,none⟩))(w:World):(execOp f o).run Tryz.prog w=.ok (.value (.pointer (some ⟨b,off+2,none⟩))) w:=Yg
theorem aKI(ho:o.op=.fieldAddr 27 x 3)(hx:f x=.pointer (some ⟨b,off,none⟩))(w:World):(execOp f o).run Tryz.prog w=.ok (.value (.pointer (some ⟨b,off+3,none⟩))) w:=Yg
variable{u v:Int}
theorem jO(x y:Operand)(ho:o.op=.binOp .add 3 x y 3)(hx:f x=.int .i64 u)(hy:f y=.int .i64 v)(h1: -9223372036854775808<=u+v)(h2:u+v<=9223372036854775807)(w:World):(execOp f o).run Tryz.prog w=.ok (.value (.int .i64 (u+v))) w:=by
 unfold execOp;rw[ho];dsimp only;rw[hx,hy];go_simp
 rw[IntKind.wrap_i64];omega
theorem A8(x y:Operand)(ho:o.op=.binOp .sub 3 x y 3)(hx:f x=.int .i64 u)(hy:f y=.int .i64 v)(h1: -9223372036854775808<=u-v)(h2:u-v<=9223372036854775807)(w:World):(execOp f o).run Tryz.prog w=.ok (.value (.int .i64 (u-v))) w:=by
 unfold execOp;rw[ho];dsimp only;rw[hx,hy];go_simp
 rw[IntKind.wrap_i64];omega
variable{b:Bool}
theorem iC(x y:Operand)(ho:o.op=.binOp .lss 3 x y 3)(hx:f x=.int .i64 u)(hy:f y=.int .i64 v)(hb:decide (u<v)=b)(w:World):(execOp f o).run Tryz.prog w=.ok (.value (.bool b)) w:=by
 subst hb;unfold execOp;rw[ho];dsimp only;rw[hx,hy];go_simp
theorem fV(x y:Operand)(ho:o.op=.binOp .gtr 3 x y 3)(hx:f x=.int .i64 u)(hy:f y=.int .i64 v)(hb:decide (v<u)=b)(w:World):(execOp f o).run Tryz.prog w=.ok (.value (.bool b)) w:=by
 subst hb;unfold execOp;rw[ho];dsimp only;rw[hx,hy];go_simp
theorem bT(x y:Operand)(ho:o.op=.binOp .eql 3 x y 3)(hx:f x=.int .i64 u)(hy:f y=.int .i64 v)(hb:decide (u=v)=b)(w:World):(execOp f o).run Tryz.prog w=.ok (.value (.bool b)) w:=by
 have e:(u==v)=b:=by rw[<-hb,Bool.eq_iff_iff];simp
 unfold execOp;rw[ho];dsimp only;rw[hx,hy];go_simp
theorem dC(x y:Operand)(ho:o.op=.binOp .neq 3 x y 3)(hx:f x=.int .i64 u)(hy:f y=.int .i64 v)(hb:decide (u≠v)=b)(w:World):(execOp f o).run Tryz.prog w=.ok (.value (.bool b)) w:=by
 have e:(u !=v)=b:=by rw[<-hb,Bool.eq_iff_iff];simp
 unfold execOp;rw[ho];dsimp only;rw[hx,hy];go_simp
end
theorem nT(w:World):(zeroValue 43).run Tryz.prog w=.ok (aP (ndF dW (.slice none 0 0)) 0 74) w:=by
 obtain⟨z,e⟩:∃z,z=aP (ndF dW (.slice none 0 0)) 0 74:=⟨_,rfl⟩;have h:∀w,(zeroValue 43).run Tryz.prog w=.ok z w:=λw=>by rw[e];kernel_rfl
 rw[h w,e]
section
variable {t:TypeId} {B s n z:Nat} {w w':World} {v:Value} {xs:List Value} {r:Option Nat}
theorem bM(h:w.ownsRow B t s v n xs)(k:Below w.heap.size w w'):w'.ownsRow B t s v n xs:=by
 refine⟨h.1,?_⟩;rcases h.2 with hn|⟨g,cap,cur,rfl,hb,hgg,rest⟩
 .exact .inl hn
 .exact .inr ⟨g,cap,cur,rfl,hb,(k.block g (lt_of_block hgg)).trans hgg,rest⟩
theorem bN(h:w.ownsRow B t s v n xs)(k:Kept z w w')(hz:v.ownBlock≠some z):w'.ownsRow B t s v n xs:=by
 refine⟨h.1,?_⟩;rcases h.2 with hn|⟨g,cap,cur,rfl,hb,hgg,rest⟩
 .exact .inl hn
 .exact .inr ⟨g,cap,cur,rfl,hb,(k.block g (lt_of_block hgg) (λe=>hz (by rw[<-e];rfl))).trans hgg,rest⟩
theorem jC(h:w.ownsRow B t s v n xs)(k:Kept z w w')(hz:z<B):w'.ownsRow B t s v n xs:=bN h k (λe=>by have:=(h.lt z e).1;omega)
theorem dJ{C:Nat}(h:w.ownsRow B t s v n xs)(e:C<=B):w.ownsRow C t s v n xs:=by
 refine⟨h.1,?_⟩;rcases h.2 with hn|⟨g,cap,cur,rfl,hb,rest⟩
 .exact .inl hn
 .exact .inr ⟨g,cap,cur,rfl,Nat.le_trans e hb,rest⟩
theorem dY(h:w.ownsRow B t s v n xs):∃ao cap,v=.slice ao n cap/\n<=cap:=by
 rcases h.2 with ⟨rfl,h0⟩|⟨g,cap,cur,rfl,_,_,hc,_⟩
 .exact⟨none,0,by rw[h0],Yo⟩
 .exact⟨_,cap,rfl,hc⟩
end
structure Lm where
 m:Ms
 ao:Option Addr
 cap:Nat
def lmV(c:Lm):Value:=.slice c.ao c.m.L.length c.cap
def qN(K F R:Int)(v:Value)(j:Nat):Value:=if j=0 then iV K else if j=1 then iV F else if j=2 then iV R else v
def sW(c:Lm):Nat->Value:=qN c.m.K c.m.F c.m.R (lmV c)
def LmRd(w:World)(ao:Option Addr)(L:List Lm):Prop:=0<L.length->∃b o,ao=some ⟨b,o,none⟩/\∀i c,L[i]?=some c->∀k,k<4->w.cell? ⟨b,o+i*4+k,none⟩=some (sW c k)
def gL(l:List Int)(i:Nat):Int:=l.getD i 0
def LvRd(w:World)(c:Lm):Prop:=Sr w c.ao c.m.L.length c.cap (iF (gL c.m.L))/\c.m.L.length<=c.cap/\c.m.L.length<=17592186044404
def MRd(w:World)(ao:Option Addr)(L:List Lm):Prop:=LmRd w ao L/\∀c,c∈L->LvRd w c
variable{L:List Lm}{ao:Option Addr}{w w':World}
theorem LmRd.below(h:LmRd w ao L)(k:Below w.heap.size w w'):LmRd w' ao L:=λhl=>by
 obtain⟨b,o,e,hc⟩:=h hl;exact⟨b,o,e,λi c hi j hj=>aU (hc i c hi j hj) k⟩
variable{c:Lm}
theorem LvRd.below(h:LvRd w c)(k:Below w.heap.size w w'):LvRd w' c:=⟨h.1.below k,h.2⟩
theorem MRd.below(h:MRd w ao L)(k:Below w.heap.size w w'):MRd w' ao L:=⟨h.1.below k,λc hc=>(h.2 c hc).below k⟩
def jN(id fr:Int)(s kind:Int)(many:Int)(m:Ms):Bool:=decide (m.F=s)&&decide (m.F≠id)&&decide (m.K=kind)&&decide (m.R=fr)&&decide ((m.L.length:Int)=many)
def fL(id fr:Int)(L:List Lm)(s kind many:Int):Option Lm:=L.find? λc=>jN id fr s kind many c.m
theorem nZ(n:Nd)(L:List Lm)(s:Nat)(kind:Int)(many:Nat):(fL n.id n.fr L s kind many).map (λc=>c.m.L)=iH n (L.map Lm.m) s kind many:=by
 unfold fL iH
 induction L with
 |nil=>rfl
 |cons c L ih=>
  rw[List.map_cons,List.find?_cons,List.find?_cons];have e:jN n.id n.fr s kind many c.m=(decide (c.m.F=(s:Int))&&decide (c.m.F≠n.id)&&decide (c.m.K=kind)&&decide (c.m.R=n.fr)&&decide (c.m.L.length=many)):=by
   unfold jN
   congr 1
   exact decide_eq_decide.2 Yo
  rw[e];split
  .rfl
  .exact ih
variable{f:Operand->Value}{o:Oper}
theorem rY(x y:Operand)(ho:o.op=.indexAddr 101 x y){b off n cap i:Nat}{z:Int}(hx:f x=.slice (some ⟨b,off,none⟩) n cap)(hy:f y=.int .i64 z)(hz:z=(i:Int))(hi:i<n)(w:World):(execOp f o).run Tryz.prog w=.ok (.value (.pointer (some ⟨b,off+i*4,none⟩))) w:=by
 subst hz;have hi2:(i:Int)<n:=Yo;unfold execOp;rw[ho];dsimp only;rw[hx,hy];go_simp
theorem pK(x:Operand)(ho:o.op=.load 79 x){b off:Nat}(hx:f x=.pointer (some ⟨b,off,none⟩))(hc:∀k,k<4->w.cell? ⟨b,off+k,none⟩=some (sW c k)):(execOp f o).run Tryz.prog w=.ok (.value (aP (sW c) 0 4)) w:=by
 have hl:(loadCells ⟨b,off,none⟩ 4).run Tryz.prog w=.ok ((List.range 4).map λj=>sW c (0+j)).toArray w:=
  run_loadCells w ⟨b,off,none⟩ 4 (λj=>sW c (0+j)) (λj hj=>by rw[add_at,Nat.zero_add];exact hc j hj)
 unfold execOp;simp only[ho,hx,Instr.loadAt,Instr.sureAddr,loadVar,Sem.run_bind,Sem.run_pure,Result.andThen_ok,dZ.agg,dZ.size,hl,if_true];rfl
theorem nE(w:World):(zeroValue 79).run Tryz.prog w=.ok (aP (qN 0 0 0 (.slice none 0 0)) 0 4) w:=Yl
theorem fB(g:Nat->Value)(h:Nat->Value):∀j,j<4->stP g 0 4 h j=h j:=λj hj=>by
 have:=mF g (o:=0) (n:=4) h hj
 rwa [Nat.zero_add] at this
theorem qA(c:Lm):∀j,j<4->(sW c j).oneCell'=true:=by
 intro j _;unfold sW qN iV lmV
 repeat' split
 all_goals rfl
theorem aEW(x:Operand)(ho:o.op=.call { callee:=.builtin .len,args:=#[x],argTypes:=#[72] }){n c:Nat}(hx:f x=.slice ao n c)(w:World):(execOp f o).run Tryz.prog w=.ok (.value (.int .i64 ((n:Nat):Int))) w:=by
 unfold execOp;rw[ho];dsimp only;go_simp
theorem aEX(x:Operand)(ho:o.op=.call { callee:=.builtin .len,args:=#[x],argTypes:=#[101] }){n c:Nat}(hx:f x=.slice ao n c)(w:World):(execOp f o).run Tryz.prog w=.ok (.value (.int .i64 ((n:Nat):Int))) w:=by
 unfold execOp;rw[ho];dsimp only;go_simp
def bA(n:Nd)(i:Nat):Bool:=n.vA.getD i false
theorem dX(g:Nat->Value)(h:Nat->Value):∀j,j<74->stP g 0 74 h j=h j:=λj hj=>by
 have:=mF g (o:=0) (n:=74) h hj
 rwa [Nat.zero_add] at this
end Go.Proofs.YthimcecbgpamdaaGreatDoor
namespace Go.Proofs.YthimcecbgpamdaaGreatDoor
theorem gW{f g:Nat->Value}(h:(List.range 74).map f=(List.range 74).map g):∀j,j<74->f j=g j:=by simp_all
theorem ndF_ext{n:Nd}{v:Value}{d d' g g':Nat->Nat->Int}{u u':Nat->Int}{x x':Nat->St}(hd:∀s k,s<4->d s k=d' s k)(hg:∀s k,s<4->k<3->g s k=g' s k)(hu:∀k,k<3->u k=u' k)(hx:∀k,k<3->x k=x' k):ndF { n with di:=d,ag:=g,us:=u,ax:=x } v=ndF { n with di:=d',ag:=g',us:=u',ax:=x' } v:=by grind [ndF]
theorem aLY(n:Nd)(v:Value)(x:Int):∀j,j<74->eQ (ndF n v) (0+1) (.int .i64 x) j=ndF { n with fr:=x } v j:=
 gW rfl
theorem aLX(n:Nd)(v:Value)(d:Nat->Nat->Int):∀j,j<74->stP (ndF n v) (0+39) 12 (λi=>iV (d (i/3) (i%3))) j=ndF { n with di:=d } v j:=
 gW rfl
theorem aLZ(n:Nd)(v:Value)(d:Nat->Int):∀j,j<74->stP (ndF n v) (0+51) 4 (λi=>iV (d i)) j=ndF { n with he:=d } v j:=
 gW rfl
theorem aLW(n:Nd)(v:Value)(x:Int):∀j,j<74->eQ (ndF n v) (0+70) (.int .i64 x) j=ndF { n with dg:=x } v j:=
 gW rfl
theorem upd_rl(n:Nd)(v:Value)(r:Rl):∀j,j<74->stP (ndF n v) (0+27) 12 (dF r) j=ndF { n with rl:=r } v j:=
 gW rfl
theorem upd_vd(n:Nd)(v u:Value)(x:Int)(b:Bool)(l:List Bool):∀j,j<74->stP (ndF n v) (0+71) 3 (λi=>if i=0 then iV x else if i=1 then .bool b else u) j=ndF { n with vX:=x,vS:=b,vA:=l } u j:=
 gW rfl
theorem aJu(n:Nd)(v:Value)(x:Int):∀j,j<74->eQ (ndF n v) (0+51+0*1) (.int .i64 x) j=ndF { n with he:=λs=>if s=0 then x else n.he s } v j:=
 gW rfl
theorem aJv(n:Nd)(v:Value)(x:Int):∀j,j<74->eQ (ndF n v) (0+51+1*1) (.int .i64 x) j=ndF { n with he:=λs=>if s=1 then x else n.he s } v j:=
 gW rfl
theorem aJw(n:Nd)(v:Value)(x:Int):∀j,j<74->eQ (ndF n v) (0+51+2*1) (.int .i64 x) j=ndF { n with he:=λs=>if s=2 then x else n.he s } v j:=
 gW rfl
theorem aJx(n:Nd)(v:Value)(x:Int):∀j,j<74->eQ (ndF n v) (0+51+3*1) (.int .i64 x) j=ndF { n with he:=λs=>if s=3 then x else n.he s } v j:=
 gW rfl
theorem QL(n:Nd)(v:Value)(x:Int)(i:Nat)(hi:i<4):∀j,j<74->eQ (ndF n v) (0+51+i*1) (.int .i64 x) j=ndF { n with he:=λs=>if s=i then x else n.he s } v j:=by
 have:i=0\/i=1\/i=2\/i=3:=Yo;rcases this with rfl|rfl|rfl|rfl
 .exact aJu n v x
 .exact aJv n v x
 .exact aJw n v x
 .exact aJx n v x
theorem aJy(n:Nd)(v:Value)(x:Int):∀j,j<74->eQ (ndF n v) (0+67+0*1) (.int .i64 x) j=ndF { n with us:=λs=>if s=0 then x else n.us s } v j:=
 gW rfl
theorem aJz(n:Nd)(v:Value)(x:Int):∀j,j<74->eQ (ndF n v) (0+67+1*1) (.int .i64 x) j=ndF { n with us:=λs=>if s=1 then x else n.us s } v j:=
 gW rfl
theorem aJA(n:Nd)(v:Value)(x:Int):∀j,j<74->eQ (ndF n v) (0+67+2*1) (.int .i64 x) j=ndF { n with us:=λs=>if s=2 then x else n.us s } v j:=
 gW rfl
theorem aFP(n:Nd)(v:Value)(x:Int)(i:Nat)(hi:i<3):∀j,j<74->eQ (ndF n v) (0+67+i*1) (.int .i64 x) j=ndF { n with us:=λs=>if s=i then x else n.us s } v j:=by
 have:i=0\/i=1\/i=2:=Yo;rcases this with rfl|rfl|rfl
 .exact aJy n v x
 .exact aJz n v x
 .exact aJA n v x
theorem aJq(n:Nd)(v:Value)(d:Nat->Int):∀j,j<74->stP (ndF n v) (0+39+0*3) 3 (λk=>iV (d k)) j=ndF { n with di:=λs a=>if s=0 then d a else n.di s a } v j:=
 gW rfl
theorem aJr(n:Nd)(v:Value)(d:Nat->Int):∀j,j<74->stP (ndF n v) (0+39+1*3) 3 (λk=>iV (d k)) j=ndF { n with di:=λs a=>if s=1 then d a else n.di s a } v j:=
 gW rfl
theorem aJs(n:Nd)(v:Value)(d:Nat->Int):∀j,j<74->stP (ndF n v) (0+39+2*3) 3 (λk=>iV (d k)) j=ndF { n with di:=λs a=>if s=2 then d a else n.di s a } v j:=
 gW rfl
theorem aJt(n:Nd)(v:Value)(d:Nat->Int):∀j,j<74->stP (ndF n v) (0+39+3*3) 3 (λk=>iV (d k)) j=ndF { n with di:=λs a=>if s=3 then d a else n.di s a } v j:=
 gW rfl
theorem QK(n:Nd)(v:Value)(d:Nat->Int)(i:Nat)(hi:i<4):∀j,j<74->stP (ndF n v) (0+39+i*3) 3 (λk=>iV (d k)) j=ndF { n with di:=λs a=>if s=i then d a else n.di s a } v j:=by
 have:i=0\/i=1\/i=2\/i=3:=Yo;rcases this with rfl|rfl|rfl|rfl
 .exact aJq n v d
 .exact aJr n v d
 .exact aJs n v d
 .exact aJt n v d
theorem aJm(n:Nd)(v:Value)(s:St):∀j,j<74->stP (ndF n v) (0+6+0*7) 7 (dK s) j=ndF { n with ax:=λa=>if a=0 then s else n.ax a } v j:=
 gW rfl
theorem aJn(n:Nd)(v:Value)(s:St):∀j,j<74->stP (ndF n v) (0+6+1*7) 7 (dK s) j=ndF { n with ax:=λa=>if a=1 then s else n.ax a } v j:=
 gW rfl
theorem aJo(n:Nd)(v:Value)(s:St):∀j,j<74->stP (ndF n v) (0+6+2*7) 7 (dK s) j=ndF { n with ax:=λa=>if a=2 then s else n.ax a } v j:=
 gW rfl
theorem BO(n:Nd)(v:Value)(s:St)(i:Nat)(hi:i<3):∀j,j<74->stP (ndF n v) (0+6+i*7) 7 (dK s) j=ndF { n with ax:=λa=>if a=i then s else n.ax a } v j:=by
 have:i=0\/i=1\/i=2:=Yo;rcases this with rfl|rfl|rfl
 .exact aJm n v s
 .exact aJn n v s
 .exact aJo n v s
end Go.Proofs.YthimcecbgpamdaaGreatDoor
namespace Go.Proofs.YthimcecbgpamdaaGreatDoor
open Go.RowKit
structure NdOK (n:Nd):Prop where
 id:R64 n.id
 fr:R64 n.fr
 tn:n.tn.Ok
 ax:∀a,(n.ax a).Ok
 rM:∀i,R64 (n.rl.M i)
 rJ:∀i,R64 (n.rl.J i)
 di:∀s a,R64 (n.di s a)
 he:∀s,R64 (n.he s)
 ag:∀s a,R64 (n.ag s a)
 us:∀a,R64 (n.us a)
 dg:R64 n.dg
 vX:R64 n.vX
 vA:n.vA.length<=140737488351232
def xU(w:World)(n:Nd)(ao:Option Addr)(c:Nat):Prop:=Sr w ao n.vA.length c (tF (bA n))
def nU(B:Nat)(w:World)(n:Nd)(ao:Option Addr)(c:Nat):Prop:=w.ownsRow B 4 1 (.slice ao n.vA.length c) n.vA.length (rowV (tF (bA n)) n.vA.length)
def lsV(m:Ms)(v:Value):Value:=aP (qN m.K m.F m.R v) 0 4
def LD(B:Nat)(w:World)(m:Ms)(ao:Option Addr)(c:Nat):Prop:=w.ownsRow B 3 1 (.slice ao m.L.length c) m.L.length (rowV (iF (gL m.L)) m.L.length)
def aNm(fn:Nat):Prop:=∀(n:Nd) (ao:Option Addr) (c:Nat) (frame:Int) (rd:Nat->Int) (w:World),NdOK n->xU w n ao c->R64 frame->(∀a,R64 (rd a))->
 Calls Tryz.prog fn #[lS n (.slice ao n.vA.length c),.int .i64 frame,aP (λa=>iV (rd a)) 0 3] w λe w'=>∃a' c' a2 c2,e=.returned (.tuple #[lS (pO n frame rd) (.slice a' n.vA.length c'),lsV (oN n frame rd) (.slice a2 (oN n frame rd).L.length c2)])/\nU w.heap.size w' n a' c'/\LD w.heap.size w' (oN n frame rd) a2 c2/\Below w.heap.size w w'
def FI(N:Nd->List Ms->Nd)(M:Nd->List Ms->Ms)(fn:Nat):Prop:=∀(n:Nd) (ao:Option Addr) (c:Nat) (mo:Option Addr) (mc:Nat) (L:List Lm) (w:World),NdOK n->xU w n ao c->MRd w mo L->L.length<=140737488351232->L.length<=mc->(∀m,m∈L->∀i,R64 (gL m.m.L i))->
 Calls Tryz.prog fn #[lS n (.slice ao n.vA.length c),.slice mo L.length mc] w λe w'=>∃a' c' a2 c2,e=.returned (.tuple #[lS (N n (L.map Lm.m)) (.slice a' (N n (L.map Lm.m)).vA.length c'),lsV (M n (L.map Lm.m)) (.slice a2 (M n (L.map Lm.m)).L.length c2)])/\nU w.heap.size w' (N n (L.map Lm.m)) a' c'/\LD w.heap.size w' (M n (L.map Lm.m)) a2 c2/\Below w.heap.size w w'
theorem aCC(w:World):(zeroValue 38).run Tryz.prog w=.ok (aP (λ_=>iV 0) 0 12) w:=Yl
section
variable {f:Operand->Value} {o:Oper}
theorem rU(ho:o.op=.build 79 #[])(w:World):(execOp f o).run Tryz.prog w=.ok (.value (aP (qN 0 0 0 (.slice none 0 0)) 0 4)) w:=by
 unfold execOp;rw[ho];go_simp
 rfl
variable{ao:Option Addr}
theorem PR(a b c d:Operand)(ho:o.op=.build 79 #[(0,a),(1,b),(2,c),(3,d)]){K F R:Int}{n q:Nat}(h0:f a=.int .i64 K)(h1:f b=.int .i64 F)(h2:f c=.int .i64 R)(h3:f d=.slice ao n q)(w:World):(execOp f o).run Tryz.prog w=.ok (.value (aP (qN K F R (.slice ao n q)) 0 4)) w:=by
 unfold execOp;rw[ho];go_simp
 rfl
theorem aEH(ho:o.op=.build 34 #[])(w:World):(execOp f o).run Tryz.prog w=.ok (.value (aP (λ_=>iV 0) 0 4)) w:=by
 unfold execOp;rw[ho];go_simp
 rfl
end
variable{K:Act->World->Prop}{Q:Exit->Act->World->Prop}{a:Act}{o:Oper}
theorem aJS(w:World)(x y z:Operand)(ho:o.op=.buildSlice 72 3 #[(0,x),(1,y),(2,z)]){g:Nat->Int}(hx:a.eval x=.int .i64 (g 0))(hy:a.eval y=.int .i64 (g 1))(hz:a.eval z=.int .i64 (g 2))(h:∀w',Vh 3 w' w.heap.size 3 3 (λi=>iV (g i))->Below w.heap.size w w'->w'.heap.size=w.heap.size+1->K (a.put o.dst (.slice (some ⟨w.heap.size,0,none⟩) 3 3)) w'):WpI Tryz.prog o a w K Q:=by
 have hh:=h (w.alloc (.cells #[.int .i64 (g 0),.int .i64 (g 1),.int .i64 (g 2)] 3)) (Vh.of_row (λi=>iV (g i)) 3 Yc (by show (w.heap.push _)[w.heap.size]?=_;rw[Array.getElem?_push_size];rfl)) (bK _ _) (dG _ _);have e:(execOp a.eval o).run Tryz.prog w=.ok (.value (.slice (some ⟨w.heap.size,0,none⟩) 3 3)) (w.alloc (.cells #[.int .i64 (g 0),.int .i64 (g 1),.int .i64 (g 2)] 3)):=by
  generalize a.eval=f at hx hy hz;unfold execOp;rw[ho];simp only[List.map_toArray,List.map_cons,List.map_nil];rw[hx,hy,hz];go_simp
 refine⟨?_⟩;unfold Oper.wp;rw[e];exact hh
theorem VP(w:World)(x:Operand)(ho:o.op=.buildSlice 72 1 #[(0,x)]){g:Int}(hx:a.eval x=.int .i64 g)(h:∀w',Vh 3 w' w.heap.size 1 1 (λ_=>iV g)->Below w.heap.size w w'->w'.heap.size=w.heap.size+1->K (a.put o.dst (.slice (some ⟨w.heap.size,0,none⟩) 1 1)) w'):WpI Tryz.prog o a w K Q:=by
 have hh:=h (w.alloc (.cells #[.int .i64 g] 3)) (Vh.of_row (λ_=>iV g) 1 Yc (by show (w.heap.push _)[w.heap.size]?=_;rw[Array.getElem?_push_size];rfl)) (bK _ _) (dG _ _);have e:(execOp a.eval o).run Tryz.prog w=.ok (.value (.slice (some ⟨w.heap.size,0,none⟩) 1 1)) (w.alloc (.cells #[.int .i64 g] 3)):=by
  generalize a.eval=f at hx;unfold execOp;rw[ho];simp only[List.map_toArray,List.map_cons,List.map_nil];rw[hx];go_simp
 refine⟨?_⟩;unfold Oper.wp;rw[e];exact hh
theorem gU(K F R:Int)(ao:Option Addr)(n c:Nat):∀j,j<4->(qN K F R (.slice ao n c) j).oneCell'=true:=by
 intro j _;unfold qN iV
 repeat' split
 all_goals rfl
theorem vP{x:Int}(h:jV x=false):0<=x/\x<=3:=by
 unfold jV at h;simp at h;omega
end Go.Proofs.YthimcecbgpamdaaGreatDoor
