import Derived.Test.YthimcecbgpamdaaGreatVotOps
namespace Go.Proofs.YthimcecbgpamdaaGreat
open Go.RowKit
section
variable {f:Operand->Value} {o:Oper} {x:Operand} {b off:Nat}
theorem AP(ho:o.op=.fieldAddr 37 x 0)(hx:f x=.pointer (some ⟨b,off,none⟩))(w:World):(execOp f o).run Tryz.prog w=.ok (.value (.pointer (some ⟨b,off+0,none⟩))) w:=Yg
theorem WF(ho:o.op=.fieldAddr 37 x 1)(hx:f x=.pointer (some ⟨b,off,none⟩))(w:World):(execOp f o).run Tryz.prog w=.ok (.value (.pointer (some ⟨b,off+1,none⟩))) w:=Yg
theorem aNn(ho:o.op=.fieldAddr 37 x 2)(hx:f x=.pointer (some ⟨b,off,none⟩))(w:World):(execOp f o).run Tryz.prog w=.ok (.value (.pointer (some ⟨b,off+2,none⟩))) w:=Yg
theorem KD(ho:o.op=.fieldAddr 37 x 3)(hx:f x=.pointer (some ⟨b,off,none⟩))(w:World):(execOp f o).run Tryz.prog w=.ok (.value (.pointer (some ⟨b,off+6,none⟩))) w:=Yg
theorem AV(ho:o.op=.fieldAddr 37 x 4)(hx:f x=.pointer (some ⟨b,off,none⟩))(w:World):(execOp f o).run Tryz.prog w=.ok (.value (.pointer (some ⟨b,off+27,none⟩))) w:=Yg
theorem aCv(ho:o.op=.fieldAddr 37 x 5)(hx:f x=.pointer (some ⟨b,off,none⟩))(w:World):(execOp f o).run Tryz.prog w=.ok (.value (.pointer (some ⟨b,off+39,none⟩))) w:=Yg
theorem RL(ho:o.op=.fieldAddr 37 x 6)(hx:f x=.pointer (some ⟨b,off,none⟩))(w:World):(execOp f o).run Tryz.prog w=.ok (.value (.pointer (some ⟨b,off+51,none⟩))) w:=Yg
theorem aNj(ho:o.op=.fieldAddr 37 x 7)(hx:f x=.pointer (some ⟨b,off,none⟩))(w:World):(execOp f o).run Tryz.prog w=.ok (.value (.pointer (some ⟨b,off+55,none⟩))) w:=Yg
theorem aLY(ho:o.op=.fieldAddr 37 x 8)(hx:f x=.pointer (some ⟨b,off,none⟩))(w:World):(execOp f o).run Tryz.prog w=.ok (.value (.pointer (some ⟨b,off+67,none⟩))) w:=Yg
theorem aMy(ho:o.op=.fieldAddr 37 x 9)(hx:f x=.pointer (some ⟨b,off,none⟩))(w:World):(execOp f o).run Tryz.prog w=.ok (.value (.pointer (some ⟨b,off+70,none⟩))) w:=Yg
theorem aAe(ho:o.op=.fieldAddr 37 x 10)(hx:f x=.pointer (some ⟨b,off,none⟩))(w:World):(execOp f o).run Tryz.prog w=.ok (.value (.pointer (some ⟨b,off+71,none⟩))) w:=Yg
theorem aMX(ho:o.op=.fieldAddr 67 x 0)(hx:f x=.pointer (some ⟨b,off,none⟩))(w:World):(execOp f o).run Tryz.prog w=.ok (.value (.pointer (some ⟨b,off+0,none⟩))) w:=Yg
theorem aMP(ho:o.op=.fieldAddr 67 x 1)(hx:f x=.pointer (some ⟨b,off,none⟩))(w:World):(execOp f o).run Tryz.prog w=.ok (.value (.pointer (some ⟨b,off+1,none⟩))) w:=Yg
theorem aNz(ho:o.op=.fieldAddr 67 x 2)(hx:f x=.pointer (some ⟨b,off,none⟩))(w:World):(execOp f o).run Tryz.prog w=.ok (.value (.pointer (some ⟨b,off+2,none⟩))) w:=Yg
theorem aNx(ho:o.op=.fieldAddr 67 x 3)(hx:f x=.pointer (some ⟨b,off,none⟩))(w:World):(execOp f o).run Tryz.prog w=.ok (.value (.pointer (some ⟨b,off+3,none⟩))) w:=Yg
theorem aNu(ho:o.op=.fieldAddr 35 x 0)(hx:f x=.pointer (some ⟨b,off,none⟩))(w:World):(execOp f o).run Tryz.prog w=.ok (.value (.pointer (some ⟨b,off+0,none⟩))) w:=Yg
theorem aNi(ho:o.op=.fieldAddr 35 x 1)(hx:f x=.pointer (some ⟨b,off,none⟩))(w:World):(execOp f o).run Tryz.prog w=.ok (.value (.pointer (some ⟨b,off+1,none⟩))) w:=Yg
theorem aNc(ho:o.op=.fieldAddr 35 x 2)(hx:f x=.pointer (some ⟨b,off,none⟩))(w:World):(execOp f o).run Tryz.prog w=.ok (.value (.pointer (some ⟨b,off+2,none⟩))) w:=Yg
theorem VA(ho:o.op=.fieldAddr 30 x 0)(hx:f x=.pointer (some ⟨b,off,none⟩))(w:World):(execOp f o).run Tryz.prog w=.ok (.value (.pointer (some ⟨b,off+0,none⟩))) w:=Yg
theorem aEq(ho:o.op=.fieldAddr 30 x 1)(hx:f x=.pointer (some ⟨b,off,none⟩))(w:World):(execOp f o).run Tryz.prog w=.ok (.value (.pointer (some ⟨b,off+4,none⟩))) w:=Yg
theorem aET(ho:o.op=.fieldAddr 30 x 2)(hx:f x=.pointer (some ⟨b,off,none⟩))(w:World):(execOp f o).run Tryz.prog w=.ok (.value (.pointer (some ⟨b,off+8,none⟩))) w:=Yg
theorem aDj(ho:o.op=.fieldAddr 25 x 0)(hx:f x=.pointer (some ⟨b,off,none⟩))(w:World):(execOp f o).run Tryz.prog w=.ok (.value (.pointer (some ⟨b,off+0,none⟩))) w:=Yg
theorem aEI(ho:o.op=.fieldAddr 25 x 1)(hx:f x=.pointer (some ⟨b,off,none⟩))(w:World):(execOp f o).run Tryz.prog w=.ok (.value (.pointer (some ⟨b,off+1,none⟩))) w:=Yg
theorem aES(ho:o.op=.fieldAddr 25 x 2)(hx:f x=.pointer (some ⟨b,off,none⟩))(w:World):(execOp f o).run Tryz.prog w=.ok (.value (.pointer (some ⟨b,off+2,none⟩))) w:=Yg
theorem aDI(ho:o.op=.fieldAddr 25 x 3)(hx:f x=.pointer (some ⟨b,off,none⟩))(w:World):(execOp f o).run Tryz.prog w=.ok (.value (.pointer (some ⟨b,off+3,none⟩))) w:=Yg
theorem aDd(ho:o.op=.fieldAddr 25 x 4)(hx:f x=.pointer (some ⟨b,off,none⟩))(w:World):(execOp f o).run Tryz.prog w=.ok (.value (.pointer (some ⟨b,off+4,none⟩))) w:=Yg
theorem aEy(ho:o.op=.fieldAddr 25 x 5)(hx:f x=.pointer (some ⟨b,off,none⟩))(w:World):(execOp f o).run Tryz.prog w=.ok (.value (.pointer (some ⟨b,off+5,none⟩))) w:=Yg
theorem aDD(ho:o.op=.fieldAddr 25 x 6)(hx:f x=.pointer (some ⟨b,off,none⟩))(w:World):(execOp f o).run Tryz.prog w=.ok (.value (.pointer (some ⟨b,off+6,none⟩))) w:=Yg
theorem aMQ(ho:o.op=.fieldAddr 23 x 0)(hx:f x=.pointer (some ⟨b,off,none⟩))(w:World):(execOp f o).run Tryz.prog w=.ok (.value (.pointer (some ⟨b,off+0,none⟩))) w:=Yg
theorem aMz(ho:o.op=.fieldAddr 23 x 1)(hx:f x=.pointer (some ⟨b,off,none⟩))(w:World):(execOp f o).run Tryz.prog w=.ok (.value (.pointer (some ⟨b,off+1,none⟩))) w:=Yg
theorem aNw(ho:o.op=.fieldAddr 23 x 2)(hx:f x=.pointer (some ⟨b,off,none⟩))(w:World):(execOp f o).run Tryz.prog w=.ok (.value (.pointer (some ⟨b,off+2,none⟩))) w:=Yg
theorem aNm(ho:o.op=.fieldAddr 23 x 3)(hx:f x=.pointer (some ⟨b,off,none⟩))(w:World):(execOp f o).run Tryz.prog w=.ok (.value (.pointer (some ⟨b,off+3,none⟩))) w:=Yg
variable{v u:Int}
theorem uQ(x y:Operand)(ho:o.op=.binOp .add 3 x y 3)(hx:f x=.int .i64 u)(hy:f y=.int .i64 v)(h1: -9223372036854775808<=u+v)(h2:u+v<=9223372036854775807)(w:World):(execOp f o).run Tryz.prog w=.ok (.value (.int .i64 (u+v))) w:=by
 unfold execOp;rw[ho];dsimp only;rw[hx,hy];go_simp
 rw[IntKind.wrap_i64];omega
theorem rZ(x y:Operand)(ho:o.op=.binOp .sub 3 x y 3)(hx:f x=.int .i64 u)(hy:f y=.int .i64 v)(h1: -9223372036854775808<=u-v)(h2:u-v<=9223372036854775807)(w:World):(execOp f o).run Tryz.prog w=.ok (.value (.int .i64 (u-v))) w:=by
 unfold execOp;rw[ho];dsimp only;rw[hx,hy];go_simp
 rw[IntKind.wrap_i64];omega
variable{b:Bool}
theorem fO(x y:Operand)(ho:o.op=.binOp .lss 3 x y 3)(hx:f x=.int .i64 u)(hy:f y=.int .i64 v)(hb:decide (u<v)=b)(w:World):(execOp f o).run Tryz.prog w=.ok (.value (.bool b)) w:=by
 subst hb;unfold execOp;rw[ho];dsimp only;rw[hx,hy];go_simp
theorem fF(x y:Operand)(ho:o.op=.binOp .gtr 3 x y 3)(hx:f x=.int .i64 u)(hy:f y=.int .i64 v)(hb:decide (v<u)=b)(w:World):(execOp f o).run Tryz.prog w=.ok (.value (.bool b)) w:=by
 subst hb;unfold execOp;rw[ho];dsimp only;rw[hx,hy];go_simp
theorem bL(x y:Operand)(ho:o.op=.binOp .eql 3 x y 3)(hx:f x=.int .i64 u)(hy:f y=.int .i64 v)(hb:decide (u=v)=b)(w:World):(execOp f o).run Tryz.prog w=.ok (.value (.bool b)) w:=by
 have e:(u==v)=b:=by rw[<-hb,Bool.eq_iff_iff];simp
 unfold execOp;rw[ho];dsimp only;rw[hx,hy];go_simp
theorem dY(x y:Operand)(ho:o.op=.binOp .neq 3 x y 3)(hx:f x=.int .i64 u)(hy:f y=.int .i64 v)(hb:decide (u≠v)=b)(w:World):(execOp f o).run Tryz.prog w=.ok (.value (.bool b)) w:=by
 have e:(u !=v)=b:=by rw[<-hb,Bool.eq_iff_iff];simp
 unfold execOp;rw[ho];dsimp only;rw[hx,hy];go_simp
end
theorem nD(w:World):(zeroValue 37).run Tryz.prog w=.ok (aN (ndF dI (.slice none 0 0)) 0 74) w:=by
 obtain⟨z,e⟩:∃z,z=aN (ndF dI (.slice none 0 0)) 0 74:=⟨_,rfl⟩;have h:∀w,(zeroValue 37).run Tryz.prog w=.ok z w:=λw=>by rw[e];kernel_rfl
 rw[h w,e]
section
variable {t:TypeId} {B s n z:Nat} {w w':World} {v:Value} {xs:List Value} {r:Option Nat}
theorem bK(h:w.ownsRow B t s v n xs)(k:Below w.heap.size w w'):w'.ownsRow B t s v n xs:=by
 refine⟨h.1,?_⟩;rcases h.2 with hn|⟨g,cap,cur,rfl,hb,hgg,rest⟩
 .exact .inl hn
 .exact .inr ⟨g,cap,cur,rfl,hb,(k.block g (lt_of_block hgg)).trans hgg,rest⟩
theorem bR(h:w.ownsRow B t s v n xs)(k:Kept z w w')(hz:v.ownBlock≠some z):w'.ownsRow B t s v n xs:=by
 refine⟨h.1,?_⟩;rcases h.2 with hn|⟨g,cap,cur,rfl,hb,hgg,rest⟩
 .exact .inl hn
 .exact .inr ⟨g,cap,cur,rfl,hb,(k.block g (lt_of_block hgg) (λe=>hz (by rw[<-e];rfl))).trans hgg,rest⟩
theorem gT(h:w.ownsRow B t s v n xs)(k:Kept z w w')(hz:z<B):w'.ownsRow B t s v n xs:=bR h k (λe=>by have:=(h.lt z e).1;omega)
theorem bY{C:Nat}(h:w.ownsRow B t s v n xs)(e:C<=B):w.ownsRow C t s v n xs:=by
 refine⟨h.1,?_⟩;rcases h.2 with hn|⟨g,cap,cur,rfl,hb,rest⟩
 .exact .inl hn
 .exact .inr ⟨g,cap,cur,rfl,Nat.le_trans e hb,rest⟩
theorem dP(h:w.ownsRow B t s v n xs):∃ao cap,v=.slice ao n cap/\n<=cap:=by
 rcases h.2 with ⟨rfl,h0⟩|⟨g,cap,cur,rfl,_,_,hc,_⟩
 .exact⟨none,0,by rw[h0],Yo⟩
 .exact⟨_,cap,rfl,hc⟩
end
variable{w' w:World}{n:Nat}
theorem aMt{t:TypeId}{A B s:Nat}{v:Value}{xs:List Value}(h:w.ownsRow A t s v n xs)(k:Below B w w')(hb:∀b,v.ownBlock=some b->b<B):w'.ownsRow A t s v n xs:=by
 refine⟨h.1,?_⟩;rcases h.2 with hn|⟨g,cap,cur,rfl,hg,hgg,rest⟩
 .exact .inl hn
 .exact .inr ⟨g,cap,cur,rfl,hg,(k.block g (hb g rfl)).trans hgg,rest⟩
structure Lm where
 m:Ms
 ao:Option Addr
 cap:Nat
def lmV(c:Lm):Value:=.slice c.ao c.m.L.length c.cap
def msF(K F R:Int)(v:Value)(j:Nat):Value:=if j=0 then iV K else if j=1 then iV F else if j=2 then iV R else v
def tJ(c:Lm):Nat->Value:=msF c.m.K c.m.F c.m.R (lmV c)
def LmRd(w:World)(ao:Option Addr)(L:List Lm):Prop:=0<L.length->∃b o,ao=some ⟨b,o,none⟩/\∀i c,L[i]?=some c->∀k,k<4->w.cell? ⟨b,o+i*4+k,none⟩=some (tJ c k)
def gL(l:List Int)(i:Nat):Int:=l.getD i 0
def LvRd(w:World)(c:Lm):Prop:=Sr w c.ao c.m.L.length c.cap (iF (gL c.m.L))/\c.m.L.length<=c.cap/\c.m.L.length<=17592186044404
def MRd(w:World)(ao:Option Addr)(L:List Lm):Prop:=LmRd w ao L/\∀c,c∈L->LvRd w c
variable{ao:Option Addr}{L:List Lm}
theorem LmRd.below(h:LmRd w ao L)(k:Below w.heap.size w w'):LmRd w' ao L:=λhl=>by
 obtain⟨b,o,e,hc⟩:=h hl;exact⟨b,o,e,λi c hi j hj=>aM (hc i c hi j hj) k⟩
variable{c:Lm}
theorem LvRd.below(h:LvRd w c)(k:Below w.heap.size w w'):LvRd w' c:=⟨h.1.below k,h.2⟩
theorem MRd.below(h:MRd w ao L)(k:Below w.heap.size w w'):MRd w' ao L:=⟨h.1.below k,λc hc=>(h.2 c hc).below k⟩
def iG(id fr:Int)(s kind:Int)(many:Int)(m:Ms):Bool:=decide (m.F=s)&&decide (m.F≠id)&&decide (m.K=kind)&&decide (m.R=fr)&&decide ((m.L.length:Int)=many)
def fL(id fr:Int)(L:List Lm)(s kind many:Int):Option Lm:=L.find? λc=>iG id fr s kind many c.m
theorem qO(n:Nd)(L:List Lm)(s:Nat)(kind:Int)(many:Nat):(fL n.id n.fr L s kind many).map (λc=>c.m.L)=xK n (L.map Lm.m) s kind many:=by
 unfold fL xK
 induction L with
 |nil=>rfl
 |cons c L ih=>
  rw[List.map_cons,List.find?_cons,List.find?_cons];have e:iG n.id n.fr s kind many c.m=(decide (c.m.F=(s:Int))&&decide (c.m.F≠n.id)&&decide (c.m.K=kind)&&decide (c.m.R=n.fr)&&decide (c.m.L.length=many)):=by
   unfold iG
   congr 1
   exact decide_eq_decide.2 Yo
  rw[e];split
  .rfl
  .exact ih
variable{o:Oper}{f:Operand->Value}
theorem lV(x y:Operand)(ho:o.op=.indexAddr 71 x y){b off cap i:Nat}{z:Int}(hx:f x=.slice (some ⟨b,off,none⟩) n cap)(hy:f y=.int .i64 z)(hz:z=(i:Int))(hi:i<n)(w:World):(execOp f o).run Tryz.prog w=.ok (.value (.pointer (some ⟨b,off+i*4,none⟩))) w:=by
 subst hz;have hi2:(i:Int)<n:=Yo;unfold execOp;rw[ho];dsimp only;rw[hx,hy];go_simp
theorem kJ(x:Operand)(ho:o.op=.load 67 x){b off:Nat}(hx:f x=.pointer (some ⟨b,off,none⟩))(hc:∀k,k<4->w.cell? ⟨b,off+k,none⟩=some (tJ c k)):(execOp f o).run Tryz.prog w=.ok (.value (aN (tJ c) 0 4)) w:=by
 have hl:(loadCells ⟨b,off,none⟩ 4).run Tryz.prog w=.ok ((List.range 4).map λj=>tJ c (0+j)).toArray w:=
  run_loadCells w ⟨b,off,none⟩ 4 (λj=>tJ c (0+j)) (λj hj=>by rw[add_at,Nat.zero_add];exact hc j hj)
 unfold execOp;simp only[ho,hx,Instr.loadAt,Instr.sureAddr,loadVar,Sem.run_bind,Sem.run_pure,Result.andThen_ok,dQ.agg,dQ.size,hl,if_true];rfl
theorem jH(w:World):(zeroValue 67).run Tryz.prog w=.ok (aN (msF 0 0 0 (.slice none 0 0)) 0 4) w:=Yl
theorem dZ(g:Nat->Value)(h:Nat->Value):∀j,j<4->stP g 0 4 h j=h j:=λj hj=>by
 have:=nR g (o:=0) (n:=4) h hj
 rwa [Nat.zero_add] at this
theorem kX(c:Lm):∀j,j<4->(tJ c j).oneCell'=true:=by
 intro j _;unfold tJ msF iV lmV
 repeat' split
 all_goals rfl
theorem aGD(x:Operand)(ho:o.op=.call { callee:=.builtin .len,args:=#[x],argTypes:=#[65] }){c:Nat}(hx:f x=.slice ao n c)(w:World):(execOp f o).run Tryz.prog w=.ok (.value (.int .i64 ((n:Nat):Int))) w:=by
 unfold execOp;rw[ho];dsimp only;go_simp
theorem VC(x:Operand)(ho:o.op=.call { callee:=.builtin .len,args:=#[x],argTypes:=#[71] }){c:Nat}(hx:f x=.slice ao n c)(w:World):(execOp f o).run Tryz.prog w=.ok (.value (.int .i64 ((n:Nat):Int))) w:=by
 unfold execOp;rw[ho];dsimp only;go_simp
theorem aJT{id fr s kind many:Int}(h:∀(j:Nat) (c:Lm),L[j]?=some c->iG id fr s kind many c.m=false):fL id fr L s kind many=none:=by
 unfold fL;rw[List.find?_eq_none];intro c hc;obtain⟨j,hj⟩:=List.getElem?_of_mem hc;rw[h j c hj];decide
theorem aKf{id fr s kind many:Int}{i:Nat}(hc:L[i]?=some c)(h:∀(j:Nat) (c:Lm),j<i->L[j]?=some c->iG id fr s kind many c.m=false)(hy:iG id fr s kind many c.m=true):fL id fr L s kind many=some c:=by
 unfold fL
 induction L generalizing i with
 |nil=>simp at hc
 |cons x L ih=>
  rw[List.find?_cons]
  cases i with
  |zero=>simp at hc;subst hc;rw[hy]
  |succ i=>
   rw[h 0 x Yo rfl];exact ih (by simpa using hc) (λj c hj hjc=>h (j+1) c Yo (by simpa using hjc))
def fstV:Option Lm->Value
 |some c=>.tuple #[lmV c,.bool true]
 |none=>.tuple #[.slice none 0 0,.bool false]
set_option maxHeartbeats 1000000 in
theorem mP(n:Nd)(v:Value)(ao:Option Addr)(cap:Nat)(L:List Lm)(s kind many:Int)(w:World)(hr:MRd w ao L)(hN:L.length<=140737488351232):Calls Tryz.prog 44 #[iI n v,.slice ao L.length cap,.int .i64 s,.int .i64 kind,.int .i64 many] w λe w'=>e=.returned (fstV (fL n.id n.fr L s kind many))/\Below w.heap.size w w':=by
 refine bO Tryz.func44 rfl 54 rfl Yd (λA hs hd hb=>?_);have b0:=hb 0 _ rfl;have b1:=hb 1 _ rfl;have b2:=hb 2 _ rfl;have b3:=hb 3 _ rfl;have b4:=hb 4 _ rfl;clear hb;refine aD (aG ?_);refine Zb (λw1 m1 k1 z1=>?_);iterate 2 refine Yx ?_
 refine aC<|aH<|aD<|Yx ?_;refine Yq (VC _ rfl Yf _) ?_;refine Yx ?_;refine aC<|aK<|bX (λr a W=>∃i:Nat,i<=L.length/\L.length-i<=r/\a.tmps.size=54/\a.defers=[]/\a.eval (.tmp 2)=.int .i64 s/\a.eval (.tmp 3)=.int .i64 kind/\a.eval (.tmp 4)=.int .i64 many/\a.eval (.tmp 5)=.pointer (some ⟨w.heap.size,0,none⟩)/\a.eval (.tmp 14)=.slice ao L.length cap/\a.eval (.tmp 15)=.int .i64 (L.length:Int)/\a.eval (.tmp 16)=.int .i64 (i:Int)/\(∀j c,j<i->L[j]?=some c->iG n.id n.fr s kind many c.m=false)/\Vh 37 W w.heap.size 74 74 (ndF n v)/\Below w.heap.size w W) L.length ⟨0,Xz _,Yo,YA,YB,Yb,Yb,Yb,Yf,Yf,Yf,Yf,λj c h=>absurd h Yo,m1,k1⟩ (λr B W hI=>?_);clear b0 b1 b2 b3 b4 hs hd m1;obtain⟨i,hi,hr2,hs,hd,b2,b3,b4,b5,b14,b15,b16,hne,mn,kB⟩:=hI;have hW:=mn.lt;by_cases hin:i<L.length
 .have hc:=List.getElem?_eq_getElem hin;obtain⟨c,ec⟩:∃c,c=L[i]:=⟨_,rfl⟩;rw[<-ec] at hc;obtain⟨bl,of,rfl,hq⟩:=(hr.below kB).1 Yo;have hcell:=hq i c hc;have w1:=W;clear w1;by_cases h1:c.m.F=s
  .by_cases h2:c.m.F≠n.id
   .by_cases h3:c.m.K=kind
    .by_cases h4:c.m.R=n.fr
     .by_cases h5:(c.m.L.length:Int)=many
      .refine aD (aG ?_);refine Yx ?_;refine aC<|aH (bE Yf (aU ?_));refine aH (aK ?_);refine aD<|Yq (lV _ _ rfl Yb Yb rfl hin _) ?_;refine Yq (kJ _ rfl Yf hcell) ?_;refine Za jH (λw2 m2 k2 z2=>?_);have mn2:=mn.below k2;refine Zs dQ m2 (kX _) (λw3 mm3 k3 z3=>?_);have mm3:=Vh.congr mm3 (dZ _ _);have mn3:=mn2.kept k3 Yo;refine aC<|aD ?_;iterate 3 refine Yx ?_
       refine Yq (bL (b:=true) _ _ rfl Yf Yf (Xt h1) _) ?_;iterate 5 refine Yx ?_
       refine Yq (dY (b:=true) _ _ rfl Yf Yf (Xt h2) _) ?_;refine Yq (aL _ _ _ rfl Yf Yf _) ?_;iterate 4 refine Yx ?_
       refine Yq (bL (b:=true) _ _ rfl Yf Yf (Xt h3) _) ?_;refine Yq (aL _ _ _ rfl Yf Yf _) ?_;iterate 5 refine Yx ?_
       refine Yq (bL (b:=true) _ _ rfl Yf Yf (Xt h4) _) ?_;refine Yq (aL _ _ _ rfl Yf Yf _) ?_;iterate 5 refine Yx ?_
       refine Yq (bL (b:=true) _ _ rfl Yf Yf (Xt h5) _) ?_;refine Yq (aL _ _ _ rfl Yf Yf _) ?_;refine aC<|bE Yf ?_;refine aD ?_;iterate 4 refine Yx ?_
       refine aC<|aW ?_;simp only[Nx,Exit.inBlock,Exit.then];refine aP YB (aDA rfl Yf Yf) ⟨?_,aF (kB.trans (k2.mono kB.size)) k3 kB.size (Nat.le_trans kB.size k2.size)⟩;rw[aKf hc hne (by unfold iG;rw[Xt h1,Xt h2,Xt h3,Xt h4,Xt h5];rfl)];rfl
      .refine aD (aG ?_);refine Yx ?_;refine aC<|aH (bE Yf (aU ?_));refine aH (aK ?_);refine aD<|Yq (lV _ _ rfl Yb Yb rfl hin _) ?_;refine Yq (kJ _ rfl Yf hcell) ?_;refine Za jH (λw2 m2 k2 z2=>?_);have mn2:=mn.below k2;refine Zs dQ m2 (kX _) (λw3 mm3 k3 z3=>?_);have mm3:=Vh.congr mm3 (dZ _ _);have mn3:=mn2.kept k3 Yo;refine aC<|aD ?_;iterate 3 refine Yx ?_
       refine Yq (bL (b:=true) _ _ rfl Yf Yf (Xt h1) _) ?_;iterate 5 refine Yx ?_
       refine Yq (dY (b:=true) _ _ rfl Yf Yf (Xt h2) _) ?_;refine Yq (aL _ _ _ rfl Yf Yf _) ?_;iterate 4 refine Yx ?_
       refine Yq (bL (b:=true) _ _ rfl Yf Yf (Xt h3) _) ?_;refine Yq (aL _ _ _ rfl Yf Yf _) ?_;iterate 5 refine Yx ?_
       refine Yq (bL (b:=true) _ _ rfl Yf Yf (Xt h4) _) ?_;refine Yq (aL _ _ _ rfl Yf Yf _) ?_;iterate 5 refine Yx ?_
       refine Yq (bL (b:=false) _ _ rfl Yf Yf (Xf h5) _) ?_;refine Yq (aL _ _ _ rfl Yf Yf _) ?_;refine aC<|bH Yf (fM ?_);refine aI ?_;iterate 2 refine Yx ?_
       refine aS ⟨L.length-(i+1),Yo,i+1,Yo,Yo,YA,YB,Yb,Yb,Yb,Yb,Yb,Yb,(Ye rfl).trans YC,?_,mn3,aF (kB.trans (k2.mono kB.size)) k3 kB.size (Nat.le_trans kB.size k2.size)⟩;exact λj c' hj hc'=>by
        by_cases e:j=i
        .subst e;rw[hc] at hc'
         cases hc'
         unfold iG;rw[Xf h5];simp
        .exact hne j c' Yo hc'
     .refine aD (aG ?_);refine Yx ?_;refine aC<|aH (bE Yf (aU ?_));refine aH (aK ?_);refine aD<|Yq (lV _ _ rfl Yb Yb rfl hin _) ?_;refine Yq (kJ _ rfl Yf hcell) ?_;refine Za jH (λw2 m2 k2 z2=>?_);have mn2:=mn.below k2;refine Zs dQ m2 (kX _) (λw3 mm3 k3 z3=>?_);have mm3:=Vh.congr mm3 (dZ _ _);have mn3:=mn2.kept k3 Yo;refine aC<|aD ?_;iterate 3 refine Yx ?_
      refine Yq (bL (b:=true) _ _ rfl Yf Yf (Xt h1) _) ?_;iterate 5 refine Yx ?_
      refine Yq (dY (b:=true) _ _ rfl Yf Yf (Xt h2) _) ?_;refine Yq (aL _ _ _ rfl Yf Yf _) ?_;iterate 4 refine Yx ?_
      refine Yq (bL (b:=true) _ _ rfl Yf Yf (Xt h3) _) ?_;refine Yq (aL _ _ _ rfl Yf Yf _) ?_;iterate 5 refine Yx ?_
      refine Yq (bL (b:=false) _ _ rfl Yf Yf (Xf h4) _) ?_;refine Yq (aL _ _ _ rfl Yf Yf _) ?_;refine Yx ?_;iterate 5 refine Yu ?_
      refine Yq (aO _ _ _ rfl Yf (aJ _ _) _) ?_;refine aC<|bH Yf (fM ?_);refine aI ?_;iterate 2 refine Yx ?_
      refine aS ⟨L.length-(i+1),Yo,i+1,Yo,Yo,YA,YB,Yb,Yb,Yb,Yb,Yb,Yb,(Ye rfl).trans YC,?_,mn3,aF (kB.trans (k2.mono kB.size)) k3 kB.size (Nat.le_trans kB.size k2.size)⟩;exact λj c' hj hc'=>by
       by_cases e:j=i
       .subst e;rw[hc] at hc'
        cases hc'
        unfold iG;rw[Xf h4];simp
       .exact hne j c' Yo hc'
    .refine aD (aG ?_);refine Yx ?_;refine aC<|aH (bE Yf (aU ?_));refine aH (aK ?_);refine aD<|Yq (lV _ _ rfl Yb Yb rfl hin _) ?_;refine Yq (kJ _ rfl Yf hcell) ?_;refine Za jH (λw2 m2 k2 z2=>?_);have mn2:=mn.below k2;refine Zs dQ m2 (kX _) (λw3 mm3 k3 z3=>?_);have mm3:=Vh.congr mm3 (dZ _ _);have mn3:=mn2.kept k3 Yo;refine aC<|aD ?_;iterate 3 refine Yx ?_
     refine Yq (bL (b:=true) _ _ rfl Yf Yf (Xt h1) _) ?_;iterate 5 refine Yx ?_
     refine Yq (dY (b:=true) _ _ rfl Yf Yf (Xt h2) _) ?_;refine Yq (aL _ _ _ rfl Yf Yf _) ?_;iterate 4 refine Yx ?_
     refine Yq (bL (b:=false) _ _ rfl Yf Yf (Xf h3) _) ?_;refine Yq (aL _ _ _ rfl Yf Yf _) ?_;refine Yx ?_;iterate 5 refine Yu ?_
     refine Yq (aO _ _ _ rfl Yf (aJ _ _) _) ?_;refine Yx ?_;iterate 5 refine Yu ?_
     refine Yq (aO _ _ _ rfl Yf (aJ _ _) _) ?_;refine aC<|bH Yf (fM ?_);refine aI ?_;iterate 2 refine Yx ?_
     refine aS ⟨L.length-(i+1),Yo,i+1,Yo,Yo,YA,YB,Yb,Yb,Yb,Yb,Yb,Yb,(Ye rfl).trans YC,?_,mn3,aF (kB.trans (k2.mono kB.size)) k3 kB.size (Nat.le_trans kB.size k2.size)⟩;exact λj c' hj hc'=>by
      by_cases e:j=i
      .subst e;rw[hc] at hc'
       cases hc'
       unfold iG;rw[Xf h3];simp
      .exact hne j c' Yo hc'
   .refine aD (aG ?_);refine Yx ?_;refine aC<|aH (bE Yf (aU ?_));refine aH (aK ?_);refine aD<|Yq (lV _ _ rfl Yb Yb rfl hin _) ?_;refine Yq (kJ _ rfl Yf hcell) ?_;refine Za jH (λw2 m2 k2 z2=>?_);have mn2:=mn.below k2;refine Zs dQ m2 (kX _) (λw3 mm3 k3 z3=>?_);have mm3:=Vh.congr mm3 (dZ _ _);have mn3:=mn2.kept k3 Yo;refine aC<|aD ?_;iterate 3 refine Yx ?_
    refine Yq (bL (b:=true) _ _ rfl Yf Yf (Xt h1) _) ?_;iterate 5 refine Yx ?_
    refine Yq (dY (b:=false) _ _ rfl Yf Yf (Xf h2) _) ?_;refine Yq (aL _ _ _ rfl Yf Yf _) ?_;refine Yx ?_;iterate 4 refine Yu ?_
    refine Yq (aO _ _ _ rfl Yf (aJ _ _) _) ?_;refine Yx ?_;iterate 5 refine Yu ?_
    refine Yq (aO _ _ _ rfl Yf (aJ _ _) _) ?_;refine Yx ?_;iterate 5 refine Yu ?_
    refine Yq (aO _ _ _ rfl Yf (aJ _ _) _) ?_;refine aC<|bH Yf (fM ?_);refine aI ?_;iterate 2 refine Yx ?_
    refine aS ⟨L.length-(i+1),Yo,i+1,Yo,Yo,YA,YB,Yb,Yb,Yb,Yb,Yb,Yb,(Ye rfl).trans YC,?_,mn3,aF (kB.trans (k2.mono kB.size)) k3 kB.size (Nat.le_trans kB.size k2.size)⟩;exact λj c' hj hc'=>by
     by_cases e:j=i
     .subst e;rw[hc] at hc'
      cases hc'
      unfold iG;rw[Xf h2];simp
     .exact hne j c' Yo hc'
  .refine aD (aG ?_);refine Yx ?_;refine aC<|aH (bE Yf (aU ?_));refine aH (aK ?_);refine aD<|Yq (lV _ _ rfl Yb Yb rfl hin _) ?_;refine Yq (kJ _ rfl Yf hcell) ?_;refine Za jH (λw2 m2 k2 z2=>?_);have mn2:=mn.below k2;refine Zs dQ m2 (kX _) (λw3 mm3 k3 z3=>?_);have mm3:=Vh.congr mm3 (dZ _ _);have mn3:=mn2.kept k3 Yo;refine aC<|aD ?_;iterate 3 refine Yx ?_
   refine Yq (bL (b:=false) _ _ rfl Yf Yf (Xf h1) _) ?_;refine Yx ?_;iterate 5 refine Yu ?_
   refine Yq (aO _ _ _ rfl Yf (aJ _ _) _) ?_;refine Yx ?_;iterate 4 refine Yu ?_
   refine Yq (aO _ _ _ rfl Yf (aJ _ _) _) ?_;refine Yx ?_;iterate 5 refine Yu ?_
   refine Yq (aO _ _ _ rfl Yf (aJ _ _) _) ?_;refine Yx ?_;iterate 5 refine Yu ?_
   refine Yq (aO _ _ _ rfl Yf (aJ _ _) _) ?_;refine aC<|bH Yf (fM ?_);refine aI ?_;iterate 2 refine Yx ?_
   refine aS ⟨L.length-(i+1),Yo,i+1,Yo,Yo,YA,YB,Yb,Yb,Yb,Yb,Yb,Yb,(Ye rfl).trans YC,?_,mn3,aF (kB.trans (k2.mono kB.size)) k3 kB.size (Nat.le_trans kB.size k2.size)⟩;exact λj c' hj hc'=>by
    by_cases e:j=i
    .subst e;rw[hc] at hc'
     cases hc'
     unfold iG;rw[Xf h1];simp
    .exact hne j c' Yo hc'
 .have hin2:¬(i:Int)<(L.length:Int):=Yo;refine aD (aG ?_);refine Yx ?_;refine aC<|aH (bH Yf (bQ (dU ?_)));refine aD ?_;iterate 2 refine Yx ?_
  refine aC<|aW<|aP YB (aDA rfl Yf Yf) ⟨?_,kB⟩;rw[aJT (λj c hj=>hne j c (by have:=(List.getElem?_eq_some_iff.1 hj).1;omega) hj)];rfl
theorem oZ(n:Nd)(v:Value)(w:World):Calls Tryz.prog 43 #[iI n v] w λe w'=>e=.returned (.bool (jJ n.id))/\Below w.heap.size w w':=by
 unfold jJ;by_cases h1:n.id<0
 .rw[Xt h1,Bool.true_or];refine bO Tryz.func43 rfl 11 rfl Yd (λA hs hd hb=>?_);have b0:=hb 0 _ rfl;clear hb;refine aD (aG ?_);refine bI rfl Yw (λK hK=>uM _ _ _ rfl Yb Yc (λw1 m1 k1 z1=>hK _ _ ?_));refine Yq (kR _ rfl rfl _) ?_;refine aC<|aD ?_;iterate 2 refine Yx ?_
  refine Yq (fO (b:=true) _ _ rfl Yf rfl (Xt h1) _) ?_;refine Yx ?_;iterate 3 refine Yu ?_
  refine Yq (aL _ _ _ rfl Yf rfl _) ?_;refine Yx ?_;refine aC ?_;exact aW (aP YB (dW rfl Yf) ⟨rfl,k1⟩)
 .by_cases h2:3<n.id
  .rw[Xf h1,Xt h2,Bool.or_true];refine bO Tryz.func43 rfl 11 rfl Yd (λA hs hd hb=>?_);have b0:=hb 0 _ rfl;clear hb;refine aD (aG ?_);refine bI rfl Yw (λK hK=>uM _ _ _ rfl Yb Yc (λw1 m1 k1 z1=>hK _ _ ?_));refine Yq (kR _ rfl rfl _) ?_;refine aC<|aD ?_;iterate 2 refine Yx ?_
   refine Yq (fO (b:=false) _ _ rfl Yf rfl (Xf h1) _) ?_;iterate 3 refine Yx ?_
   refine Yq (fF (b:=true) _ _ rfl Yf rfl (Xt h2) _) ?_;refine Yq (aO _ _ _ rfl Yf Yf _) ?_;refine Yx ?_;refine aC ?_;exact aW (aP YB (dW rfl Yf) ⟨rfl,k1⟩)
  .rw[Xf h1,Xf h2,Bool.or_false];refine bO Tryz.func43 rfl 11 rfl Yd (λA hs hd hb=>?_);have b0:=hb 0 _ rfl;clear hb;refine aD (aG ?_);refine bI rfl Yw (λK hK=>uM _ _ _ rfl Yb Yc (λw1 m1 k1 z1=>hK _ _ ?_));refine Yq (kR _ rfl rfl _) ?_;refine aC<|aD ?_;iterate 2 refine Yx ?_
   refine Yq (fO (b:=false) _ _ rfl Yf rfl (Xf h1) _) ?_;iterate 3 refine Yx ?_
   refine Yq (fF (b:=false) _ _ rfl Yf rfl (Xf h2) _) ?_;refine Yq (aO _ _ _ rfl Yf Yf _) ?_;refine Yx ?_;refine aC ?_;exact aW (aP YB (dW rfl Yf) ⟨rfl,k1⟩)
def bA(n:Nd)(i:Nat):Bool:=n.vA.getD i false
theorem eX(g:Nat->Value)(h:Nat->Value):∀j,j<74->stP g 0 74 h j=h j:=λj hj=>by
 have:=nR g (o:=0) (n:=74) h hj
 rwa [Nat.zero_add] at this
theorem lT(n:Nd)(ao:Option Addr)(c:Nat)(w:World)(hs0:Sr w ao n.vA.length c (tF (bA n)))(hl:n.vA.length<=140737488351232):Calls Tryz.prog 20 #[iI n (.slice ao n.vA.length c)] w λe w'=>∃a' c',e=.returned (iI n (.slice a' n.vA.length c'))/\w'.ownsRow w.heap.size 4 1 (.slice a' n.vA.length c') n.vA.length (rowV (tF (bA n)) n.vA.length)/\Below w.heap.size w w':=by
 refine bO Tryz.func20 rfl 10 rfl Yd (λA hs hd hb=>?_);have b0:=hb 0 _ rfl;clear hb;refine aD (aG ?_);refine Zb (λw1 m1 k1 z1=>?_);have sr1:=hs0.below k1;refine Za nD (λw2 m2 k2 z2=>?_);have mn2:=m1.below k2;have sr2:=sr1.below k2;refine aC<|aD ?_;iterate 3 refine Yx ?_
 refine bI rfl Yw (λK hK=>?_);refine⟨SA _ _ _ rfl w2.heap.size (Xr _) (.slice none 0 0) 0 [] rfl (World.ownsRow_nil _ _ _ _) ao n.vA.length c (tF (bA n)) Yf sr2 (λi _=>rfl) Yo ?_⟩;intro v3 w3 o3 k3;rw[Nat.zero_add,List.nil_append] at o3;obtain⟨a3,c3,rfl,hc3⟩:=dP o3;have mn3:=mn2.below k3;have mr3:=m2.below k3;refine hK _ _ ?_;clear hK K;iterate 2 refine Yx ?_
 refine jZ Yw (λK hK=>iC _ _ _ _ rfl aBg Yf Yf mn3 Yc rfl rfl rfl (λw4 mm4 k4 z4=>hK _ ?_));have mn4:=Vh.congr mm4 (FR _ _ _);have mr4:=mr3.kept k4 Yo;have ow4:=gT o3 k4 Yo;refine aC<|aD<|Yx ?_;refine Zs bJ mr4 (bP _ _ _ _) (λw5 mm5 k5 z5=>?_);have mr5:=Vh.congr mm5 (eX _ _);have mn5:=mn4.kept k5 Yo;have ow5:=gT ow4 k5 Yo;refine aC<|aW (aP YB (pQ rfl Yf bJ mr5 (Xr _)) ⟨a3,c3,rfl,bY ow5 Yo,?_⟩);exact aF (aF ((k1.trans (k2.mono Yo)).trans (k3.mono Yo)) k4 Yo (by have:=k3.size;omega)) k5 Yo (by have:=k3.size;omega)
end Go.Proofs.YthimcecbgpamdaaGreat
namespace Go.Proofs.YthimcecbgpamdaaGreat
theorem fT{f g:Nat->Value}(h:(List.range 74).map f=(List.range 74).map g):∀j,j<74->f j=g j:=by simp_all
theorem ndF_ext{n:Nd}{v:Value}{d d' g g':Nat->Nat->Int}{u u':Nat->Int}{x x':Nat->St}(hd:∀s k,s<4->d s k=d' s k)(hg:∀s k,s<4->k<3->g s k=g' s k)(hu:∀k,k<3->u k=u' k)(hx:∀k,k<3->x k=x' k):ndF { n with di:=d,ag:=g,us:=u,ax:=x } v=ndF { n with di:=d',ag:=g',us:=u',ax:=x' } v:=by grind [ndF]
theorem aEE(n:Nd)(v:Value)(x:Int):∀j,j<74->stW (ndF n v) (0+1) (.int .i64 x) j=ndF { n with fr:=x } v j:=
 fT rfl
theorem aEC(n:Nd)(v:Value)(d:Nat->Nat->Int):∀j,j<74->stP (ndF n v) (0+39) 12 (λi=>iV (d (i/3) (i%3))) j=ndF { n with di:=d } v j:=
 fT rfl
theorem aFc(n:Nd)(v:Value)(d:Nat->Int):∀j,j<74->stP (ndF n v) (0+51) 4 (λi=>iV (d i)) j=ndF { n with he:=d } v j:=
 fT rfl
theorem aCI(n:Nd)(v:Value)(x:Int):∀j,j<74->stW (ndF n v) (0+70) (.int .i64 x) j=ndF { n with dg:=x } v j:=
 fT rfl
theorem upd_rl(n:Nd)(v:Value)(r:Rl):∀j,j<74->stP (ndF n v) (0+27) 12 (dA r) j=ndF { n with rl:=r } v j:=
 fT rfl
theorem upd_vd(n:Nd)(v u:Value)(x:Int)(b:Bool)(l:List Bool):∀j,j<74->stP (ndF n v) (0+71) 3 (λi=>if i=0 then iV x else if i=1 then .bool b else u) j=ndF { n with vX:=x,vS:=b,vA:=l } u j:=
 fT rfl
theorem aKj(n:Nd)(v:Value)(x:Int):∀j,j<74->stW (ndF n v) (0+51+0*1) (.int .i64 x) j=ndF { n with he:=λs=>if s=0 then x else n.he s } v j:=
 fT rfl
theorem aJC(n:Nd)(v:Value)(x:Int):∀j,j<74->stW (ndF n v) (0+51+1*1) (.int .i64 x) j=ndF { n with he:=λs=>if s=1 then x else n.he s } v j:=
 fT rfl
theorem aLt(n:Nd)(v:Value)(x:Int):∀j,j<74->stW (ndF n v) (0+51+2*1) (.int .i64 x) j=ndF { n with he:=λs=>if s=2 then x else n.he s } v j:=
 fT rfl
theorem aIO(n:Nd)(v:Value)(x:Int):∀j,j<74->stW (ndF n v) (0+51+3*1) (.int .i64 x) j=ndF { n with he:=λs=>if s=3 then x else n.he s } v j:=
 fT rfl
theorem F9(n:Nd)(v:Value)(x:Int)(i:Nat)(hi:i<4):∀j,j<74->stW (ndF n v) (0+51+i*1) (.int .i64 x) j=ndF { n with he:=λs=>if s=i then x else n.he s } v j:=by
 have:i=0\/i=1\/i=2\/i=3:=Yo;rcases this with rfl|rfl|rfl|rfl
 .exact aKj n v x
 .exact aJC n v x
 .exact aLt n v x
 .exact aIO n v x
theorem aIA(n:Nd)(v:Value)(x:Int):∀j,j<74->stW (ndF n v) (0+67+0*1) (.int .i64 x) j=ndF { n with us:=λs=>if s=0 then x else n.us s } v j:=
 fT rfl
theorem aKx(n:Nd)(v:Value)(x:Int):∀j,j<74->stW (ndF n v) (0+67+1*1) (.int .i64 x) j=ndF { n with us:=λs=>if s=1 then x else n.us s } v j:=
 fT rfl
theorem aIY(n:Nd)(v:Value)(x:Int):∀j,j<74->stW (ndF n v) (0+67+2*1) (.int .i64 x) j=ndF { n with us:=λs=>if s=2 then x else n.us s } v j:=
 fT rfl
theorem aFj(n:Nd)(v:Value)(x:Int)(i:Nat)(hi:i<3):∀j,j<74->stW (ndF n v) (0+67+i*1) (.int .i64 x) j=ndF { n with us:=λs=>if s=i then x else n.us s } v j:=by
 have:i=0\/i=1\/i=2:=Yo;rcases this with rfl|rfl|rfl
 .exact aIA n v x
 .exact aKx n v x
 .exact aIY n v x
theorem aJo(n:Nd)(v:Value)(d:Nat->Int):∀j,j<74->stP (ndF n v) (0+39+0*3) 3 (λk=>iV (d k)) j=ndF { n with di:=λs a=>if s=0 then d a else n.di s a } v j:=
 fT rfl
theorem aIR(n:Nd)(v:Value)(d:Nat->Int):∀j,j<74->stP (ndF n v) (0+39+1*3) 3 (λk=>iV (d k)) j=ndF { n with di:=λs a=>if s=1 then d a else n.di s a } v j:=
 fT rfl
theorem aJF(n:Nd)(v:Value)(d:Nat->Int):∀j,j<74->stP (ndF n v) (0+39+2*3) 3 (λk=>iV (d k)) j=ndF { n with di:=λs a=>if s=2 then d a else n.di s a } v j:=
 fT rfl
theorem aKi(n:Nd)(v:Value)(d:Nat->Int):∀j,j<74->stP (ndF n v) (0+39+3*3) 3 (λk=>iV (d k)) j=ndF { n with di:=λs a=>if s=3 then d a else n.di s a } v j:=
 fT rfl
theorem FY(n:Nd)(v:Value)(d:Nat->Int)(i:Nat)(hi:i<4):∀j,j<74->stP (ndF n v) (0+39+i*3) 3 (λk=>iV (d k)) j=ndF { n with di:=λs a=>if s=i then d a else n.di s a } v j:=by
 have:i=0\/i=1\/i=2\/i=3:=Yo;rcases this with rfl|rfl|rfl|rfl
 .exact aJo n v d
 .exact aIR n v d
 .exact aJF n v d
 .exact aKi n v d
theorem aJf(n:Nd)(v:Value)(s:St):∀j,j<74->stP (ndF n v) (0+6+0*7) 7 (dO s) j=ndF { n with ax:=λa=>if a=0 then s else n.ax a } v j:=
 fT rfl
theorem aID(n:Nd)(v:Value)(s:St):∀j,j<74->stP (ndF n v) (0+6+1*7) 7 (dO s) j=ndF { n with ax:=λa=>if a=1 then s else n.ax a } v j:=
 fT rfl
theorem aKd(n:Nd)(v:Value)(s:St):∀j,j<74->stP (ndF n v) (0+6+2*7) 7 (dO s) j=ndF { n with ax:=λa=>if a=2 then s else n.ax a } v j:=
 fT rfl
theorem wQ(n:Nd)(v:Value)(s:St)(i:Nat)(hi:i<3):∀j,j<74->stP (ndF n v) (0+6+i*7) 7 (dO s) j=ndF { n with ax:=λa=>if a=i then s else n.ax a } v j:=by
 have:i=0\/i=1\/i=2:=Yo;rcases this with rfl|rfl|rfl
 .exact aJf n v s
 .exact aID n v s
 .exact aKd n v s
theorem aGp(n:Nd)(v:Value)(x:Int):∀j,j<74->stW (ndF n v) (0+55+0*3+0*1) (.int .i64 x) j=ndF { n with ag:=λs k=>if s=0/\k=0 then x else n.ag s k } v j:=
 fT rfl
theorem aFR(n:Nd)(v:Value)(x:Int):∀j,j<74->stW (ndF n v) (0+55+0*3+1*1) (.int .i64 x) j=ndF { n with ag:=λs k=>if s=0/\k=1 then x else n.ag s k } v j:=
 fT rfl
theorem aFY(n:Nd)(v:Value)(x:Int):∀j,j<74->stW (ndF n v) (0+55+0*3+2*1) (.int .i64 x) j=ndF { n with ag:=λs k=>if s=0/\k=2 then x else n.ag s k } v j:=
 fT rfl
theorem aFH(n:Nd)(v:Value)(x:Int):∀j,j<74->stW (ndF n v) (0+55+1*3+0*1) (.int .i64 x) j=ndF { n with ag:=λs k=>if s=1/\k=0 then x else n.ag s k } v j:=
 fT rfl
theorem aGd(n:Nd)(v:Value)(x:Int):∀j,j<74->stW (ndF n v) (0+55+1*3+1*1) (.int .i64 x) j=ndF { n with ag:=λs k=>if s=1/\k=1 then x else n.ag s k } v j:=
 fT rfl
theorem aGf(n:Nd)(v:Value)(x:Int):∀j,j<74->stW (ndF n v) (0+55+1*3+2*1) (.int .i64 x) j=ndF { n with ag:=λs k=>if s=1/\k=2 then x else n.ag s k } v j:=
 fT rfl
theorem aFU(n:Nd)(v:Value)(x:Int):∀j,j<74->stW (ndF n v) (0+55+2*3+0*1) (.int .i64 x) j=ndF { n with ag:=λs k=>if s=2/\k=0 then x else n.ag s k } v j:=
 fT rfl
theorem aGW(n:Nd)(v:Value)(x:Int):∀j,j<74->stW (ndF n v) (0+55+2*3+1*1) (.int .i64 x) j=ndF { n with ag:=λs k=>if s=2/\k=1 then x else n.ag s k } v j:=
 fT rfl
theorem aFB(n:Nd)(v:Value)(x:Int):∀j,j<74->stW (ndF n v) (0+55+2*3+2*1) (.int .i64 x) j=ndF { n with ag:=λs k=>if s=2/\k=2 then x else n.ag s k } v j:=
 fT rfl
theorem aHd(n:Nd)(v:Value)(x:Int):∀j,j<74->stW (ndF n v) (0+55+3*3+0*1) (.int .i64 x) j=ndF { n with ag:=λs k=>if s=3/\k=0 then x else n.ag s k } v j:=
 fT rfl
theorem aGI(n:Nd)(v:Value)(x:Int):∀j,j<74->stW (ndF n v) (0+55+3*3+1*1) (.int .i64 x) j=ndF { n with ag:=λs k=>if s=3/\k=1 then x else n.ag s k } v j:=
 fT rfl
theorem aFl(n:Nd)(v:Value)(x:Int):∀j,j<74->stW (ndF n v) (0+55+3*3+2*1) (.int .i64 x) j=ndF { n with ag:=λs k=>if s=3/\k=2 then x else n.ag s k } v j:=
 fT rfl
theorem aGv(n:Nd)(v:Value)(x:Int)(i a:Nat)(hi:i<4)(ha:a<3):∀j,j<74->stW (ndF n v) (0+55+i*3+a*1) (.int .i64 x) j=ndF { n with ag:=λs k=>if s=i/\k=a then x else n.ag s k } v j:=by
 have h1:i=0\/i=1\/i=2\/i=3:=Yo;have h2:a=0\/a=1\/a=2:=Yo;rcases h1 with rfl|rfl|rfl|rfl<;>rcases h2 with rfl|rfl|rfl
 .exact aGp n v x
 .exact aFR n v x
 .exact aFY n v x
 .exact aFH n v x
 .exact aGd n v x
 .exact aGf n v x
 .exact aFU n v x
 .exact aGW n v x
 .exact aFB n v x
 .exact aHd n v x
 .exact aGI n v x
 .exact aFl n v x
end Go.Proofs.YthimcecbgpamdaaGreat
namespace Go.Proofs.YthimcecbgpamdaaGreat
open Go.RowKit
structure NdOK (n:Nd):Prop where
 id:R64 n.id
 fr:R64 n.fr
 tn:n.tn.Ok
 ax:∀a,(n.ax a).Ok
 rM:∀i,R64 (n.rl.M i)
 rJ:∀i,R64 (n.rl.J i)
 di:∀s a,R64 (n.di s a)
 he:∀s,R64 (n.he s)
 ag:∀s a,R64 (n.ag s a)
 us:∀a,R64 (n.us a)
 dg:R64 n.dg
 vX:R64 n.vX
 vA:n.vA.length<=140737488351232
def nJ(w:World)(n:Nd)(ao:Option Addr)(c:Nat):Prop:=Sr w ao n.vA.length c (tF (bA n))
def pR(B:Nat)(w:World)(n:Nd)(ao:Option Addr)(c:Nat):Prop:=w.ownsRow B 4 1 (.slice ao n.vA.length c) n.vA.length (rowV (tF (bA n)) n.vA.length)
def lsV(m:Ms)(v:Value):Value:=aN (msF m.K m.F m.R v) 0 4
def M0(B:Nat)(w:World)(m:Ms)(ao:Option Addr)(c:Nat):Prop:=w.ownsRow B 3 1 (.slice ao m.L.length c) m.L.length (rowV (iF (gL m.L)) m.L.length)
def aMZ(fn:Nat):Prop:=∀(n:Nd) (ao:Option Addr) (c:Nat) (frame:Int) (rd:Nat->Int) (w:World),NdOK n->nJ w n ao c->R64 frame->(∀a,R64 (rd a))->
 Calls Tryz.prog fn #[iI n (.slice ao n.vA.length c),.int .i64 frame,aN (λa=>iV (rd a)) 0 3] w λe w'=>∃a' c' a2 c2,e=.returned (.tuple #[iI (senN n frame rd) (.slice a' n.vA.length c'),lsV (kV n frame rd) (.slice a2 (kV n frame rd).L.length c2)])/\pR w.heap.size w' n a' c'/\M0 w.heap.size w' (kV n frame rd) a2 c2/\Below w.heap.size w w'
def xN(N:Nd->List Ms->Nd)(M:Nd->List Ms->Ms)(fn:Nat):Prop:=∀(n:Nd) (ao:Option Addr) (c:Nat) (mo:Option Addr) (mc:Nat) (L:List Lm) (w:World),NdOK n->nJ w n ao c->MRd w mo L->L.length<=140737488351232->L.length<=mc->(∀m,m∈L->∀i,R64 (gL m.m.L i))->
 Calls Tryz.prog fn #[iI n (.slice ao n.vA.length c),.slice mo L.length mc] w λe w'=>∃a' c' a2 c2,e=.returned (.tuple #[iI (N n (L.map Lm.m)) (.slice a' (N n (L.map Lm.m)).vA.length c'),lsV (M n (L.map Lm.m)) (.slice a2 (M n (L.map Lm.m)).L.length c2)])/\pR w.heap.size w' (N n (L.map Lm.m)) a' c'/\M0 w.heap.size w' (M n (L.map Lm.m)) a2 c2/\Below w.heap.size w w'
theorem JF(x:Value)(w:World):(callFunc 20 #[x]).run Tryz.prog w=.ok (.enter 20 #[x]) w:=Yh
theorem KT(x:Value)(w:World):(callFunc 43 #[x]).run Tryz.prog w=.ok (.enter 43 #[x]) w:=Yh
theorem nL(x y z u v:Value)(w:World):(callFunc 44 #[x,y,z,u,v]).run Tryz.prog w=.ok (.enter 44 #[x,y,z,u,v]) w:=Yh
theorem SF(w:World):(zeroValue 32).run Tryz.prog w=.ok (aN (λ_=>iV 0) 0 12) w:=Yl
section
variable {f:Operand->Value} {o:Oper}
theorem mH(ho:o.op=.build 67 #[])(w:World):(execOp f o).run Tryz.prog w=.ok (.value (aN (msF 0 0 0 (.slice none 0 0)) 0 4)) w:=by
 unfold execOp;rw[ho];go_simp
 rfl
variable{ao:Option Addr}
theorem rY(a b c d:Operand)(ho:o.op=.build 67 #[(0,a),(1,b),(2,c),(3,d)]){K F R:Int}{n q:Nat}(h0:f a=.int .i64 K)(h1:f b=.int .i64 F)(h2:f c=.int .i64 R)(h3:f d=.slice ao n q)(w:World):(execOp f o).run Tryz.prog w=.ok (.value (aN (msF K F R (.slice ao n q)) 0 4)) w:=by
 unfold execOp;rw[ho];go_simp
 rfl
theorem aEl(a b c:Operand)(ho:o.op=.build 67 #[(0,a),(1,b),(2,c)]){K F R:Int}(h0:f a=.int .i64 K)(h1:f b=.int .i64 F)(h2:f c=.int .i64 R)(w:World):(execOp f o).run Tryz.prog w=.ok (.value (aN (msF K F R (.slice none 0 0)) 0 4)) w:=by
 unfold execOp;rw[ho];go_simp
 rfl
theorem WQ(ho:o.op=.build 28 #[])(w:World):(execOp f o).run Tryz.prog w=.ok (.value (aN (λ_=>iV 0) 0 4)) w:=by
 unfold execOp;rw[ho];go_simp
 rfl
theorem UC(a b c:Operand)(ho:o.op=.build 31 #[(0,a),(1,b),(2,c)]){g:Nat->Int}(h0:f a=.int .i64 (g 0))(h1:f b=.int .i64 (g 1))(h2:f c=.int .i64 (g 2))(w:World):(execOp f o).run Tryz.prog w=.ok (.value (aN (λi=>iV (g i)) 0 3)) w:=by
 unfold execOp;rw[ho];go_simp
 rfl
end
variable{Q:Exit->Act->World->Prop}{o:Oper}{K:Act->World->Prop}{a:Act}
theorem CU(w:World)(x y z:Operand)(ho:o.op=.buildSlice 65 3 #[(0,x),(1,y),(2,z)]){g:Nat->Int}(hx:a.eval x=.int .i64 (g 0))(hy:a.eval y=.int .i64 (g 1))(hz:a.eval z=.int .i64 (g 2))(h:∀w',Vh 3 w' w.heap.size 3 3 (λi=>iV (g i))->Below w.heap.size w w'->w'.heap.size=w.heap.size+1->K (a.put o.dst (.slice (some ⟨w.heap.size,0,none⟩) 3 3)) w'):WpI Tryz.prog o a w K Q:=by
 have hh:=h (w.alloc (.cells #[.int .i64 (g 0),.int .i64 (g 1),.int .i64 (g 2)] 3)) (Vh.of_row (λi=>iV (g i)) 3 Yc (by show (w.heap.push _)[w.heap.size]?=_;rw[Array.getElem?_push_size];rfl)) (bU _ _) (dJ _ _);have e:(execOp a.eval o).run Tryz.prog w=.ok (.value (.slice (some ⟨w.heap.size,0,none⟩) 3 3)) (w.alloc (.cells #[.int .i64 (g 0),.int .i64 (g 1),.int .i64 (g 2)] 3)):=by
  generalize a.eval=f at hx hy hz;unfold execOp;rw[ho];simp only[List.map_toArray,List.map_cons,List.map_nil];rw[hx,hy,hz];go_simp
 refine⟨?_⟩;unfold Oper.wp;rw[e];exact hh
theorem zX(w:World)(x:Operand)(ho:o.op=.buildSlice 65 1 #[(0,x)]){g:Int}(hx:a.eval x=.int .i64 g)(h:∀w',Vh 3 w' w.heap.size 1 1 (λ_=>iV g)->Below w.heap.size w w'->w'.heap.size=w.heap.size+1->K (a.put o.dst (.slice (some ⟨w.heap.size,0,none⟩) 1 1)) w'):WpI Tryz.prog o a w K Q:=by
 have hh:=h (w.alloc (.cells #[.int .i64 g] 3)) (Vh.of_row (λ_=>iV g) 1 Yc (by show (w.heap.push _)[w.heap.size]?=_;rw[Array.getElem?_push_size];rfl)) (bU _ _) (dJ _ _);have e:(execOp a.eval o).run Tryz.prog w=.ok (.value (.slice (some ⟨w.heap.size,0,none⟩) 1 1)) (w.alloc (.cells #[.int .i64 g] 3)):=by
  generalize a.eval=f at hx;unfold execOp;rw[ho];simp only[List.map_toArray,List.map_cons,List.map_nil];rw[hx];go_simp
 refine⟨?_⟩;unfold Oper.wp;rw[e];exact hh
theorem eY(K F R:Int)(ao:Option Addr)(n c:Nat):∀j,j<4->(msF K F R (.slice ao n c) j).oneCell'=true:=by
 intro j _;unfold msF iV
 repeat' split
 all_goals rfl
theorem qJ{x:Int}(h:jJ x=false):0<=x/\x<=3:=by
 unfold jJ at h;simp at h;omega
end Go.Proofs.YthimcecbgpamdaaGreat
