import Derived.Test.YtdhblehhgpdpdacGreatNodMem
import Derived.Test.YtdhblehhgpdpdacGreatVotOps
namespace Go.Proofs.YtdhblehhgpdpdacGreat
open Go.RowKit
section
variable {f:Operand→Value} {o:Oper} {x:Operand} {b off:Nat}
theorem kE(ho:o.op=.fieldAddr 55 x 0)(hx:f x=.pointer (some ⟨b,off,none⟩))(w:World):(execOp f o).run Tryz.prog w=.ok (.value (.pointer (some ⟨b,off+0,none⟩))) w:=by
 unfold execOp
 rw[ho]
 dsimp only
 rw[hx]
 go_simp
theorem qV(ho:o.op=.fieldAddr 55 x 1)(hx:f x=.pointer (some ⟨b,off,none⟩))(w:World):(execOp f o).run Tryz.prog w=.ok (.value (.pointer (some ⟨b,off+1,none⟩))) w:=by
 unfold execOp
 rw[ho]
 dsimp only
 rw[hx]
 go_simp
theorem aSv(ho:o.op=.fieldAddr 55 x 2)(hx:f x=.pointer (some ⟨b,off,none⟩))(w:World):(execOp f o).run Tryz.prog w=.ok (.value (.pointer (some ⟨b,off+2,none⟩))) w:=by
 unfold execOp
 rw[ho]
 dsimp only
 rw[hx]
 go_simp
theorem qQ(ho:o.op=.fieldAddr 55 x 3)(hx:f x=.pointer (some ⟨b,off,none⟩))(w:World):(execOp f o).run Tryz.prog w=.ok (.value (.pointer (some ⟨b,off+6,none⟩))) w:=by
 unfold execOp
 rw[ho]
 dsimp only
 rw[hx]
 go_simp
theorem qP(ho:o.op=.fieldAddr 55 x 4)(hx:f x=.pointer (some ⟨b,off,none⟩))(w:World):(execOp f o).run Tryz.prog w=.ok (.value (.pointer (some ⟨b,off+27,none⟩))) w:=by
 unfold execOp
 rw[ho]
 dsimp only
 rw[hx]
 go_simp
theorem wG(ho:o.op=.fieldAddr 55 x 5)(hx:f x=.pointer (some ⟨b,off,none⟩))(w:World):(execOp f o).run Tryz.prog w=.ok (.value (.pointer (some ⟨b,off+39,none⟩))) w:=by
 unfold execOp
 rw[ho]
 dsimp only
 rw[hx]
 go_simp
theorem zA(ho:o.op=.fieldAddr 55 x 6)(hx:f x=.pointer (some ⟨b,off,none⟩))(w:World):(execOp f o).run Tryz.prog w=.ok (.value (.pointer (some ⟨b,off+51,none⟩))) w:=by
 unfold execOp
 rw[ho]
 dsimp only
 rw[hx]
 go_simp
theorem aHW(ho:o.op=.fieldAddr 55 x 7)(hx:f x=.pointer (some ⟨b,off,none⟩))(w:World):(execOp f o).run Tryz.prog w=.ok (.value (.pointer (some ⟨b,off+55,none⟩))) w:=by
 unfold execOp
 rw[ho]
 dsimp only
 rw[hx]
 go_simp
theorem aEU(ho:o.op=.fieldAddr 55 x 8)(hx:f x=.pointer (some ⟨b,off,none⟩))(w:World):(execOp f o).run Tryz.prog w=.ok (.value (.pointer (some ⟨b,off+67,none⟩))) w:=by
 unfold execOp
 rw[ho]
 dsimp only
 rw[hx]
 go_simp
theorem yQ(ho:o.op=.fieldAddr 55 x 9)(hx:f x=.pointer (some ⟨b,off,none⟩))(w:World):(execOp f o).run Tryz.prog w=.ok (.value (.pointer (some ⟨b,off+70,none⟩))) w:=by
 unfold execOp
 rw[ho]
 dsimp only
 rw[hx]
 go_simp
theorem nG(ho:o.op=.fieldAddr 55 x 10)(hx:f x=.pointer (some ⟨b,off,none⟩))(w:World):(execOp f o).run Tryz.prog w=.ok (.value (.pointer (some ⟨b,off+71,none⟩))) w:=by
 unfold execOp
 rw[ho]
 dsimp only
 rw[hx]
 go_simp
theorem wL(ho:o.op=.fieldAddr 69 x 0)(hx:f x=.pointer (some ⟨b,off,none⟩))(w:World):(execOp f o).run Tryz.prog w=.ok (.value (.pointer (some ⟨b,off+0,none⟩))) w:=by
 unfold execOp
 rw[ho]
 dsimp only
 rw[hx]
 go_simp
theorem pJ(ho:o.op=.fieldAddr 69 x 1)(hx:f x=.pointer (some ⟨b,off,none⟩))(w:World):(execOp f o).run Tryz.prog w=.ok (.value (.pointer (some ⟨b,off+1,none⟩))) w:=by
 unfold execOp
 rw[ho]
 dsimp only
 rw[hx]
 go_simp
theorem yF(ho:o.op=.fieldAddr 69 x 2)(hx:f x=.pointer (some ⟨b,off,none⟩))(w:World):(execOp f o).run Tryz.prog w=.ok (.value (.pointer (some ⟨b,off+2,none⟩))) w:=by
 unfold execOp
 rw[ho]
 dsimp only
 rw[hx]
 go_simp
theorem yL(ho:o.op=.fieldAddr 69 x 3)(hx:f x=.pointer (some ⟨b,off,none⟩))(w:World):(execOp f o).run Tryz.prog w=.ok (.value (.pointer (some ⟨b,off+3,none⟩))) w:=by
 unfold execOp
 rw[ho]
 dsimp only
 rw[hx]
 go_simp
theorem aIC(ho:o.op=.fieldAddr 53 x 0)(hx:f x=.pointer (some ⟨b,off,none⟩))(w:World):(execOp f o).run Tryz.prog w=.ok (.value (.pointer (some ⟨b,off+0,none⟩))) w:=by
 unfold execOp
 rw[ho]
 dsimp only
 rw[hx]
 go_simp
theorem aBI(ho:o.op=.fieldAddr 53 x 1)(hx:f x=.pointer (some ⟨b,off,none⟩))(w:World):(execOp f o).run Tryz.prog w=.ok (.value (.pointer (some ⟨b,off+1,none⟩))) w:=by
 unfold execOp
 rw[ho]
 dsimp only
 rw[hx]
 go_simp
theorem aIW(ho:o.op=.fieldAddr 53 x 2)(hx:f x=.pointer (some ⟨b,off,none⟩))(w:World):(execOp f o).run Tryz.prog w=.ok (.value (.pointer (some ⟨b,off+2,none⟩))) w:=by
 unfold execOp
 rw[ho]
 dsimp only
 rw[hx]
 go_simp
theorem aAF(ho:o.op=.fieldAddr 50 x 0)(hx:f x=.pointer (some ⟨b,off,none⟩))(w:World):(execOp f o).run Tryz.prog w=.ok (.value (.pointer (some ⟨b,off+0,none⟩))) w:=by
 unfold execOp
 rw[ho]
 dsimp only
 rw[hx]
 go_simp
theorem aRo(ho:o.op=.fieldAddr 50 x 1)(hx:f x=.pointer (some ⟨b,off,none⟩))(w:World):(execOp f o).run Tryz.prog w=.ok (.value (.pointer (some ⟨b,off+4,none⟩))) w:=by
 unfold execOp
 rw[ho]
 dsimp only
 rw[hx]
 go_simp
theorem aRU(ho:o.op=.fieldAddr 50 x 2)(hx:f x=.pointer (some ⟨b,off,none⟩))(w:World):(execOp f o).run Tryz.prog w=.ok (.value (.pointer (some ⟨b,off+8,none⟩))) w:=by
 unfold execOp
 rw[ho]
 dsimp only
 rw[hx]
 go_simp
theorem aJu(ho:o.op=.fieldAddr 45 x 0)(hx:f x=.pointer (some ⟨b,off,none⟩))(w:World):(execOp f o).run Tryz.prog w=.ok (.value (.pointer (some ⟨b,off+0,none⟩))) w:=by
 unfold execOp
 rw[ho]
 dsimp only
 rw[hx]
 go_simp
theorem aRL(ho:o.op=.fieldAddr 45 x 1)(hx:f x=.pointer (some ⟨b,off,none⟩))(w:World):(execOp f o).run Tryz.prog w=.ok (.value (.pointer (some ⟨b,off+1,none⟩))) w:=by
 unfold execOp
 rw[ho]
 dsimp only
 rw[hx]
 go_simp
theorem aRk(ho:o.op=.fieldAddr 45 x 2)(hx:f x=.pointer (some ⟨b,off,none⟩))(w:World):(execOp f o).run Tryz.prog w=.ok (.value (.pointer (some ⟨b,off+2,none⟩))) w:=by
 unfold execOp
 rw[ho]
 dsimp only
 rw[hx]
 go_simp
theorem aRE(ho:o.op=.fieldAddr 45 x 3)(hx:f x=.pointer (some ⟨b,off,none⟩))(w:World):(execOp f o).run Tryz.prog w=.ok (.value (.pointer (some ⟨b,off+3,none⟩))) w:=by
 unfold execOp
 rw[ho]
 dsimp only
 rw[hx]
 go_simp
theorem aRX(ho:o.op=.fieldAddr 45 x 4)(hx:f x=.pointer (some ⟨b,off,none⟩))(w:World):(execOp f o).run Tryz.prog w=.ok (.value (.pointer (some ⟨b,off+4,none⟩))) w:=by
 unfold execOp
 rw[ho]
 dsimp only
 rw[hx]
 go_simp
theorem aRS(ho:o.op=.fieldAddr 45 x 5)(hx:f x=.pointer (some ⟨b,off,none⟩))(w:World):(execOp f o).run Tryz.prog w=.ok (.value (.pointer (some ⟨b,off+5,none⟩))) w:=by
 unfold execOp
 rw[ho]
 dsimp only
 rw[hx]
 go_simp
theorem aQT(ho:o.op=.fieldAddr 45 x 6)(hx:f x=.pointer (some ⟨b,off,none⟩))(w:World):(execOp f o).run Tryz.prog w=.ok (.value (.pointer (some ⟨b,off+6,none⟩))) w:=by
 unfold execOp
 rw[ho]
 dsimp only
 rw[hx]
 go_simp
theorem bW(x y:Operand)(ho:o.op=.binOp .add 3 x y 3){u v:Int}(hx:f x=.int .i64 u)(hy:f y=.int .i64 v)(h1: -9223372036854775808≤u+v)(h2:u+v≤9223372036854775807)(w:World):(execOp f o).run Tryz.prog w=.ok (.value (.int .i64 (u+v))) w:=by
 unfold execOp
 rw[ho]
 dsimp only
 rw[hx,hy]
 go_simp
 rw[IntKind.wrap_i64]
 omega
theorem zH(x y:Operand)(ho:o.op=.binOp .sub 3 x y 3){u v:Int}(hx:f x=.int .i64 u)(hy:f y=.int .i64 v)(h1: -9223372036854775808≤u-v)(h2:u-v≤9223372036854775807)(w:World):(execOp f o).run Tryz.prog w=.ok (.value (.int .i64 (u-v))) w:=by
 unfold execOp
 rw[ho]
 dsimp only
 rw[hx,hy]
 go_simp
 rw[IntKind.wrap_i64]
 omega
theorem aZ{b:Bool}(x y:Operand)(ho:o.op=.binOp .lss 3 x y 3){u v:Int}(hx:f x=.int .i64 u)(hy:f y=.int .i64 v)(hb:decide (u<v)=b)(w:World):(execOp f o).run Tryz.prog w=.ok (.value (.bool b)) w:=by
 subst hb
 unfold execOp
 rw[ho]
 dsimp only
 rw[hx,hy]
 go_simp
theorem kG{b:Bool}(x y:Operand)(ho:o.op=.binOp .gtr 3 x y 3){u v:Int}(hx:f x=.int .i64 u)(hy:f y=.int .i64 v)(hb:decide (v<u)=b)(w:World):(execOp f o).run Tryz.prog w=.ok (.value (.bool b)) w:=by
 subst hb
 unfold execOp
 rw[ho]
 dsimp only
 rw[hx,hy]
 go_simp
theorem dA{b:Bool}(x y:Operand)(ho:o.op=.binOp .eql 3 x y 3){u v:Int}(hx:f x=.int .i64 u)(hy:f y=.int .i64 v)(hb:decide (u=v)=b)(w:World):(execOp f o).run Tryz.prog w=.ok (.value (.bool b)) w:=by
 have e:(u==v)=b:=by rw[←hb,Bool.eq_iff_iff];simp
 unfold execOp
 rw[ho]
 dsimp only
 rw[hx,hy]
 go_simp
theorem eQ{b:Bool}(x y:Operand)(ho:o.op=.binOp .neq 3 x y 3){u v:Int}(hx:f x=.int .i64 u)(hy:f y=.int .i64 v)(hb:decide (u≠v)=b)(w:World):(execOp f o).run Tryz.prog w=.ok (.value (.bool b)) w:=by
 have e:(u !=v)=b:=by rw[←hb,Bool.eq_iff_iff];simp
 unfold execOp
 rw[ho]
 dsimp only
 rw[hx,hy]
 go_simp
end
theorem nA(w:World):(zeroValue 55).run Tryz.prog w=.ok (aV (ndF fD (.slice none 0 0)) 0 74) w:=by
 obtain⟨z,e⟩:∃z,z=aV (ndF fD (.slice none 0 0)) 0 74:=⟨_,rfl⟩
 have h:∀w,(zeroValue 55).run Tryz.prog w=.ok z w:=λw=>by rw[e];kernel_rfl
 rw[h w,e]
structure Lm where
 m:Ms
 ao:Option Addr
 cap:Nat
def lmV(c:Lm):Value:=.slice c.ao c.m.L.length c.cap
def kK(K F R:Int)(v:Value)(j:Nat):Value:=if j=0 then iV K else if j=1 then iV F else if j=2 then iV R else v
def sW(c:Lm):Nat→Value:=kK c.m.K c.m.F c.m.R (lmV c)
def LmRd(w:World)(ao:Option Addr)(L:List Lm):Prop:=0<L.length→∃b o,ao=some ⟨b,o,none⟩∧∀i c,L[i]?=some c→∀k,k<4→w.cell? ⟨b,o+i*4+k,none⟩=some (sW c k)
def gL(l:List Int)(i:Nat):Int:=l.getD i 0
def LvRd(w:World)(c:Lm):Prop:=Sr w c.ao c.m.L.length c.cap (iF (gL c.m.L))∧c.m.L.length≤c.cap∧c.m.L.length≤17592186044404
def MRd(w:World)(ao:Option Addr)(L:List Lm):Prop:=LmRd w ao L∧∀c,c∈L→LvRd w c
theorem LmRd.below{w w':World}{ao:Option Addr}{L:List Lm}(h:LmRd w ao L)(k:Below w.heap.size w w'):LmRd w' ao L:=λhl=>by
 obtain⟨b,o,e,hc⟩:=h hl
 exact⟨b,o,e,λi c hi j hj=>bE (hc i c hi j hj) k⟩
theorem LvRd.below{w w':World}{c:Lm}(h:LvRd w c)(k:Below w.heap.size w w'):LvRd w' c:=⟨h.1.below k,h.2⟩
theorem MRd.below{w w':World}{ao:Option Addr}{L:List Lm}(h:MRd w ao L)(k:Below w.heap.size w w'):MRd w' ao L:=⟨h.1.below k,λc hc=>(h.2 c hc).below k⟩
def jF(id fr:Int)(s kind:Int)(many:Int)(m:Ms):Bool:=decide (m.F=s)&&decide (m.F≠id)&&decide (m.K=kind)&&decide (m.R=fr)&&decide ((m.L.length:Int)=many)
def fL(id fr:Int)(L:List Lm)(s kind many:Int):Option Lm:=L.find? λc=>jF id fr s kind many c.m
theorem oG(n:Nd)(L:List Lm)(s:Nat)(kind:Int)(many:Nat):(fL n.id n.fr L s kind many).map (λc=>c.m.L)=iI n (L.map Lm.m) s kind many:=by
 unfold fL iI
 induction L with
 |nil=>rfl
 |cons c L ih=>
  rw[List.map_cons,List.find?_cons,List.find?_cons]
  have e:jF n.id n.fr s kind many c.m=(decide (c.m.F=(s:Int))&&decide (c.m.F≠n.id)&&decide (c.m.K=kind)&&decide (c.m.R=n.fr)&&decide (c.m.L.length=many)):=by
   unfold jF
   congr 1
   exact decide_eq_decide.2 Yo
  rw[e]
  split
  ·rfl
  ·exact ih
theorem sI {f : Operand → Value} {o : Oper} (x y : Operand) (ho : o.op = .indexAddr 113 x y) {b off n cap i : Nat} {z : Int} (hx : f x = .slice (some ⟨b, off, none⟩) n cap) (hy : f y = .int .i64 z) (hz : z = (i : Int)) (hi : i < n) (w : World) :
  (execOp f o).run Tryz.prog w=.ok (.value (.pointer (some ⟨b,off+i*4,none⟩))) w:=by
 subst hz
 have hi2:(i:Int)<n:=Yo
 unfold execOp
 rw[ho]
 dsimp only
 rw[hx,hy]
 go_simp
theorem pY {f : Operand → Value} {o : Oper} (x : Operand) (ho : o.op = .load 69 x) {b off : Nat} {c : Lm} (hx : f x = .pointer (some ⟨b, off, none⟩)) {w : World} (hc : ∀ k, k < 4 → w.cell? ⟨b, off + k, none⟩ = some (sW c k)) :
  (execOp f o).run Tryz.prog w=.ok (.value (aV (sW c) 0 4)) w:=by
 have hl:(loadCells ⟨b,off,none⟩ 4).run Tryz.prog w=.ok ((List.range 4).map λj=>sW c (0+j)).toArray w:=
  run_loadCells w ⟨b,off,none⟩ 4 (λj=>sW c (0+j)) (λj hj=>by rw[add_at,Nat.zero_add];exact hc j hj)
 unfold execOp
 simp only[ho,hx,Instr.loadAt,Instr.sureAddr,loadVar,Sem.run_bind,Sem.run_pure,Result.andThen_ok,eD.agg,eD.size,hl,if_true]
 rfl
theorem lX(w:World):(zeroValue 69).run Tryz.prog w=.ok (aV (kK 0 0 0 (.slice none 0 0)) 0 4) w:=by kernel_rfl
theorem fA(g:Nat→Value)(h:Nat→Value):∀j,j<4→fG g 0 4 h j=h j:=λj hj=>by
 have:=mE g (o:=0) (n:=4) h hj
 rwa [Nat.zero_add] at this
theorem qJ(c:Lm):∀j,j<4→(sW c j).oneCell'=true:=by
 intro j _
 unfold sW kK iV lmV
 repeat' split
 all_goals rfl
theorem eP{f:Operand→Value}{o:Oper}(x:Operand)(ho:o.op=.call { callee:=.builtin .len,args:=#[x],argTypes:=#[67] }){ao:Option Addr}{n c:Nat}(hx:f x=.slice ao n c)(w:World):(execOp f o).run Tryz.prog w=.ok (.value (.int .i64 ((n:Nat):Int))) w:=by
 unfold execOp
 rw[ho]
 dsimp only
 go_simp
theorem aMw{f:Operand→Value}{o:Oper}(x:Operand)(ho:o.op=.call { callee:=.builtin .len,args:=#[x],argTypes:=#[113] }){ao:Option Addr}{n c:Nat}(hx:f x=.slice ao n c)(w:World):(execOp f o).run Tryz.prog w=.ok (.value (.int .i64 ((n:Nat):Int))) w:=by
 unfold execOp
 rw[ho]
 dsimp only
 go_simp
def bA(n:Nd)(i:Nat):Bool:=n.vA.getD i false
theorem dU(g:Nat→Value)(h:Nat→Value):∀j,j<74→fG g 0 74 h j=h j:=λj hj=>by
 have:=mE g (o:=0) (n:=74) h hj
 rwa [Nat.zero_add] at this
end Go.Proofs.YtdhblehhgpdpdacGreat
namespace Go.Proofs.YtdhblehhgpdpdacGreat
theorem aSo(n:Nd)(v:Value)(x:Int):∀j,j<74→iJ (ndF n v) (0+1) (.int .i64 x) j=ndF { n with fr:=x } v j
 |0,_=>rfl
 |1,_=>rfl
 |2,_=>rfl
 |3,_=>rfl
 |4,_=>rfl
 |5,_=>rfl
 |6,_=>rfl
 |7,_=>rfl
 |8,_=>rfl
 |9,_=>rfl
 |10,_=>rfl
 |11,_=>rfl
 |12,_=>rfl
 |13,_=>rfl
 |14,_=>rfl
 |15,_=>rfl
 |16,_=>rfl
 |17,_=>rfl
 |18,_=>rfl
 |19,_=>rfl
 |20,_=>rfl
 |21,_=>rfl
 |22,_=>rfl
 |23,_=>rfl
 |24,_=>rfl
 |25,_=>rfl
 |26,_=>rfl
 |27,_=>rfl
 |28,_=>rfl
 |29,_=>rfl
 |30,_=>rfl
 |31,_=>rfl
 |32,_=>rfl
 |33,_=>rfl
 |34,_=>rfl
 |35,_=>rfl
 |36,_=>rfl
 |37,_=>rfl
 |38,_=>rfl
 |39,_=>rfl
 |40,_=>rfl
 |41,_=>rfl
 |42,_=>rfl
 |43,_=>rfl
 |44,_=>rfl
 |45,_=>rfl
 |46,_=>rfl
 |47,_=>rfl
 |48,_=>rfl
 |49,_=>rfl
 |50,_=>rfl
 |51,_=>rfl
 |52,_=>rfl
 |53,_=>rfl
 |54,_=>rfl
 |55,_=>rfl
 |56,_=>rfl
 |57,_=>rfl
 |58,_=>rfl
 |59,_=>rfl
 |60,_=>rfl
 |61,_=>rfl
 |62,_=>rfl
 |63,_=>rfl
 |64,_=>rfl
 |65,_=>rfl
 |66,_=>rfl
 |67,_=>rfl
 |68,_=>rfl
 |69,_=>rfl
 |70,_=>rfl
 |71,_=>rfl
 |72,_=>rfl
 |73,_=>rfl
 |j+74,h=>absurd h Yo
theorem aSl(n:Nd)(v:Value)(d:Nat→Nat→Int):∀j,j<74→fG (ndF n v) (0+39) 12 (λi=>iV (d (i/3) (i%3))) j=ndF { n with di:=d } v j
 |0,_=>rfl
 |1,_=>rfl
 |2,_=>rfl
 |3,_=>rfl
 |4,_=>rfl
 |5,_=>rfl
 |6,_=>rfl
 |7,_=>rfl
 |8,_=>rfl
 |9,_=>rfl
 |10,_=>rfl
 |11,_=>rfl
 |12,_=>rfl
 |13,_=>rfl
 |14,_=>rfl
 |15,_=>rfl
 |16,_=>rfl
 |17,_=>rfl
 |18,_=>rfl
 |19,_=>rfl
 |20,_=>rfl
 |21,_=>rfl
 |22,_=>rfl
 |23,_=>rfl
 |24,_=>rfl
 |25,_=>rfl
 |26,_=>rfl
 |27,_=>rfl
 |28,_=>rfl
 |29,_=>rfl
 |30,_=>rfl
 |31,_=>rfl
 |32,_=>rfl
 |33,_=>rfl
 |34,_=>rfl
 |35,_=>rfl
 |36,_=>rfl
 |37,_=>rfl
 |38,_=>rfl
 |39,_=>rfl
 |40,_=>rfl
 |41,_=>rfl
 |42,_=>rfl
 |43,_=>rfl
 |44,_=>rfl
 |45,_=>rfl
 |46,_=>rfl
 |47,_=>rfl
 |48,_=>rfl
 |49,_=>rfl
 |50,_=>rfl
 |51,_=>rfl
 |52,_=>rfl
 |53,_=>rfl
 |54,_=>rfl
 |55,_=>rfl
 |56,_=>rfl
 |57,_=>rfl
 |58,_=>rfl
 |59,_=>rfl
 |60,_=>rfl
 |61,_=>rfl
 |62,_=>rfl
 |63,_=>rfl
 |64,_=>rfl
 |65,_=>rfl
 |66,_=>rfl
 |67,_=>rfl
 |68,_=>rfl
 |69,_=>rfl
 |70,_=>rfl
 |71,_=>rfl
 |72,_=>rfl
 |73,_=>rfl
 |j+74,h=>absurd h Yo
theorem aSa(n:Nd)(v:Value)(d:Nat→Int):∀j,j<74→fG (ndF n v) (0+51) 4 (λi=>iV (d i)) j=ndF { n with he:=d } v j
 |0,_=>rfl
 |1,_=>rfl
 |2,_=>rfl
 |3,_=>rfl
 |4,_=>rfl
 |5,_=>rfl
 |6,_=>rfl
 |7,_=>rfl
 |8,_=>rfl
 |9,_=>rfl
 |10,_=>rfl
 |11,_=>rfl
 |12,_=>rfl
 |13,_=>rfl
 |14,_=>rfl
 |15,_=>rfl
 |16,_=>rfl
 |17,_=>rfl
 |18,_=>rfl
 |19,_=>rfl
 |20,_=>rfl
 |21,_=>rfl
 |22,_=>rfl
 |23,_=>rfl
 |24,_=>rfl
 |25,_=>rfl
 |26,_=>rfl
 |27,_=>rfl
 |28,_=>rfl
 |29,_=>rfl
 |30,_=>rfl
 |31,_=>rfl
 |32,_=>rfl
 |33,_=>rfl
 |34,_=>rfl
 |35,_=>rfl
 |36,_=>rfl
 |37,_=>rfl
 |38,_=>rfl
 |39,_=>rfl
 |40,_=>rfl
 |41,_=>rfl
 |42,_=>rfl
 |43,_=>rfl
 |44,_=>rfl
 |45,_=>rfl
 |46,_=>rfl
 |47,_=>rfl
 |48,_=>rfl
 |49,_=>rfl
 |50,_=>rfl
 |51,_=>rfl
 |52,_=>rfl
 |53,_=>rfl
 |54,_=>rfl
 |55,_=>rfl
 |56,_=>rfl
 |57,_=>rfl
 |58,_=>rfl
 |59,_=>rfl
 |60,_=>rfl
 |61,_=>rfl
 |62,_=>rfl
 |63,_=>rfl
 |64,_=>rfl
 |65,_=>rfl
 |66,_=>rfl
 |67,_=>rfl
 |68,_=>rfl
 |69,_=>rfl
 |70,_=>rfl
 |71,_=>rfl
 |72,_=>rfl
 |73,_=>rfl
 |j+74,h=>absurd h Yo
theorem upd_dg(n:Nd)(v:Value)(x:Int):∀j,j<74→iJ (ndF n v) (0+70) (.int .i64 x) j=ndF { n with dg:=x } v j
 |0,_=>rfl
 |1,_=>rfl
 |2,_=>rfl
 |3,_=>rfl
 |4,_=>rfl
 |5,_=>rfl
 |6,_=>rfl
 |7,_=>rfl
 |8,_=>rfl
 |9,_=>rfl
 |10,_=>rfl
 |11,_=>rfl
 |12,_=>rfl
 |13,_=>rfl
 |14,_=>rfl
 |15,_=>rfl
 |16,_=>rfl
 |17,_=>rfl
 |18,_=>rfl
 |19,_=>rfl
 |20,_=>rfl
 |21,_=>rfl
 |22,_=>rfl
 |23,_=>rfl
 |24,_=>rfl
 |25,_=>rfl
 |26,_=>rfl
 |27,_=>rfl
 |28,_=>rfl
 |29,_=>rfl
 |30,_=>rfl
 |31,_=>rfl
 |32,_=>rfl
 |33,_=>rfl
 |34,_=>rfl
 |35,_=>rfl
 |36,_=>rfl
 |37,_=>rfl
 |38,_=>rfl
 |39,_=>rfl
 |40,_=>rfl
 |41,_=>rfl
 |42,_=>rfl
 |43,_=>rfl
 |44,_=>rfl
 |45,_=>rfl
 |46,_=>rfl
 |47,_=>rfl
 |48,_=>rfl
 |49,_=>rfl
 |50,_=>rfl
 |51,_=>rfl
 |52,_=>rfl
 |53,_=>rfl
 |54,_=>rfl
 |55,_=>rfl
 |56,_=>rfl
 |57,_=>rfl
 |58,_=>rfl
 |59,_=>rfl
 |60,_=>rfl
 |61,_=>rfl
 |62,_=>rfl
 |63,_=>rfl
 |64,_=>rfl
 |65,_=>rfl
 |66,_=>rfl
 |67,_=>rfl
 |68,_=>rfl
 |69,_=>rfl
 |70,_=>rfl
 |71,_=>rfl
 |72,_=>rfl
 |73,_=>rfl
 |j+74,h=>absurd h Yo
theorem upd_rl(n:Nd)(v:Value)(r:Rl):∀j,j<74→fG (ndF n v) (0+27) 12 (cZ r) j=ndF { n with rl:=r } v j
 |0,_=>rfl
 |1,_=>rfl
 |2,_=>rfl
 |3,_=>rfl
 |4,_=>rfl
 |5,_=>rfl
 |6,_=>rfl
 |7,_=>rfl
 |8,_=>rfl
 |9,_=>rfl
 |10,_=>rfl
 |11,_=>rfl
 |12,_=>rfl
 |13,_=>rfl
 |14,_=>rfl
 |15,_=>rfl
 |16,_=>rfl
 |17,_=>rfl
 |18,_=>rfl
 |19,_=>rfl
 |20,_=>rfl
 |21,_=>rfl
 |22,_=>rfl
 |23,_=>rfl
 |24,_=>rfl
 |25,_=>rfl
 |26,_=>rfl
 |27,_=>rfl
 |28,_=>rfl
 |29,_=>rfl
 |30,_=>rfl
 |31,_=>rfl
 |32,_=>rfl
 |33,_=>rfl
 |34,_=>rfl
 |35,_=>rfl
 |36,_=>rfl
 |37,_=>rfl
 |38,_=>rfl
 |39,_=>rfl
 |40,_=>rfl
 |41,_=>rfl
 |42,_=>rfl
 |43,_=>rfl
 |44,_=>rfl
 |45,_=>rfl
 |46,_=>rfl
 |47,_=>rfl
 |48,_=>rfl
 |49,_=>rfl
 |50,_=>rfl
 |51,_=>rfl
 |52,_=>rfl
 |53,_=>rfl
 |54,_=>rfl
 |55,_=>rfl
 |56,_=>rfl
 |57,_=>rfl
 |58,_=>rfl
 |59,_=>rfl
 |60,_=>rfl
 |61,_=>rfl
 |62,_=>rfl
 |63,_=>rfl
 |64,_=>rfl
 |65,_=>rfl
 |66,_=>rfl
 |67,_=>rfl
 |68,_=>rfl
 |69,_=>rfl
 |70,_=>rfl
 |71,_=>rfl
 |72,_=>rfl
 |73,_=>rfl
 |j+74,h=>absurd h Yo
theorem upd_vd(n:Nd)(v u:Value)(x:Int)(b:Bool)(l:List Bool):∀j,j<74→fG (ndF n v) (0+71) 3 (λi=>if i=0 then iV x else if i=1 then .bool b else u) j=ndF { n with vX:=x,vS:=b,vA:=l } u j
 |0,_=>rfl
 |1,_=>rfl
 |2,_=>rfl
 |3,_=>rfl
 |4,_=>rfl
 |5,_=>rfl
 |6,_=>rfl
 |7,_=>rfl
 |8,_=>rfl
 |9,_=>rfl
 |10,_=>rfl
 |11,_=>rfl
 |12,_=>rfl
 |13,_=>rfl
 |14,_=>rfl
 |15,_=>rfl
 |16,_=>rfl
 |17,_=>rfl
 |18,_=>rfl
 |19,_=>rfl
 |20,_=>rfl
 |21,_=>rfl
 |22,_=>rfl
 |23,_=>rfl
 |24,_=>rfl
 |25,_=>rfl
 |26,_=>rfl
 |27,_=>rfl
 |28,_=>rfl
 |29,_=>rfl
 |30,_=>rfl
 |31,_=>rfl
 |32,_=>rfl
 |33,_=>rfl
 |34,_=>rfl
 |35,_=>rfl
 |36,_=>rfl
 |37,_=>rfl
 |38,_=>rfl
 |39,_=>rfl
 |40,_=>rfl
 |41,_=>rfl
 |42,_=>rfl
 |43,_=>rfl
 |44,_=>rfl
 |45,_=>rfl
 |46,_=>rfl
 |47,_=>rfl
 |48,_=>rfl
 |49,_=>rfl
 |50,_=>rfl
 |51,_=>rfl
 |52,_=>rfl
 |53,_=>rfl
 |54,_=>rfl
 |55,_=>rfl
 |56,_=>rfl
 |57,_=>rfl
 |58,_=>rfl
 |59,_=>rfl
 |60,_=>rfl
 |61,_=>rfl
 |62,_=>rfl
 |63,_=>rfl
 |64,_=>rfl
 |65,_=>rfl
 |66,_=>rfl
 |67,_=>rfl
 |68,_=>rfl
 |69,_=>rfl
 |70,_=>rfl
 |71,_=>rfl
 |72,_=>rfl
 |73,_=>rfl
 |j+74,h=>absurd h Yo
theorem aNU(n:Nd)(v:Value)(x:Int):∀j,j<74→iJ (ndF n v) (0+51+0*1) (.int .i64 x) j=ndF { n with he:=λs=>if s=0 then x else n.he s } v j
 |0,_=>rfl
 |1,_=>rfl
 |2,_=>rfl
 |3,_=>rfl
 |4,_=>rfl
 |5,_=>rfl
 |6,_=>rfl
 |7,_=>rfl
 |8,_=>rfl
 |9,_=>rfl
 |10,_=>rfl
 |11,_=>rfl
 |12,_=>rfl
 |13,_=>rfl
 |14,_=>rfl
 |15,_=>rfl
 |16,_=>rfl
 |17,_=>rfl
 |18,_=>rfl
 |19,_=>rfl
 |20,_=>rfl
 |21,_=>rfl
 |22,_=>rfl
 |23,_=>rfl
 |24,_=>rfl
 |25,_=>rfl
 |26,_=>rfl
 |27,_=>rfl
 |28,_=>rfl
 |29,_=>rfl
 |30,_=>rfl
 |31,_=>rfl
 |32,_=>rfl
 |33,_=>rfl
 |34,_=>rfl
 |35,_=>rfl
 |36,_=>rfl
 |37,_=>rfl
 |38,_=>rfl
 |39,_=>rfl
 |40,_=>rfl
 |41,_=>rfl
 |42,_=>rfl
 |43,_=>rfl
 |44,_=>rfl
 |45,_=>rfl
 |46,_=>rfl
 |47,_=>rfl
 |48,_=>rfl
 |49,_=>rfl
 |50,_=>rfl
 |51,_=>rfl
 |52,_=>rfl
 |53,_=>rfl
 |54,_=>rfl
 |55,_=>rfl
 |56,_=>rfl
 |57,_=>rfl
 |58,_=>rfl
 |59,_=>rfl
 |60,_=>rfl
 |61,_=>rfl
 |62,_=>rfl
 |63,_=>rfl
 |64,_=>rfl
 |65,_=>rfl
 |66,_=>rfl
 |67,_=>rfl
 |68,_=>rfl
 |69,_=>rfl
 |70,_=>rfl
 |71,_=>rfl
 |72,_=>rfl
 |73,_=>rfl
 |j+74,h=>absurd h Yo
theorem aPw(n:Nd)(v:Value)(x:Int):∀j,j<74→iJ (ndF n v) (0+51+1*1) (.int .i64 x) j=ndF { n with he:=λs=>if s=1 then x else n.he s } v j
 |0,_=>rfl
 |1,_=>rfl
 |2,_=>rfl
 |3,_=>rfl
 |4,_=>rfl
 |5,_=>rfl
 |6,_=>rfl
 |7,_=>rfl
 |8,_=>rfl
 |9,_=>rfl
 |10,_=>rfl
 |11,_=>rfl
 |12,_=>rfl
 |13,_=>rfl
 |14,_=>rfl
 |15,_=>rfl
 |16,_=>rfl
 |17,_=>rfl
 |18,_=>rfl
 |19,_=>rfl
 |20,_=>rfl
 |21,_=>rfl
 |22,_=>rfl
 |23,_=>rfl
 |24,_=>rfl
 |25,_=>rfl
 |26,_=>rfl
 |27,_=>rfl
 |28,_=>rfl
 |29,_=>rfl
 |30,_=>rfl
 |31,_=>rfl
 |32,_=>rfl
 |33,_=>rfl
 |34,_=>rfl
 |35,_=>rfl
 |36,_=>rfl
 |37,_=>rfl
 |38,_=>rfl
 |39,_=>rfl
 |40,_=>rfl
 |41,_=>rfl
 |42,_=>rfl
 |43,_=>rfl
 |44,_=>rfl
 |45,_=>rfl
 |46,_=>rfl
 |47,_=>rfl
 |48,_=>rfl
 |49,_=>rfl
 |50,_=>rfl
 |51,_=>rfl
 |52,_=>rfl
 |53,_=>rfl
 |54,_=>rfl
 |55,_=>rfl
 |56,_=>rfl
 |57,_=>rfl
 |58,_=>rfl
 |59,_=>rfl
 |60,_=>rfl
 |61,_=>rfl
 |62,_=>rfl
 |63,_=>rfl
 |64,_=>rfl
 |65,_=>rfl
 |66,_=>rfl
 |67,_=>rfl
 |68,_=>rfl
 |69,_=>rfl
 |70,_=>rfl
 |71,_=>rfl
 |72,_=>rfl
 |73,_=>rfl
 |j+74,h=>absurd h Yo
theorem aOY(n:Nd)(v:Value)(x:Int):∀j,j<74→iJ (ndF n v) (0+51+2*1) (.int .i64 x) j=ndF { n with he:=λs=>if s=2 then x else n.he s } v j
 |0,_=>rfl
 |1,_=>rfl
 |2,_=>rfl
 |3,_=>rfl
 |4,_=>rfl
 |5,_=>rfl
 |6,_=>rfl
 |7,_=>rfl
 |8,_=>rfl
 |9,_=>rfl
 |10,_=>rfl
 |11,_=>rfl
 |12,_=>rfl
 |13,_=>rfl
 |14,_=>rfl
 |15,_=>rfl
 |16,_=>rfl
 |17,_=>rfl
 |18,_=>rfl
 |19,_=>rfl
 |20,_=>rfl
 |21,_=>rfl
 |22,_=>rfl
 |23,_=>rfl
 |24,_=>rfl
 |25,_=>rfl
 |26,_=>rfl
 |27,_=>rfl
 |28,_=>rfl
 |29,_=>rfl
 |30,_=>rfl
 |31,_=>rfl
 |32,_=>rfl
 |33,_=>rfl
 |34,_=>rfl
 |35,_=>rfl
 |36,_=>rfl
 |37,_=>rfl
 |38,_=>rfl
 |39,_=>rfl
 |40,_=>rfl
 |41,_=>rfl
 |42,_=>rfl
 |43,_=>rfl
 |44,_=>rfl
 |45,_=>rfl
 |46,_=>rfl
 |47,_=>rfl
 |48,_=>rfl
 |49,_=>rfl
 |50,_=>rfl
 |51,_=>rfl
 |52,_=>rfl
 |53,_=>rfl
 |54,_=>rfl
 |55,_=>rfl
 |56,_=>rfl
 |57,_=>rfl
 |58,_=>rfl
 |59,_=>rfl
 |60,_=>rfl
 |61,_=>rfl
 |62,_=>rfl
 |63,_=>rfl
 |64,_=>rfl
 |65,_=>rfl
 |66,_=>rfl
 |67,_=>rfl
 |68,_=>rfl
 |69,_=>rfl
 |70,_=>rfl
 |71,_=>rfl
 |72,_=>rfl
 |73,_=>rfl
 |j+74,h=>absurd h Yo
theorem aPj(n:Nd)(v:Value)(x:Int):∀j,j<74→iJ (ndF n v) (0+51+3*1) (.int .i64 x) j=ndF { n with he:=λs=>if s=3 then x else n.he s } v j
 |0,_=>rfl
 |1,_=>rfl
 |2,_=>rfl
 |3,_=>rfl
 |4,_=>rfl
 |5,_=>rfl
 |6,_=>rfl
 |7,_=>rfl
 |8,_=>rfl
 |9,_=>rfl
 |10,_=>rfl
 |11,_=>rfl
 |12,_=>rfl
 |13,_=>rfl
 |14,_=>rfl
 |15,_=>rfl
 |16,_=>rfl
 |17,_=>rfl
 |18,_=>rfl
 |19,_=>rfl
 |20,_=>rfl
 |21,_=>rfl
 |22,_=>rfl
 |23,_=>rfl
 |24,_=>rfl
 |25,_=>rfl
 |26,_=>rfl
 |27,_=>rfl
 |28,_=>rfl
 |29,_=>rfl
 |30,_=>rfl
 |31,_=>rfl
 |32,_=>rfl
 |33,_=>rfl
 |34,_=>rfl
 |35,_=>rfl
 |36,_=>rfl
 |37,_=>rfl
 |38,_=>rfl
 |39,_=>rfl
 |40,_=>rfl
 |41,_=>rfl
 |42,_=>rfl
 |43,_=>rfl
 |44,_=>rfl
 |45,_=>rfl
 |46,_=>rfl
 |47,_=>rfl
 |48,_=>rfl
 |49,_=>rfl
 |50,_=>rfl
 |51,_=>rfl
 |52,_=>rfl
 |53,_=>rfl
 |54,_=>rfl
 |55,_=>rfl
 |56,_=>rfl
 |57,_=>rfl
 |58,_=>rfl
 |59,_=>rfl
 |60,_=>rfl
 |61,_=>rfl
 |62,_=>rfl
 |63,_=>rfl
 |64,_=>rfl
 |65,_=>rfl
 |66,_=>rfl
 |67,_=>rfl
 |68,_=>rfl
 |69,_=>rfl
 |70,_=>rfl
 |71,_=>rfl
 |72,_=>rfl
 |73,_=>rfl
 |j+74,h=>absurd h Yo
theorem upd_heAt(n:Nd)(v:Value)(x:Int)(i:Nat)(hi:i<4):∀j,j<74→iJ (ndF n v) (0+51+i*1) (.int .i64 x) j=ndF { n with he:=λs=>if s=i then x else n.he s } v j:=by
 have:i=0∨i=1∨i=2∨i=3:=Yo
 rcases this with rfl|rfl|rfl|rfl
 ·exact aNU n v x
 ·exact aPw n v x
 ·exact aOY n v x
 ·exact aPj n v x
theorem aQs(n:Nd)(v:Value)(x:Int):∀j,j<74→iJ (ndF n v) (0+67+0*1) (.int .i64 x) j=ndF { n with us:=λs=>if s=0 then x else n.us s } v j
 |0,_=>rfl
 |1,_=>rfl
 |2,_=>rfl
 |3,_=>rfl
 |4,_=>rfl
 |5,_=>rfl
 |6,_=>rfl
 |7,_=>rfl
 |8,_=>rfl
 |9,_=>rfl
 |10,_=>rfl
 |11,_=>rfl
 |12,_=>rfl
 |13,_=>rfl
 |14,_=>rfl
 |15,_=>rfl
 |16,_=>rfl
 |17,_=>rfl
 |18,_=>rfl
 |19,_=>rfl
 |20,_=>rfl
 |21,_=>rfl
 |22,_=>rfl
 |23,_=>rfl
 |24,_=>rfl
 |25,_=>rfl
 |26,_=>rfl
 |27,_=>rfl
 |28,_=>rfl
 |29,_=>rfl
 |30,_=>rfl
 |31,_=>rfl
 |32,_=>rfl
 |33,_=>rfl
 |34,_=>rfl
 |35,_=>rfl
 |36,_=>rfl
 |37,_=>rfl
 |38,_=>rfl
 |39,_=>rfl
 |40,_=>rfl
 |41,_=>rfl
 |42,_=>rfl
 |43,_=>rfl
 |44,_=>rfl
 |45,_=>rfl
 |46,_=>rfl
 |47,_=>rfl
 |48,_=>rfl
 |49,_=>rfl
 |50,_=>rfl
 |51,_=>rfl
 |52,_=>rfl
 |53,_=>rfl
 |54,_=>rfl
 |55,_=>rfl
 |56,_=>rfl
 |57,_=>rfl
 |58,_=>rfl
 |59,_=>rfl
 |60,_=>rfl
 |61,_=>rfl
 |62,_=>rfl
 |63,_=>rfl
 |64,_=>rfl
 |65,_=>rfl
 |66,_=>rfl
 |67,_=>rfl
 |68,_=>rfl
 |69,_=>rfl
 |70,_=>rfl
 |71,_=>rfl
 |72,_=>rfl
 |73,_=>rfl
 |j+74,h=>absurd h Yo
theorem aOJ(n:Nd)(v:Value)(x:Int):∀j,j<74→iJ (ndF n v) (0+67+1*1) (.int .i64 x) j=ndF { n with us:=λs=>if s=1 then x else n.us s } v j
 |0,_=>rfl
 |1,_=>rfl
 |2,_=>rfl
 |3,_=>rfl
 |4,_=>rfl
 |5,_=>rfl
 |6,_=>rfl
 |7,_=>rfl
 |8,_=>rfl
 |9,_=>rfl
 |10,_=>rfl
 |11,_=>rfl
 |12,_=>rfl
 |13,_=>rfl
 |14,_=>rfl
 |15,_=>rfl
 |16,_=>rfl
 |17,_=>rfl
 |18,_=>rfl
 |19,_=>rfl
 |20,_=>rfl
 |21,_=>rfl
 |22,_=>rfl
 |23,_=>rfl
 |24,_=>rfl
 |25,_=>rfl
 |26,_=>rfl
 |27,_=>rfl
 |28,_=>rfl
 |29,_=>rfl
 |30,_=>rfl
 |31,_=>rfl
 |32,_=>rfl
 |33,_=>rfl
 |34,_=>rfl
 |35,_=>rfl
 |36,_=>rfl
 |37,_=>rfl
 |38,_=>rfl
 |39,_=>rfl
 |40,_=>rfl
 |41,_=>rfl
 |42,_=>rfl
 |43,_=>rfl
 |44,_=>rfl
 |45,_=>rfl
 |46,_=>rfl
 |47,_=>rfl
 |48,_=>rfl
 |49,_=>rfl
 |50,_=>rfl
 |51,_=>rfl
 |52,_=>rfl
 |53,_=>rfl
 |54,_=>rfl
 |55,_=>rfl
 |56,_=>rfl
 |57,_=>rfl
 |58,_=>rfl
 |59,_=>rfl
 |60,_=>rfl
 |61,_=>rfl
 |62,_=>rfl
 |63,_=>rfl
 |64,_=>rfl
 |65,_=>rfl
 |66,_=>rfl
 |67,_=>rfl
 |68,_=>rfl
 |69,_=>rfl
 |70,_=>rfl
 |71,_=>rfl
 |72,_=>rfl
 |73,_=>rfl
 |j+74,h=>absurd h Yo
theorem aOH(n:Nd)(v:Value)(x:Int):∀j,j<74→iJ (ndF n v) (0+67+2*1) (.int .i64 x) j=ndF { n with us:=λs=>if s=2 then x else n.us s } v j
 |0,_=>rfl
 |1,_=>rfl
 |2,_=>rfl
 |3,_=>rfl
 |4,_=>rfl
 |5,_=>rfl
 |6,_=>rfl
 |7,_=>rfl
 |8,_=>rfl
 |9,_=>rfl
 |10,_=>rfl
 |11,_=>rfl
 |12,_=>rfl
 |13,_=>rfl
 |14,_=>rfl
 |15,_=>rfl
 |16,_=>rfl
 |17,_=>rfl
 |18,_=>rfl
 |19,_=>rfl
 |20,_=>rfl
 |21,_=>rfl
 |22,_=>rfl
 |23,_=>rfl
 |24,_=>rfl
 |25,_=>rfl
 |26,_=>rfl
 |27,_=>rfl
 |28,_=>rfl
 |29,_=>rfl
 |30,_=>rfl
 |31,_=>rfl
 |32,_=>rfl
 |33,_=>rfl
 |34,_=>rfl
 |35,_=>rfl
 |36,_=>rfl
 |37,_=>rfl
 |38,_=>rfl
 |39,_=>rfl
 |40,_=>rfl
 |41,_=>rfl
 |42,_=>rfl
 |43,_=>rfl
 |44,_=>rfl
 |45,_=>rfl
 |46,_=>rfl
 |47,_=>rfl
 |48,_=>rfl
 |49,_=>rfl
 |50,_=>rfl
 |51,_=>rfl
 |52,_=>rfl
 |53,_=>rfl
 |54,_=>rfl
 |55,_=>rfl
 |56,_=>rfl
 |57,_=>rfl
 |58,_=>rfl
 |59,_=>rfl
 |60,_=>rfl
 |61,_=>rfl
 |62,_=>rfl
 |63,_=>rfl
 |64,_=>rfl
 |65,_=>rfl
 |66,_=>rfl
 |67,_=>rfl
 |68,_=>rfl
 |69,_=>rfl
 |70,_=>rfl
 |71,_=>rfl
 |72,_=>rfl
 |73,_=>rfl
 |j+74,h=>absurd h Yo
theorem aKI(n:Nd)(v:Value)(x:Int)(i:Nat)(hi:i<3):∀j,j<74→iJ (ndF n v) (0+67+i*1) (.int .i64 x) j=ndF { n with us:=λs=>if s=i then x else n.us s } v j:=by
 have:i=0∨i=1∨i=2:=Yo
 rcases this with rfl|rfl|rfl
 ·exact aQs n v x
 ·exact aOJ n v x
 ·exact aOH n v x
theorem aPi(n:Nd)(v:Value)(d:Nat→Int):∀j,j<74→fG (ndF n v) (0+39+0*3) 3 (λk=>iV (d k)) j=ndF { n with di:=λs a=>if s=0 then d a else n.di s a } v j
 |0,_=>rfl
 |1,_=>rfl
 |2,_=>rfl
 |3,_=>rfl
 |4,_=>rfl
 |5,_=>rfl
 |6,_=>rfl
 |7,_=>rfl
 |8,_=>rfl
 |9,_=>rfl
 |10,_=>rfl
 |11,_=>rfl
 |12,_=>rfl
 |13,_=>rfl
 |14,_=>rfl
 |15,_=>rfl
 |16,_=>rfl
 |17,_=>rfl
 |18,_=>rfl
 |19,_=>rfl
 |20,_=>rfl
 |21,_=>rfl
 |22,_=>rfl
 |23,_=>rfl
 |24,_=>rfl
 |25,_=>rfl
 |26,_=>rfl
 |27,_=>rfl
 |28,_=>rfl
 |29,_=>rfl
 |30,_=>rfl
 |31,_=>rfl
 |32,_=>rfl
 |33,_=>rfl
 |34,_=>rfl
 |35,_=>rfl
 |36,_=>rfl
 |37,_=>rfl
 |38,_=>rfl
 |39,_=>rfl
 |40,_=>rfl
 |41,_=>rfl
 |42,_=>rfl
 |43,_=>rfl
 |44,_=>rfl
 |45,_=>rfl
 |46,_=>rfl
 |47,_=>rfl
 |48,_=>rfl
 |49,_=>rfl
 |50,_=>rfl
 |51,_=>rfl
 |52,_=>rfl
 |53,_=>rfl
 |54,_=>rfl
 |55,_=>rfl
 |56,_=>rfl
 |57,_=>rfl
 |58,_=>rfl
 |59,_=>rfl
 |60,_=>rfl
 |61,_=>rfl
 |62,_=>rfl
 |63,_=>rfl
 |64,_=>rfl
 |65,_=>rfl
 |66,_=>rfl
 |67,_=>rfl
 |68,_=>rfl
 |69,_=>rfl
 |70,_=>rfl
 |71,_=>rfl
 |72,_=>rfl
 |73,_=>rfl
 |j+74,h=>absurd h Yo
theorem aOz(n:Nd)(v:Value)(d:Nat→Int):∀j,j<74→fG (ndF n v) (0+39+1*3) 3 (λk=>iV (d k)) j=ndF { n with di:=λs a=>if s=1 then d a else n.di s a } v j
 |0,_=>rfl
 |1,_=>rfl
 |2,_=>rfl
 |3,_=>rfl
 |4,_=>rfl
 |5,_=>rfl
 |6,_=>rfl
 |7,_=>rfl
 |8,_=>rfl
 |9,_=>rfl
 |10,_=>rfl
 |11,_=>rfl
 |12,_=>rfl
 |13,_=>rfl
 |14,_=>rfl
 |15,_=>rfl
 |16,_=>rfl
 |17,_=>rfl
 |18,_=>rfl
 |19,_=>rfl
 |20,_=>rfl
 |21,_=>rfl
 |22,_=>rfl
 |23,_=>rfl
 |24,_=>rfl
 |25,_=>rfl
 |26,_=>rfl
 |27,_=>rfl
 |28,_=>rfl
 |29,_=>rfl
 |30,_=>rfl
 |31,_=>rfl
 |32,_=>rfl
 |33,_=>rfl
 |34,_=>rfl
 |35,_=>rfl
 |36,_=>rfl
 |37,_=>rfl
 |38,_=>rfl
 |39,_=>rfl
 |40,_=>rfl
 |41,_=>rfl
 |42,_=>rfl
 |43,_=>rfl
 |44,_=>rfl
 |45,_=>rfl
 |46,_=>rfl
 |47,_=>rfl
 |48,_=>rfl
 |49,_=>rfl
 |50,_=>rfl
 |51,_=>rfl
 |52,_=>rfl
 |53,_=>rfl
 |54,_=>rfl
 |55,_=>rfl
 |56,_=>rfl
 |57,_=>rfl
 |58,_=>rfl
 |59,_=>rfl
 |60,_=>rfl
 |61,_=>rfl
 |62,_=>rfl
 |63,_=>rfl
 |64,_=>rfl
 |65,_=>rfl
 |66,_=>rfl
 |67,_=>rfl
 |68,_=>rfl
 |69,_=>rfl
 |70,_=>rfl
 |71,_=>rfl
 |72,_=>rfl
 |73,_=>rfl
 |j+74,h=>absurd h Yo
theorem aQI(n:Nd)(v:Value)(d:Nat→Int):∀j,j<74→fG (ndF n v) (0+39+2*3) 3 (λk=>iV (d k)) j=ndF { n with di:=λs a=>if s=2 then d a else n.di s a } v j
 |0,_=>rfl
 |1,_=>rfl
 |2,_=>rfl
 |3,_=>rfl
 |4,_=>rfl
 |5,_=>rfl
 |6,_=>rfl
 |7,_=>rfl
 |8,_=>rfl
 |9,_=>rfl
 |10,_=>rfl
 |11,_=>rfl
 |12,_=>rfl
 |13,_=>rfl
 |14,_=>rfl
 |15,_=>rfl
 |16,_=>rfl
 |17,_=>rfl
 |18,_=>rfl
 |19,_=>rfl
 |20,_=>rfl
 |21,_=>rfl
 |22,_=>rfl
 |23,_=>rfl
 |24,_=>rfl
 |25,_=>rfl
 |26,_=>rfl
 |27,_=>rfl
 |28,_=>rfl
 |29,_=>rfl
 |30,_=>rfl
 |31,_=>rfl
 |32,_=>rfl
 |33,_=>rfl
 |34,_=>rfl
 |35,_=>rfl
 |36,_=>rfl
 |37,_=>rfl
 |38,_=>rfl
 |39,_=>rfl
 |40,_=>rfl
 |41,_=>rfl
 |42,_=>rfl
 |43,_=>rfl
 |44,_=>rfl
 |45,_=>rfl
 |46,_=>rfl
 |47,_=>rfl
 |48,_=>rfl
 |49,_=>rfl
 |50,_=>rfl
 |51,_=>rfl
 |52,_=>rfl
 |53,_=>rfl
 |54,_=>rfl
 |55,_=>rfl
 |56,_=>rfl
 |57,_=>rfl
 |58,_=>rfl
 |59,_=>rfl
 |60,_=>rfl
 |61,_=>rfl
 |62,_=>rfl
 |63,_=>rfl
 |64,_=>rfl
 |65,_=>rfl
 |66,_=>rfl
 |67,_=>rfl
 |68,_=>rfl
 |69,_=>rfl
 |70,_=>rfl
 |71,_=>rfl
 |72,_=>rfl
 |73,_=>rfl
 |j+74,h=>absurd h Yo
theorem aQw(n:Nd)(v:Value)(d:Nat→Int):∀j,j<74→fG (ndF n v) (0+39+3*3) 3 (λk=>iV (d k)) j=ndF { n with di:=λs a=>if s=3 then d a else n.di s a } v j
 |0,_=>rfl
 |1,_=>rfl
 |2,_=>rfl
 |3,_=>rfl
 |4,_=>rfl
 |5,_=>rfl
 |6,_=>rfl
 |7,_=>rfl
 |8,_=>rfl
 |9,_=>rfl
 |10,_=>rfl
 |11,_=>rfl
 |12,_=>rfl
 |13,_=>rfl
 |14,_=>rfl
 |15,_=>rfl
 |16,_=>rfl
 |17,_=>rfl
 |18,_=>rfl
 |19,_=>rfl
 |20,_=>rfl
 |21,_=>rfl
 |22,_=>rfl
 |23,_=>rfl
 |24,_=>rfl
 |25,_=>rfl
 |26,_=>rfl
 |27,_=>rfl
 |28,_=>rfl
 |29,_=>rfl
 |30,_=>rfl
 |31,_=>rfl
 |32,_=>rfl
 |33,_=>rfl
 |34,_=>rfl
 |35,_=>rfl
 |36,_=>rfl
 |37,_=>rfl
 |38,_=>rfl
 |39,_=>rfl
 |40,_=>rfl
 |41,_=>rfl
 |42,_=>rfl
 |43,_=>rfl
 |44,_=>rfl
 |45,_=>rfl
 |46,_=>rfl
 |47,_=>rfl
 |48,_=>rfl
 |49,_=>rfl
 |50,_=>rfl
 |51,_=>rfl
 |52,_=>rfl
 |53,_=>rfl
 |54,_=>rfl
 |55,_=>rfl
 |56,_=>rfl
 |57,_=>rfl
 |58,_=>rfl
 |59,_=>rfl
 |60,_=>rfl
 |61,_=>rfl
 |62,_=>rfl
 |63,_=>rfl
 |64,_=>rfl
 |65,_=>rfl
 |66,_=>rfl
 |67,_=>rfl
 |68,_=>rfl
 |69,_=>rfl
 |70,_=>rfl
 |71,_=>rfl
 |72,_=>rfl
 |73,_=>rfl
 |j+74,h=>absurd h Yo
theorem aEW(n:Nd)(v:Value)(d:Nat→Int)(i:Nat)(hi:i<4):∀j,j<74→fG (ndF n v) (0+39+i*3) 3 (λk=>iV (d k)) j=ndF { n with di:=λs a=>if s=i then d a else n.di s a } v j:=by
 have:i=0∨i=1∨i=2∨i=3:=Yo
 rcases this with rfl|rfl|rfl|rfl
 ·exact aPi n v d
 ·exact aOz n v d
 ·exact aQI n v d
 ·exact aQw n v d
theorem aOr(n:Nd)(v:Value)(s:St):∀j,j<74→fG (ndF n v) (0+6+0*7) 7 (dG s) j=ndF { n with ax:=λa=>if a=0 then s else n.ax a } v j
 |0,_=>rfl
 |1,_=>rfl
 |2,_=>rfl
 |3,_=>rfl
 |4,_=>rfl
 |5,_=>rfl
 |6,_=>rfl
 |7,_=>rfl
 |8,_=>rfl
 |9,_=>rfl
 |10,_=>rfl
 |11,_=>rfl
 |12,_=>rfl
 |13,_=>rfl
 |14,_=>rfl
 |15,_=>rfl
 |16,_=>rfl
 |17,_=>rfl
 |18,_=>rfl
 |19,_=>rfl
 |20,_=>rfl
 |21,_=>rfl
 |22,_=>rfl
 |23,_=>rfl
 |24,_=>rfl
 |25,_=>rfl
 |26,_=>rfl
 |27,_=>rfl
 |28,_=>rfl
 |29,_=>rfl
 |30,_=>rfl
 |31,_=>rfl
 |32,_=>rfl
 |33,_=>rfl
 |34,_=>rfl
 |35,_=>rfl
 |36,_=>rfl
 |37,_=>rfl
 |38,_=>rfl
 |39,_=>rfl
 |40,_=>rfl
 |41,_=>rfl
 |42,_=>rfl
 |43,_=>rfl
 |44,_=>rfl
 |45,_=>rfl
 |46,_=>rfl
 |47,_=>rfl
 |48,_=>rfl
 |49,_=>rfl
 |50,_=>rfl
 |51,_=>rfl
 |52,_=>rfl
 |53,_=>rfl
 |54,_=>rfl
 |55,_=>rfl
 |56,_=>rfl
 |57,_=>rfl
 |58,_=>rfl
 |59,_=>rfl
 |60,_=>rfl
 |61,_=>rfl
 |62,_=>rfl
 |63,_=>rfl
 |64,_=>rfl
 |65,_=>rfl
 |66,_=>rfl
 |67,_=>rfl
 |68,_=>rfl
 |69,_=>rfl
 |70,_=>rfl
 |71,_=>rfl
 |72,_=>rfl
 |73,_=>rfl
 |j+74,h=>absurd h Yo
theorem aQl(n:Nd)(v:Value)(s:St):∀j,j<74→fG (ndF n v) (0+6+1*7) 7 (dG s) j=ndF { n with ax:=λa=>if a=1 then s else n.ax a } v j
 |0,_=>rfl
 |1,_=>rfl
 |2,_=>rfl
 |3,_=>rfl
 |4,_=>rfl
 |5,_=>rfl
 |6,_=>rfl
 |7,_=>rfl
 |8,_=>rfl
 |9,_=>rfl
 |10,_=>rfl
 |11,_=>rfl
 |12,_=>rfl
 |13,_=>rfl
 |14,_=>rfl
 |15,_=>rfl
 |16,_=>rfl
 |17,_=>rfl
 |18,_=>rfl
 |19,_=>rfl
 |20,_=>rfl
 |21,_=>rfl
 |22,_=>rfl
 |23,_=>rfl
 |24,_=>rfl
 |25,_=>rfl
 |26,_=>rfl
 |27,_=>rfl
 |28,_=>rfl
 |29,_=>rfl
 |30,_=>rfl
 |31,_=>rfl
 |32,_=>rfl
 |33,_=>rfl
 |34,_=>rfl
 |35,_=>rfl
 |36,_=>rfl
 |37,_=>rfl
 |38,_=>rfl
 |39,_=>rfl
 |40,_=>rfl
 |41,_=>rfl
 |42,_=>rfl
 |43,_=>rfl
 |44,_=>rfl
 |45,_=>rfl
 |46,_=>rfl
 |47,_=>rfl
 |48,_=>rfl
 |49,_=>rfl
 |50,_=>rfl
 |51,_=>rfl
 |52,_=>rfl
 |53,_=>rfl
 |54,_=>rfl
 |55,_=>rfl
 |56,_=>rfl
 |57,_=>rfl
 |58,_=>rfl
 |59,_=>rfl
 |60,_=>rfl
 |61,_=>rfl
 |62,_=>rfl
 |63,_=>rfl
 |64,_=>rfl
 |65,_=>rfl
 |66,_=>rfl
 |67,_=>rfl
 |68,_=>rfl
 |69,_=>rfl
 |70,_=>rfl
 |71,_=>rfl
 |72,_=>rfl
 |73,_=>rfl
 |j+74,h=>absurd h Yo
theorem aNY(n:Nd)(v:Value)(s:St):∀j,j<74→fG (ndF n v) (0+6+2*7) 7 (dG s) j=ndF { n with ax:=λa=>if a=2 then s else n.ax a } v j
 |0,_=>rfl
 |1,_=>rfl
 |2,_=>rfl
 |3,_=>rfl
 |4,_=>rfl
 |5,_=>rfl
 |6,_=>rfl
 |7,_=>rfl
 |8,_=>rfl
 |9,_=>rfl
 |10,_=>rfl
 |11,_=>rfl
 |12,_=>rfl
 |13,_=>rfl
 |14,_=>rfl
 |15,_=>rfl
 |16,_=>rfl
 |17,_=>rfl
 |18,_=>rfl
 |19,_=>rfl
 |20,_=>rfl
 |21,_=>rfl
 |22,_=>rfl
 |23,_=>rfl
 |24,_=>rfl
 |25,_=>rfl
 |26,_=>rfl
 |27,_=>rfl
 |28,_=>rfl
 |29,_=>rfl
 |30,_=>rfl
 |31,_=>rfl
 |32,_=>rfl
 |33,_=>rfl
 |34,_=>rfl
 |35,_=>rfl
 |36,_=>rfl
 |37,_=>rfl
 |38,_=>rfl
 |39,_=>rfl
 |40,_=>rfl
 |41,_=>rfl
 |42,_=>rfl
 |43,_=>rfl
 |44,_=>rfl
 |45,_=>rfl
 |46,_=>rfl
 |47,_=>rfl
 |48,_=>rfl
 |49,_=>rfl
 |50,_=>rfl
 |51,_=>rfl
 |52,_=>rfl
 |53,_=>rfl
 |54,_=>rfl
 |55,_=>rfl
 |56,_=>rfl
 |57,_=>rfl
 |58,_=>rfl
 |59,_=>rfl
 |60,_=>rfl
 |61,_=>rfl
 |62,_=>rfl
 |63,_=>rfl
 |64,_=>rfl
 |65,_=>rfl
 |66,_=>rfl
 |67,_=>rfl
 |68,_=>rfl
 |69,_=>rfl
 |70,_=>rfl
 |71,_=>rfl
 |72,_=>rfl
 |73,_=>rfl
 |j+74,h=>absurd h Yo
theorem aBv(n:Nd)(v:Value)(s:St)(i:Nat)(hi:i<3):∀j,j<74→fG (ndF n v) (0+6+i*7) 7 (dG s) j=ndF { n with ax:=λa=>if a=i then s else n.ax a } v j:=by
 have:i=0∨i=1∨i=2:=Yo
 rcases this with rfl|rfl|rfl
 ·exact aOr n v s
 ·exact aQl n v s
 ·exact aNY n v s
end Go.Proofs.YtdhblehhgpdpdacGreat
namespace Go.Proofs.YtdhblehhgpdpdacGreat
open Go.RowKit
structure NdOK (n:Nd):Prop where
 id:R64 n.id
 fr:R64 n.fr
 tn:n.tn.Ok
 ax:∀a,(n.ax a).Ok
 rM:∀i,R64 (n.rl.M i)
 rJ:∀i,R64 (n.rl.J i)
 di:∀s a,R64 (n.di s a)
 he:∀s,R64 (n.he s)
 ag:∀s a,R64 (n.ag s a)
 us:∀a,R64 (n.us a)
 dg:R64 n.dg
 vX:R64 n.vX
 vA:n.vA.length≤140737488351232
def aAJ(w:World)(n:Nd)(ao:Option Addr)(c:Nat):Prop:=Sr w ao n.vA.length c (tF (bA n))
def oI(B:Nat)(w:World)(n:Nd)(ao:Option Addr)(c:Nat):Prop:=w.ownsRow B 4 1 (.slice ao n.vA.length c) n.vA.length (rowV (tF (bA n)) n.vA.length)
def lsV(m:Ms)(v:Value):Value:=aV (kK m.K m.F m.R v) 0 4
def aDE(B:Nat)(w:World)(m:Ms)(ao:Option Addr)(c:Nat):Prop:=w.ownsRow B 3 1 (.slice ao m.L.length c) m.L.length (rowV (iF (gL m.L)) m.L.length)
def aTP(fn:Nat):Prop:=∀(n:Nd) (ao:Option Addr) (c:Nat) (frame:Int) (rd:Nat→Int) (w:World),NdOK n→aAJ w n ao c→R64 frame→(∀a,R64 (rd a))→
 Calls Tryz.prog fn #[kT n (.slice ao n.vA.length c),.int .i64 frame,aV (λa=>iV (rd a)) 0 3] w λe w'=>∃a' c' a2 c2,e=.returned (.tuple #[kT (pR n frame rd) (.slice a' n.vA.length c'),lsV (oV n frame rd) (.slice a2 (oV n frame rd).L.length c2)])∧oI w.heap.size w' n a' c'∧aDE w.heap.size w' (oV n frame rd) a2 c2∧Below w.heap.size w w'
def aCD(N:Nd→List Ms→Nd)(M:Nd→List Ms→Ms)(fn:Nat):Prop:=∀(n:Nd) (ao:Option Addr) (c:Nat) (mo:Option Addr) (mc:Nat) (L:List Lm) (w:World),NdOK n→aAJ w n ao c→MRd w mo L→L.length≤140737488351232→L.length≤mc→(∀m,m∈L→∀i,R64 (gL m.m.L i))→
 Calls Tryz.prog fn #[kT n (.slice ao n.vA.length c),.slice mo L.length mc] w λe w'=>∃a' c' a2 c2,e=.returned (.tuple #[kT (N n (L.map Lm.m)) (.slice a' (N n (L.map Lm.m)).vA.length c'),lsV (M n (L.map Lm.m)) (.slice a2 (M n (L.map Lm.m)).L.length c2)])∧oI w.heap.size w' (N n (L.map Lm.m)) a' c'∧aDE w.heap.size w' (M n (L.map Lm.m)) a2 c2∧Below w.heap.size w w'
theorem aJg(w:World):(zeroValue 28).run Tryz.prog w=.ok (aV (λ_=>iV 0) 0 12) w:=by kernel_rfl
section
variable {f:Operand→Value} {o:Oper}
theorem sJ(ho:o.op=.build 69 #[])(w:World):(execOp f o).run Tryz.prog w=.ok (.value (aV (kK 0 0 0 (.slice none 0 0)) 0 4)) w:=by
 unfold execOp
 rw[ho]
 go_simp
 rfl
theorem aKY (a b c d : Operand) (ho : o.op = .build 69 #[(0, a), (1, b), (2, c), (3, d)]) {K F R : Int} {ao : Option Addr} {n q : Nat} (h0 : f a = .int .i64 K) (h1 : f b = .int .i64 F) (h2 : f c = .int .i64 R) (h3 : f d = .slice ao n q) (w : World) :
  (execOp f o).run Tryz.prog w=.ok (.value (aV (kK K F R (.slice ao n q)) 0 4)) w:=by
 unfold execOp
 rw[ho]
 go_simp
 rfl
theorem aKF(ho:o.op=.build 48 #[])(w:World):(execOp f o).run Tryz.prog w=.ok (.value (aV (λ_=>iV 0) 0 4)) w:=by
 unfold execOp
 rw[ho]
 go_simp
 rfl
end
theorem aOD (w : World) {o : Oper} {a : Act} {K : Act → World → Prop} {Q : Exit → Act → World → Prop} (x y z : Operand) (ho : o.op = .buildSlice 67 3 #[(0, x), (1, y), (2, z)]) {g : Nat → Int} (hx : a.eval x = .int .i64 (g 0)) (hy : a.eval y = .int .i64 (g 1)) (hz : a.eval z = .int .i64 (g 2))
  (h:∀w',Vh 3 w' w.heap.size 3 3 (λi=>iV (g i))→Below w.heap.size w w'→w'.heap.size=w.heap.size+1→K (a.put o.dst (.slice (some ⟨w.heap.size,0,none⟩) 3 3)) w'):WpI Tryz.prog o a w K Q:=by
 have hh:=h (w.alloc (.cells #[.int .i64 (g 0),.int .i64 (g 1),.int .i64 (g 2)] 3)) (Vh.of_row (λi=>iV (g i)) 3 Yc (by show (w.heap.push _)[w.heap.size]?=_;rw[Array.getElem?_push_size];rfl)) (bR _ _) (dC _ _)
 have e:(execOp a.eval o).run Tryz.prog w=.ok (.value (.slice (some ⟨w.heap.size,0,none⟩) 3 3)) (w.alloc (.cells #[.int .i64 (g 0),.int .i64 (g 1),.int .i64 (g 2)] 3)):=by
  generalize a.eval=f at hx hy hz
  unfold execOp
  rw[ho]
  simp only[List.map_toArray,List.map_cons,List.map_nil]
  rw[hx,hy,hz]
  go_simp
 refine⟨?_⟩
 unfold Oper.wp
 rw[e]
 exact hh
theorem aCr (w : World) {o : Oper} {a : Act} {K : Act → World → Prop} {Q : Exit → Act → World → Prop} (x : Operand) (ho : o.op = .buildSlice 67 1 #[(0, x)]) {g : Int} (hx : a.eval x = .int .i64 g)
  (h:∀w',Vh 3 w' w.heap.size 1 1 (λ_=>iV g)→Below w.heap.size w w'→w'.heap.size=w.heap.size+1→K (a.put o.dst (.slice (some ⟨w.heap.size,0,none⟩) 1 1)) w'):WpI Tryz.prog o a w K Q:=by
 have hh:=h (w.alloc (.cells #[.int .i64 g] 3)) (Vh.of_row (λ_=>iV g) 1 Yc (by show (w.heap.push _)[w.heap.size]?=_;rw[Array.getElem?_push_size];rfl)) (bR _ _) (dC _ _)
 have e:(execOp a.eval o).run Tryz.prog w=.ok (.value (.slice (some ⟨w.heap.size,0,none⟩) 1 1)) (w.alloc (.cells #[.int .i64 g] 3)):=by
  generalize a.eval=f at hx
  unfold execOp
  rw[ho]
  simp only[List.map_toArray,List.map_cons,List.map_nil]
  rw[hx]
  go_simp
 refine⟨?_⟩
 unfold Oper.wp
 rw[e]
 exact hh
theorem gB(K F R:Int)(ao:Option Addr)(n c:Nat):∀j,j<4→(kK K F R (.slice ao n c) j).oneCell'=true:=by
 intro j _
 unfold kK iV
 repeat' split
 all_goals rfl
theorem uU{x:Int}(h:jR x=false):0≤x∧x≤3:=by
 unfold jR at h
 simp at h
 omega
section
variable {f:Operand→Value} {o:Oper}
theorem mX(x:Operand)(ho:o.op=.extract x 0){u v:Value}(hx:f x=.tuple #[u,v])(w:World):(execOp f o).run Tryz.prog w=.ok (.value u) w:=by
 unfold execOp
 rw[ho]
 dsimp only
 rw[hx]
 rfl
theorem mW(x:Operand)(ho:o.op=.extract x 1){u v:Value}(hx:f x=.tuple #[u,v])(w:World):(execOp f o).run Tryz.prog w=.ok (.value v) w:=by
 unfold execOp
 rw[ho]
 dsimp only
 rw[hx]
 rfl
theorem fT (x y : Operand) (ho : o.op = .indexAddr 67 x y) {a : Addr} {n cap i : Nat} {z : Int} (hx : f x = .slice (some a) n cap) (hy : f y = .int .i64 z) (hz : z = (i : Int)) (hi : i < n) (w : World) :
  (execOp f o).run Tryz.prog w=.ok (.value (.pointer (some (a.add i)))) w:=by
 subst hz
 have hi2:(i:Int)<n:=Yo
 unfold execOp
 rw[ho]
 dsimp only
 rw[hx,hy]
 go_simp
theorem fQ(x:Operand)(ho:o.op=.load 3 x){a:Addr}{v:Int}(hx:f x=.pointer (some a)){w:World}(hc:w.cell? a=some (.int .i64 v)):(execOp f o).run Tryz.prog w=.ok (.value (.int .i64 v)) w:=by
 unfold execOp
 rw[ho]
 dsimp only
 rw[hx]
 go_simp
theorem aBk(x:Operand)(ho:o.op=.slice 48 x none none none){b off:Nat}(hx:f x=.pointer (some ⟨b,off,none⟩))(w:World):(execOp f o).run Tryz.prog w=.ok (.value (.slice (some ⟨b,off,none⟩) 4 4)) w:=by
 unfold execOp
 rw[ho]
 dsimp only
 rw[hx]
 go_simp
end
theorem uX{id fr s kind many:Int}{L:List Lm}{c:Lm}(h:fL id fr L s kind many=some c):c∈L∧jF id fr s kind many c.m=true:=by
 unfold fL at h
 have h2:=List.find?_some h
 exact⟨List.mem_of_find?_eq_some h,h2⟩
theorem uO{id fr s kind many:Int}{m:Ms}(h:jF id fr s kind many m=true):(m.L.length:Int)=many:=by
 unfold jF at h
 simp only[Bool.and_eq_true,decide_eq_true_eq] at h
 exact h.2
theorem LvRd.at{w:World}{c:Lm}(h:LvRd w c)(hl:0<c.m.L.length):∃y,c.ao=some y∧∀i,i<c.m.L.length→w.cell? (y.add i)=some (.int .i64 (gL c.m.L i)):=by
 rcases h.1 with ⟨_,h0,_⟩|⟨y,e,hy⟩
 ·omega
 ·exact⟨y,e,λi hi=>hy i hi⟩
theorem he_row{w:World}{b:Nat}{n:Nd}{v:Value}(h:Vh 55 w b 74 74 (ndF n v)):Sr w (some ⟨b,0+51,none⟩) 4 4 (iF n.he):=by
 refine Or.inr ⟨_,rfl,λi hi=>?_⟩
 rw[add_at]
 have:=h.cell (i:=0+51+i) Yo
 rw[this]
 match i,hi with
 |0,_=>rfl
 |1,_=>rfl
 |2,_=>rfl
 |3,_=>rfl
theorem gM:Many Tryz.prog 45 7:=Many.of _ Tryz.underlying45 rfl (by kernel_rfl)
theorem dJ:Many Tryz.prog 50 12:=Many.of _ Tryz.underlying50 rfl (by kernel_rfl)
theorem pQ(g:Nat→Value)(h:Nat→Value):∀j,j<7→fG g 0 7 h j=h j:=λj hj=>by
 have:=mE g (o:=0) (n:=7) h hj
 rwa [Nat.zero_add] at this
theorem vF(w:World):(zeroValue 45).run Tryz.prog w=.ok (aV (dG St.nil') 0 7) w:=by kernel_rfl
section
variable {f:Operand→Value} {o:Oper}
theorem aEB(x y:Operand)(ho:o.op=.binOp .mul 3 x y 3){u v:Int}(hx:f x=.int .i64 u)(hy:f y=.int .i64 v)(w:World):(execOp f o).run Tryz.prog w=.ok (.value (.int .i64 (wrap64 (u*v)))) w:=by
 unfold execOp
 rw[ho]
 dsimp only
 rw[hx,hy]
 go_simp
 rw[IntKind.wrap_i64]
 unfold wrap64
 omega
theorem aKZ(x y:Operand)(ho:o.op=.binOp .add 3 x y 3){u v:Int}(hx:f x=.int .i64 u)(hy:f y=.int .i64 v)(w:World):(execOp f o).run Tryz.prog w=.ok (.value (.int .i64 (wrap64 (u+v)))) w:=by
 unfold execOp
 rw[ho]
 dsimp only
 rw[hx,hy]
 go_simp
 rw[IntKind.wrap_i64]
 unfold wrap64
 omega
theorem aBx(x y:Operand)(ho:o.op=.binOp .mul 3 x y 3){u v:Int}(hx:f x=.int .i64 u)(hy:f y=.int .i64 v)(h1: -9223372036854775808≤u*v)(h2:u*v≤9223372036854775807)(w:World):(execOp f o).run Tryz.prog w=.ok (.value (.int .i64 (u*v))) w:=by
 rw[aEB x y ho hx hy w]
 have:wrap64 (u*v)=u*v:=by unfold wrap64;omega
 rw[this]
theorem iR{b:Bool}(x y:Operand)(ho:o.op=.binOp .geq 3 x y 3){u v:Int}(hx:f x=.int .i64 u)(hy:f y=.int .i64 v)(hb:decide (v≤u)=b)(w:World):(execOp f o).run Tryz.prog w=.ok (.value (.bool b)) w:=by
 subst hb
 unfold execOp
 rw[ho]
 dsimp only
 rw[hx,hy]
 go_simp
theorem dM {P : Program} (ty : TypeId) (x : Operand) (ho : o.op = .load ty x) {b k n N cap : Nat} {t : TypeId} {g h : Nat → Value} (T : Many P ty n) (hx : f x = .pointer (some ⟨b, k, none⟩)) {w : World} (hm : Vh t w b N cap g) (hn : k + n ≤ N) (he : ∀ j, j < n → g (k + j) = h j) :
  (execOp f o).run P w=.ok (.value (aV h 0 n)) w:=by
 rw[aP ty x ho T hx hm hn]
 have:aV g k n=aV h 0 n:=by
  unfold aV
  congr 1
  congr 1
  apply List.map_congr_left
  intro j hj
  rw[he j (by simpa using hj),Nat.zero_add]
 rw[this]
end
theorem aQf (w : World) {o : Oper} {a : Act} {K : Act → World → Prop} {Q : Exit → Act → World → Prop} (x0 x1 x2 x3 x4 x5 x6 : Operand) (ho : o.op = .buildSlice 67 7 #[(0, x0), (1, x1), (2, x2), (3, x3), (4, x4), (5, x5), (6, x6)]) {g : Nat → Int} (h0 : a.eval x0 = .int .i64 (g 0)) (h1 : a.eval x1 = .int .i64 (g 1)) (h2 : a.eval x2 = .int .i64 (g 2)) (h3 : a.eval x3 = .int .i64 (g 3)) (h4 : a.eval x4 = .int .i64 (g 4)) (h5 : a.eval x5 = .int .i64 (g 5)) (h6 : a.eval x6 = .int .i64 (g 6))
  (h:∀w',Vh 3 w' w.heap.size 7 7 (λi=>iV (g i))→Below w.heap.size w w'→w'.heap.size=w.heap.size+1→K (a.put o.dst (.slice (some ⟨w.heap.size,0,none⟩) 7 7)) w'):WpI Tryz.prog o a w K Q:=by
 have hh:=h (w.alloc (.cells #[.int .i64 (g 0),.int .i64 (g 1),.int .i64 (g 2),.int .i64 (g 3),.int .i64 (g 4),.int .i64 (g 5),.int .i64 (g 6)] 3)) (Vh.of_row (λi=>iV (g i)) 7 Yc (by show (w.heap.push _)[w.heap.size]?=_;rw[Array.getElem?_push_size];rfl)) (bR _ _) (dC _ _)
 have e:(execOp a.eval o).run Tryz.prog w=.ok (.value (.slice (some ⟨w.heap.size,0,none⟩) 7 7)) (w.alloc (.cells #[.int .i64 (g 0),.int .i64 (g 1),.int .i64 (g 2),.int .i64 (g 3),.int .i64 (g 4),.int .i64 (g 5),.int .i64 (g 6)] 3)):=by
  generalize a.eval=f at h0 h1 h2 h3 h4 h5 h6
  unfold execOp
  rw[ho]
  simp only[List.map_toArray,List.map_cons,List.map_nil]
  rw[h0,h1,h2,h3,h4,h5,h6]
  go_simp
 refine⟨?_⟩
 unfold Oper.wp
 rw[e]
 exact hh
theorem aRx(n:Nd)(v:Value){i:Nat}(hi:i<4):ndF n v (0+27+0+i*1)=.bool (n.rl.I i):=by
 unfold ndF
 rw[if_neg Yo,if_neg Yo,if_neg Yo,if_pos Yo]
 unfold cZ
 rw[if_pos Yo,show 0+27+0+i*1-27=i by omega]
theorem aFe(l:List Int):l.map iV=rowV (iF (gL l)) l.length:=by
 apply List.ext_getElem?
 intro i
 rw[List.getElem?_map]
 rcases Nat.lt_or_ge i l.length with h|h
 ·rw[gU _ h,List.getElem?_eq_getElem h]
  unfold iF gL
  rw[List.getD_eq_getElem?_getD,List.getElem?_eq_getElem h]
  rfl
 ·rw[iU _ h,List.getElem?_eq_none h];rfl
theorem eH(s:St):∀j,j<7→(dG s j).oneCell'=true:=by
 intro j _
 unfold dG iV
 repeat' split
 all_goals rfl
end Go.Proofs.YtdhblehhgpdpdacGreat
