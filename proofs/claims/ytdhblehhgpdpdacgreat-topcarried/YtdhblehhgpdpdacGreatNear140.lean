import Derived.Test.YtdhblehhgpdpdacGreatNear66
import Derived.Test.YtdhblehhgpdpdacGreatStrByte
namespace Go.Proofs.YtdhblehhgpdpdacGreat
open Go.RowKit
def lQ(p:Pc)(v:Value):Value:=.agg #[.int .i64 p.fr,.int .i64 p.to,.int .i64 p.du,.int .i64 p.se,v]
theorem aPb {f : Operand → Value} {o : Oper} (x y : Operand) (ho : o.op = .indexAddr 72 x y) {b off n cap i : Nat} (hx : f x = .slice (some ⟨b, off, none⟩) n cap) (hy : f y = .int .i64 (i : Int)) (hi : i < n) (w : World) :
  (execOp f o).run Tryz.prog w=.ok (.value (.pointer (some ⟨b,off+i*5,none⟩))) w:=by
 have hi2:(i:Int)<n:=Yo
 unfold execOp
 rw[ho]
 dsimp only
 rw[hx,hy]
 go_simp
theorem zX {f : Operand → Value} {o : Oper} (x : Operand) (k : Nat) (ho : o.op = .fieldAddr 82 x k) {b off : Nat} (hx : f x = .pointer (some ⟨b, off, none⟩)) (hk : k < 5) (w : World) :
  (execOp f o).run Tryz.prog w=.ok (.value (.pointer (some ⟨b,off+k,none⟩))) w:=by
 have:k=0∨k=1∨k=2∨k=3∨k=4:=Yo
 unfold execOp
 rw[ho]
 dsimp only
 rw[hx]
 rcases this with rfl|rfl|rfl|rfl|rfl<;>go_simp
theorem vH {f : Operand → Value} {o : Oper} (x : Operand) (k : Nat) (ho : o.op = .fieldAddr 74 x k) {b : Nat} (hx : f x = .pointer (some ⟨b, 0, none⟩)) (hk : k < 3) (w : World) :
  (execOp f o).run Tryz.prog w=.ok (.value (.pointer (some ⟨b,k,none⟩))) w:=by
 have:k=0∨k=1∨k=2:=Yo
 unfold execOp
 rw[ho]
 dsimp only
 rw[hx]
 rcases this with rfl|rfl|rfl<;>go_simp
theorem nR {f : Operand → Value} {o : Oper} (x : Operand) (ho : o.op = .load 3 x) {a : Addr} {v : Int} (hx : f x = .pointer (some a)) {w : World} (hc : w.cell? a = some (.int .i64 v)) :
  (execOp f o).run Tryz.prog w=.ok (.value (.int .i64 v)) w:=by
 unfold execOp
 rw[ho]
 dsimp only
 rw[hx]
 go_simp
theorem aMO {f : Operand → Value} {o : Oper} (x : Operand) (ho : o.op = .load 72 x) {a : Addr} {ao : Option Addr} {n c : Nat} (hx : f x = .pointer (some a)) {w : World} (hc : w.cell? a = some (.slice ao n c)) :
  (execOp f o).run Tryz.prog w=.ok (.value (.slice ao n c)) w:=by
 unfold execOp
 rw[ho]
 dsimp only
 rw[hx]
 go_simp
theorem aEP {f : Operand → Value} {o : Oper} (x : Operand) (ho : o.op = .load 82 x) {b off : Nat} {p : Pc} {ao : Option Addr} {n c : Nat} (hx : f x = .pointer (some ⟨b, off, none⟩)) {w : World} (hc : PcAt w b off p (.slice ao n c)) :
  (execOp f o).run Tryz.prog w=.ok (.value (lQ p (.slice ao n c))) w:=by
 obtain⟨c0,c1,c2,c3,c4⟩:=hc
 unfold execOp
 rw[ho]
 dsimp only
 rw[hx]
 unfold lQ
 go_simp
def pc0:Pc:=⟨0,0,0,0,[]⟩
theorem aCY (w : World) {o : Oper} {a : Act} {K : Act → World → Prop} {Q : Exit → Act → World → Prop} (ho : o.op = .alloc 82)
  (h:∀w',PvAt w' w.heap.size pc0 (.slice none 0 0)→Below w.heap.size w w'→w'.heap.size=w.heap.size+1→K (a.put o.dst (.pointer (some ⟨w.heap.size,0,none⟩))) w'):WpI Tryz.prog o a w K Q:=by
 refine⟨?_⟩
 have hh:=h _ (PvAt.new w pc0 (.slice none 0 0)) (bR _ _) (dC _ _)
 unfold pc0 at hh
 dsimp only at hh
 unfold Oper.wp execOp
 rw[ho]
 go_simp
 exact hh
theorem PvAt.put{w:World}{b:Nat}{p:Pc}{r:Value}(h:PvAt w b p r)(q:Pc)(u:Value):∃w',w'=((((w.setCell ⟨b,0,none⟩ (.int .i64 q.fr)).setCell ⟨b,1,none⟩ (.int .i64 q.to)).setCell ⟨b,2,none⟩ (.int .i64 q.du)).setCell ⟨b,3,none⟩ (.int .i64 q.se)).setCell ⟨b,4,none⟩ u∧PvAt w' b q u∧Kept b w w'∧w'.heap.size=w.heap.size:=by
 refine⟨_,rfl,?_,((((kept_set w b 0 _).trans (kept_set _ b 1 _) (Or.inl rfl)).trans (kept_set _ b 2 _) (Or.inl rfl)).trans (kept_set _ b 3 _) (Or.inl rfl)).trans (kept_set _ b 4 _) (Or.inl rfl),by simp⟩
 unfold PvAt at h ⊢
 have h1:=heap_setCell_same w b 0 _ _ (.int .i64 q.fr) h
 have h2:=heap_setCell_same _ b 1 _ _ (.int .i64 q.to) h1
 have h3:=heap_setCell_same _ b 2 _ _ (.int .i64 q.du) h2
 have h4:=heap_setCell_same _ b 3 _ _ (.int .i64 q.se) h3
 exact heap_setCell_same _ b 4 _ _ u h4
theorem aDe (w : World) {o : Oper} {a : Act} {K : Act → World → Prop} {Q : Exit → Act → World → Prop} (x y : Operand) (ho : o.op = .store 82 x y) {b : Nat} {p q : Pc} {r : Value} {ao : Option Addr} {n c : Nat} (hx : a.eval x = .pointer (some ⟨b, 0, none⟩)) (hy : a.eval y = lQ q (.slice ao n c)) (hm : PvAt w b p r) (hd : o.dst = none)
  (h:∀w',PvAt w' b q (.slice ao n c)→Kept b w w'→w'.heap.size=w.heap.size→K a w'):WpI Tryz.prog o a w K Q:=by
 refine⟨?_⟩
 obtain⟨c0,c1,c2,c3,c4⟩:=hm.pc
 have f0:=hm.free 0;have f1:=hm.free 1;have f2:=hm.free 2;have f3:=hm.free 3;have f4:=hm.free 4
 obtain⟨w',e,m,kp,sz⟩:=hm.put q (.slice ao n c)
 have hh:=h w' m kp sz
 rw[e] at hh
 clear hm m kp h e sz
 unfold lQ at hy
 unfold Oper.wp execOp
 rw[ho]
 dsimp only
 rw[hx,hy]
 go_simp
 exact hh
theorem pU{f:Operand→Value}{o:Oper}(x y:Operand)(ho:o.op=.binOp .add 3 x y 3){u v:Int}(hx:f x=.int .i64 u)(hy:f y=.int .i64 v)(h1: -9223372036854775808≤u+v)(h2:u+v≤9223372036854775807)(w:World):(execOp f o).run Tryz.prog w=.ok (.value (.int .i64 (u+v))) w:=by
 unfold execOp
 rw[ho]
 dsimp only
 rw[hx,hy]
 go_simp
 rw[IntKind.wrap_i64]
 omega
theorem aAW {f : Operand → Value} {o : Oper} (x0 x1 x2 x3 x4 : Operand) (ho : o.op = .build 82 #[(0, x0), (1, x1), (2, x2), (3, x3), (4, x4)]) {fr to du se : Int} {ao : Option Addr} {n c : Nat} (ds : List Nat) (h0 : f x0 = .int .i64 fr) (h1 : f x1 = .int .i64 to) (h2 : f x2 = .int .i64 du) (h3 : f x3 = .int .i64 se) (h4 : f x4 = .slice ao n c) (w : World) :
  (execOp f o).run Tryz.prog w=.ok (.value (lQ ⟨fr,to,du,se,ds⟩ (.slice ao n c))) w:=by
 unfold execOp
 rw[ho]
 unfold lQ
 go_simp
theorem aEw (w : World) {o : Oper} {a : Act} {K : Act → World → Prop} {Q : Exit → Act → World → Prop} (x : Operand) (ho : o.op = .buildSlice 72 1 #[(0, x)]) {p : Pc} {ao : Option Addr} {n c : Nat} (hx : a.eval x = lQ p (.slice ao n c))
  (h:∀w',PvAt w' w.heap.size p (.slice ao n c)→Below w.heap.size w w'→w'.heap.size=w.heap.size+1→K (a.put o.dst (.slice (some ⟨w.heap.size,0,none⟩) 1 1)) w'):WpI Tryz.prog o a w K Q:=by
 have hh:=h _ (PvAt.new w p (.slice ao n c)) (bR _ _) (dC _ _)
 have e:(execOp a.eval o).run Tryz.prog w=.ok (.value (.slice (some ⟨w.heap.size,0,none⟩) 1 1)) (w.alloc (.cells #[.int .i64 p.fr,.int .i64 p.to,.int .i64 p.du,.int .i64 p.se,.slice ao n c] 82)):=by
  generalize a.eval=f at hx
  unfold execOp
  rw[ho]
  simp only[List.map_toArray,List.map_cons,List.map_nil]
  rw[hx]
  unfold lQ
  go_simp
 refine⟨?_⟩
 unfold Oper.wp
 rw[e]
 exact hh
theorem BuAt.grown{w w':World}{g B n:Nat}{N S:Int}{r v:Value}{xs:List Value}(h:BuAt w g N S r)(o:w.ownsRow B 82 5 v n xs)(k:w.grownBy w' v.ownBlock):BuAt w' g N S r:=
 h.same (k.block g h.lt (λe=>by
  obtain⟨cur,hc⟩:=gP o e.symm
  unfold BuAt at h
  rw[hc] at h
  cases h))
theorem OwnQ.bus{w w':World}{g B:Nat}{N S:Int}{r v:Value}{L:List Lp}(h:OwnQ w B v L)(m:BuAt w g N S r)(k:Kept g w w'):OwnQ w' B v L:=h.keptT k m Yc Yc
theorem aMK(L:List Lp):∀i,(lpL L).take (i*5)=lpL (L.take i):=by
 induction L with
 |nil=>intro i;simp[lpL]
 |cons c l ih=>
  intro i
  cases i with
  |zero=>simp[lpL]
  |succ i=>
   show (lpC c++lpL l).take ((i+1)*5)=lpC c++lpL (l.take i)
   rw[List.take_append,List.take_of_length_le (by show 5≤_;omega),show (i+1)*5-(lpC c).length=i*5 by show _-5=_;omega,ih i]
def RowP(w:World)(B:Nat)(v:Value)(L:List Lp):Prop:=w.ownsRow B 82 5 v L.length (lpL L)
theorem RowP.pre{w:World}{B g cap n:Nat}{L:List Lp}(h:RowP w B (.slice (some ⟨g,0,none⟩) n cap) L){i:Nat}(hi:i≤L.length):RowP w B (.slice (some ⟨g,0,none⟩) i cap) (L.take i):=by
 rcases h.2 with ⟨e,_⟩|⟨g',c',cur,e,hb,hg,h1,h2,h3,h4⟩
 ·cases e
 ·cases e
  have el:(L.take i).length=i:=by rw[List.length_take];omega
  refine⟨by rw[yE],Or.inr ⟨g,cap,cur,by rw[el],hb,hg,by rw[el];omega,h2,h3,?_⟩⟩
  rw[el, ←aMK, ←h4,List.take_take,Nat.min_eq_left (Nat.mul_le_mul_right 5 hi)]
theorem aMf{o oj:Oper}{ops:Array Oper}{a:Act}{j d:Nat}{b:Bool}(hg:o.guard=some (j,b))(hj:ops[j]?=some oj)(hd:oj.dst=some d)(hv:a.eval (.tmp d)=undef):Region.wanted o (yielded ops a.tmps)=false:=by
 have h2:a.tmps.getD d undef=undef:=hv
 have e:yielded ops a.tmps j=none:=by
  unfold yielded
  rw[hj]
  simp only[Option.bind_some,hd]
  rcases Nat.lt_or_ge d a.tmps.size with h|h
  ·have:a.tmps[d]?=some undef:=by simp[h] at h2 ⊢;exact h2
   rw[this];rfl
  ·rw[Array.getElem?_eq_none h]
 simp[Region.wanted,hg,e]
section
variable {w w':World} {B z cap n size:Nat} {t:TypeId} {ao:Option Addr} {L:List Lp}
theorem Room.kept(h:Room w B t size ao cap)(k:Kept z w w')(hz:z<B):Room w' B t size ao cap:=by
 rcases h with h|⟨b,o,cur,e,hb,hg,hc⟩
 ·exact Or.inl h
 ·exact Or.inr ⟨b,o,cur,e,hb,(k.block b (lt_of_block hg) Yo).trans hg,hc⟩
theorem Sr.room{f:Nat→Value}(h:Sr w ao n cap f)(r:Room w B t size ao cap)(hn:n≤cap)(k:Kept z w w')(hz:z<B):Sr w' ao n cap f:=by
 rcases h with h|⟨x,rfl,hc⟩
 ·exact Or.inl h
 ·refine Or.inr ⟨x,rfl,λi hi=>?_⟩
  rcases r with r|⟨b,o,cur,e,hb,_⟩
  ·omega
  ·cases e
   have:=hc i hi
   rw[Addr.add_lit] at this ⊢
   exact uR this k (by show b≠z;omega)
theorem QRd.room(h:QRd w ao L)(r:Room w B t size ao cap)(hn:L.length≤cap)(k:Kept z w w')(hz:z<B):QRd w' ao L:=λhl=>by
 obtain⟨b,o,e,hc⟩:=h hl
 refine⟨b,o,e,λi c hi=>?_⟩
 rcases r with r|⟨b2,o2,cur,e2,hb,_⟩
 ·omega
 ·rw[e] at e2;cases e2
  exact (hc i c hi).same (k.block b (hc i c hi).lt Yo)
theorem BNew.kept(h:BNew B w ao cap L)(k:Kept z w w')(hz:z<B):BNew B w' ao cap L:=
 ⟨⟨h.1.1.room h.2.1 h.1.2.1 k hz,h.1.2.1,λc hc=>⟨(h.1.2.2 c hc).1.room (h.2.2 c hc) (h.1.2.2 c hc).2 k hz,(h.1.2.2 c hc).2⟩⟩,h.2.1.kept k hz,λc hc=>(h.2.2 c hc).kept k hz⟩
end
theorem zG(w:World)(B:Nat):BNew B w none 0 []:=⟨BRd.nil _ _ _,Or.inl rfl,λ_ h=>absurd h (by simp)⟩
theorem aCW (w : World) {o : Oper} {a : Act} {K : Act → World → Prop} {Q : Exit → Act → World → Prop} (x y : Operand) (ho : o.op = .store 74 x y) {b : Nat} {N S N' S' : Int} {r : Value} {ao : Option Addr} {n c : Nat} (hx : a.eval x = .pointer (some ⟨b, 0, none⟩)) (hy : a.eval y = lI N' S' (.slice ao n c)) (hm : BuAt w b N S r) (hd : o.dst = none)
  (h:∀w',BuAt w' b N' S' (.slice ao n c)→Kept b w w'→w'.heap.size=w.heap.size→K a w'):WpI Tryz.prog o a w K Q:=by
 refine⟨?_⟩
 have c0:=hm.cell0;have c1:=hm.cell1;have c2:=hm.cell2
 have f0:=hm.free 0;have f1:=hm.free 1;have f2:=hm.free 2
 obtain⟨w',e,m,kp,sz⟩:=hm.put N' S' (.slice ao n c)
 have hh:=h w' m kp sz
 rw[e] at hh
 clear hm m kp h e sz
 unfold lI at hy
 unfold Oper.wp execOp
 rw[ho]
 dsimp only
 rw[hx,hy]
 go_simp
 exact hh
theorem PcAt.zero{w:World}{b:Nat}{p:Pc}{v:Value}(h:PcAt w b 0 p v):w.cell? ⟨b,0,none⟩=some (.int .i64 p.fr)∧w.cell? ⟨b,1,none⟩=some (.int .i64 p.to)∧w.cell? ⟨b,2,none⟩=some (.int .i64 p.du)∧w.cell? ⟨b,3,none⟩=some (.int .i64 p.se)∧w.cell? ⟨b,4,none⟩=some v:=by
 unfold PcAt at h
 simp only[Nat.zero_add] at h
 exact h
theorem PcAt.kept{w w':World}{b o z:Nat}{p:Pc}{v:Value}(h:PcAt w b o p v)(k:Kept z w w')(hz:b≠z):PcAt w' b o p v:=h.same (k.block b h.lt hz)
theorem aAv (w : World) {P : Program} {Q : Exit → Act → World → Prop} {o : Oper} {a : Act} {K : Act → World → Prop} (n : Nat) (x y z u v : Operand) (T : Array TypeId) (ho : o.op = .call { callee := .value (.func n), args := #[x, y, z, u, v], argTypes := T }) {p q r s t : Value} (hx : a.eval x = p) (hy : a.eval y = q) (hz : a.eval z = r) (hu : a.eval u = s) (hv : a.eval v = t) (hf : (callFunc n #[p, q, r, s, t]).run P w = .ok (.enter n #[p, q, r, s, t]) w) {R : Ending → World → Prop} (hc : Calls P n #[p, q, r, s, t] w R)
  (h:∀e w',R e w'→∃r,e=.returned r∧K (a.put o.dst r) w'):WpI P o a w K Q:=by
 refine⟨?_⟩
 have e:(execOp a.eval o).run P w=.ok (.enter n #[p,q,r,s,t]) w:=by
  unfold execOp
  rw[ho]
  have hv2:a.eval (Operand.func n)=.func (.func n) #[] #[]:=rfl
  simp only[resolve,invoke,Sem.run_bind,List.map_toArray,List.map_cons,List.map_nil,hx,hy,hz,hu,hv,hv2]
  go_simp
 unfold Oper.wp
 rw[e,Oper.upon_enter]
 refine hc.mono ?_
 intro e w' hr
 obtain⟨r,rfl,hk⟩:=h e w' hr
 exact hk
end Go.Proofs.YtdhblehhgpdpdacGreat
namespace Go.Proofs.YtdhblehhgpdpdacGreat
structure Whole (T:Nat→Nat→Prop):Prop where
 irr:∀x,¬T x x
 tr:∀x y z,T x y→T y z→T x z
 tot:∀x y,T x y∨x=y∨T y x
def SoT(T:Nat→Nat→Prop)(d:Nat→Nat)(a b:Nat):Prop:=∀i j,a≤i→i<j→j<b→T (d i) (d j)
structure Same (a b:Nat) (d e:Nat→Nat):Prop where
 out:∀x,x<a∨b≤x→e x=d x
 of:∀x,a≤x→x<b→∃y,a≤y∧y<b∧e x=d y
 to:∀y,a≤y→y<b→∃x,a≤x∧x<b∧d y=e x
section
variable {a b m n s:Nat} {d e f:Nat→Nat} {T:Nat→Nat→Prop}
theorem Same.refl(a b:Nat)(d:Nat→Nat):Same a b d d:=⟨λ_ _=>rfl,λx h1 h2=>⟨x,h1,h2,rfl⟩,λx h1 h2=>⟨x,h1,h2,rfl⟩⟩
theorem Same.trans(h:Same a b d e)(k:Same a b e f):Same a b d f:=by
 refine⟨λx hx=>(k.out x hx).trans (h.out x hx),λx h1 h2=>?_,λy h1 h2=>?_⟩
 ·obtain⟨y,y1,y2,ey⟩:=k.of x h1 h2
  obtain⟨z,z1,z2,ez⟩:=h.of y y1 y2
  exact⟨z,z1,z2,ey.trans ez⟩
 ·obtain⟨x,x1,x2,ex⟩:=h.to y h1 h2
  obtain⟨z,z1,z2,ez⟩:=k.to x x1 x2
  exact⟨z,z1,z2,ex.trans ez⟩
theorem Same.wide{a' b':Nat}(h:Same a b d e)(h1:a'≤a)(h2:b≤b'):Same a' b' d e:=by
 refine⟨λx hx=>h.out x Yo,λx x1 x2=>?_,λx x1 x2=>?_⟩
 ·by_cases hx:a≤x∧x<b
  ·obtain⟨y,y1,y2,ey⟩:=h.of x hx.1 hx.2
   exact⟨y,Yo,Yo,ey⟩
  ·exact⟨x,x1,x2,h.out x Yo⟩
 ·by_cases hx:a≤x∧x<b
  ·obtain⟨y,y1,y2,ey⟩:=h.to x hx.1 hx.2
   exact⟨y,Yo,Yo,ey⟩
  ·exact⟨x,x1,x2,(h.out x Yo).symm⟩
def wH(d:Nat→Nat)(i j:Nat)(x:Nat):Nat:=if x=i then d j else if x=j then d i else d x
theorem aHN(d:Nat→Nat)(i j:Nat):wH d i j i=d j:=if_pos rfl
theorem aHd(d:Nat→Nat)(i j:Nat):wH d i j j=d i:=by unfold wH;split<;>simp_all
theorem aGZ{d:Nat→Nat}{i j x:Nat}(h1:x≠i)(h2:x≠j):wH d i j x=d x:=by unfold wH;rw[if_neg h1,if_neg h2]
def bH(d:Nat→Nat)(a m b:Nat)(x:Nat):Nat:=if a≤x∧x<a+(b-m) then d (m+(x-a)) else if a+(b-m)≤x∧x<b then d (x-(b-m)) else d x
theorem jD{x:Nat}(h1:a≤x)(h2:x<a+(b-m)):bH d a m b x=d (m+(x-a)):=if_pos ⟨h1,h2⟩
theorem jM{x:Nat}(h1:a+(b-m)≤x)(h2:x<b):bH d a m b x=d (x-(b-m)):=by unfold bH;rw[if_neg Yo,if_pos ⟨h1,h2⟩]
theorem gN{x:Nat}(h1:x<a∨b≤x)(h:a≤m)(k:m≤b):bH d a m b x=d x:=by unfold bH;rw[if_neg Yo,if_neg Yo]
theorem aBE(h:a≤m)(k:m≤b):Same a b d (bH d a m b):=by
 refine⟨λx hx=>gN hx h k,λx h1 h2=>?_,λy h1 h2=>?_⟩
 ·by_cases e:x<a+(b-m)
  ·exact⟨_,Yo,Yo,jD h1 e⟩
  ·exact⟨_,Yo,Yo,jM Yo h2⟩
 ·by_cases e:y<m
  ·exact⟨y+(b-m),Yo,Yo,by rw[jM Yo Yo];congr 1;omega⟩
  ·exact⟨a+(y-m),Yo,Yo,by rw[jD Yo Yo];congr 1;omega⟩
theorem tV(h:a=m∨m=b)(h1:a≤m)(h2:m≤b):bH d a m b=d:=by
 funext x
 rcases h with rfl|rfl
 ·by_cases e:a≤x∧x<b
  ·rw[jD e.1 Yo];congr 1;omega
  ·exact gN Yo h1 h2
 ·by_cases e:a≤x∧x<m
  ·rw[jM Yo e.2];congr 1;omega
  ·exact gN Yo h1 h2
def kL(d:Nat→Nat)(a b i:Nat)(x:Nat):Nat:=if a≤x∧x<a+i then d (b+(x-a)) else if b≤x∧x<b+i then d (a+(x-b)) else d x
theorem aME(d:Nat→Nat)(a b:Nat):kL d a b 0=d:=by funext x;unfold kL;rw[if_neg Yo,if_neg Yo]
theorem aLc{i:Nat}(h:a+n≤b)(hi:i<n):wH (kL d a b i) (a+i) (b+i)=kL d a b (i+1):=by
 funext x
 by_cases e1:x=a+i
 ·subst e1
  rw[aHN]
  unfold kL
  rw[if_neg Yo,if_neg Yo,if_pos Yo]
  congr 1;omega
 ·by_cases e2:x=b+i
  ·subst e2
   rw[aHd]
   unfold kL
   rw[if_neg Yo,if_neg Yo,if_neg Yo,if_pos Yo]
   congr 1;omega
  ·rw[aGZ e1 e2]
   unfold kL
   by_cases c1:a≤x∧x<a+i
   ·rw[if_pos c1,if_pos Yo]
   ·rw[if_neg c1,if_neg (show ¬(a≤x∧x<a+(i+1)) by omega)]
    by_cases c2:b≤x∧x<b+i
    ·rw[if_pos c2,if_pos Yo]
    ·rw[if_neg c2,if_neg Yo]
theorem aLh{i j:Nat}(hi:i≤m)(hj:j<i):bH (kL d (m-i) m j) (m-(i-j)) m (m+j)=bH d (m-i) m (m+j):=by
 funext x
 by_cases c0:x<m-i∨m+j≤x
 ·rw[gN Yo Yo Yo,gN c0 Yo Yo]
  unfold kL;rw[if_neg Yo,if_neg Yo]
 ·by_cases c1:x<m-i+j
  ·rw[gN Yo Yo Yo,jD Yo Yo]
   unfold kL;rw[if_pos Yo]
  ·rw[jM (a:=m-i) Yo Yo]
   by_cases c2:x<m-(i-j)+j
   ·rw[jD Yo Yo]
    unfold kL;rw[if_neg Yo,if_pos Yo]
    congr 1;omega
   ·rw[jM Yo Yo]
    unfold kL;rw[if_neg Yo,if_neg Yo]
theorem aJQ{i j:Nat}(hi:i≤m)(hj:i<j):bH (kL d (m-i) (m+j-i) i) (m-i) m (m+(j-i))=bH d (m-i) m (m+j):=by
 funext x
 by_cases c0:x<m-i∨m+j≤x
 ·rw[gN Yo Yo Yo,gN c0 Yo Yo]
  unfold kL;rw[if_neg Yo,if_neg Yo]
 ·by_cases c1:x<m-i+j
  ·rw[jD (b:=m+j) Yo Yo]
   by_cases c2:x<m-i+(j-i)
   ·rw[jD Yo Yo]
    unfold kL;rw[if_neg Yo,if_neg Yo]
   ·rw[jM Yo Yo]
    unfold kL;rw[if_pos Yo]
    congr 1;omega
  ·rw[gN Yo Yo Yo,jM Yo Yo]
   unfold kL;rw[if_neg Yo,if_pos Yo]
   congr 1;omega
theorem aMD{i:Nat}(hi:i≤m):kL d (m-i) m i=bH d (m-i) m (m+i):=by
 funext x
 by_cases c0:x<m-i∨m+i≤x
 ·rw[gN c0 Yo Yo];unfold kL;rw[if_neg Yo,if_neg Yo]
 ·by_cases c1:x<m
  ·rw[jD Yo Yo];unfold kL;rw[if_pos Yo]
  ·rw[jM Yo Yo];unfold kL;rw[if_neg Yo,if_pos Yo];congr 1;omega
theorem aQC{k:Nat}(h:a≤k):wH (bH d a (a+1) (k+1)) k (k+1)=bH d a (a+1) (k+2):=by
 funext x
 by_cases e1:x=k
 ·subst e1
  rw[aHN,gN Yo Yo Yo,jD Yo Yo]
  congr 1;omega
 ·by_cases e2:x=k+1
  ·subst e2
   rw[aHd,jM Yo Yo,jM Yo Yo]
   congr 1;omega
  ·rw[aGZ e1 e2]
   by_cases c:x<a∨k+2≤x
   ·rw[gN Yo Yo Yo,gN c Yo Yo]
   ·rw[jD Yo Yo,jD Yo Yo]
theorem aMd{k:Nat}(h:k<m):wH (bH d (k+1) m (m+1)) (k+1) k=bH d k m (m+1):=by
 funext x
 by_cases e1:x=k+1
 ·subst e1
  rw[aHN,gN Yo Yo Yo,jM Yo Yo]
  congr 1;omega
 ·by_cases e2:x=k
  ·subst e2
   rw[aHd,jD Yo Yo,jD Yo Yo]
   congr 1;omega
  ·rw[aGZ e1 e2]
   by_cases c:x<k∨m+1≤x
   ·rw[gN Yo Yo Yo,gN c Yo Yo]
   ·rw[jM Yo Yo,jM Yo Yo]
structure Mg (T:Nat→Nat→Prop) (d:Nat→Nat) (a m b:Nat):Prop where
 l:SoT T d a m
 r:SoT T d m b
 x:∀i j,a≤i→i<m→m≤j→j<b→d i<d j
theorem aLq{i:Nat}(h:Mg T d a (a+1) b)(hi:a+1≤i)(hb:i≤b)(h1:∀x,a+1≤x→x<i→T (d x) (d a))(h2:∀x,i≤x→x<b→T (d a) (d x)):Same a b d (bH d a (a+1) i)∧SoT T (bH d a (a+1) i) a b:=by
 refine⟨(aBE Yo hi).wide (Nat.le_refl _) hb,λx y hx hxy hy=>?_⟩
 have lo:∀z,a≤z→z<i-1→bH d a (a+1) i z=d (z+1):=λz z1 z2=>by rw[jD z1 Yo];congr 1;omega
 have mi:bH d a (a+1) i (i-1)=d a:=by rw[jM Yo Yo];congr 1;omega
 have hi':∀z,i≤z→bH d a (a+1) i z=d z:=λz z1=>gN Yo Yo hi
 by_cases c1:y<i-1
 ·rw[lo x hx Yo,lo y Yo c1];exact h.r _ _ Yo Yo Yo
 ·by_cases c2:y=i-1
  ·subst c2;rw[mi,lo x hx Yo];exact h1 _ Yo Yo
  ·rw[hi' y Yo]
   by_cases c3:x<i-1
   ·rw[lo x hx c3];exact h.r _ _ Yo Yo hy
   ·by_cases c4:x=i-1
    ·subst c4;rw[mi];exact h2 y Yo hy
    ·rw[hi' x Yo];exact h.r _ _ Yo hxy hy
theorem aGl{i:Nat}(h:Mg T d a m (m+1))(hi:a≤i)(hm:i≤m)(h1:∀x,a≤x→x<i→T (d x) (d m))(h2:∀x,i≤x→x<m→T (d m) (d x)):Same a (m+1) d (bH d i m (m+1))∧SoT T (bH d i m (m+1)) a (m+1):=by
 refine⟨(aBE hm Yo).wide hi (Nat.le_refl _),λx y hx hxy hy=>?_⟩
 have lo:∀z,z<i→bH d i m (m+1) z=d z:=λz z1=>gN Yo hm Yo
 have mi:bH d i m (m+1) i=d m:=by rw[jD Yo Yo];congr 1;omega
 have hi':∀z,i<z→z<m+1→bH d i m (m+1) z=d (z-1):=λz z1 z2=>by rw[jM Yo z2];congr 1;omega
 by_cases c1:y<i
 ·rw[lo x Yo,lo y c1];exact h.l _ _ hx hxy Yo
 ·by_cases c2:y=i
  ·subst c2;rw[mi,lo x Yo];exact h1 _ hx Yo
  ·rw[hi' y Yo hy]
   by_cases c3:x<i
   ·rw[lo x c3];exact h.l _ _ hx Yo Yo
   ·by_cases c4:x=i
    ·subst c4;rw[mi];exact h2 _ Yo Yo
    ·rw[hi' x Yo Yo];exact h.l _ _ Yo Yo Yo
structure Sch (T:Nat→Nat→Prop) (d:Nat→Nat) (p lo hi s r:Nat):Prop where
 h1:lo≤s
 h2:s≤r
 h3:r≤hi
 below:∀c,lo≤c→c<s→T (d c) (d (p-c))
 above:∀c,r≤c→c<hi→T (d (p-c)) (d c)
theorem Sch.start(h:a≤b)(p:Nat):Sch T d p a b a b:=⟨Nat.le_refl _,h,Nat.le_refl _,λ_ _ _=>by omega,λ_ _ _=>by omega⟩
structure Lies (a m b c lo hi:Nat):Prop where
 h:(m≤c∧lo=a∧hi=m)∨(c<m∧lo+b=c+m∧hi=c)
 am:a<m
 mb:m<b
 c1:2*c≤a+b
 c2:a+b≤2*c+1
theorem Sch.up(W:Whole T){lo hi s r c x:Nat}(y:Lies a m b c lo hi)(g:Mg T d a m b)(h:Sch T d (c+m-1) lo hi s r)(hc:s≤x)(hr:x<r)(k:T (d x) (d (c+m-1-x))):Sch T d (c+m-1) lo hi (x+1) r:=by
 obtain⟨y,am,mb,c1,c2⟩:=y
 obtain⟨q1,q2,q3,qb,qa⟩:=h
 refine⟨Yo,Yo,q3,λz x1 x2=>?_,qa⟩
 by_cases e:z=x
 ·subst e;exact k
 ·exact W.tr _ _ _ (g.l z x Yo Yo Yo) (W.tr _ _ _ k (g.r _ _ Yo Yo Yo))
theorem Sch.down(W:Whole T){lo hi s r c x:Nat}(y:Lies a m b c lo hi)(g:Mg T d a m b)(h:Sch T d (c+m-1) lo hi s r)(hc:s≤x)(hr:x<r)(k:T (d (c+m-1-x)) (d x)):Sch T d (c+m-1) lo hi s x:=by
 obtain⟨y,am,mb,c1,c2⟩:=y
 obtain⟨q1,q2,q3,qb,qa⟩:=h
 refine⟨q1,hc,Yo,qb,λz x1 x2=>?_⟩
 by_cases e:z=x
 ·subst e;exact k
 ·exact W.tr _ _ _ (g.r _ _ Yo Yo Yo) (W.tr _ _ _ k (g.l x z Yo Yo Yo))
theorem aQY (W : Whole T) {lo hi c E : Nat} (y : Lies a m b c lo hi) (g : Mg T d a m b) (h : Sch T d (c + m - 1) lo hi s s) (eE : E + s = c + m) :
  (a≤s∧s≤c∧s≤m)∧(c≤E∧E≤b∧m≤E)∧Mg T (bH d s m E) a s c∧Mg T (bH d s m E) c E b∧
  (∀i j,a≤i→i<c→c≤j→j<b→T (bH d s m E i) (bH d s m E j)):=by
 obtain⟨y,am,mb,hc1,hc2⟩:=y
 obtain⟨q1,q2,q3,qb,qa⟩:=h
 have p1:a≤s∧s≤c∧s≤m:=Yo
 have p2:c≤E∧E≤b∧m≤E:=Yo
 have v1:∀x,x<s→bH d s m E x=d x:=λx hx=>gN Yo Yo Yo
 have v2:∀x,s≤x→x<c→bH d s m E x=d (m+(x-s)):=λx h1 h2=>jD h1 Yo
 have v3:∀x,c≤x→x<E→bH d s m E x=d (x-(E-m)):=λx h1 h2=>jM Yo h2
 have v4:∀x,E≤x→bH d s m E x=d x:=λx h1=>gN Yo Yo Yo
 have le:∀i j,a≤i→i≤j→j<m→∀z,T (d j) z→T (d i) z:=λi j h1 h2 h3 z hz=>by
  rcases Nat.lt_or_ge i j with h|h
  ·exact W.tr _ _ _ (g.l i j h1 h h3) hz
  ·rw[show i=j by omega];exact hz
 have le':∀i j,a≤i→i≤j→j<m→∀z,T z (d i)→T z (d j):=λi j h1 h2 h3 z hz=>by
  rcases Nat.lt_or_ge i j with h|h
  ·exact W.tr _ _ _ hz (g.l i j h1 h h3)
  ·rw[show j=i by omega];exact hz
 have re:∀i j,m≤i→i≤j→j<b→∀z,T (d j) z→T (d i) z:=λi j h1 h2 h3 z hz=>by
  rcases Nat.lt_or_ge i j with h|h
  ·exact W.tr _ _ _ (g.r i j h1 h h3) hz
  ·rw[show i=j by omega];exact hz
 have re':∀i j,m≤i→i≤j→j<b→∀z,T z (d i)→T z (d j):=λi j h1 h2 h3 z hz=>by
  rcases Nat.lt_or_ge i j with h|h
  ·exact W.tr _ _ _ hz (g.r i j h1 h h3)
  ·rw[show j=i by omega];exact hz
 refine⟨p1,p2,⟨λi j h1 h2 h3=>?_,λi j h1 h2 h3=>?_,λi j h1 h2 h3 h4=>?_⟩,⟨λi j h1 h2 h3=>?_,λi j h1 h2 h3=>?_,λi j h1 h2 h3 h4=>?_⟩,λi j h1 h2 h3 h4=>?_⟩
 ·rw[v1 i Yo,v1 j h3];exact g.l _ _ h1 h2 Yo
 ·rw[v2 i h1 Yo,v2 j Yo h3];exact g.r _ _ Yo Yo Yo
 ·rw[v1 i h2,v2 j h3 h4];exact g.x _ _ h1 Yo Yo Yo
 ·rw[v3 i h1 Yo,v3 j Yo h3];exact g.l _ _ Yo Yo Yo
 ·rw[v4 i h1,v4 j Yo];exact g.r _ _ Yo h2 h3
 ·rw[v3 i h1 h2,v4 j h3];exact g.x _ _ Yo Yo Yo h4
 ·by_cases c1:i<s
  ·rw[v1 i c1]
   by_cases c2:j<E
   ·rw[v3 j h3 c2];exact g.l _ _ h1 Yo Yo
   ·rw[v4 j Yo]
    have k:=qb (s-1) Yo Yo
    rw[show c+m-1-(s-1)=E by omega] at k
    exact le i (s-1) h1 Yo Yo _ (re' E j Yo Yo h4 _ k)
  ·rw[v2 i Yo h2]
   by_cases c2:j<E
   ·rw[v3 j h3 c2]
    have k:=qa s (Nat.le_refl _) Yo
    rw[show c+m-1-s=E-1 by omega] at k
    exact re _ (E-1) Yo Yo Yo _ (le' s _ Yo Yo Yo _ k)
   ·rw[v4 j Yo];exact g.r _ _ Yo Yo h4
theorem aNQ{c:Nat}(hac:a≤c)(hcb:c≤b)(h1:Same a c d e)(h2:Same c b e f)(s1:SoT T e a c)(s2:SoT T f c b)(x:∀i j,a≤i→i<c→c≤j→j<b→T (d i) (d j)):Same a b d f∧SoT T f a b:=by
 refine⟨(h1.wide (Nat.le_refl _) hcb).trans (h2.wide hac (Nat.le_refl _)),λi j hi hij hj=>?_⟩
 by_cases c1:j<c
 ·rw[h2.out i Yo,h2.out j Yo];exact s1 i j hi hij c1
 ·by_cases c2:c≤i
  ·exact s2 i j c2 hij hj
  ·rw[h2.out i Yo]
   obtain⟨u,u1,u2,eu⟩:=h1.of i hi Yo
   obtain⟨v,v1,v2,ev⟩:=h2.of j Yo hj
   rw[eu,ev,h1.out v Yo]
   exact x u v u1 u2 v1 v2
theorem SoT.none(h:b≤a+1):SoT T d a b:=λi j _ _ _=>by omega
theorem Mg.one_l(h:Mg T d a m b)(e:a=m∨m=b):SoT T d a b:=by
 rcases e with rfl|rfl
 ·exact h.r
 ·exact h.l
theorem Mg.same(h:Mg T d a m b)(k:Same s n d e)(hs:b≤s∨n≤a)(hm:a≤m∧m≤b):Mg T e a m b:=by
 have o:∀x,a≤x→x<b→e x=d x:=λx h1 h2=>k.out x Yo
 refine⟨λi j h1 h2 h3=>?_,λi j h1 h2 h3=>?_,λi j h1 h2 h3 h4=>?_⟩
 ·by_cases c:j<b
  ·rw[o i h1 Yo,o j Yo c];exact h.l i j h1 h2 h3
  ·exact absurd hm Yo
 ·by_cases c:a≤i
  ·rw[o i c Yo,o j Yo h3];exact h.r i j h1 h2 h3
  ·exact absurd hm Yo
 ·rw[o i h1 Yo,o j Yo h4];exact h.x i j h1 h2 h3 h4
end
def jX(p r:Pc):Int:=if p.du<r.du then -1 else if r.du<p.du then 1 else if p.se<r.se then -1 else if r.se<p.se then 1 else 0
theorem aEn(p r:Pc):jX p r<0↔wJ r p=false:=by
 unfold jX wJ
 simp only[decide_eq_false_iff_not]
 split
 ·constructor<;>intro<;>omega
 ·split
  ·constructor<;>intro<;>omega
  ·split
   ·constructor<;>intro<;>omega
   ·split<;>constructor<;>intro<;>omega
def TQ(q:Nat→Pc)(x y:Nat):Prop:=wJ (q y) (q x)=false∨(wJ (q x) (q y)=true∧x<y)
theorem lH(q:Nat→Pc):Whole (TQ q):=by
 refine⟨λx h=>?_,λx y z h k=>?_,λx y=>?_⟩
 ·rcases h with h|h
  ·rw[aKO] at h;cases h
  ·omega
 ·unfold TQ wJ at*
  simp only[decide_eq_false_iff_not,decide_eq_true_eq] at*
  omega
 ·rcases Nat.lt_trichotomy x y with h|h|h
  ·unfold TQ wJ
   simp only[decide_eq_false_iff_not,decide_eq_true_eq]
   omega
  ·exact Or.inr (Or.inl h)
  ·unfold TQ wJ
   simp only[decide_eq_false_iff_not,decide_eq_true_eq]
   omega
theorem aCh{q:Nat→Pc}{x y:Nat}(k:jX (q y) (q x)<0):TQ q y x:=Or.inl ((aEn _ _).1 k)
theorem aDG{q:Nat→Pc}{x y:Nat}(h:x<y)(k:¬jX (q y) (q x)<0):TQ q x y:=by
 have e:wJ (q x) (q y)=true:=by
  rcases e:wJ (q x) (q y) with _|_
  ·exact absurd ((aEn _ _).2 e) k
  ·rfl
 exact Or.inr ⟨e,h⟩
section
variable {T:Nat→Nat→Prop} {d e:Nat→Nat} {a b m lo hi n s:Nat}
structure Done (T:Nat→Nat→Prop) (d:Nat→Nat) (a b:Nat):Prop where
 so:SoT T d a b
 inn:∀x,a≤x→x<b→a≤d x∧d x<b
 all:∀v,a≤v→v<b→∃x,a≤x∧x<b∧d x=v
theorem Done.start(h:∀x,a≤x→x<b→d x=x)(k:Same a b d e)(s:SoT T e a b):Done T e a b:=by
 refine⟨s,λx h1 h2=>?_,λv h1 h2=>?_⟩
 ·obtain⟨y,y1,y2,ey⟩:=k.of x h1 h2
  rw[ey,h y y1 y2];omega
 ·obtain⟨x,x1,x2,ex⟩:=k.to v h1 h2
  exact⟨x,x1,x2,by rw[←ex,h v h1 h2]⟩
theorem Done.mg(h:Done T d a m)(k:Done T d m b):Mg T d a m b:=⟨h.so,k.so,λi j h1 h2 h3 h4=>by have:=(h.inn i h1 h2).2;have:=(k.inn j h3 h4).1;omega⟩
theorem Done.merge(h:Done T d a m)(k:Done T d m b)(ham:a≤m)(hmb:m≤b)(g:Same a b d e)(s:SoT T e a b):Done T e a b:=by
 refine⟨s,λx h1 h2=>?_,λv h1 h2=>?_⟩
 ·obtain⟨y,y1,y2,ey⟩:=g.of x h1 h2
  rw[ey]
  by_cases c:y<m
  ·have:=h.inn y y1 c;omega
  ·have:=k.inn y Yo y2;omega
 ·have:∃y,a≤y∧y<b∧d y=v:=by
   by_cases c:v<m
   ·obtain⟨y,y1,y2,ey⟩:=h.all v h1 c;exact⟨y,y1,Yo,ey⟩
   ·obtain⟨y,y1,y2,ey⟩:=k.all v Yo h2;exact⟨y,Yo,y2,ey⟩
  obtain⟨y,y1,y2,ey⟩:=this
  obtain⟨x,x1,x2,ex⟩:=g.to y y1 y2
  exact⟨x,x1,x2,by rw[←ex,ey]⟩
theorem Done.same(h:Done T d a b)(k:Same lo hi d e)(hs:b≤lo∨hi≤a):Done T e a b:=by
 have o:∀x,a≤x→x<b→e x=d x:=λx h1 h2=>k.out x Yo
 refine⟨λi j h1 h2 h3=>?_,λx h1 h2=>?_,λv h1 h2=>?_⟩
 ·rw[o i h1 Yo,o j Yo h3];exact h.so i j h1 h2 h3
 ·rw[o x h1 h2];exact h.inn x h1 h2
 ·obtain⟨x,x1,x2,ex⟩:=h.all v h1 h2
  exact⟨x,x1,x2,by rw[o x x1 x2,ex]⟩
theorem vQ{k q:Nat}(h:k<q)(s:Nat):k*s+s≤q*s:=by
 have:=Nat.mul_le_mul_right s (show k+1≤q from h)
 rwa [Nat.add_mul,Nat.one_mul] at this
structure Ps1 (T:Nat→Nat→Prop) (s q:Nat) (d:Nat→Nat):Prop where
 bl:∀k,k<q→Done T d (k*s) (k*s+s)
 un:∀x,q*s≤x→d x=x
theorem Ps1.start(s:Nat):Ps1 T s 0 (λx=>x):=⟨λ_ h=>absurd h Yo,λ_ _=>rfl⟩
theorem Ps1.step{q:Nat}(h:Ps1 T s q d)(k:Same (q*s) (q*s+s) d e)(so:SoT T e (q*s) (q*s+s)):Ps1 T s (q+1) e:=by
 refine⟨λi hi=>?_,λx hx=>?_⟩
 ·by_cases c:i=q
  ·subst c;exact Done.start (λx h1 _=>h.un x h1) k so
  ·have:=vQ (show i<q by omega) s
   exact (h.bl i Yo).same k Yo
 ·rw[Nat.add_mul,Nat.one_mul] at hx
  rw[k.out x Yo];exact h.un x Yo
def AllB(T:Nat→Nat→Prop)(s n:Nat)(d:Nat→Nat):Prop:=∀k,k*s<n→Done T d (k*s) (min (k*s+s) n)
theorem Ps1.done{q:Nat}(h:Ps1 T s q d)(h1:q*s≤n)(h2:n<q*s+s)(k:Same (q*s) n d e)(so:SoT T e (q*s) n):AllB T s n e:=by
 intro i hi
 by_cases c:i<q
 ·have:=vQ c s
  rw[Nat.min_eq_left Yo]
  exact (h.bl i c).same k Yo
 ·have c2:i=q:=by
   rcases Nat.lt_or_ge q i with g|g
   ·have:=vQ g s;omega
   ·omega
  subst c2
  rw[Nat.min_eq_right Yo]
  exact Done.start (λx h1 _=>h.un x h1) k so
structure Ps2 (T:Nat→Nat→Prop) (s q n:Nat) (d:Nat→Nat):Prop where
 two:∀k,k<q→Done T d (k*(2*s)) (k*(2*s)+2*s)
 one:∀k,2*q≤k→k*s<n→Done T d (k*s) (min (k*s+s) n)
theorem Ps2.start(h:AllB T s n d):Ps2 T s 0 n d:=⟨λ_ h=>absurd h Yo,λk _ hk=>h k hk⟩
theorem lJ(q s:Nat):2*q*s=q*(2*s):=by rw[Nat.mul_comm 2 q,Nat.mul_assoc]
theorem Ps2.left{q:Nat}(h:Ps2 T s q n d)(k:q*(2*s)+s≤n)(hs:0<s):Done T d (q*(2*s)) (q*(2*s)+s):=by
 have:=h.one (2*q) (Nat.le_refl _) (by rw[lJ];omega)
 rw[lJ,Nat.min_eq_left Yo] at this
 exact this
theorem Ps2.right{q:Nat}(h:Ps2 T s q n d)(k:q*(2*s)+s<n):Done T d (q*(2*s)+s) (min (q*(2*s)+2*s) n):=by
 have:=h.one (2*q+1) Yo (by rw[Nat.add_mul,Nat.one_mul,lJ];exact k)
 rw[Nat.add_mul,Nat.one_mul,lJ,show q*(2*s)+s+s=q*(2*s)+2*s by omega] at this
 exact this
theorem Ps2.step{q:Nat}(h:Ps2 T s q n d)(hs:0<s)(k:q*(2*s)+2*s≤n)(g:Same (q*(2*s)) (q*(2*s)+2*s) d e)(so:SoT T e (q*(2*s)) (q*(2*s)+2*s)):Ps2 T s (q+1) n e:=by
 have h1:=h.left Yo hs
 have h2:=h.right Yo
 rw[Nat.min_eq_left k] at h2
 refine⟨λi hi=>?_,λi hi hn=>?_⟩
 ·by_cases c:i=q
  ·subst c;exact h1.merge h2 Yo Yo g so
  ·have:=vQ (show i<q by omega) (2*s)
   exact (h.two i Yo).same g Yo
 ·have b1:=Nat.mul_le_mul_right s hi
  rw[show 2*(q+1)*s=q*(2*s)+2*s by rw[lJ,Nat.add_mul,Nat.one_mul]] at b1
  exact (h.one i Yo hn).same g Yo
theorem Ps2.cases{q i:Nat}(h2:n<q*(2*s)+2*s)(hi:i*(2*s)<n):i<q∨i=q:=by
 rcases Nat.lt_or_ge q i with g|g
 ·have:=vQ g (2*s);omega
 ·omega
theorem Ps2.done{q:Nat}(h:Ps2 T s q n d)(h2:n<q*(2*s)+2*s)(h3:n≤q*(2*s)+s)(h1:q*(2*s)≤n):AllB T (2*s) n d:=by
 intro i hi
 rcases Ps2.cases h2 hi with c|c
 ·have:=vQ c (2*s)
  rw[Nat.min_eq_left Yo]
  exact h.two i c
 ·subst c
  have:=h.one (2*i) (Nat.le_refl _) (by rw[lJ];exact hi)
  rw[lJ,Nat.min_eq_right Yo] at this
  rw[Nat.min_eq_right Yo]
  exact this
theorem Ps2.last{q:Nat}(h:Ps2 T s q n d)(hs:0<s)(h2:n<q*(2*s)+2*s)(h3:q*(2*s)+s<n)(g:Same (q*(2*s)) n d e)(so:SoT T e (q*(2*s)) n):AllB T (2*s) n e:=by
 have a1:=h.left Yo hs
 have a2:=h.right h3
 rw[Nat.min_eq_right Yo] at a2
 intro i hi
 rcases Ps2.cases h2 hi with c|c
 ·have:=vQ c (2*s)
  rw[Nat.min_eq_left Yo]
  exact (h.two i c).same g Yo
 ·subst c
  rw[Nat.min_eq_right Yo]
  exact a1.merge a2 Yo Yo g so
theorem AllB.done(h:AllB T s n d)(k:n≤s):Done T d 0 n:=by
 by_cases c:n=0
 ·subst c;exact⟨λi j _ _ _=>by omega,λ_ _ _=>by omega,λ_ _ _=>by omega⟩
 ·have:=h 0 Yo
  rw[Nat.zero_mul,Nat.zero_add,Nat.min_eq_right k] at this
  exact this
end
def insI(q:Nat→Pc)(i:Nat):List Nat→List Nat
 |[]=>[i]
 |j::l=>if wJ (q i) (q j)=true then i::j::l else j::insI q i l
def aBz(q:Nat→Pc):List Nat→List Nat
 |[]=>[]
 |i::l=>insI q i (aBz q l)
theorem aKs(q:Nat→Pc)(i:Nat)(l:List Nat):(insI q i l).map q=aED (q i) (l.map q):=by
 induction l with
 |nil=>rfl
 |cons j l ih=>
  show (if wJ (q i) (q j)=true then i::j::l else j::insI q i l).map q=if wJ (q i) (q j)=true then _ else _
  split
  ·rfl
  ·rw[List.map_cons,ih]
theorem aLM(q:Nat→Pc)(l:List Nat):(aBz q l).map q=xV (l.map q):=by
 induction l with
 |nil=>rfl
 |cons i l ih=>show (insI q i (aBz q l)).map q=aED (q i) (xV (l.map q));rw[aKs,ih]
theorem aEm{q:Nat→Pc}{i x:Nat}{l:List Nat}:x∈insI q i l↔x=i∨x∈l:=by
 induction l with
 |nil=>simp[insI]
 |cons j l ih=>
  unfold insI
  split
  ·simp
  ·simp only[List.mem_cons,ih]
   constructor
   ·rintro (h|h|h)
    ·exact Or.inr (Or.inl h)
    ·exact Or.inl h
    ·exact Or.inr (Or.inr h)
   ·rintro (h|h|h)
    ·exact Or.inr (Or.inl h)
    ·exact Or.inl h
    ·exact Or.inr (Or.inr h)
theorem aEd{q:Nat→Pc}{x:Nat}{l:List Nat}:x∈aBz q l↔x∈l:=by
 induction l with
 |nil=>exact Iff.rfl
 |cons j l ih=>show x∈insI q j (aBz q l)↔_;rw[aEm,ih];simp
theorem aQD{q:Nat→Pc}{i:Nat}{l:List Nat}(hl:∀j,j∈l→i<j)(h:l.Pairwise (TQ q)):(insI q i l).Pairwise (TQ q):=by
 induction l with
 |nil=>exact List.pairwise_singleton ..
 |cons j l ih=>
  obtain⟨h1,h2⟩:=List.pairwise_cons.1 h
  have hij:=hl j (List.mem_cons_self ..)
  unfold insI
  split
  ·rename_i hp
   refine List.pairwise_cons.2 ⟨λx hx=>?_,h⟩
   rcases List.mem_cons.1 hx with rfl|hx
   ·exact Or.inr ⟨hp,hij⟩
   ·exact (lH q).tr _ _ _ (Or.inr ⟨hp,hij⟩) (h1 x hx)
  ·rename_i hp
   refine List.pairwise_cons.2 ⟨λx hx=>?_,ih (λx hx=>hl x (List.mem_cons_of_mem _ hx)) h2⟩
   rcases aEm.1 hx with rfl|hx
   ·exact Or.inl (by simpa using hp)
   ·exact h1 x hx
theorem aOt{q:Nat→Pc}{l:List Nat}(h:l.Pairwise (· < ·)):(aBz q l).Pairwise (TQ q):=by
 induction l with
 |nil=>exact List.Pairwise.nil
 |cons i l ih=>
  obtain⟨h1,h2⟩:=List.pairwise_cons.1 h
  exact aQD (λj hj=>h1 j (aEd.1 hj)) (ih h2)
theorem aIP{T:Nat→Nat→Prop}(W:Whole T):∀{l m:List Nat},l.Pairwise T→m.Pairwise T→(∀x,x∈l↔x∈m)→l=m
 |[],[],_,_,_=>rfl
 |[],y::m,_,_,h=>absurd ((h y).2 (List.mem_cons_self ..)) (by simp)
 |x::l,[],_,_,h=>absurd ((h x).1 (List.mem_cons_self ..)) (by simp)
 |x::l,y::m,hl,hm,h=>by
  obtain⟨l1,l2⟩:=List.pairwise_cons.1 hl
  obtain⟨m1,m2⟩:=List.pairwise_cons.1 hm
  have exy:x=y:=by
   rcases List.mem_cons.1 ((h x).1 (List.mem_cons_self ..)) with e|e
   ·exact e
   ·rcases List.mem_cons.1 ((h y).2 (List.mem_cons_self ..)) with f|f
    ·exact f.symm
    ·exact absurd (W.tr _ _ _ (m1 x e) (l1 y f)) (W.irr _)
  subst exy
  rw[aIP W l2 m2 λz=>?_]
  constructor
  ·intro hz
   rcases List.mem_cons.1 ((h z).1 (List.mem_cons_of_mem _ hz)) with e|e
   ·subst e;exact absurd (l1 z hz) (W.irr _)
   ·exact e
  ·intro hz
   rcases List.mem_cons.1 ((h z).2 (List.mem_cons_of_mem _ hz)) with e|e
   ·subst e;exact absurd (m1 z hz) (W.irr _)
   ·exact e
theorem aKt{q:Nat→Pc}{n:Nat}{d:Nat→Nat}(h:Done (TQ q) d 0 n):(List.range n).map (λi=>q (d i))=xV ((List.range n).map q):=by
 have e:(List.range n).map d=aBz q (List.range n):=by
  refine aIP (lH q) ?_ (aOt List.pairwise_lt_range) λx=>?_
  ·rw[List.pairwise_iff_getElem]
   intro i j hi hj hij
   simp only[List.length_map,List.length_range] at hi hj
   simp only[List.getElem_map,List.getElem_range]
   exact h.so i j Yo hij hj
  ·rw[aEd,List.mem_map,List.mem_range]
   constructor
   ·rintro⟨i,hi,rfl⟩
    rw[List.mem_range] at hi
    exact (h.inn i Yo hi).2
   ·intro hx
    obtain⟨i,_,hi,ei⟩:=h.all x Yo hx
    exact⟨i,List.mem_range.2 hi,ei⟩
 rw[←aLM, ←e,List.map_map]
 rfl
end Go.Proofs.YtdhblehhgpdpdacGreat
namespace Go.Proofs.YtdhblehhgpdpdacGreat
open Go.RowKit
def lp0:Lp:=⟨pc0,none,0⟩
def SoR(W:World)(g cap n:Nat)(F:Nat→Lp)(d:Nat→Nat):Prop:=
 ∃cur:Array Value,W.heap[g]?=some (.cells cur 82 (0,0))∧cur.size=cap*5∧n≤cap∧cap≤maxLen∧∀i,i<n→∀k u,(lpC (F (d i)))[k]?=some u→cur[i*5+k]?=some u
section
variable {W W' w w':World} {g cap n B:Nat} {F:Nat→Lp} {d e:Nat→Nat}
theorem SoR.pc(h:SoR W g cap n F d){i:Nat}(hi:i<n):PcAt W g (i*5) (F (d i)).p (iG (F (d i))):=by
 obtain⟨cur,hg,_,_,_,hc⟩:=h
 refine PcAt.of (λk _ u hu=>?_)
 unfold World.cell?
 rw[hg]
 simp[hc i hi k u hu]
theorem SoR.lt(h:SoR W g cap n F d):g<W.heap.size:=by obtain⟨cur,hg,_⟩:=h;exact lt_of_block hg
theorem SoR.same(h:SoR W g cap n F d)(k:W'.heap[g]?=W.heap[g]?):SoR W' g cap n F d:=by obtain⟨cur,hg,r⟩:=h;exact⟨cur,k.trans hg,r⟩
theorem SoR.below(h:SoR W g cap n F d)(k:Below W.heap.size W W'):SoR W' g cap n F d:=h.same (k.block g h.lt)
theorem aRV{L:List Lp}(h:RowP w B (.slice (some ⟨g,0,none⟩) L.length cap) L):SoR w g cap L.length (λi=>L.getD i lp0) (λi=>i):=by
 rcases h.2 with ⟨e,_⟩|⟨g',c',cur,e,hb,hg,h1,h2,h3,h4⟩
 ·cases e
 ·cases e
  refine⟨cur,hg,h3,h1,h2,λi hi k u hu=>?_⟩
  have hk:k<5:=(List.getElem?_eq_some_iff.1 hu).1
  have hL:L[i]?=some (L.getD i lp0):=by rw[List.getD_eq_getElem?_getD,List.getElem?_eq_getElem hi];rfl
  have e1:=aAC hL hk
  rw[←h4,List.getElem?_take_of_lt Yo] at e1
  rw[←Array.getElem?_toList,e1]
  exact hu
theorem SoR.row(h:SoR W g cap n F d)(hB:B≤g):RowP W B (.slice (some ⟨g,0,none⟩) n cap) ((List.range n).map λi=>F (d i)):=by
 obtain⟨cur,hg,hs,h1,h2,hc⟩:=h
 refine⟨yE _,Or.inr ⟨g,cap,cur,by rw[List.length_map,List.length_range],hB,hg,by rw[List.length_map,List.length_range];exact h1,h2,hs,?_⟩⟩
 rw[List.length_map,List.length_range]
 have hl:(cur.toList.take (n*5)).length=n*5:=by rw[List.length_take,Array.length_toList,hs];omega
 refine List.ext_getElem? λj=>?_
 by_cases hj:j<n*5
 ·have e:j=j/5*5+j%5:=Yo
  have hi:j/5<n:=Yo
  have hL:((List.range n).map λi=>F (d i))[j/5]?=some (F (d (j/5))):=by rw[List.getElem?_map,List.getElem?_range hi];rfl
  rw[List.getElem?_take_of_lt hj,Array.getElem?_toList]
  have hk:j%5<5:=Yo
  have e1:=aAC hL hk
  rw[←e] at e1
  rw[e1]
  have hu:(lpC (F (d (j/5))))[j%5]?=some ((lpC (F (d (j/5))))[j%5]'(by show _<5;omega)):=List.getElem?_eq_getElem _
  have:=hc (j/5) hi (j%5) _ hu
  rw[←e] at this
  rw[this,hu]
 ·rw[List.getElem?_eq_none (by rw[hl];omega),List.getElem?_eq_none (by rw[yE,List.length_map,List.length_range];omega)]
def upD(d:Nat→Nat)(i y:Nat)(x:Nat):Nat:=if x=i then y else d x
theorem aAT(d:Nat→Nat)(i j:Nat):upD (upD d i (d j)) j (d i)=wH d i j:=by
 funext x
 unfold upD wH
 by_cases h1:x=j
 ·rw[if_pos h1]
  by_cases h2:x=i
  ·rw[if_pos h2, ←h1, ←h2]
  ·rw[if_neg h2,if_pos h1]
 ·rw[if_neg h1]
  by_cases h2:x=i
  ·rw[if_pos h2,if_pos h2]
  ·rw[if_neg h2,if_neg h2,if_neg h1]
theorem aQj {cur : Array Value} {o : Nat} {v0 v1 v2 v3 v4 : Value} (h : o + 5 ≤ cur.size) {j : Nat} :
  (((((cur.setIfInBounds o v0).setIfInBounds (o+1) v1).setIfInBounds (o+2) v2).setIfInBounds (o+3) v3).setIfInBounds (o+4) v4)[j]?=
   if j=o then some v0 else if j=o+1 then some v1 else if j=o+2 then some v2 else if j=o+3 then some v3 else if j=o+4 then some v4 else cur[j]?:=by
 simp only[Array.getElem?_setIfInBounds,Array.size_setIfInBounds]
 by_cases e0:j=o
 ·subst e0
  rw[if_neg Yo,if_neg Yo,if_neg Yo,if_neg Yo,if_pos rfl,if_pos Yo,if_pos rfl]
 ·by_cases e1:j=o+1
  ·subst e1
   rw[if_neg Yo,if_neg Yo,if_neg Yo,if_pos rfl,if_pos Yo,if_neg Yo,if_pos rfl]
  ·by_cases e2:j=o+2
   ·subst e2
    rw[if_neg Yo,if_neg Yo,if_pos rfl,if_pos Yo,if_neg Yo,if_neg Yo,if_pos rfl]
   ·by_cases e3:j=o+3
    ·subst e3
     rw[if_neg Yo,if_pos rfl,if_pos Yo,if_neg Yo,if_neg Yo,if_neg Yo,if_pos rfl]
    ·by_cases e4:j=o+4
     ·subst e4
      rw[if_pos rfl,if_pos Yo,if_neg Yo,if_neg Yo,if_neg Yo,if_neg Yo,if_pos rfl]
     ·rw[if_neg Yo,if_neg Yo,if_neg Yo,if_neg Yo,if_neg Yo,if_neg e0,if_neg e1,if_neg e2,if_neg e3,if_neg e4]
theorem SoR.put(h:SoR w g cap n F d){i:Nat}(hi:i<n)(y:Nat):∃w',w'=((((w.setCell ⟨g,i*5,none⟩ (.int .i64 (F y).p.fr)).setCell ⟨g,i*5+1,none⟩ (.int .i64 (F y).p.to)).setCell ⟨g,i*5+2,none⟩ (.int .i64 (F y).p.du)).setCell ⟨g,i*5+3,none⟩ (.int .i64 (F y).p.se)).setCell ⟨g,i*5+4,none⟩ (iG (F y))∧SoR w' g cap n F (upD d i y)∧Kept g w w'∧w'.heap.size=w.heap.size:=by
 refine⟨_,rfl,?_,((((kept_set w g (i*5) _).trans (kept_set _ g (i*5+1) _) (Or.inl rfl)).trans (kept_set _ g (i*5+2) _) (Or.inl rfl)).trans (kept_set _ g (i*5+3) _) (Or.inl rfl)).trans (kept_set _ g (i*5+4) _) (Or.inl rfl),by simp⟩
 obtain⟨cur,hg,hs,h1,h2,hc⟩:=h
 have g1:=heap_setCell_same w g (i*5) _ _ (.int .i64 (F y).p.fr) hg
 have g2:=heap_setCell_same _ g (i*5+1) _ _ (.int .i64 (F y).p.to) g1
 have g3:=heap_setCell_same _ g (i*5+2) _ _ (.int .i64 (F y).p.du) g2
 have g4:=heap_setCell_same _ g (i*5+3) _ _ (.int .i64 (F y).p.se) g3
 refine⟨_,heap_setCell_same _ g (i*5+4) _ _ (iG (F y)) g4,by simp[hs],h1,h2,λj hj k u hu=>?_⟩
 have hk:k<5:=(List.getElem?_eq_some_iff.1 hu).1
 rw[aQj Yo]
 by_cases e:j=i
 ·subst e
  unfold upD at hu
  rw[if_pos rfl] at hu
  have:k=0∨k=1∨k=2∨k=3∨k=4:=Yo
  rcases this with rfl|rfl|rfl|rfl|rfl
  ·rw[if_pos Yo];exact hu
  ·rw[if_neg Yo,if_pos rfl];exact hu
  ·rw[if_neg Yo,if_neg Yo,if_pos rfl];exact hu
  ·rw[if_neg Yo,if_neg Yo,if_neg Yo,if_pos rfl];exact hu
  ·rw[if_neg Yo,if_neg Yo,if_neg Yo,if_neg Yo,if_pos rfl];exact hu
 ·unfold upD at hu
  rw[if_neg e] at hu
  rw[if_neg Yo,if_neg Yo,if_neg Yo,if_neg Yo,if_neg Yo]
  exact hc j hj k u hu
theorem SoR.free(h:SoR w g cap n F d)(i:Nat):w.frozen? ⟨g,i,none⟩=false:=by obtain⟨cur,hg,_⟩:=h;simp[World.frozen?,hg]
end
def dZ(c:Lp):Value:=lQ c.p (iG c)
theorem dK {f : Operand → Value} {o : Oper} (x y : Operand) (ho : o.op = .indexAddr 72 x y) {g n cap i : Nat} {z : Int} (hx : f x = .slice (some ⟨g, 0, none⟩) n cap) (hy : f y = .int .i64 z) (hz : z = (i : Int)) (hi : i < n) (w : World) :
  (execOp f o).run Tryz.prog w=.ok (.value (.pointer (some ⟨g,i*5,none⟩))) w:=by
 subst hz
 have:=aPb x y ho hx hy hi w
 rwa [Nat.zero_add] at this
theorem eO {f : Operand → Value} {o : Oper} (x : Operand) (ho : o.op = .load 82 x) {g cap n i : Nat} {F : Nat → Lp} {d : Nat → Nat} (hx : f x = .pointer (some ⟨g, i * 5, none⟩)) {w : World} (h : SoR w g cap n F d) (hi : i < n) :
  (execOp f o).run Tryz.prog w=.ok (.value (dZ (F (d i)))) w:=aEP x ho hx (h.pc hi)
theorem nU{f:Operand→Value}{o:Oper}(x y:Operand)(ho:o.op=.binOp .sub 3 x y 3){u v:Int}(hx:f x=.int .i64 u)(hy:f y=.int .i64 v)(h1: -9223372036854775808≤u-v)(h2:u-v≤9223372036854775807)(w:World):(execOp f o).run Tryz.prog w=.ok (.value (.int .i64 (u-v))) w:=by
 unfold execOp
 rw[ho]
 dsimp only
 rw[hx,hy]
 go_simp
 rw[IntKind.wrap_i64]
 omega
theorem fH{f:Operand→Value}{o:Oper}(x y:Operand)(ho:o.op=.binOp .lss 3 x y 3){u v:Int}{b:Bool}(hx:f x=.int .i64 u)(hy:f y=.int .i64 v)(hb:decide (u<v)=b)(w:World):(execOp f o).run Tryz.prog w=.ok (.value (.bool b)) w:=by
 subst hb
 unfold execOp
 rw[ho]
 dsimp only
 rw[hx,hy]
 go_simp
theorem aCl{f:Operand→Value}{o:Oper}(x y:Operand)(ho:o.op=.binOp .gtr 3 x y 3){u v:Int}{b:Bool}(hx:f x=.int .i64 u)(hy:f y=.int .i64 v)(hb:decide (u>v)=b)(w:World):(execOp f o).run Tryz.prog w=.ok (.value (.bool b)) w:=by
 subst hb
 unfold execOp
 rw[ho]
 dsimp only
 rw[hx,hy]
 go_simp
theorem mH (w : World) {o : Oper} {a : Act} {K : Act → World → Prop} {Q : Exit → Act → World → Prop} (x y : Operand) (ho : o.op = .store 82 x y) {g cap n i z : Nat} {F : Nat → Lp} {d : Nat → Nat} (hx : a.eval x = .pointer (some ⟨g, i * 5, none⟩)) (hy : a.eval y = dZ (F z)) (hm : SoR w g cap n F d) (hi : i < n) (hd : o.dst = none)
  (h:∀w',SoR w' g cap n F (upD d i z)→Kept g w w'→w'.heap.size=w.heap.size→K a w'):WpI Tryz.prog o a w K Q:=by
 refine⟨?_⟩
 obtain⟨c0,c1,c2,c3,c4⟩:=hm.pc hi
 have f0:=hm.free (i*5);have f1:=hm.free (i*5+1);have f2:=hm.free (i*5+2);have f3:=hm.free (i*5+3);have f4:=hm.free (i*5+4)
 obtain⟨w',e,m,kp,sz⟩:=hm.put hi z
 have hh:=h w' m kp sz
 rw[e] at hh
 clear hm m kp h e sz
 unfold dZ lQ at hy
 unfold iG at hy hh c4
 generalize (F z).ao=ao at*
 generalize (F z).p.ds.length=nn at*
 generalize (F z).cap=cc at*
 generalize (F (d i)).ao=ao2 at*
 generalize (F (d i)).p.ds.length=nn2 at*
 generalize (F (d i)).cap=cc2 at*
 unfold Oper.wp execOp
 rw[ho]
 dsimp only
 rw[hx,hy]
 go_simp
 exact hh
theorem mG (w : World) {o : Oper} {a : Act} {K : Act → World → Prop} {Q : Exit → Act → World → Prop} (c x y : Operand) (T : Array TypeId) (ho : o.op = .call { callee := .value c, args := #[x, y], argTypes := T }) {u v : Value} (hc : a.eval c = .func (.func 32) #[] #[]) (hx : a.eval x = u) (hy : a.eval y = v) {R : Ending → World → Prop} (hk : Calls Tryz.prog 32 #[u, v] w R)
  (h:∀e w',R e w'→∃r,e=.returned r∧K (a.put o.dst r) w'):WpI Tryz.prog o a w K Q:=by
 refine⟨?_⟩
 have e:(execOp a.eval o).run Tryz.prog w=.ok (.enter 32 #[u,v]) w:=by
  unfold execOp
  rw[ho]
  simp only[resolve,invoke,Sem.run_bind,List.map_toArray,List.map_cons,List.map_nil,hc,hx,hy]
  go_simp
 unfold Oper.wp
 rw[e,Oper.upon_enter]
 refine hk.mono ?_
 intro e w' hr
 obtain⟨r,rfl,hh⟩:=h e w' hr
 exact hh
end Go.Proofs.YtdhblehhgpdpdacGreat
