import Derived.Test.YtdhblehhgpdpdacGreatNear138
namespace Go.Proofs.YtdhblehhgpdpdacGreat
open Go.RowKit
def chL:List (Int×Nat)→List Value
 |[]=>[]
 |c::l=>.int .i64 c.1::.int .i64 (c.2:Nat)::chL l
theorem aGO(l m:List (Int×Nat)):chL (l++m)=chL l++chL m:=by
 induction l with
 |nil=>rfl
 |cons c l ih=>show _::_::chL (l++m)=_::_::(chL l++chL m);rw[ih]
theorem aRm{l:List (Int×Nat)}:∀{i:Nat} {c:Int×Nat},l[i]?=some c→(chL l)[i*2]?=some (.int .i64 c.1)∧(chL l)[i*2+1]?=some (.int .i64 (c.2:Nat)):=by
 induction l with
 |nil=>intro i c h;simp at h
 |cons d l ih=>
  intro i c h
  cases i with
  |zero=>simp at h;subst h;exact⟨rfl,rfl⟩
  |succ i=>
   simp at h
   have:=ih h
   rw[show (i+1)*2=i*2+1+1 by omega]
   exact this
theorem aQy:(Tryz.prog.info? 201).map (λi=>(i.zero,i.size,i.bytes))=some (some (.agg #[.int .i64 0,.int .i64 0]),2,16):=by kernel_rfl
def OwnC(w:World)(B:Nat)(v:Value)(l:List (Int×Nat)):Prop:=w.ownsRow B 201 2 v l.length (chL l)
theorem OwnC.nil(w:World)(B:Nat):OwnC w B (.slice none 0 0) []:=World.ownsRow_nil _ _ _ _
theorem OwnC.slice{w:World}{B:Nat}{v:Value}{l:List (Int×Nat)}(h:OwnC w B v l):∃ao cap,v=.slice ao l.length cap:=by
 rcases h.2 with ⟨rfl,h0⟩|⟨g,cap,cur,rfl,_⟩
 ·exact⟨none,0,by rw[h0]⟩
 ·exact⟨_,cap,rfl⟩
theorem OwnC.kept{z B:Nat}{w w':World}{v:Value}{l:List (Int×Nat)}(h:OwnC w B v l)(k:Kept z w w')(hz:z<B):OwnC w' B v l:=by
 refine⟨h.1,?_⟩
 rcases h.2 with hn|⟨g,cap,cur,rfl,hb,hgg,rest⟩
 ·exact .inl hn
 ·exact .inr ⟨g,cap,cur,rfl,hb,(k.block g (lt_of_block hgg) Yo).trans hgg,rest⟩
theorem OwnC.below{B:Nat}{w w':World}{v:Value}{l:List (Int×Nat)}(h:OwnC w B v l)(k:Below w.heap.size w w'):OwnC w' B v l:=by
 refine⟨h.1,?_⟩
 rcases h.2 with hn|⟨g,cap,cur,rfl,hb,hgg,rest⟩
 ·exact .inl hn
 ·exact .inr ⟨g,cap,cur,rfl,hb,(k.block g (lt_of_block hgg)).trans hgg,rest⟩
theorem OwnC.rd{w:World}{B cap n:Nat}{ao:Option Addr}{l:List (Int×Nat)}(h:OwnC w B (.slice ao n cap) l):ChRd B w ao l:=λhl=>by
 rcases h.2 with ⟨_,h0⟩|⟨g,c2,cur,e,hb,rest⟩
 ·omega
 ·cases e
  refine⟨g,0,rfl,hb,λi c hi=>?_⟩
  obtain⟨h1,h2⟩:=aRm hi
  have c1:=h.cells (g:=g) rfl _ _ h1
  have c2:=h.cells (g:=g) rfl _ _ h2
  rw[Addr.add_lit] at c1 c2
  rw[←Nat.add_assoc] at c2
  exact⟨c1,c2⟩
theorem wpList_joinC (w : World) {ops : Array Oper} {rest : List Oper} {o : Oper} {a : Act} {Q : Exit → Act → World → Prop} (hgd : o.guard = none) (s x : Operand)
  (ho:o.op=.call { callee:=.builtin .append,args:=#[s,x],argTypes:=#[158,158] }) (B:Nat) (hB:B≤w.heap.size)
  (v:Value) (l:List (Int×Nat)) (hs:a.eval s=v) (hown:OwnC w B v l) (b:Nat) (c:Int×Nat) (hx:a.eval x=.slice (some ⟨b,0,none⟩) 1 1) (c0:w.cell? ⟨b,0,none⟩=some (.int .i64 c.1)) (c1:w.cell? ⟨b,1,none⟩=some (.int .i64 (c.2:Nat))) (hl:l.length≤1000)
  (h:∀v' w',OwnC w' B v' (l++[c])→Below B w w'→wpList Tryz.prog ops Q rest (a.put o.dst v') w'):wpList Tryz.prog ops Q (o::rest) a w:=by
 obtain⟨i0,hi,hz0,hz1,hz2⟩:=info_parts aQy
 refine wpList_append_own w hgd s x 158 ho B 201 i0 (.agg #[.int .i64 0,.int .i64 0]) 2 16 Tryz.underlying158 hi hz0 hz1 hz2 rfl Yc v l.length (chL l) hs hown ⟨b,0,none⟩ 1 1 (chL [c]) hx rfl ?_ ?_ (by unfold maxLen;omega) Yo hB ?_
 ·intro j u hj
  rw[Addr.add_lit,Nat.zero_add]
  match j with
  |0=>simp[chL] at hj;subst hj;exact c0
  |1=>simp[chL] at hj;subst hj;exact c1
  |j+2=>simp[chL] at hj
 ·intro u hu
  simp[chL] at hu
  rcases hu with rfl|rfl<;>rfl
 ·intro v' w2 ho2 hgr _
  refine h v' w2 ?_ ?_
  ·unfold OwnC;rw[List.length_append,aGO];exact ho2
  ·refine⟨hgr.os,hgr.tape,hgr.output,hgr.size,λk hk=>hgr.block k Yo (λe=>?_)⟩
   have:=(hown.lt k e.symm).1
   omega
structure SJ (w:World) (R:Rl) (X:Int) (st:Bool) (s:Value) (wr:World):Prop where
 r:RAt wr w.heap.size R
 v:VdAt wr (w.heap.size+1) X st s
 z:RAt wr (w.heap.size+1+1) zeroR
 k:Below w.heap.size w wr
 n:w.heap.size+1+1+1≤wr.heap.size
section
variable {w wr w':World} {R R':Rl} {X:Int} {st:Bool} {s:Value}
theorem SJ.below(h:SJ w R X st s wr)(k:Below wr.heap.size wr w'):SJ w R X st s w':=⟨h.r.below k,h.v.below k,h.z.below k,h.k.trans (k.mono h.k.size),Nat.le_trans h.n k.size⟩
theorem SJ.under(h:SJ w R X st s wr)(k:Below (w.heap.size+1+1+1) wr w'):SJ w R X st s w':=⟨h.r.under k Yo,h.v.under k Yo,h.z.under k Yo,h.k.trans (k.mono Yo),Nat.le_trans h.n k.size⟩
theorem SJ.put(h:SJ w R X st s wr)(k:Kept w.heap.size wr w')(r:RAt w' w.heap.size R'):SJ w R' X st s w':=⟨r,h.v.kept k Yo,h.z.kept k Yo,aC h.k k (Nat.le_refl _) h.k.size,Nat.le_trans h.n k.size⟩
end
theorem aFE(w:World)(r:Rl)(X:Int)(st:Bool)(s:Value):∃w3,w3=((w.alloc (.cells #[.bool (r.I 0),.bool (r.I 1),.bool (r.I 2),.bool (r.I 3),.int .i64 (r.M 0),.int .i64 (r.M 1),.int .i64 (r.M 2),.int .i64 (r.M 3),.int .i64 (r.J 0),.int .i64 (r.J 1),.int .i64 (r.J 2),.int .i64 (r.J 3)] 50)).alloc (.cells #[.int .i64 X,.bool st,s] 53)).alloc (.cells #[.bool false,.bool false,.bool false,.bool false,.int .i64 0,.int .i64 0,.int .i64 0,.int .i64 0,.int .i64 0,.int .i64 0,.int .i64 0,.int .i64 0] 50)∧SJ w r X st s w3:=by
 obtain⟨w1,e1,m1,k1,z1⟩:=uQ w r
 obtain⟨w2,e2,m2,k2,z2⟩:=aBo w1 X st s
 obtain⟨w3,e3,m3,k3,z3⟩:=uQ w2 zeroR
 rw[←e1, ←e2]
 rw[z1] at m2
 rw[z2,z1] at m3
 exact⟨w3,e3,(m1.below k2).below k3,m2.below k3,m3,(k1.trans (k2.mono Yo)).trans (k3.mono Yo),Yo⟩
theorem aQW{n:Nd}{L:List Lm}(hok:NdOK n)(hRL:∀m,m∈L→∀i,R64 (gL m.m.L i)):R64 (judX n (L.map Lm.m)):=by
 have h:∀s,R64 (rP n (L.map Lm.m) s):=λs=>aHO hRL (hok.he s)
 unfold judX
 have:∀k,R64 (vtX (rP n (L.map Lm.m)) n.rl.I k):=by
  intro k
  induction k with
  |zero=>exact R64_zero
  |succ k ih=>
   show R64 (if _ then _ else _)
   split
   ·exact h k
   ·exact ih
 exact this 4
theorem aSW{w:World}{B:Nat}{vo:Option Addr}{vc:Nat}{A:Nat→Bool}(h:w.ownsRow B 4 1 (.slice vo 4 vc) 4 (rowV (tF A) 4)):Sr w vo 4 vc (tF A):=by
 obtain⟨ao,cap,e,hs,_⟩:=kN h
 cases e
 exact hs
theorem aIs{w:World}{B:Nat}{vo:Option Addr}{vc:Nat}{A:Nat→Bool}{N:Nd}(h:w.ownsRow B 4 1 (.slice vo 4 vc) 4 (rowV (tF A) 4))(e:N.vA=(List.range 4).map A:=by rfl):oI B w N vo vc:=by
 unfold oI
 have e2:rowV (tF (bA N)) 4=rowV (tF A) 4:=iB (λi hi=>by
  unfold tF bA
  rw[e,List.getD_eq_getElem?_getD,List.getElem?_map,List.getElem?_range hi]
  rfl)
 have e3:N.vA.length=4:=by rw[e];simp
 rw[e3,e2]
 exact h
theorem aJr (w : World) (v : Nat → Int) (b : Nat → Bool) : ∃ w1, w1 = ((w.alloc (.cells #[.int .i64 (v 0), .int .i64 (v 1), .int .i64 (v 2), .int .i64 (v 3)] 48)).alloc (.cells #[.bool (b 0), .bool (b 1), .bool (b 2), .bool (b 3)] 47)) ∧
  F4 w1 w.heap.size v∧B4 w1 (w.heap.size+1) b∧Below w.heap.size w w1∧w1.heap.size=w.heap.size+1+1:=by
 obtain⟨u,eu,mu,ku,su⟩:=aEe w v
 obtain⟨x,ex,mx,kx,sx⟩:=aEv u b
 subst eu
 rw[su] at mx
 exact⟨x,ex,mu.below kx,mx,ku.trans (kx.mono Yo),Yo⟩
end Go.Proofs.YtdhblehhgpdpdacGreat
