import Derived.Test.YthimcecbgpamdaaGreatNear29
import Derived.Test.YthimcecbgpamdaaGreatNear157
set_option maxHeartbeats 2000000
namespace Go.Proofs.YthimcecbgpamdaaGreat
open Go.RowKit
def nO(fr:Int)(nd:Nat->Nd)(v:Nat->Value)(j:Nat):Value:=if j=0 then iV fr else ndF (nd ((j-1)/74)) (v ((j-1)/74)) ((j-1)%74)
def nP(rd:Nat->Nat->Int)(bad:Int)(lv:Value)(j:Nat):Value:=if j<12 then iV (rd (j/3) (j%3)) else if j=12 then iV bad else lv
def lyF(ph wo:Int)(v:Value)(j:Nat):Value:=if j=0 then iV ph else if j=1 then iV wo else v
def U9(m:Nat->Ms)(v:Nat->Value)(j:Nat):Value:=msF (m (j/4)).K (m (j/4)).F (m (j/4)).R (v (j/4)) (j%4)
def xL(fr:Int)(nd:Nat->Nd)(v:Nat->Value)(bad:Int)(lv:Value)(bx:Nat->Value)(j:Nat):Value:=if j<297 then nO fr nd v j else if j=297 then iV bad else if j=298 then lv else bx (j-299)
def slV(a:Option Addr×Nat)(n:Nat):Value:=.slice a.1 n a.2
variable{j i:Nat}
theorem VT(fr:Int)(nd:Nat->Nd)(v:Nat->Value)(hj:j<74):nO fr nd v (1+i*74+j)=ndF (nd i) (v i) j:=by grind [nO]
theorem aAH(fr:Int)(nd:Nat->Nd)(v:Nat->Value)(i:Nat)(n:Nd)(u:Value):∀j,j<297->stP (nO fr nd v) (1+i*74) 74 (ndF n u) j=nO fr (dX nd i n) (dX v i u) j:=by
 intro j hj;unfold stP;by_cases c:1+i*74<=j/\j<1+i*74+74
 .rw[if_pos c];unfold nO;rw[if_neg Yo,show (j-1)/74=i by omega,show (j-1)%74=j-(1+i*74) by omega,dI,dI]
 .rw[if_neg c];unfold nO;by_cases c0:j=0
  .rw[if_pos c0,if_pos c0]
  .rw[if_neg c0,if_neg c0];have:(j-1)/74≠i:=Yo;rw[dC _ _ this,dC _ _ this]
theorem qV(fr:Int)(nd:Nat->Nd)(a:Nat->Option Addr×Nat)(n:Nat->Nat):∀j,j<297->(nO fr nd (λi=>slV (a i) (n i)) j).oneCell'=true:=by
 intro j _;unfold nO;split
 .rfl
 .exact bN _ _ _ _ _ (Nat.mod_lt _ Yc)
theorem MJ(rd:Nat->Nat->Int)(bad:Int)(ao:Option Addr)(n c:Nat):∀j,j<14->(nP rd bad (.slice ao n c) j).oneCell'=true:=by
 intro j _;unfold nP;split
 .rfl
 .split<;>rfl
theorem DK(ph wo:Int)(ao:Option Addr)(n c:Nat):∀j,j<3->(lyF ph wo (.slice ao n c) j).oneCell'=true:=by
 intro j _;unfold lyF;split
 .rfl
 .split<;>rfl
theorem aMN(m:Nat->Ms)(v:Nat->Value)(hj:j<4):U9 m v (i*4+j)=msF (m i).K (m i).F (m i).R (v i) j:=by
 unfold U9;rw[show (i*4+j)/4=i by omega,show (i*4+j)%4=j by omega]
theorem aKT(m:Nat->Ms)(a:Nat->Option Addr×Nat)(n:Nat->Nat):∀j,j<16->(U9 m (λi=>slV (a i) (n i)) j).oneCell'=true:=by
 intro j _;exact fC _ _ _ _ _ _ _ (Nat.mod_lt _ Yc)
theorem aIB(m:Nat->Ms)(v:Nat->Value)(i:Nat)(n:Ms)(u:Value):∀j,j<16->stP (U9 m v) (i*4) 4 (msF n.K n.F n.R u) j=U9 (dX m i n) (dX v i u) j:=by
 intro j hj;unfold stP;by_cases c:i*4<=j/\j<i*4+4
 .rw[if_pos c];unfold U9;rw[show j/4=i by omega,show j%4=j-i*4 by omega,dI,dI]
 .rw[if_neg c];unfold U9;have:j/4≠i:=Yo;rw[dC _ _ this,dC _ _ this]
variable{fr:Int}
theorem zY{nd:Nat->Nd}{v:Nat->Value}{bad:Int}{lv:Value}{bx:Nat->Value}(hj:j<297):xL fr nd v bad lv bx j=nO fr nd v j:=if_pos hj
theorem aKK(fr:Int)(nd:Nat->Nd)(v:Nat->Value)(bad:Int)(lv:Value)(bx:Nat->Value)(hi:i<4)(n:Nd)(u:Value):∀j,j<303->stP (xL fr nd v bad lv bx) (1+i*74) 74 (ndF n u) j=xL fr (dX nd i n) (dX v i u) bad lv bx j:=by
 intro j hj;by_cases c:j<297
 .rw[zY c, <-aAH fr nd v i n u j c];unfold stP;split
  .rfl
  .exact zY c
 .rw[nX _ _ Yo];unfold xL;rw[if_neg c,if_neg c]
theorem aMa(fr:Int)(nd:Nat->Nd)(v:Nat->Value)(bad:Int)(lv:Value)(bx:Nat->Value)(i:Nat)(u:Value):∀j,j<303->stW (xL fr nd v bad lv bx) (299+i) u j=xL fr nd v bad lv (dX bx i u) j:=by grind [xL,jV,Nat.add_sub_cancel_left,dI,iA,dC]
instance:ZerK Tryz.prog 40 297 (nO 0 (λ_=>bX) (λ_=>slV (none,0) 0)):=⟨λw=>Yl⟩
instance:ZerK Tryz.prog 43 14 (nP (λ_ _=>0) 0 (.slice none 0 0)):=⟨λw=>Yl⟩
instance:ZerK Tryz.prog 78 3 (lyF 0 0 (.slice none 0 0)):=⟨λw=>Yl⟩
instance:ZerK Tryz.prog 86 14 (jJ bX):=⟨BG⟩
instance:ZerK Tryz.prog 68 16 (U9 (λ_=>jH) (λ_=>slV (none,0) 0)):=⟨λw=>Yl⟩
variable{o:Oper}{f:Operand->Value}
theorem oC(ho:o.op=.build 40 #[])(w:World):(execOp f o).run Tryz.prog w=.ok (.value (aP (nO 0 (λ_=>bX) (λ_=>slV (none,0) 0)) 0 297)) w:=by
 unfold execOp;rw[ho]
 kernel_rfl
def oH(B:Nat)(v:Value)(L:List Lm):It:=⟨λw=>OwnM w B v L,λk=>v.ownBlock=some k\/∃c,c∈L/\(lmV c).ownBlock=some k,
 λh e=>⟨DT h.1 (λk hk=>e k (h.1.lt k hk).2 (Or.inl hk)),λc hc=>DT (h.2 c hc) (λk hk=>e k ((h.2 c hc).lt k hk).2 (Or.inr ⟨c,hc,hk⟩))⟩,
 λh e=>by
  rcases e with e|⟨c,hc,e⟩
  .exact (h.1.lt _ e).2
  .exact ((h.2 c hc).lt _ e).2⟩
variable{B:Nat}{L:List Lm}{v:Value}{w:World}
theorem yV(h:OwnM w B v L):∀j,(oH B v L).foot j->B<=j:=λj e=>by
 rcases e with e|⟨c,hc,e⟩
 .exact (h.1.lt _ e).1
 .exact ((h.2 c hc).lt _ e).1
theorem OwnM.base{C:Nat}(h:OwnM w B v L)(e:C<=B):OwnM w C v L:=⟨bZ h.1 e,λc hc=>bZ (h.2 c hc) e⟩
variable{u:Value}{l:List It}{w0 w':World}
theorem aKQ{v':Value}{M:List Lm}(H:Cx w0 w (oH w0.heap.size v L::oH w0.heap.size u M::l))(h2:w'.ownsRow w0.heap.size 67 4 v' (L.length+M.length) (wH L++wH M))(h3:w.grownBy w' v.ownBlock)(h4:∀k,v'.ownBlock=some k->v.ownBlock=some k\/w.heap.size<=k):Cx w0 w' (oH w0.heap.size v' (L++M)::l):=by
 have hL:OwnM w w0.heap.size v L:=H.o0;have hM:OwnM w w0.heap.size u M:=H.o1;have apart:∀c,SF w w0.heap.size c->∀k,(lmV c).ownBlock=some k->some k≠v.ownBlock:=λc hc k hk e=>by
  obtain⟨u1,hu1⟩:=uS hc hk;obtain⟨u2,hu2⟩:=uS hL.1 e.symm;rw[hu1] at hu2
  cases hu2
 have kp:∀c,SF w w0.heap.size c->SF w' w0.heap.size c:=λc hc=>DT hc (λk hk=>h3.block k (hc.lt k hk).2 (apart c hc k hk))
 have hn:OwnM w' w0.heap.size v' (L++M):=⟨by rw[List.length_append,aBf];exact h2,λc hc=>by
  rcases List.mem_append.1 hc with hc|hc
  .exact kp c (hL.2 c hc)
  .exact kp c (hM.2 c hc)⟩
 refine H.merge.a0.put (y:=(oH w0.heap.size v' (L++M))) ⟨h3.os,h3.tape,h3.output,h3.size,λj h5 h6=>h3.block j h5 (λe=>h6 (Or.inl (Or.inl e.symm))),hn,λj hj=>?_⟩;rcases hj with hj|⟨c,hc,hj⟩
 .rcases h4 j hj with h|h
  .exact Or.inl (Or.inl (Or.inl h))
  .exact Or.inr h
 .rcases List.mem_append.1 hc with hc|hc
  .exact Or.inl (Or.inl (Or.inr ⟨c,hc,hj⟩))
  .exact Or.inl (Or.inr (Or.inr ⟨c,hc,hj⟩))
variable{L':List (Nat×Value)}{Q:Exit->Act->World->Prop}
theorem IU{ops:Array Oper}{A:Act}{rest:List Oper}{d:Nat}{M:List Lm}{s x:Operand}(H:Cx w0 w (oH w0.heap.size v L::oH w0.heap.size u M::l))(hl:L.length+M.length<=2932031007401)(h:∀v' w',Cx w0 w' (oH w0.heap.size v' (L++M)::l)->LstI Tryz.prog ops Q rest (aV A ((d,v')::L')) w')(ho:o.op=.call { callee:=.builtin .append,args:=#[s,x],argTypes:=#[71,71] }:=by rfl)(hs:(aV A L').eval s=v:=by exact Qv)(hx:(aV A L').eval x=u:=by exact Qv)(hd:o.dst=some d:=by rfl)(hw:Region.wanted o (yielded ops (aV A L').tmps)=true:=by exact fI rfl):LstI Tryz.prog ops Q (o::rest) (aV A L') w:=by
 have hL:OwnM w w0.heap.size v L:=H.o0;have hM:OwnM w w0.heap.size u M:=H.o1;exact bI hd hw (λ_ hK=>oJ ho inferInstance H.size hs hx hL.1 (vD hM.1) aKj Ym Yo (λv' w' h2 h3 h4=>hK _ _ (h v' w' (aKQ H h2 h3 h4))))
variable{c:Lm}
theorem GK{b:Nat}(h:Vh 67 w b 4 4 (uK c))(hb:B<=b):w.ownsRow B 67 4 (.slice (some ⟨b,0,none⟩) 1 1) 1 (wH [c]):=by
 obtain⟨cur,h1,h2,h3,h4,h5⟩:=h;refine⟨rfl,Or.inr ⟨b,1,cur,rfl,hb,h1,Xr _,by decide,Yo,?_⟩⟩;apply List.ext_getElem?;intro i;rw[List.getElem?_take];by_cases hi:i<1*4
 .rw[if_pos hi,Array.getElem?_toList,h5 i Yo];have:=aDc [c] 0 c rfl i Yo;rw[Nat.zero_mul,Nat.zero_add] at this;exact this.symm
 .rw[if_neg hi,List.getElem?_eq_none (by rw[aAP];exact Nat.le_of_not_lt hi)]
theorem aJx{x:It}(H:Cx w0 w (x::oH w0.heap.size u [c]::l))(k:Below w.heap.size w w')(m:Vh 67 w' w.heap.size 4 4 (uK c)):Cx w0 w' (x::oH w0.heap.size (.slice (some ⟨w.heap.size,0,none⟩) 1 1) [c]::l):=by
 have hM:OwnM w w0.heap.size u [c]:=H.o1;refine H.a1.put (y:=(oH w0.heap.size (.slice (some ⟨w.heap.size,0,none⟩) 1 1) [c])) ⟨k.os,k.tape,k.output,k.size,λj h5 _=>k.block j h5,⟨GK m H.size,λd hd=>bK (hM.2 d hd) k⟩,λj hj=>?_⟩;rcases hj with hj|hj
 .cases hj;exact Or.inr (Xr _)
 .exact Or.inl (Or.inr hj)
structure Lj where
 y:Ly
 ao:Option Addr
 cap:Nat
def ljV(c:Lj):Value:=.slice c.ao c.y.n c.cap
def CB(c:Lj):Nat->Value:=lyF c.y.ph c.y.wo (ljV c)
def aNU(w:World)(ao:Option Addr)(L:List Lj):Prop:=0<L.length->∃b o,ao=some ⟨b,o,none⟩/\∀i c,L[i]?=some c->∀k,k<3->w.cell? ⟨b,o+i*3+k,none⟩=some (CB c k)
def aFq(w:World)(c:Lj):Prop:=Sr w c.ao c.y.n c.cap (bF c.y.g)/\c.y.n<=c.cap/\c.y.n<=140737488351232/\∀i,c.y.g i<256
def JRd(w:World)(ao:Option Addr)(L:List Lj):Prop:=aNU w ao L/\∀c,c∈L->aFq w c
variable{ao:Option Addr}
theorem JRd.below{L:List Lj}(h:JRd w ao L)(k:Below w.heap.size w w'):JRd w' ao L:=⟨λhl=>by
 obtain⟨b,o,e,hc⟩:=h.1 hl;exact⟨b,o,e,λi c hi j hj=>aM (hc i c hi j hj) k⟩,λc hc=>⟨(h.2 c hc).1.below k,(h.2 c hc).2⟩⟩
theorem jY{g f:Nat->Value}{o n:Nat}(h:∀j,j<n->g (o+j)=f j):aP g o n=aP f 0 n:=by
 unfold aP
 congr 2
 refine List.map_congr_left λj hj=>?_
 rw[h j (List.mem_range.1 hj),Nat.zero_add]
section
variable {P:Program} {Q:Exit->Act->World->Prop} {a:Act} {w:World} {y:Code} {id id2:Nat} {ops:Array Oper}
theorem aLq(h:CodI P y Q a w):CodI P .skip (Exit.inBlock id (Exit.inBlock id2 (Nx P y Q))) a w:=UA h
theorem aEP(h:CodI P y Q a w):LstI P ops (Exit.inBlock id (Exit.inBlock id2 (Nx P y Q))) [] a w:=⟨wpList_nil h⟩
end
section
variable {n:Nd} {s:Nat} {kind:Int} {many:Nat}
end
theorem aNy{m m':Ms}(h:m'∈BV m):m'=m:=by
 unfold BV at h;split at h
 .simpa using h
 .cases h
section
variable {H:Nat->Nat->Int} {T:Nat->Nat->Nat->Int} {bad:Int}
end
section
variable {x:Ip} {c:Cl}
def ndK(x:Ip)(c:Cl)(k i:Nat):Nd:=(gV x c k).nd i
def bxK(x:Ip)(c:Cl)(k i:Nat):List Ms:=(gV x c k).bx i
def mgK(x:Ip)(c:Cl)(k i:Nat):Ms:=uO x c.fr (gV x c k) k i
theorem uR{k:Nat}(h:(i:Int)≠x.bad):ndK x c (k+1) i=phN k (ndK x c k i) c.fr (x.rd i) (bxK x c k i):=by
 show (if (i:Int)=x.bad then _ else _)=_
 rw[if_neg h];rfl
theorem UB{k:Nat}(h:(i:Int)≠x.bad):mgK x c k i=phM k (ndK x c k i) c.fr (x.rd i) (bxK x c k i):=by
 show (if (i:Int)=x.bad then _ else _)=_
 rw[if_neg h];rfl
theorem nd1(h:(i:Int)≠x.bad):ndK x c 1 i=senN (c.nd i) c.fr (x.rd i):=uR h
theorem nd2(h:(i:Int)≠x.bad):ndK x c 2 i=relN (ndK x c 1 i) (bxK x c 1 i):=uR h
theorem nd3(h:(i:Int)≠x.bad):ndK x c 3 i=rG (ndK x c 2 i) (bxK x c 2 i):=uR h
theorem nd4(h:(i:Int)≠x.bad):ndK x c 4 i=pasN (ndK x c 3 i) (bxK x c 3 i):=uR h
theorem nd5(h:(i:Int)≠x.bad):ndK x c 5 i=judN (ndK x c 4 i) (bxK x c 4 i):=uR h
theorem mg0(h:(i:Int)≠x.bad):mgK x c 0 i=lF (c.nd i) c.fr (x.rd i):=UB h
theorem WE(hE:gK x c=0)(hi:i<4):(c.nd i).id=(i:Nat):=(JY hE).2.2.2 i hi
theorem aDC(hE:gK x c=0)(hi:i<4)(g:(i:Int)≠x.bad):ndK x c 1 i={ c.nd i with fr:=c.fr,di:=λs a=>if (s:Int)=(c.nd i).id then x.rd i a else 0,he:=λ_=>0 }:=by
 rw[nd1 g];unfold senN;rw[if_neg (by rw[WE hE hi,rY hi];decide)]
theorem aJr(hE:gK x c=0)(hi:i<4)(g:(i:Int)≠x.bad):ndK x c 2 i={ ndK x c 1 i with di:=relD (ndK x c 1 i) (bxK x c 1 i) }:=by
 rw[nd2 g];unfold relN;rw[if_neg (by rw[aDC hE hi g];show ¬jI (c.nd i).id=true;rw[WE hE hi,rY hi];decide)]
theorem id1(hE:gK x c=0)(hi:i<4)(g:(i:Int)≠x.bad):(ndK x c 1 i).id=(i:Nat):=by rw[aDC hE hi g];exact WE hE hi
theorem id2(hE:gK x c=0)(hi:i<4)(g:(i:Int)≠x.bad):(ndK x c 2 i).id=(i:Nat):=by rw[aJr hE hi g];exact id1 hE hi g
theorem aMz(hE:gK x c=0)(hi:i<4)(g:(i:Int)≠x.bad):ndK x c 3 i={ ndK x c 2 i with ag:=decG (ndK x c 2 i) (bxK x c 2 i),us:=decU (ndK x c 2 i) (bxK x c 2 i),ax:=decA (ndK x c 2 i) (bxK x c 2 i),dg:=decD (ndK x c 2 i) (bxK x c 2 i),he:=λs=>if (s:Int)=(ndK x c 2 i).id then decD (ndK x c 2 i) (bxK x c 2 i) else (ndK x c 2 i).he s }:=by
 rw[nd3 g];unfold rG;rw[if_neg (by rw[id2 hE hi g,rY hi];decide)]
theorem id3(hE:gK x c=0)(hi:i<4)(g:(i:Int)≠x.bad):(ndK x c 3 i).id=(i:Nat):=by rw[aMz hE hi g];exact id2 hE hi g
theorem aLy(hE:gK x c=0)(hi:i<4)(g:(i:Int)≠x.bad):ndK x c 4 i={ ndK x c 3 i with he:=pasH (ndK x c 3 i) (bxK x c 3 i) }:=by
 rw[nd4 g];unfold pasN;rw[if_neg (by rw[id3 hE hi g,rY hi];decide)]
theorem id4(hE:gK x c=0)(hi:i<4)(g:(i:Int)≠x.bad):(ndK x c 4 i).id=(i:Nat):=by rw[aLy hE hi g];exact id3 hE hi g
theorem aMc(hE:gK x c=0)(hi:i<4)(g:(i:Int)≠x.bad):ndK x c 5 i={ ndK x c 4 i with vX:=judX (ndK x c 4 i) (bxK x c 4 i),vS:=judS (ndK x c 4 i) (bxK x c 4 i),vA:=(List.range 4).map (judA (ndK x c 4 i) (bxK x c 4 i)),rl:=judR (ndK x c 4 i) (bxK x c 4 i) }:=by
 rw[nd5 g];unfold judN;rw[if_neg (by rw[id4 hE hi g,rY hi];decide)]
theorem id5(hE:gK x c=0)(hi:i<4)(g:(i:Int)≠x.bad):(ndK x c 5 i).id=(i:Nat):=by rw[aMc hE hi g];exact id4 hE hi g
theorem ms0(hE:gK x c=0)(hi:i<4)(g:(i:Int)≠x.bad):mgK x c 0 i=⟨1,(i:Nat),c.fr,[x.rd i 0,x.rd i 1,x.rd i 2]⟩:=by
 rw[mg0 g];unfold lF;rw[if_neg (by rw[WE hE hi,rY hi];decide),WE hE hi]
end
theorem bS:R64 0:=⟨by decide,by decide⟩
theorem xB{l:List Int}(h:∀x,x∈l->R64 x)(i:Nat):R64 (gL l i):=by
 unfold gL;rw[List.getD_eq_getElem?_getD];rcases Nat.lt_or_ge i l.length with c|c
 .rw[List.getElem?_eq_getElem c];exact h _ (List.getElem_mem c)
 .rw[List.getElem?_eq_none c];exact bS
theorem aIp{a b c:Int}(ha:R64 a)(hb:R64 b):R64 (NQ a b c):=by
 unfold NQ;split
 .exact ha
 .split
  .exact ha
  .split
   .exact hb
   .exact bS
variable{many s:Nat}{kind:Int}{n:Nd}
theorem aHy{v:List Int}(h:wY n (L.map Lm.m) s kind many=some v):∃c,c∈L/\c.m.L=v:=by
 rw[<-qU] at h;obtain⟨c,h1,h2⟩:=Option.map_eq_some_iff.1 h;exact⟨c,List.mem_of_find?_eq_some h1,h2⟩
theorem aBY(hRL:∀m,m∈L->∀i,R64 (gL m.m.L i))(i k many:Nat):R64 (jQ n (L.map Lm.m) i k many):=by
 unfold jQ
 cases e:wY n (L.map Lm.m) i 2 many with
 |none=>exact bS
 |some v=>
  obtain⟨c,h1,rfl⟩:=aHy e;exact hRL c h1 k
variable{k:Nat}
theorem QR(hRL:∀m,m∈L->∀i,R64 (gL m.m.L i)){h:Int}(hh:R64 h):R64 (vU n (L.map Lm.m) s h k many):=by
 unfold vU;split
 .exact hh
 .exact aIp hh (aBY hRL _ _ _)
theorem FL(x y z u v s:Value)(w:World):(callFunc 45 #[x,y,z,u,v,s]).run Tryz.prog w=.ok (.enter 45 #[x,y,z,u,v,s]) w:=Yh
variable{a:Nat}
theorem aMQ(n:Nd)(v:Value)(hi:i<4)(ha:a<3):ndF n v (0+55+i*3+a*1)=.int .i64 (n.ag i a):=by
 unfold ndF;rw[if_neg Yo,if_neg Yo,if_neg Yo,if_neg Yo,if_neg Yo,if_neg Yo,if_pos Yo,show (0+55+i*3+a*1-55)/3=i by omega,show (0+55+i*3+a*1-55)%3=a by omega];rfl
theorem aDG(n:Nd)(v:Value)(ha:a<3):ndF n v (0+67+a*1)=.int .i64 (n.us a):=by
 unfold ndF;rw[if_neg Yo,if_neg Yo,if_neg Yo,if_neg Yo,if_neg Yo,if_neg Yo,if_neg Yo,if_pos Yo,show 0+67+a*1-67=a by omega];rfl
def NA(n:Nd)(ag:Nat->Nat->Int)(us:Nat->Int)(ax:Nat->St):Nd:={ n with ag:=ag,us:=us,ax:=ax }
def uE(n:Nd)(l:List Ms)(x i s k:Nat):Int:=if s<4/\(k<x\/(k=x/\s<i)) then decG n l s k else n.ag s k
def tK(n:Nd)(l:List Ms)(x k:Nat):Int:=if k<x then decU n l k else n.us k
def rD(n:Nd)(l:List Ms)(x k:Nat):St:=if k<x then decA n l k else n.ax k
variable{l:List Ms}
theorem aKJ:NA n (uE n l 0 0) (tK n l 0) (rD n l 0)=n:=by
 have e1:uE n l 0 0=n.ag:=by funext s k;unfold uE;rw[if_neg Yo]
 have e2:tK n l 0=n.us:=by funext k;unfold tK;rw[if_neg Yo]
 have e3:rD n l 0=n.ax:=by funext k;unfold rD;rw[if_neg Yo]
 rw[e1,e2,e3];rfl
variable{x:Nat}
theorem aKg(hi:i<4):(λs k=>if s=i/\k=x then vU n l i (n.di i x) (3*i+x) 12 else uE n l x i s k)=uE n l x (i+1):=by
 funext s k
 unfold uE;by_cases c:s=i/\k=x
 .obtain⟨rfl,rfl⟩:=c;rw[if_pos ⟨rfl,rfl⟩,if_pos Yo];rfl
 .rw[if_neg c];by_cases c2:s<4/\(k<x\/(k=x/\s<i))
  .rw[if_pos c2,if_pos Yo]
  .rw[if_neg c2,if_neg Yo]
theorem aLV(hi:i<4):uE n l x (i+1) i x=decG n l i x:=by
 unfold uE;rw[if_pos Yo]
theorem aLm:uE n l x 4=uE n l (x+1) 0:=by grind [uE]
theorem aLb:(λk=>if k=x then xZ (nT n.rl.I (λs=>decG n l s x) 4) else tK n l x k)=tK n l (x+1):=by
 funext k
 unfold tK;by_cases c:k=x
 .subst c;rw[if_pos rfl,if_pos Yo];rfl
 .rw[if_neg c];by_cases c2:k<x
  .rw[if_pos c2,if_pos Yo]
  .rw[if_neg c2,if_neg Yo]
theorem aDz:tK n l (x+1) x=decU n l x:=by
 unfold tK;rw[if_pos Yo]
theorem aMY:rD n l x x=n.ax x:=by
 unfold rD;rw[if_neg Yo]
theorem aAM:(λk=>if k=x then decA n l x else rD n l x k)=rD n l (x+1):=by grind [rD]
theorem aKe:ndF (NA n (uE n l 3 0) (tK n l 3) (rD n l 3)) v=ndF (NA n (decG n l) (decU n l) (decA n l)) v:=
 ndF_ext (n:=n) (λ_ _ _=>rfl) (λs k h1 h2=>by unfold uE;rw[if_pos Yo]) (λk h=>by unfold tK;rw[if_pos h]) (λk h=>by unfold rD;rw[if_pos h])
theorem aDr{I:Nat}{x:Int}(h:n.id=(I:Int)):(λs:Nat=>if (s:Int)=n.id then x else n.he s)=λs=>if s=I then x else n.he s:=by
 funext s
 rw[h];by_cases e:s=I
 .rw[if_pos Yo,if_pos e]
 .rw[if_neg Yo,if_neg e]
variable{b:Nat->Bool}{f:Nat->Int}
theorem aIq(h:b i=true):nT b f (i+1)=nT b f i++[f i]:=by
 show nT b f i++_=_
 rw[h];rfl
theorem aIi(h:b i=false):nT b f (i+1)=nT b f i:=by
 show nT b f i++_=_
 rw[h];exact List.append_nil _
theorem aNC(h:∀s,R64 (f s))(k i:Nat):R64 (gL (nT b f k) i):=by
 refine xB ?_ i
 induction k with
 |zero=>intro x hx;exact absurd hx (List.not_mem_nil)
 |succ k ih=>
  intro x hx;rcases List.mem_append.1 hx with c|c
  .exact ih x c
  .split at c
   .rw[List.mem_singleton.1 c];exact h k
   .exact absurd c (List.not_mem_nil)
theorem WK(hok:NdOK n)(hRL:∀m,m∈L->∀i,R64 (gL m.m.L i))(s a:Nat):R64 (decG n (L.map Lm.m) s a):=QR hRL (hok.di s a)
variable{l:List Int}
theorem aIf(h:∀x,x∈l->R64 x)(i:Nat):R64 ((jB l).getD i 0):=by
 refine xB (l:=jB l) (λx hx=>h x ?_) i;unfold jB at hx;exact (List.mem_mergeSort).1 hx
theorem aCt(h:∀x,x∈l->R64 x):R64 (xZ l):=by
 unfold xZ;split
 .have h1:=aIf h ((l.length-1)/3);have h2:=aIf h (l.length-1-(l.length-1)/3);unfold R64 at h1 h2 ⊢;omega
 .exact bS
theorem FO(h:∀s,R64 (f s))(k:Nat):∀x,x∈nT b f k->R64 x:=by
 induction k with
 |zero=>intro x hx;exact absurd hx (List.not_mem_nil)
 |succ k ih=>
  intro x hx;rcases List.mem_append.1 hx with c|c
  .exact ih x c
  .split at c
   .rw[List.mem_singleton.1 c];exact h k
   .exact absurd c (List.not_mem_nil)
theorem aDt(hok:NdOK n)(hRL:∀m,m∈L->∀i,R64 (gL m.m.L i))(a:Nat):R64 (decU n (L.map Lm.m) a):=aCt (FO (λs=>WK hok hRL s a) 4)
theorem aEB(l:List Int):mE (gL l) l.length=l:=by
 unfold mE;apply List.ext_getElem?;intro i;rcases Nat.lt_or_ge i l.length with c|c
 .rw[List.getElem?_map,List.getElem?_range c,List.getElem?_eq_getElem c];show some (gL l i)=_
  unfold gL;rw[List.getD_eq_getElem?_getD,List.getElem?_eq_getElem c];rfl
 .rw[List.getElem?_eq_none c,List.getElem?_eq_none (by simpa using c)]
def uC(l:List Ms):Prop:=∀m,m∈l->∀i,R64 (gL m.L i)
structure MsOK (m:Ms):Prop where
 K:R64 m.K
 F:R64 m.F
 R:R64 m.R
 L:∀i,R64 (gL m.L i)
 n:m.L.length<=24
variable{l:List Ms}
theorem KV{v:List Int}(h:uC l)(hv:wY n l s kind many=some v)(i:Nat):R64 (v.getD i 0):=by
 unfold wY at hv;obtain⟨m,h1,rfl⟩:=Option.map_eq_some_iff.1 hv;exact h m (List.mem_of_find?_eq_some h1) i
theorem aLP(h:uC l){v:Int}(hv:R64 v):R64 (vU n l s v k many):=by
 unfold vU;split
 .exact hv
 .refine aIp hv ?_;unfold jQ;split
  .rename_i u e;exact KV h e k
  .exact bS
theorem aIw(h:x<=4294967295):R64 ((x:Nat):Int):=by unfold R64;omega
theorem aBQ(ax:Nat->St)(r:Rl):R64 (dgN ax r):=aIw (Nat.sub_le _ _)
theorem aJt{ax:Nat->St}{r:Rl}(h:∀a,(ax a).Ok):∀x,x∈nS ax r->R64 x:=by
 have h1:∀a x,x∈zH (ax a)->R64 x:=λa x hx=>by
  unfold zH at hx;simp only[List.mem_cons,List.not_mem_nil,or_false] at hx;rcases hx with rfl|rfl|rfl|rfl|rfl|rfl|rfl
  .exact (h a).X
  .exact (h a).V
  .exact (h a).P00
  .exact (h a).P01
  .exact (h a).P11
  .unfold R64;split<;>omega
  .exact (h a).M
 have h2:∀(f:Nat->Int) k,R64 (oO f (k+1)):=λf k=>by
  show R64 (wrap64 _)
  unfold R64 wrap64;omega
 intro x hx;unfold nS at hx;simp only[List.mem_append,List.mem_cons,List.not_mem_nil,or_false] at hx;rcases hx with ((hx|hx)|hx)|rfl|rfl|rfl
 .exact h1 0 x hx
 .exact h1 1 x hx
 .exact h1 2 x hx
 .unfold AA R64;split<;>split<;>split<;>split<;>omega
 .exact h2 _ 3
 .exact h2 _ 3
theorem Q0:MsOK jH:=⟨bS,bS,bS,λi=>xB (λx hx=>by cases hx) i,Xz _⟩
section
variable {n:Nd} {l:List Ms}
variable{rd:Nat->Int}
theorem aJb(h:NdOK n)(hf:R64 fr)(hr:∀a,R64 (rd a)):NdOK (senN n fr rd):=by
 unfold senN;split
 .exact h
 .exact⟨h.id,hf,h.tn,h.ax,h.rM,h.rJ,λs a=>by show R64 (if _ then _ else _);split;exact hr a;exact bS,λ_=>bS,h.ag,h.us,h.dg,h.vX,h.vA⟩
theorem aIx(h:NdOK n)(hf:R64 fr)(hr:∀a,R64 (rd a)):MsOK (lF n fr rd):=by
 unfold lF;split
 .exact⟨bS,bS,bS,λi=>xB (λx hx=>by cases hx) i,Xz _⟩
 .refine⟨(show R64 1 by unfold R64;decide),h.id,hf,λi=>xB (λx hx=>?_) i,by show 3<=24;decide⟩;simp only[List.mem_cons,List.not_mem_nil,or_false] at hx;rcases hx with rfl|rfl|rfl<;>exact hr _
theorem aEC(h:NdOK n)(hl:uC l)(s a:Nat):R64 (relD n l s a):=by
 unfold relD;split
 .rename_i v e;exact KV hl e a
 .exact h.di s a
theorem aLn(h:NdOK n)(hl:uC l):NdOK (relN n l):=by
 unfold relN;split
 .exact h
 .exact⟨h.id,h.fr,h.tn,h.ax,h.rM,h.rJ,aEC h hl,h.he,h.ag,h.us,h.dg,h.vX,h.vA⟩
theorem aIJ(h:NdOK n)(hl:uC l):MsOK (uF n l):=by
 unfold uF;split
 .exact Q0
 .refine⟨(show R64 2 by unfold R64;decide),h.id,h.fr,λi=>xB (λx hx=>?_) i,by simp⟩;obtain⟨q,_,rfl⟩:=List.mem_map.1 hx;exact aEC h hl _ _
theorem aAV(h:NdOK n)(hl:uC l)(s a:Nat):R64 (decG n l s a):=aLP hl (h.di s a)
theorem aJL(h:NdOK n)(hl:uC l)(a:Nat):R64 (decU n l a):=aCt (FO (λs=>aAV h hl s a) 4)
theorem aKd(h:NdOK n)(hl:uC l):NdOK (rG n l):=by
 unfold rG;split
 .exact h
 .exact⟨h.id,h.fr,h.tn,λa=>WG (h.ax a) _ _,h.rM,h.rJ,h.di,λs=>by show R64 (if _ then _ else _);split;exact aBQ _ _;exact h.he s,aAV h hl,aJL h hl,aBQ _ _,h.vX,h.vA⟩
theorem aKM(h:NdOK n)(_:uC l):MsOK (uG n l):=by
 unfold uG;split
 .exact Q0
 .refine⟨(show R64 3 by unfold R64;decide),h.id,h.fr,λi=>xB (λx hx=>?_) i,by show 1<=24;decide⟩;simp only[List.mem_cons,List.not_mem_nil,or_false] at hx;rw[hx];exact aBQ _ _
theorem aEq(h:NdOK n)(hl:uC l)(s:Nat):R64 (pasH n l s):=by
 unfold pasH;split
 .rename_i v e;exact KV hl e 0
 .exact h.he s
theorem aJp(h:NdOK n)(hl:uC l):NdOK (pasN n l):=by
 unfold pasN;split
 .exact h
 .exact⟨h.id,h.fr,h.tn,h.ax,h.rM,h.rJ,h.di,aEq h hl,h.ag,h.us,h.dg,h.vX,h.vA⟩
theorem aJC(h:NdOK n)(hl:uC l):MsOK (uM n l):=by
 unfold uM;split
 .exact Q0
 .refine⟨(show R64 2 by unfold R64;decide),h.id,h.fr,λi=>xB (λx hx=>?_) i,by simp⟩;obtain⟨q,_,rfl⟩:=List.mem_map.1 hx;exact aEq h hl _
theorem aIy(h:NdOK n)(hl:uC l):R64 (judX n l):=by
 have hv:∀s,R64 (sK n l s):=λs=>aLP hl (h.he s)
 have:∀k,R64 (IJ (sK n l) n.rl.I k):=by
  intro k
  induction k with
  |zero=>exact bS
  |succ k ih=>
   show R64 (if _ then _ else _)
   split
   .exact hv k
   .exact ih
 exact this 4
theorem aNP(h:NdOK n){A:Nat->Bool}(hg:lH n.rl=true):∀k,k<=4->∀i,R64 ((rnN A n.rl k).1.M i)/\R64 ((rnN A n.rl k).1.J i):=λk hk i=>by
 rcases Nat.lt_or_ge i 4 with c|c
 .have g:=uX.1 (DR (A:=A) hg k) i c
  cases e:(rnN A n.rl k).1.I i with
  |true=>have:=(gd_in e).1 g;unfold R64;omega
  |false=>have:=(rW e).1 g;unfold R64;omega
 .obtain⟨_,h2,h3⟩:=aAT (A:=A) (r:=n.rl) k (j:=i) Yo;rw[h2,h3];exact⟨h.rM i,h.rJ i⟩
theorem aDZ(h:NdOK n)(l:List Ms)(i:Nat):R64 ((judR n l).M i)/\R64 ((judR n l).J i):=by
 unfold judR;split
 .unfold stR;split
  .exact⟨bS,bS⟩
  .split
   .exact⟨bS,bS⟩
   .rename_i hg;split
    .exact aNP h (by simpa using hg) 4 (Xr _) i
    .exact⟨h.rM i,h.rJ i⟩
 .exact⟨h.rM i,h.rJ i⟩
theorem aIN(h:NdOK n)(hl:uC l):NdOK (judN n l):=by
 unfold judN;split
 .exact h
 .exact⟨h.id,h.fr,h.tn,h.ax,λi=>(aDZ h l i).1,λi=>(aDZ h l i).2,h.di,h.he,h.ag,h.us,h.dg,aIy h hl,by show ((List.range 4).map _).length<=_;rw[List.length_map,List.length_range];decide⟩
theorem aJO(h:NdOK n)(_:uC l):MsOK (rE n l):=by
 unfold rE;split
 .exact Q0
 .exact⟨(show R64 5 by unfold R64;decide),h.id,h.fr,λi=>xB (aJt h.ax) i,by rw[aAe];decide⟩
theorem aIM(h:NdOK n)(hl:uC l):NdOK (gN n l):=by
 unfold gN;split
 .exact h
 .split
  .rename_i v e;split
   .have hv:∀i,R64 (v.getD i 0):=by
     unfold aBW at e;split at e
     .obtain⟨p,_,hp⟩:=List.exists_of_findSome?_eq_some e;unfold JR at hp;split at hp
      .rename_i a b e1 e2;split at hp
       .cases hp;exact KV hl e1
       .cases hp
      .cases hp
     .cases e
    have hm:∀(z:Int) (i:Nat),R64 (z/8^(3-i)%8):=λz i=>by unfold R64;omega
    exact⟨h.id,h.fr,h.tn,λa=>⟨hv _,hv _,hv _,hv _,hv _,hv _⟩,λi=>hm _ i,λi=>hm _ i,h.di,h.he,h.ag,h.us,h.dg,h.vX,h.vA⟩
   .exact h
  .exact h
end
variable{rd:Nat->Int}
theorem aNe(k:Nat)(h:NdOK n)(hl:uC l)(hf:R64 fr)(hr:∀a,R64 (rd a)):NdOK (phN k n fr rd l):=by grind [phN,aJb,aLn,aKd,aJp,aIN]
theorem aEr(k:Nat)(h:NdOK n)(hl:uC l)(hf:R64 fr)(hr:∀a,R64 (rd a)):MsOK (phM k n fr rd l):=by grind [phM,aIx,aIJ,aKM,aJC,aJO]
structure IpOK (x:Ip):Prop where
 rd:∀s a,R64 (x.rd s a)
 bad:R64 x.bad
 g:∀y,y∈x.ly->∀i,y.g i<256
def rA(c:Cl):Prop:=R64 c.fr/\∀i,i<4->NdOK (c.nd i)
variable{n:Nat}
theorem aCq{g:Nat->Nat}(hg:∀i,g i<256):∀m,m∈tQ n g->MsOK m:=λm hm=>by
 unfold tQ at hm;split at hm
 .rename_i e;obtain⟨h1,h2,h3,h4,h5,h6,h7⟩:=NI (zT.1 e);simp only[List.mem_cons,List.not_mem_nil,or_false] at hm;subst hm;have a1:=hg 1;have a2:=hg 2;have a3:=aIb hg;refine⟨?_,?_,?_,λi=>xB (λx hx=>?_) i,?_⟩
  .show R64 ((g 1:Nat):Int);unfold R64;omega
  .show R64 ((g 2:Nat):Int);unfold R64;omega
  .show R64 ((dR g:Nat):Int);unfold R64;omega
  .obtain⟨q,_,rfl⟩:=List.mem_map.1 hx;exact aMe hg q
  .show ((List.range (g 7)).map (dV g)).length<=24
   rw[List.length_map,List.length_range];exact h5
 .cases hm
variable{x:Ip}
theorem aNi(h:IpOK x){wo ph:Int}:∀m,m∈zK x.bad wo ph x.ly->MsOK m:=λm hm=>by
 unfold zK at hm;obtain⟨y,hy,h2⟩:=List.mem_flatMap.1 hm;split at h2
 .exact aCq (h.g y hy) m (List.mem_filter.1 h2).1
 .cases h2
theorem aCM(h:IpOK x){told:Nat->Ms}{wo ph:Nat}:∀k:Nat,(∀j:Nat,j<k->(j:Int)≠x.bad->MsOK (told j))->∀m,m∈lY x told wo ph k->MsOK m
 |0,_,m,hm=>by cases hm
 |k+1,ht,m,hm=>by
  rcases List.mem_append.1 hm with c|c
  .exact aCM h k (λj hj g=>ht j Yo g) m c
  .split at c
   .cases c
   .split at c
    .exact aNi h m c
    .rename_i g;rw[aNy c];exact ht k Yo g
theorem MsOK.R'(h:∀m,m∈l->MsOK m):uC l:=λm hm=>(h m hm).L
variable{c:Cl}
theorem uA(hx:IpOK x)(hc:rA c):∀k,(∀i,i<4->NdOK (ndK x c k i))/\(∀i,i<4->∀m,m∈bxK x c k i->MsOK m)
 |0=>⟨hc.2,λi hi m hm=>by cases hm⟩
 |k+1=>by
  obtain⟨h1,h2⟩:=uA hx hc k;refine⟨λi hi=>?_,λi hi m hm=>?_⟩
  .by_cases g:(i:Int)=x.bad
   .show NdOK (if (i:Int)=x.bad then _ else _)
    rw[if_pos g];exact h1 i hi
   .rw[uR g];exact aNe k (h1 i hi) (MsOK.R' (h2 i hi)) hc.1 (hx.rd i)
  .refine aCM hx 4 (λj hj g=>?_) m hm;show MsOK (mgK x c k j)
   rw[UB g];exact aEr k (h1 j hj) (MsOK.R' (h2 j hj)) hc.1 (hx.rd j)
theorem aLM(hx:IpOK x)(hc:rA c)(hi:i<4):NdOK (wG x c i):=by
 unfold wG;split
 .exact hc.2 i hi
 .exact aIM ((uA hx hc 5).1 i hi) (MsOK.R' ((uA hx hc 5).2 i hi))
theorem aGu:NdOK bX:=⟨bS,bS,⟨bS,bS,bS,bS⟩,λ_=>⟨bS,bS,bS,bS,bS,bS⟩,λ_=>bS,λ_=>bS,λ_ _=>bS,λ_=>bS,λ_ _=>bS,λ_=>bS,bS,bS,by show 0<=_;decide⟩
variable{t:Tn}
theorem aFt(h:t.Ok)(hi:i<4):NdOK (iQ (i:Nat) t):=by
 have e:R64 ((i:Nat):Int):=by unfold R64;omega
 have b:St.beg0.Ok:=⟨bS,bS,by unfold R64;decide,bS,by unfold R64;decide,bS⟩;unfold iQ;rw[if_neg (by rw[rY hi];decide)];exact⟨e,bS,h,λ_=>b,λ_=>bS,λ_=>bS,λ_ _=>bS,λ_=>bS,λ_ _=>bS,λ_=>bS,bS,bS,by show 0<=_;decide⟩
theorem MZ(h:t.Ok):rA (M9 t):=⟨bS,λ_ hi=>aFt h hi⟩
theorem WL(hx:IpOK x)(hc:rA c):rA (lZ x c):=by
 unfold lZ;split
 .rename_i e;have:=(JY e).2.1;refine⟨?_,λi hi=>aLM hx hc hi⟩;show R64 (c.fr+1)
  unfold R64;omega
 .exact⟨bS,λ_ _=>aGu⟩
theorem aNM{fn:Nat}(hD:aHq fn){K F R:Int}(h:bY K F R n=0)(hf:∀i,R64 (f i))(ao:Option Addr)(cap:Nat)(w:World)(hc:12+8*n<=cap)(hs:Sr w ao (12+8*n) cap (bF (enS K F R n f))):Calls Tryz.prog fn #[.slice ao (12+8*n) cap] w λe w'=>∃(bo:Option Addr) (bc:Nat),e=.returned (.tuple #[gG K F R (.slice bo n bc),.int .i64 0])/\w'.ownsRow w.heap.size 3 1 (.slice bo n bc) n (rowV (iF f) n)/\Below w.heap.size w w':=by
 have hn:=(qE h).2.2.2.2.2.2;refine (hD ao (12+8*n) cap (enS K F R n f) w (aCN K F R n f) Yo hc hs).mono ?_;rintro e w' ⟨E,v,hE,rfl,o,k⟩;have e0:E=0:=aAA hE (aDD h);subst e0;obtain⟨e1,e2,eR,e7,eV⟩:=RP (f:=f) h hf;have d7:dN 0 (enS K F R n f 7)=n:=e7;rw[d7,iC (f:=iF f) (λi hi=>by unfold iF;rw[eV i hi])] at o;obtain⟨bo,bc,rfl⟩:=iO o;refine⟨bo,bc,?_,o,k⟩;show Ending.returned (.tuple #[gG (enS K F R n f 1:Nat) (enS K F R n f 2:Nat) (dR (enS K F R n f):Nat) (.slice bo n bc),.int .i64 0])=_
 rw[e1,e2,eR]
theorem xG(K F R:Int)(ao:Option Addr)(n cap:Nat)(w:World):Calls Tryz.prog 76 #[gG K F R (.slice ao n cap)] w λe w'=>e=.returned (.int .i64 (bY K F R n))/\Below w.heap.size w w':=by
 obtain⟨w1,e1,m1,k1,_⟩:=oP w K F R (.slice ao n cap);have c0:=m1.cell0;have c1:=m1.cell1;have c2:=m1.cell2;have c3:=m1.cell3;have E1:=aB e1;have K1:=aB k1;clear e1 m1 k1;unfold gG;by_cases h1:K<1
 .have G:=aB (show bY K F R n=4 by unfold bY;rw[if_pos (Or.inl h1)]);go_enter Tryz.func76,Tryz.ntmps76
  go_wp2_with fail
  rw[<-aA E1];go_wp2_with fail
  go_ret
  exact⟨by rw[aA G];rfl,aA K1⟩
 .by_cases h2:5<K
  .have G:=aB (show bY K F R n=4 by unfold bY;rw[if_pos (Or.inr h2)]);go_enter Tryz.func76,Tryz.ntmps76
   go_wp2_with fail
   rw[<-aA E1];go_wp2_with fail
   go_ret
   exact⟨by rw[aA G];rfl,aA K1⟩
  .by_cases h3:F<0
   .have G:=aB (show bY K F R n=3 by unfold bY;rw[if_neg Yo,if_pos Yo]);go_enter Tryz.func76,Tryz.ntmps76
    go_wp2_with fail
    rw[<-aA E1];go_wp2_with fail
    go_ret
    exact⟨by rw[aA G];rfl,aA K1⟩
   .by_cases h4:3<F
    .have G:=aB (show bY K F R n=3 by unfold bY;rw[if_neg Yo,if_pos Yo]);go_enter Tryz.func76,Tryz.ntmps76
     go_wp2_with fail
     rw[<-aA E1];go_wp2_with fail
     go_ret
     exact⟨by rw[aA G];rfl,aA K1⟩
    .by_cases h5:R<0
     .have G:=aB (show bY K F R n=3 by unfold bY;rw[if_neg Yo,if_pos Yo]);go_enter Tryz.func76,Tryz.ntmps76
      go_wp2_with fail
      rw[<-aA E1];go_wp2_with fail
      go_ret
      exact⟨by rw[aA G];rfl,aA K1⟩
     .by_cases h6:2147483647<R
      .have G:=aB (show bY K F R n=3 by unfold bY;rw[if_neg Yo,if_pos Yo]);go_enter Tryz.func76,Tryz.ntmps76
       go_wp2_with fail
       rw[<-aA E1];go_wp2_with fail
       go_ret
       exact⟨by rw[aA G];rfl,aA K1⟩
      .by_cases h7:24<n
       .have G:=aB (show bY K F R n=6 by unfold bY;rw[if_neg Yo,if_neg Yo,if_pos h7]);have h7':(24:Int)<(n:Int):=Yo;go_enter Tryz.func76,Tryz.ntmps76
        go_wp2_with fail
        rw[<-aA E1];go_wp2_with fail
        go_ret
        exact⟨by rw[aA G];rfl,aA K1⟩
       .have G:=aB (show bY K F R n=0 by unfold bY;rw[if_neg Yo,if_neg Yo,if_neg h7]);go_enter Tryz.func76,Tryz.ntmps76
        go_wp2_with fail
        rw[<-aA E1];go_wp2_with fail
        go_ret
        exact⟨by rw[aA G];rfl,aA K1⟩
theorem aLQ(v:Int)(k:Nat):[Value.int .u8 (v/256^k%256)]++rowV (bF (bt v k)) k=rowV (bF (bt v (k+1))) (1+k):=by
 have e:[Value.int .u8 (v/256^k%256)]=rowV (λ_=>Value.int .u8 (v/256^k%256)) 1:=rfl;rw[e,kZ];refine iC (λi hi=>?_);by_cases h:i<1
 .rw[if_pos h];have:i=0:=Yo;subst this;show _=Value.int .u8 ((bt v (k+1) 0:Nat):Int)
  rw[aJm]
 .rw[if_neg h];obtain⟨j,rfl⟩:∃j,i=j+1:=⟨i-1,Yo⟩;show Value.int .u8 ((bt v k (j+1-1):Nat):Int)=Value.int .u8 ((bt v (k+1) (j+1):Nat):Int)
  rw[aLc,Nat.add_sub_cancel]
theorem zB(V:Int)(N:Nat)(w:World)(hv:R64 V)(hN:N<=8):Calls Tryz.prog 77 #[.int .i64 V,.int .i64 (N:Int)] w λe w'=>∃v,e=.returned v/\w'.ownsRow w.heap.size 5 1 v N (rowV (bF (bt V N)) N)/\Below w.heap.size w w':=by
 have HV:=aB hv;clear hv;go_enter Tryz.func77,Tryz.ntmps77
 go_wp2_with fail
 go_loopw [0,1,5] (λvs ns bs wr=>∃(k c:Nat) (ao:Option Addr),k<=N/\vs=.int .i64 (V/256^k)/\ns=.int .i64 ((N-k:Nat):Int)/\bs=.slice ao k c/\wr.ownsRow w.heap.size 5 1 (.slice ao k c) k (rowV (bF (bt V k)) k)/\Below w.heap.size w wr)
  (λ_ ns _ _=>(intOf ns).toNat)
 case atStart=>exact⟨0,0,none,Xz _,by rw[Int.pow_zero,Int.ediv_one],rfl,rfl,World.ownsRow_nil _ _ _ _,Below.refl _ _⟩
 case round=>
  obtain⟨k,c,ao,hk,rfl,rfl,rfl,ho,hK⟩:=hrel
  rename World=>wr
  obtain⟨x,ex⟩:∃x,V/256^k=x:=⟨_,rfl⟩;have DX:=aB (show x/256=V/256^(k+1) by rw[<-ex,WN]);have RX:=aB (show R64 x by
   have h:=aA HV;have hp:=J9 k;unfold R64 at h ⊢;have h1:(1:Int)<=256^k:=hp;subst ex;refine⟨?_,?_⟩
   .exact Int.le_ediv_of_mul_le hp (by
     have:(-9223372036854775808:Int)*256^k<= -9223372036854775808*1:=Int.mul_le_mul_of_nonpos_left Yc h1;omega)
   .refine Int.le_trans ?_ (show (9223372036854775807:Int)<=9223372036854775807 from Int.le_refl _);rcases Int.lt_or_le V 0 with hn|hn
    .have:=Int.ediv_neg_of_neg_of_pos hn hp;omega
    .have:=Int.ediv_le_self (256^k) hn;omega)
  have BR:=aB (aLQ V k);rw[ex] at BR ⊢;by_cases hin:k<N
  .have hs0:=(iH ho);obtain⟨a0,c0,e0,s0,_⟩:=hs0
   cases e0
   have S0:=aB (s0.below (bU wr (.cells #[.int .u8 (x%256)] 5)));have hv:Vh 5 (wr.alloc (.cells #[.int .u8 (x%256)] 5)) wr.heap.size 1 1 (λ_=>.int .u8 (x%256)):=Vh.new wr 5 #[.int .u8 (x%256)] _ (by show 1<=maxLen;decide) (λi hi=>by
    have:i=0:=by simp at hi;omega
    subst this;rfl)
   have kB:=hK.trans ((bU wr (.cells #[.int .u8 (x%256)] 5)).mono hK.size);have O1:=aB (hv.owns (base:=w.heap.size) hK.size);have KB:=aB kB;have ZB:=aB kB.size;clear ho hK s0 hv kB ex;go_wp2_with (at_builtin;refine iU _ rfl _ _ rfl w.heap.size (aA ZB) (.slice (some ⟨wr.heap.size,0,none⟩) 1 1) 1 (rowV (λ_=>.int .u8 (x%256)) 1) rfl (aA O1) ao k c (bF (bt V k)) rfl (aA S0) (λi _=>rfl) Yo ?_)
   intro v2 w2 h2 k2;have h2':w2.ownsRow w.heap.size 5 1 v2 (1+k) (rowV (bF (bt V (k+1))) (1+k)):=by rw[<-aA BR];exact h2
   rw[Nat.add_comm 1 k] at h2';obtain⟨a2,c2,rfl⟩:=iO h2';have H2:=aB h2';have K2:=aB ((aA KB).trans k2);clear h2 k2 h2';go_wp2_with fail
   go_roundw
   case rel=>exact⟨k+1,c2,a2,Yo,by rw[<-aA DX],by go_num,rfl,aA H2,aA K2⟩
   case measure=>simp[intOf]<;>omega
  .have:k=N:=Yo;subst this;have HO:=aB ho;have HK:=aB hK;clear ho hK ex;go_wp2_with fail
   go_ret
   exact⟨_,rfl,aA HO,aA HK⟩
theorem FY(n:Int):bits .and .i64 n 1=n%2:=by
 show IntKind.i64.wrap ((BitVec.ofInt 64 n &&& BitVec.ofInt 64 1).toNat:Int)=_
 have h1:(BitVec.ofInt 64 1).toNat=1:=by decide
 rw[BitVec.toNat_and,h1,Nat.and_two_pow_sub_one_eq_mod _ 1,BitVec.toNat_ofInt];rw[IntKind.wrap_i64];omega
theorem FE(a b:Nat)(ha:a<9223372036854775808)(hb:b<9223372036854775808):bits .xor .i64 (a:Int) (b:Int)=((a^^^b:Nat):Int):=by
 show IntKind.i64.wrap ((BitVec.ofInt 64 (a:Int)^^^BitVec.ofInt 64 (b:Int)).toNat:Int)=_
 have h1:(BitVec.ofInt 64 (a:Int)).toNat=a:=by rw[BitVec.toNat_ofInt];omega
 have h2:(BitVec.ofInt 64 (b:Int)).toNat=b:=by rw[BitVec.toNat_ofInt];omega
 have h3:a^^^b<9223372036854775808:=Nat.xor_lt_two_pow (n:=63) ha hb;rw[BitVec.toNat_xor,h1,h2,IntKind.wrap_i64];omega
def bT(x i:Nat):Nat:=x/2^i%2
theorem uD(x i:Nat):bT x i<2:=by unfold bT;omega
theorem JF(x i:Nat):bT x i=(x.testBit i).toNat:=by grind [bT]
theorem aBG(x y i:Nat):bT (x^^^y) i=bT x i^^^bT y i:=by
 rw[JF,JF,JF,Nat.testBit_xor]
 cases x.testBit i<;>cases y.testBit i<;>rfl
theorem aAf(x i:Nat):bT (x/2) i=bT x (i+1):=by
 unfold bT;rw[Nat.div_div_eq_div_mul,Nat.pow_succ,Nat.mul_comm 2]
theorem aJK{x:Nat}(h:x<2^i):bT x i=0:=by unfold bT;rw[Nat.div_eq_of_lt h]
def rB(r:Nat)(i:Nat):Value:=.int .i64 (bT r i:Nat)
theorem aJq(s:Int)(hk:k<32):1-s/2^k%2=(bT (bgS s) k:Nat):=by
 obtain⟨m,hm⟩:∃m:Nat,(m:Int)=s%4294967296:=⟨(s%4294967296).toNat,Yo⟩;have hb:bgS s=4294967295-m:=by unfold bgS;omega
 have hlt:m<4294967296:=Yo;have e1:s/2^k%2=((m/2^k%2:Nat):Int):=by
  have e:s=(m:Int)+2^k*(2*(2^(31-k)*(s/4294967296))):=by
   have p:(2:Int)^k*(2*2^(31-k))=4294967296:=by
    rw[<-Int.pow_succ', <-Int.pow_add,show k+(31-k+1)=32 by omega];decide
   have:(2:Int)^k*(2*(2^(31-k)*(s/4294967296)))=4294967296*(s/4294967296):=by rw[<-p];simp only[Int.mul_assoc]
   rw[this,hm];omega
  have pk:(2:Int)^k≠0:=by have:(0:Int)<2^k:=Int.pow_pos Yo;omega
  rw[e,Int.add_mul_ediv_left _ _ pk,Int.add_mul_emod_self_left];simp
 have e2:bT (4294967295-m) k=1-m/2^k%2:=by
  have:=aBG 4294967295 m k;rw[aIm m hlt] at this;rw[this];have h1:bT 4294967295 k=1:=by
   rw[JF,show 4294967295=2^32-1 by decide,Nat.testBit_two_pow_sub_one];simp[hk]
  rw[h1];show 1^^^bT m k=1-bT m k
  have:=uD m k;rcases (show bT m k=0\/bT m k=1 by omega) with h|h<;>rw[h]<;>rfl
 rw[e1,hb,e2];omega
def cB(r c:Nat):Nat->Nat
 |0=>r
 |k+1=>cS (cB r c k^^^bT c k)
theorem aNt{r:Nat}(hr:r<4294967296)(c k:Nat):cB r c k<4294967296:=by
 induction k with
 |zero=>exact hr
 |succ k ih=>exact aIh (Nat.xor_lt_two_pow (n:=32) ih (by have:=uD c k;omega))
theorem aNZ(r c k:Nat):cB r c k^^^c/2^k=cN k (r^^^c):=by
 induction k with
 |zero=>show r^^^c/1=r^^^c;rw[Nat.div_one]
 |succ k ih=>
  rw[aAB, <-ih];have e:c/2^k=bT c k^^^(c/2^(k+1))*2^1:=by
   have h:=aIc (x:=bT c k) 1 (uD c k) (c/2^(k+1));rw[<-h,Nat.pow_succ, <-Nat.div_div_eq_div_mul];unfold bT;omega
  rw[e, <-Nat.xor_assoc,aLO];have h2:cS (c/2^(k+1)*2^1)=c/2^(k+1):=aIu 1 (c/2^(k+1));rw[h2];rfl
theorem aOe(r c:Nat)(hc:c<256):cB r c 8=cN 8 (r^^^c):=by
 rw[<-aNZ,Nat.div_eq_of_lt (show c<2^8 by omega),Nat.xor_zero]
theorem aLE(r b:Nat)(hb:b<2)(h:(bT r 0^^^b)=0):cS (r^^^b)=r/2:=by
 have e:(r^^^b)%2=0:=by
  have:=aBG r b 0;rw[show bT b 0=b by unfold bT;omega,h] at this;unfold bT at this;omega
 unfold cS;rw[if_pos e,SH,Nat.div_eq_of_lt hb,Nat.xor_zero]
theorem aNE(r b:Nat)(hb:b<2)(h:(bT r 0^^^b)=1):cS (r^^^b)=r/2^^^3988292384:=by
 have e:(r^^^b)%2=1:=by
  have:=aBG r b 0;rw[show bT b 0=b by unfold bT;omega,h] at this;unfold bT at this;omega
 unfold cS;rw[if_neg Yo,SH,Nat.div_eq_of_lt hb,Nat.xor_zero]
theorem aJu(r m:Nat)(hm:m<32):2*(2^m-1-r/2^(32-m))+1-bT r (31-m)=2^(m+1)-1-r/2^(31-m)\/¬r<4294967296:=by
 by_cases hr:r<4294967296
 .left;have e:r/2^(32-m)=r/2^(31-m)/2:=by rw[show 32-m=(31-m)+1 by omega,Nat.pow_succ,Nat.div_div_eq_div_mul]
  have hlt:r/2^(31-m)<2^(m+1):=by
   apply Nat.div_lt_of_lt_mul;rw[<-Nat.pow_add,show 31-m+(m+1)=32 by omega];exact hr
  rw[e];unfold bT;rw[Nat.pow_succ] at hlt ⊢;omega
 .right;exact hr
def Y9(s:Int)(k j:Nat):Value:=if j<k then rB (bgS s) j else .int .i64 0
theorem aDP(s:Int)(k:Nat):stW (Y9 s k) k (rB (bgS s) k)=Y9 s (k+1):=by grind [Y9,jV,iA]
def DJ:Array Value:=Array.replicate 32 (.int .i64 0)
def FN(r k j:Nat):Value:=if j<k then rB (r^^^3988292384) j else rB r j
theorem aCU(r k:Nat):stW (FN r k) k (rB (r^^^3988292384) k)=FN r (k+1):=by grind [FN,jV,iA]
theorem aNw:(Tryz.prog.info? 3).map (·.size)=some 1:=Yl
def FJ(x i:Nat):Value:=if i<31 then rB x (i+1) else rB x i
theorem aAm(w:World){a:Act}{K:Act->World->Prop}(d s:Operand)(ho:o.op=.call { callee:=.builtin .copy,args:=#[d,s],argTypes:=#[65,65] })(b x:Nat)(hd:a.eval d=.slice (some ⟨b,0,none⟩) 32 32)(hs:a.eval s=.slice (some ⟨b,1,none⟩) 31 31)(hv:Vh 204 w b 32 32 (rB x))(h:∀w',Vh 204 w' b 32 32 (FJ x)->Kept b w w'->K (a.put o.dst (goInt 31)) w'):o.wp Tryz.prog a w K Q:=by
 have hrow:=hv.whole;have hrun:=run_copy_row (P:=Tryz.prog) w 65 65 o.type 3 b 0 32 32 ⟨b,1,none⟩ 31 31 _ 204 (rowV (λi=>rB x (i+1)) 31) Tryz.underlying65 aNw hrow (by rw[gF];decide)
  (λj u hj=>by
   rw[Addr.add_lit];rcases Nat.lt_or_ge j 31 with h2|h2
   .rw[iB _ h2] at hj;cases hj;rw[Nat.add_comm 1 j];exact hv.cell Yo
   .rw[iR _ h2] at hj;cases hj) (by rw[gF];simp) (nK _ _ (λ_ _=>rfl))
 rw[gF] at hrun;have e:((rowV (rB x) 32).take 0++rowV (λi=>rB x (i+1)) 31++(rowV (rB x) 32).drop (0+31))=rowV (FJ x) 32:=by
  apply List.ext_getElem?;intro i;rw[List.take_zero,List.nil_append];rcases Nat.lt_or_ge i 31 with h2|h2
  .rw[List.getElem?_append_left (by rw[gF];exact h2),iB _ h2,iB _ Yo];unfold FJ;rw[if_pos h2]
  .rw[List.getElem?_append_right (by rw[gF];exact h2),gF,List.getElem?_drop];rcases Nat.lt_or_ge i 32 with h3|h3
   .obtain rfl:i=31:=Yo;rw[iB _ Yo,iB _ Yo];rfl
   .rw[iR _ Yo,iR _ h3]
 have e2:(((List.range 32).map (rB x)).toArray.toList.take 0++rowV (λi=>rB x (i+1)) 31++((List.range 32).map (rB x)).toArray.toList.drop (0+31))=rowV (FJ x) 32:=e;rw[e2] at hrun;have hh:=h _ (Vh.of_row (FJ x) 32 Ym (setRow_heap w b _ (rowV (FJ x) 32).toArray 204 (0,0) hrow)) ⟨rfl,rfl,rfl,by simp,λk _ hn=>setRow_other w b k _ hn⟩;unfold Oper.wp execOp;simp only[ho,resolve,invoke,builtin,Sem.run_bind,Sem.run_pure,Result.andThen_ok,List.map_toArray,List.map_cons,List.map_nil,hd,hs,hrun];exact hh
theorem aDy{b x:Nat}(hx:x<4294967296)(h:Vh 204 w b 32 32 (FJ x)):Vh 204 (w.setCell ⟨b,31,none⟩ (.int .i64 0)) b 32 32 (rB (x/2)):=by
 refine (h.set 31 (.int .i64 0)).congr (λi hi=>?_);by_cases e:i=31
 .subst e;rw[jV];unfold rB;rw[aAf,aJK Yo];rfl
 .rw[iA _ _ e];unfold FJ;rw[if_pos Yo];unfold rB;rw[aAf]
set_option maxRecDepth 100000 in
theorem ZO(s:Int)(hs:R64 s)(ao:Option Addr)(len cap:Nat)(g:Nat->Nat)(w:World)(hg:∀i,g i<256)(hl:len<=9223372036854775807)(hr:Rd w ao len (bF g)):Calls Tryz.prog 119 #[.int .i64 s,.slice ao len cap] w λe w'=>e=.returned (.int .i64 (moreN s g len:Nat))/\Below w.heap.size w w':=by
 have HR:=aB hr;have HG:=aB hg;obtain⟨s1,s2⟩:=hs;clear hr hg;go_enter Tryz.func119,Tryz.ntmps119
 go_wp2_with fail
 have hV:Vh 204 (w.alloc (.cells DJ 204)) w.heap.size 32 32 (Y9 s 0):=
  ⟨DJ,heap_alloc_new _ _,by simp[DJ],Xr _,by unfold maxLen;omega,λi hi=>by simp[DJ,Y9,hi]⟩
 have hB:=bU w (.cells DJ 204);unfold DJ at hV hB;simp only[Array.replicate,List.replicate] at hV hB;have H0:=aB hV;have B0:=aB hB;clear hV hB
 go_loopw [15] (λis wr=>∃i:Nat,is=.int .i64 i/\i<=32/\Vh 204 wr w.heap.size 32 32 (Y9 s i)/\Below w.heap.size w wr) (λis _=>32-(intOf is).toNat)
 case atStart=>exact⟨0,rfl,Xz _,aA H0,aA B0⟩
 case round=>
  obtain⟨i,rfl,hi,hV,hK⟩:=hrel;have V:=aB hV;have KK:=aB hK;clear hV hK H0 B0;by_cases hin:i<32
  .have hin2:(i:Int)<32:=Yo;have f1:=(aA V).free i;have l1:(_:World).cell? ⟨w.heap.size,i,none⟩=some (Y9 s i i):=(aA V).cell hin;go_wp2_with fail
   go_roundw
   case rel=>
    have e1:wrap64 (1-bits .and .i64 (s/2^i) 1)=(bT (bgS s) i:Nat):=by
     rw[FY,aJq s hin];have:=uD (bgS s) i;unfold wrap64;omega
    rw[e1];exact⟨i+1,by go_num,Yo,by rw[<-aDP s i];exact (aA V).set i _,aF (aA KK) (bJ _ _ _ _) Yo (aA KK).size⟩
   case measure=>simp[intOf];omega
  .have e6:i=32:=Yo;subst e6;have V0:=aB (show Vh 204 _ w.heap.size 32 32 (rB (cF (bgS s) g 0)) from (aA V).congr (λi hi=>by unfold Y9;rw[if_pos hi];rfl));clear V;go_wp2_with fail
   rw[show ((32:Nat):Int)=32 from rfl]
   go_loopw [29] (λis wr=>∃i:Nat,is=.int .i64 i/\i<=len/\Vh 204 wr w.heap.size 32 32 (rB (cF (bgS s) g i))/\Below w.heap.size w wr) (λis _=>len-(intOf is).toNat)
   case atStart=>exact⟨0,rfl,Xz _,aA V0,aA KK⟩
   case round=>
    obtain⟨i,rfl,hi,hV,hK⟩:=hrel;have V:=aB hV;have K2:=aB hK;clear hV hK V0 KK;have hlt:cF (bgS s) g i<4294967296:=aIl (aEG s) (aA HG) i;obtain⟨r,er⟩:∃r,r=cF (bgS s) g i:=⟨_,rfl⟩;rw[<-er] at hlt V;have ER:=aB er;have HL:=aB hlt;clear er hlt;by_cases hin:i<len
    .obtain⟨b,o,rfl,hcs⟩:=(aA HR).below (aA K2) Yo;have hc:(_:World).cell? ⟨b,o+i,none⟩=some (.int .u8 (g i:Nat)):=hcs i hin;clear hcs;have hb:=aA HG i;obtain⟨c,ec⟩:∃c,c=g i:=⟨_,rfl⟩;rw[<-ec] at hc hb;have EC:=aB ec;clear ec;go_wp2_with fail
     clear hc
     go_loopw [10] (λks wr=>∃k:Nat,ks=.int .i64 k/\k<=8/\Vh 204 wr w.heap.size 32 32 (rB (cB r c k))/\Below w.heap.size w wr) (λks _=>8-(intOf ks).toNat)
     case atStart=>exact⟨0,rfl,Xz _,aA V,aA K2⟩
     case round=>
      obtain⟨k,rfl,hk,hV,hK⟩:=hrel;have V:=aB hV;have K3:=aB hK;clear hV hK K2;have hlt:cB r c k<4294967296:=aNt (aA HL) c k;obtain⟨x,ex⟩:∃x,x=cB r c k:=⟨_,rfl⟩;rw[<-ex] at hlt V;have EX:=aB ex;have XL:=aB hlt;clear ex hlt;by_cases hk8:k<8
      .have hk2:(k:Int)<8:=Yo;have l0:(_:World).cell? ⟨w.heap.size,0,none⟩=some (.int .i64 (bT x 0:Nat)):=(aA V).cell Yo;have a1:bits .and .i64 ((c:Int)/2^k) 1=((bT c k:Nat):Int):=by rw[FY];unfold bT;simp
       have b1:=uD x 0;have b2:=uD c k;have a2:=FE (bT x 0) (bT c k) Yo Yo;have d2:bT x 0^^^bT c k=0\/bT x 0^^^bT c k=1:=by
        have:=Nat.xor_lt_two_pow (n:=1) (x:=bT x 0) (y:=bT c k) b1 b2;omega
       rcases d2 with d|d
       .have D:=aB d;rw[d] at a2;clear d b1 b2;go_wp2_with fail
        clear a1 a2 l0;refine dH (S:=λ_=>True) [(0,false),(1,false),(2,true)] [] Yl Yl ?_;iterate 2
         refine bB (v:=?_) rfl (λ_ _ _ h=>h) (by rfl) trivial ?_ ?_
         rotate_left 1
         .intro wx hwx;go_simp<;>exact rfl
         go_frame
        refine aY rfl (λK hK=>?_);rw[if_pos (by rfl)];refine aAm _ (.tmp 46) (.tmp 47) rfl w.heap.size x (by rfl) (by rfl) ((aA V).same rfl) ?_;intro w3 h3 k3;refine hK _ _ (λ_=>trivial) ?_;clear hK K;refine fE ?_;have l3:w3.cell? ⟨w.heap.size,31,none⟩=some (FJ x 31):=h3.cell Yo;have f3:=h3.free 31;have h4:=aDy (aA XL) h3;have k4:=aF (aF (aU (aA K3)) k3 (Xr _) (aA K3).size) (bJ w3 w.heap.size 31 (.int .i64 0)) (Xr _) (Nat.le_trans (aA K3).size k3.size);have H4:=aB h4;have K4:=aB k4;clear h3 k3 h4 k4;go_wp2_with fail
        go_roundw
        case rel=>exact⟨k+1,by go_num,Yo,by rw[show cB r c (k+1)=cS (cB r c k^^^bT c k) from rfl, <-aA EX,aLE _ _ (uD c k) (aA D)];exact aA H4,aA K4⟩
        case measure=>simp[intOf];omega
       .have D:=aB d;rw[d] at a2;clear d b1 b2;go_wp2_with fail
        clear a1 a2 l0;refine dH (S:=λ_=>True) [(0,false),(1,false),(2,true)] [] Yl Yl ?_;iterate 2
         refine bB (v:=?_) rfl (λ_ _ _ h=>h) (by rfl) trivial ?_ ?_
         rotate_left 1
         .intro wx hwx;go_simp<;>exact rfl
         go_frame
        refine aY rfl (λK hK=>?_);rw[if_pos (by rfl)];refine aAm _ (.tmp 46) (.tmp 47) rfl w.heap.size x (by rfl) (by rfl) ((aA V).same rfl) ?_;intro w3 h3 k3;refine hK _ _ (λ_=>trivial) ?_;clear hK K;refine fE ?_;have l3:w3.cell? ⟨w.heap.size,31,none⟩=some (FJ x 31):=h3.cell Yo;have f3:=h3.free 31;have h4:=aDy (aA XL) h3;have k4:=aF (aF (aU (aA K3)) k3 (Xr _) (aA K3).size) (bJ w3 w.heap.size 31 (.int .i64 0)) (Xr _) (Nat.le_trans (aA K3).size k3.size);have H4:=aB h4;have K4:=aB k4;clear h3 k3 h4 k4;go_wp2_with fail
        go_loopw [52] (λjs wr=>∃j:Nat,js=.int .i64 j/\j<=32/\Vh 204 wr w.heap.size 32 32 (FN (x/2) j)/\Below w.heap.size w wr) (λjs _=>32-(intOf js).toNat)
        case atStart=>exact⟨0,rfl,Xz _,(aA H4).congr (λi hi=>by unfold FN;rw[if_neg Yo]),aA K4⟩
        case round=>
         obtain⟨j,rfl,hj,hV,hK⟩:=hrel;have V5:=aB hV;have K5:=aB hK;clear hV hK K4 H4;by_cases hj8:j<32
         .have hj2:(j:Int)<32:=Yo;have l5:(_:World).cell? ⟨w.heap.size,j,none⟩=some (.int .i64 (bT (x/2) j:Nat)):=((aA V5).cell hj8).trans (by unfold FN;rw[if_neg Yo];rfl);have f5:=(aA V5).free j;have a1:bits .and .i64 ((3988292384:Int)/2^j) 1=((bT 3988292384 j:Nat):Int):=by rw[FY];unfold bT;simp
          have b1:=uD (x/2) j;have b2:=uD 3988292384 j;have a2:=FE (bT (x/2) j) (bT 3988292384 j) Yo Yo;rw[<-aBG] at a2;go_wp2_with fail
          go_roundw
          case rel=>exact⟨j+1,by go_num,Yo,by rw[<-aCU (x/2) j];exact (aA V5).set j _,aF (aA K5) (bJ _ _ _ _) Yo (aA K5).size⟩
          case measure=>simp[intOf];omega
         .have e7:j=32:=Yo;subst e7;go_wp2_with fail
          go_roundw
          case rel=>exact⟨k+1,by go_num,Yo,by rw[show cB r c (k+1)=cS (cB r c k^^^bT c k) from rfl, <-aA EX,aNE _ _ (uD c k) (aA D)];exact (aA V5).congr (λi hi=>by unfold FN;rw[if_pos hi]),aA K5⟩
          case measure=>simp[intOf];omega
      .have e7:k=8:=Yo;subst e7;go_wp2_with fail
       go_roundw
       case rel=>exact⟨i+1,by go_num,Yo,by rw[show cF (bgS s) g (i+1)=cN 8 (cF (bgS s) g i^^^g i) from rfl, <-aA ER, <-aA EC, <-aOe _ _ hb, <-aA EX];exact aA V,aA K3⟩
       case measure=>simp[intOf];omega
    .have e7:i=len:=Yo;subst e7;go_wp2_with fail
     go_loop [13,14] (λns ks=>∃m:Nat,m<=32/\ks=.int .i64 (31-(m:Int))/\ns=.int .i64 ((2^m-1-r/2^(32-m):Nat):Int)) (λ_ ks=>(intOf ks+1).toNat)
     case atStart=>exact⟨0,Yo,rfl,by rw[show (2^0-1-r/2^(32-0):Nat)=0 by rw[show 2^0-1=0 from rfl,Nat.zero_sub]];rfl⟩
     case round=>
      obtain⟨m,hm,rfl,rfl⟩:=hrel;by_cases hm2:m<32
      .obtain⟨k,hk,rfl⟩:∃k,k<32/\m=31-k:=⟨31-m,Yo,Yo⟩;have e8:(31-((31-k:Nat):Int))=(k:Int):=Yo;rw[e8];have nb:2^(31-k)-1-r/2^(32-(31-k))<4294967296:=by
        have:2^(31-k)<=2^31:=Nat.pow_le_pow_right Yo Yo;exact Nat.lt_of_le_of_lt (Nat.le_trans (Nat.sub_le _ _) (Nat.sub_le _ _)) (Nat.lt_of_le_of_lt this Yc)
       have nu:2*(2^(31-k)-1-r/2^(32-(31-k)))+1-bT r k=2^(31-k+1)-1-r/2^(32-(31-k+1)):=by
        rcases aJu r (31-k) Yo with h|h
        .rw[show 31-(31-k)=k by omega] at h;rw[h,show 32-(31-k+1)=k by omega]
        .exact absurd (aA HL) h
       obtain⟨N,eN⟩:∃N,N=2^(31-k)-1-r/2^(32-(31-k)):=⟨_,rfl⟩;rw[<-eN] at nb nu ⊢;have NU:=aB nu;have EN:=aB eN;clear nu eN e8;have l9:wr.cell? ⟨w.heap.size,k,none⟩=some (.int .i64 (bT r k:Nat)):=(aA V).cell hk;have b9:=uD r k;have hk2:(k:Int)<32:=Yo;go_wp2_with fail
       go_round
       case rel=>exact⟨31-k+1,Yo,by go_num,by rw[<-aA NU];go_num⟩
       case measure=>simp[intOf]<;>omega
      .have e9:m=32:=Yo;subst e9;go_wp2_with fail
       go_ret
       exact⟨by unfold moreN;rw[<-aA ER];go_num,aA K2⟩
theorem IB(ao:Option Addr)(len cap:Nat)(g:Nat->Nat)(w:World)(hg:∀i,g i<256)(hl:len<=9223372036854775807)(hr:Rd w ao len (bF g)):Calls Tryz.prog 88 #[.slice ao len cap] w λe w'=>e=.returned (.int .i64 (moreN 0 g len:Nat))/\Below w.heap.size w w':=by
 go_enter Tryz.func88,Tryz.ntmps88
 go_wp2_with fail
 refine (ZO 0 (by unfold R64;omega) ao len cap g w hg hl hr).mono ?_;rintro e w1 ⟨rfl,k1⟩;go_wp2_with fail
 go_ret
 exact⟨rfl,k1⟩
end Go.Proofs.YthimcecbgpamdaaGreat
