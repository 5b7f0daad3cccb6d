import Derived.Test.YthimcecbgpamdaaGreatNear30
import Derived.Test.YthimcecbgpamdaaGreatNear158
set_option maxHeartbeats 2000000
namespace Go.Proofs.YthimcecbgpamdaaGreat
open Go.RowKit
def pO(fr:Int)(nd:Nat->Nd)(v:Nat->Value)(j:Nat):Value:=if j=0 then iV fr else ndF (nd ((j-1)/74)) (v ((j-1)/74)) ((j-1)%74)
def mE(rd:Nat->Nat->Int)(bad:Int)(lv:Value)(j:Nat):Value:=if j<12 then iV (rd (j/3) (j%3)) else if j=12 then iV bad else lv
def lyF(ph wo:Int)(v:Value)(j:Nat):Value:=if j=0 then iV ph else if j=1 then iV wo else v
def U9(m:Nat->Ms)(v:Nat->Value)(j:Nat):Value:=msF (m (j/4)).K (m (j/4)).F (m (j/4)).R (v (j/4)) (j%4)
def xH(fr:Int)(nd:Nat->Nd)(v:Nat->Value)(bad:Int)(lv:Value)(bx:Nat->Value)(j:Nat):Value:=if j<297 then pO fr nd v j else if j=297 then iV bad else if j=298 then lv else bx (j-299)
def slV(a:Option Addr×Nat)(n:Nat):Value:=.slice a.1 n a.2
variable{j i:Nat}
theorem TV(fr:Int)(nd:Nat->Nd)(v:Nat->Value)(hj:j<74):pO fr nd v (1+i*74+j)=ndF (nd i) (v i) j:=by grind [pO]
theorem aAb(fr:Int)(nd:Nat->Nd)(v:Nat->Value)(i:Nat)(n:Nd)(u:Value):∀j,j<297->stP (pO fr nd v) (1+i*74) 74 (ndF n u) j=pO fr (dS nd i n) (dS v i u) j:=by
 intro j hj;unfold stP;by_cases c:1+i*74<=j/\j<1+i*74+74
 .rw[if_pos c];unfold pO;rw[if_neg Yo,show (j-1)/74=i by omega,show (j-1)%74=j-(1+i*74) by omega,dD,dD]
 .rw[if_neg c];unfold pO;by_cases c0:j=0
  .rw[if_pos c0,if_pos c0]
  .rw[if_neg c0,if_neg c0];have:(j-1)/74≠i:=Yo;rw[bZ _ _ this,bZ _ _ this]
theorem zN(fr:Int)(nd:Nat->Nd)(a:Nat->Option Addr×Nat)(n:Nat->Nat):∀j,j<297->(pO fr nd (λi=>slV (a i) (n i)) j).oneCell'=true:=by
 intro j _;unfold pO;split
 .rfl
 .exact bP _ _ _ _ _ (Nat.mod_lt _ Yc)
theorem aAq(rd:Nat->Nat->Int)(bad:Int)(ao:Option Addr)(n c:Nat):∀j,j<14->(mE rd bad (.slice ao n c) j).oneCell'=true:=by
 intro j _;unfold mE;split
 .rfl
 .split<;>rfl
theorem CW(ph wo:Int)(ao:Option Addr)(n c:Nat):∀j,j<3->(lyF ph wo (.slice ao n c) j).oneCell'=true:=by
 intro j _;unfold lyF;split
 .rfl
 .split<;>rfl
theorem aMh(m:Nat->Ms)(v:Nat->Value)(hj:j<4):U9 m v (i*4+j)=msF (m i).K (m i).F (m i).R (v i) j:=by
 unfold U9;rw[show (i*4+j)/4=i by omega,show (i*4+j)%4=j by omega]
theorem aKV(m:Nat->Ms)(a:Nat->Option Addr×Nat)(n:Nat->Nat):∀j,j<16->(U9 m (λi=>slV (a i) (n i)) j).oneCell'=true:=by
 intro j _;exact eY _ _ _ _ _ _ _ (Nat.mod_lt _ Yc)
theorem aKI(m:Nat->Ms)(v:Nat->Value)(i:Nat)(n:Ms)(u:Value):∀j,j<16->stP (U9 m v) (i*4) 4 (msF n.K n.F n.R u) j=U9 (dS m i n) (dS v i u) j:=by
 intro j hj;unfold stP;by_cases c:i*4<=j/\j<i*4+4
 .rw[if_pos c];unfold U9;rw[show j/4=i by omega,show j%4=j-i*4 by omega,dD,dD]
 .rw[if_neg c];unfold U9;have:j/4≠i:=Yo;rw[bZ _ _ this,bZ _ _ this]
variable{fr:Int}
theorem zH{nd:Nat->Nd}{v:Nat->Value}{bad:Int}{lv:Value}{bx:Nat->Value}(hj:j<297):xH fr nd v bad lv bx j=pO fr nd v j:=if_pos hj
theorem aKm(fr:Int)(nd:Nat->Nd)(v:Nat->Value)(bad:Int)(lv:Value)(bx:Nat->Value)(hi:i<4)(n:Nd)(u:Value):∀j,j<303->stP (xH fr nd v bad lv bx) (1+i*74) 74 (ndF n u) j=xH fr (dS nd i n) (dS v i u) bad lv bx j:=by
 intro j hj;by_cases c:j<297
 .rw[zH c, <-aAb fr nd v i n u j c];unfold stP;split
  .rfl
  .exact zH c
 .rw[nQ _ _ Yo];unfold xH;rw[if_neg c,if_neg c]
theorem aMa(fr:Int)(nd:Nat->Nd)(v:Nat->Value)(bad:Int)(lv:Value)(bx:Nat->Value)(i:Nat)(u:Value):∀j,j<303->stW (xH fr nd v bad lv bx) (299+i) u j=xH fr nd v bad lv (dS bx i u) j:=by grind [xH,jP,Nat.add_sub_cancel_left,dD,gW,bZ]
instance:ZerK Tryz.prog 40 297 (pO 0 (λ_=>dI) (λ_=>slV (none,0) 0)):=⟨λw=>Yl⟩
instance:ZerK Tryz.prog 43 14 (mE (λ_ _=>0) 0 (.slice none 0 0)):=⟨λw=>Yl⟩
instance:ZerK Tryz.prog 78 3 (lyF 0 0 (.slice none 0 0)):=⟨λw=>Yl⟩
instance:ZerK Tryz.prog 86 14 (nG dI):=⟨Y5⟩
instance:ZerK Tryz.prog 68 16 (U9 (λ_=>jD) (λ_=>slV (none,0) 0)):=⟨λw=>Yl⟩
variable{o:Oper}{f:Operand->Value}
theorem yL(ho:o.op=.build 40 #[])(w:World):(execOp f o).run Tryz.prog w=.ok (.value (aN (pO 0 (λ_=>dI) (λ_=>slV (none,0) 0)) 0 297)) w:=by
 unfold execOp;rw[ho]
 kernel_rfl
def oC(B:Nat)(v:Value)(L:List Lm):It:=⟨λw=>OwnM w B v L,λk=>v.ownBlock=some k\/∃c,c∈L/\(lmV c).ownBlock=some k,
 λh e=>⟨CQ h.1 (λk hk=>e k (h.1.lt k hk).2 (Or.inl hk)),λc hc=>CQ (h.2 c hc) (λk hk=>e k ((h.2 c hc).lt k hk).2 (Or.inr ⟨c,hc,hk⟩))⟩,
 λh e=>by
  rcases e with e|⟨c,hc,e⟩
  .exact (h.1.lt _ e).2
  .exact ((h.2 c hc).lt _ e).2⟩
variable{v:Value}{B:Nat}{w:World}{L:List Lm}
theorem xX(h:OwnM w B v L):∀j,(oC B v L).foot j->B<=j:=λj e=>by
 rcases e with e|⟨c,hc,e⟩
 .exact (h.1.lt _ e).1
 .exact ((h.2 c hc).lt _ e).1
theorem OwnM.base{C:Nat}(h:OwnM w B v L)(e:C<=B):OwnM w C v L:=⟨bY h.1 e,λc hc=>bY (h.2 c hc) e⟩
variable{w' w0:World}{u:Value}{l:List It}
theorem aJP{v':Value}{M:List Lm}(H:Cx w0 w (oC w0.heap.size v L::oC w0.heap.size u M::l))(h2:w'.ownsRow w0.heap.size 67 4 v' (L.length+M.length) (wD L++wD M))(h3:w.grownBy w' v.ownBlock)(h4:∀k,v'.ownBlock=some k->v.ownBlock=some k\/w.heap.size<=k):Cx w0 w' (oC w0.heap.size v' (L++M)::l):=by
 have hL:OwnM w w0.heap.size v L:=H.o0;have hM:OwnM w w0.heap.size u M:=H.o1;have apart:∀c,WC w w0.heap.size c->∀k,(lmV c).ownBlock=some k->some k≠v.ownBlock:=λc hc k hk e=>by
  obtain⟨u1,hu1⟩:=uR hc hk;obtain⟨u2,hu2⟩:=uR hL.1 e.symm;rw[hu1] at hu2
  cases hu2
 have kp:∀c,WC w w0.heap.size c->WC w' w0.heap.size c:=λc hc=>CQ hc (λk hk=>h3.block k (hc.lt k hk).2 (apart c hc k hk))
 have hn:OwnM w' w0.heap.size v' (L++M):=⟨by rw[List.length_append,aCo];exact h2,λc hc=>by
  rcases List.mem_append.1 hc with hc|hc
  .exact kp c (hL.2 c hc)
  .exact kp c (hM.2 c hc)⟩
 refine H.merge.a0.put (y:=(oC w0.heap.size v' (L++M))) ⟨h3.os,h3.tape,h3.output,h3.size,λj h5 h6=>h3.block j h5 (λe=>h6 (Or.inl (Or.inl e.symm))),hn,λj hj=>?_⟩;rcases hj with hj|⟨c,hc,hj⟩
 .rcases h4 j hj with h|h
  .exact Or.inl (Or.inl (Or.inl h))
  .exact Or.inr h
 .rcases List.mem_append.1 hc with hc|hc
  .exact Or.inl (Or.inl (Or.inr ⟨c,hc,hj⟩))
  .exact Or.inl (Or.inr (Or.inr ⟨c,hc,hj⟩))
variable{Q:Exit->Act->World->Prop}{L':List (Nat×Value)}
theorem KM{ops:Array Oper}{A:Act}{rest:List Oper}{d:Nat}{M:List Lm}{s x:Operand}(H:Cx w0 w (oC w0.heap.size v L::oC w0.heap.size u M::l))(hl:L.length+M.length<=2932031007401)(h:∀v' w',Cx w0 w' (oC w0.heap.size v' (L++M)::l)->LstI Tryz.prog ops Q rest (aQ A ((d,v')::L')) w')(ho:o.op=.call { callee:=.builtin .append,args:=#[s,x],argTypes:=#[71,71] }:=by rfl)(hs:(aQ A L').eval s=v:=by exact Qv)(hx:(aQ A L').eval x=u:=by exact Qv)(hd:o.dst=some d:=by rfl)(hw:Region.wanted o (yielded ops (aQ A L').tmps)=true:=by exact dX rfl):LstI Tryz.prog ops Q (o::rest) (aQ A L') w:=by
 have hL:OwnM w w0.heap.size v L:=H.o0;have hM:OwnM w w0.heap.size u M:=H.o1;exact bI hd hw (λ_ hK=>rU ho inferInstance H.size hs hx hL.1 (zU hM.1) aIW Ym Yo (λv' w' h2 h3 h4=>hK _ _ (h v' w' (aJP H h2 h3 h4))))
variable{c:Lm}
theorem FZ{b:Nat}(h:Vh 67 w b 4 4 (tJ c))(hb:B<=b):w.ownsRow B 67 4 (.slice (some ⟨b,0,none⟩) 1 1) 1 (wD [c]):=by
 obtain⟨cur,h1,h2,h3,h4,h5⟩:=h;refine⟨rfl,Or.inr ⟨b,1,cur,rfl,hb,h1,Xr _,by decide,Yo,?_⟩⟩;apply List.ext_getElem?;intro i;rw[List.getElem?_take];by_cases hi:i<1*4
 .rw[if_pos hi,Array.getElem?_toList,h5 i Yo];have:=aDr [c] 0 c rfl i Yo;rw[Nat.zero_mul,Nat.zero_add] at this;exact this.symm
 .rw[if_neg hi,List.getElem?_eq_none (by rw[aAG];exact Nat.le_of_not_lt hi)]
theorem aJy{x:It}(H:Cx w0 w (x::oC w0.heap.size u [c]::l))(k:Below w.heap.size w w')(m:Vh 67 w' w.heap.size 4 4 (tJ c)):Cx w0 w' (x::oC w0.heap.size (.slice (some ⟨w.heap.size,0,none⟩) 1 1) [c]::l):=by
 have hM:OwnM w w0.heap.size u [c]:=H.o1;refine H.a1.put (y:=(oC w0.heap.size (.slice (some ⟨w.heap.size,0,none⟩) 1 1) [c])) ⟨k.os,k.tape,k.output,k.size,λj h5 _=>k.block j h5,⟨FZ m H.size,λd hd=>bK (hM.2 d hd) k⟩,λj hj=>?_⟩;rcases hj with hj|hj
 .cases hj;exact Or.inr (Xr _)
 .exact Or.inl (Or.inr hj)
structure Lj where
 y:Ly
 ao:Option Addr
 cap:Nat
def ljV(c:Lj):Value:=.slice c.ao c.y.n c.cap
def Y7(c:Lj):Nat->Value:=lyF c.y.ph c.y.wo (ljV c)
def aOe(w:World)(ao:Option Addr)(L:List Lj):Prop:=0<L.length->∃b o,ao=some ⟨b,o,none⟩/\∀i c,L[i]?=some c->∀k,k<3->w.cell? ⟨b,o+i*3+k,none⟩=some (Y7 c k)
def aGS(w:World)(c:Lj):Prop:=Sr w c.ao c.y.n c.cap (bF c.y.g)/\c.y.n<=c.cap/\c.y.n<=140737488351232/\∀i,c.y.g i<256
def JRd(w:World)(ao:Option Addr)(L:List Lj):Prop:=aOe w ao L/\∀c,c∈L->aGS w c
variable{ao:Option Addr}
theorem JRd.below{L:List Lj}(h:JRd w ao L)(k:Below w.heap.size w w'):JRd w' ao L:=⟨λhl=>by
 obtain⟨b,o,e,hc⟩:=h.1 hl;exact⟨b,o,e,λi c hi j hj=>aM (hc i c hi j hj) k⟩,λc hc=>⟨(h.2 c hc).1.below k,(h.2 c hc).2⟩⟩
theorem jG{g f:Nat->Value}{o n:Nat}(h:∀j,j<n->g (o+j)=f j):aN g o n=aN f 0 n:=by
 unfold aN
 congr 2
 refine List.map_congr_left λj hj=>?_
 rw[h j (List.mem_range.1 hj),Nat.zero_add]
section
variable {P:Program} {Q:Exit->Act->World->Prop} {a:Act} {w:World} {y:Code} {id id2:Nat} {ops:Array Oper}
theorem aMS(h:CodI P y Q a w):CodI P .skip (Exit.inBlock id (Exit.inBlock id2 (Nx P y Q))) a w:=XB h
theorem aDU(h:CodI P y Q a w):LstI P ops (Exit.inBlock id (Exit.inBlock id2 (Nx P y Q))) [] a w:=⟨wpList_nil h⟩
end
section
variable {n:Nd} {s:Nat} {kind:Int} {many:Nat}
end
theorem aNG{m m':Ms}(h:m'∈BS m):m'=m:=by
 unfold BS at h;split at h
 .simpa using h
 .cases h
section
variable {H:Nat->Nat->Int} {T:Nat->Nat->Nat->Int} {bad:Int}
end
section
variable {x:Ip} {c:Cl}
def ndK(x:Ip)(c:Cl)(k i:Nat):Nd:=(iA x c k).nd i
def bxK(x:Ip)(c:Cl)(k i:Nat):List Ms:=(iA x c k).bx i
def mgK(x:Ip)(c:Cl)(k i:Nat):Ms:=vY x c.fr (iA x c k) k i
theorem uT{k:Nat}(h:(i:Int)≠x.bad):ndK x c (k+1) i=phN k (ndK x c k i) c.fr (x.rd i) (bxK x c k i):=by
 show (if (i:Int)=x.bad then _ else _)=_
 rw[if_neg h];rfl
theorem WJ{k:Nat}(h:(i:Int)≠x.bad):mgK x c k i=phM k (ndK x c k i) c.fr (x.rd i) (bxK x c k i):=by
 show (if (i:Int)=x.bad then _ else _)=_
 rw[if_neg h];rfl
theorem nd1(h:(i:Int)≠x.bad):ndK x c 1 i=senN (c.nd i) c.fr (x.rd i):=uT h
theorem nd2(h:(i:Int)≠x.bad):ndK x c 2 i=relN (ndK x c 1 i) (bxK x c 1 i):=uT h
theorem nd3(h:(i:Int)≠x.bad):ndK x c 3 i=qX (ndK x c 2 i) (bxK x c 2 i):=uT h
theorem nd4(h:(i:Int)≠x.bad):ndK x c 4 i=pasN (ndK x c 3 i) (bxK x c 3 i):=uT h
theorem nd5(h:(i:Int)≠x.bad):ndK x c 5 i=judN (ndK x c 4 i) (bxK x c 4 i):=uT h
theorem mg0(h:(i:Int)≠x.bad):mgK x c 0 i=kV (c.nd i) c.fr (x.rd i):=WJ h
theorem VV(hE:iU x c=0)(hi:i<4):(c.nd i).id=(i:Nat):=(JS hE).2.2.2 i hi
theorem aDC(hE:iU x c=0)(hi:i<4)(g:(i:Int)≠x.bad):ndK x c 1 i={ c.nd i with fr:=c.fr,di:=λs a=>if (s:Int)=(c.nd i).id then x.rd i a else 0,he:=λ_=>0 }:=by
 rw[nd1 g];unfold senN;rw[if_neg (by rw[VV hE hi,qB hi];decide)]
theorem aKl(hE:iU x c=0)(hi:i<4)(g:(i:Int)≠x.bad):ndK x c 2 i={ ndK x c 1 i with di:=relD (ndK x c 1 i) (bxK x c 1 i) }:=by
 rw[nd2 g];unfold relN;rw[if_neg (by rw[aDC hE hi g];show ¬jJ (c.nd i).id=true;rw[VV hE hi,qB hi];decide)]
theorem id1(hE:iU x c=0)(hi:i<4)(g:(i:Int)≠x.bad):(ndK x c 1 i).id=(i:Nat):=by rw[aDC hE hi g];exact VV hE hi
theorem id2(hE:iU x c=0)(hi:i<4)(g:(i:Int)≠x.bad):(ndK x c 2 i).id=(i:Nat):=by rw[aKl hE hi g];exact id1 hE hi g
theorem aLS(hE:iU x c=0)(hi:i<4)(g:(i:Int)≠x.bad):ndK x c 3 i={ ndK x c 2 i with ag:=decG (ndK x c 2 i) (bxK x c 2 i),us:=decU (ndK x c 2 i) (bxK x c 2 i),ax:=decA (ndK x c 2 i) (bxK x c 2 i),dg:=decD (ndK x c 2 i) (bxK x c 2 i),he:=λs=>if (s:Int)=(ndK x c 2 i).id then decD (ndK x c 2 i) (bxK x c 2 i) else (ndK x c 2 i).he s }:=by
 rw[nd3 g];unfold qX;rw[if_neg (by rw[id2 hE hi g,qB hi];decide)]
theorem id3(hE:iU x c=0)(hi:i<4)(g:(i:Int)≠x.bad):(ndK x c 3 i).id=(i:Nat):=by rw[aLS hE hi g];exact id2 hE hi g
theorem aLC(hE:iU x c=0)(hi:i<4)(g:(i:Int)≠x.bad):ndK x c 4 i={ ndK x c 3 i with he:=pasH (ndK x c 3 i) (bxK x c 3 i) }:=by
 rw[nd4 g];unfold pasN;rw[if_neg (by rw[id3 hE hi g,qB hi];decide)]
theorem id4(hE:iU x c=0)(hi:i<4)(g:(i:Int)≠x.bad):(ndK x c 4 i).id=(i:Nat):=by rw[aLC hE hi g];exact id3 hE hi g
theorem aMJ(hE:iU x c=0)(hi:i<4)(g:(i:Int)≠x.bad):ndK x c 5 i={ ndK x c 4 i with vX:=judX (ndK x c 4 i) (bxK x c 4 i),vS:=judS (ndK x c 4 i) (bxK x c 4 i),vA:=(List.range 4).map (judA (ndK x c 4 i) (bxK x c 4 i)),rl:=judR (ndK x c 4 i) (bxK x c 4 i) }:=by
 rw[nd5 g];unfold judN;rw[if_neg (by rw[id4 hE hi g,qB hi];decide)]
theorem id5(hE:iU x c=0)(hi:i<4)(g:(i:Int)≠x.bad):(ndK x c 5 i).id=(i:Nat):=by rw[aMJ hE hi g];exact id4 hE hi g
theorem ms0(hE:iU x c=0)(hi:i<4)(g:(i:Int)≠x.bad):mgK x c 0 i=⟨1,(i:Nat),c.fr,[x.rd i 0,x.rd i 1,x.rd i 2]⟩:=by
 rw[mg0 g];unfold kV;rw[if_neg (by rw[VV hE hi,qB hi];decide),VV hE hi]
end
theorem bS:R64 0:=⟨by decide,by decide⟩
theorem wV{l:List Int}(h:∀x,x∈l->R64 x)(i:Nat):R64 (gL l i):=by
 unfold gL;rw[List.getD_eq_getElem?_getD];rcases Nat.lt_or_ge i l.length with c|c
 .rw[List.getElem?_eq_getElem c];exact h _ (List.getElem_mem c)
 .rw[List.getElem?_eq_none c];exact bS
theorem aIu{a b c:Int}(ha:R64 a)(hb:R64 b):R64 (OU a b c):=by
 unfold OU;split
 .exact ha
 .split
  .exact ha
  .split
   .exact hb
   .exact bS
variable{s many:Nat}{n:Nd}{kind:Int}
theorem aGQ{v:List Int}(h:xK n (L.map Lm.m) s kind many=some v):∃c,c∈L/\c.m.L=v:=by
 rw[<-qO] at h;obtain⟨c,h1,h2⟩:=Option.map_eq_some_iff.1 h;exact⟨c,List.mem_of_find?_eq_some h1,h2⟩
theorem aBU(hRL:∀m,m∈L->∀i,R64 (gL m.m.L i))(i k many:Nat):R64 (jK n (L.map Lm.m) i k many):=by
 unfold jK
 cases e:xK n (L.map Lm.m) i 2 many with
 |none=>exact bS
 |some v=>
  obtain⟨c,h1,rfl⟩:=aGQ e;exact hRL c h1 k
variable{k:Nat}
theorem QI(hRL:∀m,m∈L->∀i,R64 (gL m.m.L i)){h:Int}(hh:R64 h):R64 (vG n (L.map Lm.m) s h k many):=by
 unfold vG;split
 .exact hh
 .exact aIu hh (aBU hRL _ _ _)
theorem EH(x y z u v s:Value)(w:World):(callFunc 45 #[x,y,z,u,v,s]).run Tryz.prog w=.ok (.enter 45 #[x,y,z,u,v,s]) w:=Yh
variable{a:Nat}
theorem aLT(n:Nd)(v:Value)(hi:i<4)(ha:a<3):ndF n v (0+55+i*3+a*1)=.int .i64 (n.ag i a):=by
 unfold ndF;rw[if_neg Yo,if_neg Yo,if_neg Yo,if_neg Yo,if_neg Yo,if_neg Yo,if_pos Yo,show (0+55+i*3+a*1-55)/3=i by omega,show (0+55+i*3+a*1-55)%3=a by omega];rfl
theorem aCN(n:Nd)(v:Value)(ha:a<3):ndF n v (0+67+a*1)=.int .i64 (n.us a):=by
 unfold ndF;rw[if_neg Yo,if_neg Yo,if_neg Yo,if_neg Yo,if_neg Yo,if_neg Yo,if_neg Yo,if_pos Yo,show 0+67+a*1-67=a by omega];rfl
def NA(n:Nd)(ag:Nat->Nat->Int)(us:Nat->Int)(ax:Nat->St):Nd:={ n with ag:=ag,us:=us,ax:=ax }
def uA(n:Nd)(l:List Ms)(x i s k:Nat):Int:=if s<4/\(k<x\/(k=x/\s<i)) then decG n l s k else n.ag s k
def sH(n:Nd)(l:List Ms)(x k:Nat):Int:=if k<x then decU n l k else n.us k
def qU(n:Nd)(l:List Ms)(x k:Nat):St:=if k<x then decA n l k else n.ax k
variable{l:List Ms}
theorem aJa:NA n (uA n l 0 0) (sH n l 0) (qU n l 0)=n:=by
 have e1:uA n l 0 0=n.ag:=by funext s k;unfold uA;rw[if_neg Yo]
 have e2:sH n l 0=n.us:=by funext k;unfold sH;rw[if_neg Yo]
 have e3:qU n l 0=n.ax:=by funext k;unfold qU;rw[if_neg Yo]
 rw[e1,e2,e3];rfl
variable{x:Nat}
theorem aJx(hi:i<4):(λs k=>if s=i/\k=x then vG n l i (n.di i x) (3*i+x) 12 else uA n l x i s k)=uA n l x (i+1):=by
 funext s k
 unfold uA;by_cases c:s=i/\k=x
 .obtain⟨rfl,rfl⟩:=c;rw[if_pos ⟨rfl,rfl⟩,if_pos Yo];rfl
 .rw[if_neg c];by_cases c2:s<4/\(k<x\/(k=x/\s<i))
  .rw[if_pos c2,if_pos Yo]
  .rw[if_neg c2,if_neg Yo]
theorem aMT(hi:i<4):uA n l x (i+1) i x=decG n l i x:=by
 unfold uA;rw[if_pos Yo]
theorem aKZ:uA n l x 4=uA n l (x+1) 0:=by grind [uA]
theorem aJA:(λk=>if k=x then xM (nU n.rl.I (λs=>decG n l s x) 4) else sH n l x k)=sH n l (x+1):=by
 funext k
 unfold sH;by_cases c:k=x
 .subst c;rw[if_pos rfl,if_pos Yo];rfl
 .rw[if_neg c];by_cases c2:k<x
  .rw[if_pos c2,if_pos Yo]
  .rw[if_neg c2,if_neg Yo]
theorem aEu:sH n l (x+1) x=decU n l x:=by
 unfold sH;rw[if_pos Yo]
theorem aNl:qU n l x x=n.ax x:=by
 unfold qU;rw[if_neg Yo]
theorem aAr:(λk=>if k=x then decA n l x else qU n l x k)=qU n l (x+1):=by grind [qU]
theorem aLh:ndF (NA n (uA n l 3 0) (sH n l 3) (qU n l 3)) v=ndF (NA n (decG n l) (decU n l) (decA n l)) v:=
 ndF_ext (n:=n) (λ_ _ _=>rfl) (λs k h1 h2=>by unfold uA;rw[if_pos Yo]) (λk h=>by unfold sH;rw[if_pos h]) (λk h=>by unfold qU;rw[if_pos h])
theorem aDl{I:Nat}{x:Int}(h:n.id=(I:Int)):(λs:Nat=>if (s:Int)=n.id then x else n.he s)=λs=>if s=I then x else n.he s:=by
 funext s
 rw[h];by_cases e:s=I
 .rw[if_pos Yo,if_pos e]
 .rw[if_neg Yo,if_neg e]
variable{b:Nat->Bool}{f:Nat->Int}
theorem aIl(h:b i=true):nU b f (i+1)=nU b f i++[f i]:=by
 show nU b f i++_=_
 rw[h];rfl
theorem aId(h:b i=false):nU b f (i+1)=nU b f i:=by
 show nU b f i++_=_
 rw[h];exact List.append_nil _
theorem aNC(h:∀s,R64 (f s))(k i:Nat):R64 (gL (nU b f k) i):=by
 refine wV ?_ i
 induction k with
 |zero=>intro x hx;exact absurd hx (List.not_mem_nil)
 |succ k ih=>
  intro x hx;rcases List.mem_append.1 hx with c|c
  .exact ih x c
  .split at c
   .rw[List.mem_singleton.1 c];exact h k
   .exact absurd c (List.not_mem_nil)
theorem SK(hok:NdOK n)(hRL:∀m,m∈L->∀i,R64 (gL m.m.L i))(s a:Nat):R64 (decG n (L.map Lm.m) s a):=QI hRL (hok.di s a)
variable{l:List Int}
theorem aIg(h:∀x,x∈l->R64 x)(i:Nat):R64 ((iZ l).getD i 0):=by
 refine wV (l:=iZ l) (λx hx=>h x ?_) i;unfold iZ at hx;exact (List.mem_mergeSort).1 hx
theorem aDJ(h:∀x,x∈l->R64 x):R64 (xM l):=by
 unfold xM;split
 .have h1:=aIg h ((l.length-1)/3);have h2:=aIg h (l.length-1-(l.length-1)/3);unfold R64 at h1 h2 ⊢;omega
 .exact bS
theorem FH(h:∀s,R64 (f s))(k:Nat):∀x,x∈nU b f k->R64 x:=by
 induction k with
 |zero=>intro x hx;exact absurd hx (List.not_mem_nil)
 |succ k ih=>
  intro x hx;rcases List.mem_append.1 hx with c|c
  .exact ih x c
  .split at c
   .rw[List.mem_singleton.1 c];exact h k
   .exact absurd c (List.not_mem_nil)
theorem aCz(hok:NdOK n)(hRL:∀m,m∈L->∀i,R64 (gL m.m.L i))(a:Nat):R64 (decU n (L.map Lm.m) a):=aDJ (FH (λs=>SK hok hRL s a) 4)
theorem aEj(l:List Int):lQ (gL l) l.length=l:=by
 unfold lQ;apply List.ext_getElem?;intro i;rcases Nat.lt_or_ge i l.length with c|c
 .rw[List.getElem?_map,List.getElem?_range c,List.getElem?_eq_getElem c];show some (gL l i)=_
  unfold gL;rw[List.getD_eq_getElem?_getD,List.getElem?_eq_getElem c];rfl
 .rw[List.getElem?_eq_none c,List.getElem?_eq_none (by simpa using c)]
def tN(l:List Ms):Prop:=∀m,m∈l->∀i,R64 (gL m.L i)
structure MsOK (m:Ms):Prop where
 K:R64 m.K
 F:R64 m.F
 R:R64 m.R
 L:∀i,R64 (gL m.L i)
 n:m.L.length<=24
variable{l:List Ms}
theorem IB{v:List Int}(h:tN l)(hv:xK n l s kind many=some v)(i:Nat):R64 (v.getD i 0):=by
 unfold xK at hv;obtain⟨m,h1,rfl⟩:=Option.map_eq_some_iff.1 hv;exact h m (List.mem_of_find?_eq_some h1) i
theorem aMs(h:tN l){v:Int}(hv:R64 v):R64 (vG n l s v k many):=by
 unfold vG;split
 .exact hv
 .refine aIu hv ?_;unfold jK;split
  .rename_i u e;exact IB h e k
  .exact bS
theorem aJv(h:x<=4294967295):R64 ((x:Nat):Int):=by unfold R64;omega
theorem aBq(ax:Nat->St)(r:Rl):R64 (dgN ax r):=aJv (Nat.sub_le _ _)
theorem aKU{ax:Nat->St}{r:Rl}(h:∀a,(ax a).Ok):∀x,x∈nV ax r->R64 x:=by
 have h1:∀a x,x∈zJ (ax a)->R64 x:=λa x hx=>by
  unfold zJ at hx;simp only[List.mem_cons,List.not_mem_nil,or_false] at hx;rcases hx with rfl|rfl|rfl|rfl|rfl|rfl|rfl
  .exact (h a).X
  .exact (h a).V
  .exact (h a).P00
  .exact (h a).P01
  .exact (h a).P11
  .unfold R64;split<;>omega
  .exact (h a).M
 have h2:∀(f:Nat->Int) k,R64 (oD f (k+1)):=λf k=>by
  show R64 (wrap64 _)
  unfold R64 wrap64;omega
 intro x hx;unfold nV at hx;simp only[List.mem_append,List.mem_cons,List.not_mem_nil,or_false] at hx;rcases hx with ((hx|hx)|hx)|rfl|rfl|rfl
 .exact h1 0 x hx
 .exact h1 1 x hx
 .exact h1 2 x hx
 .unfold X4 R64;split<;>split<;>split<;>split<;>omega
 .exact h2 _ 3
 .exact h2 _ 3
theorem D8:MsOK jD:=⟨bS,bS,bS,λi=>wV (λx hx=>by cases hx) i,Xz _⟩
section
variable {n:Nd} {l:List Ms}
variable{rd:Nat->Int}
theorem aJq(h:NdOK n)(hf:R64 fr)(hr:∀a,R64 (rd a)):NdOK (senN n fr rd):=by
 unfold senN;split
 .exact h
 .exact⟨h.id,hf,h.tn,h.ax,h.rM,h.rJ,λs a=>by show R64 (if _ then _ else _);split;exact hr a;exact bS,λ_=>bS,h.ag,h.us,h.dg,h.vX,h.vA⟩
theorem aKC(h:NdOK n)(hf:R64 fr)(hr:∀a,R64 (rd a)):MsOK (kV n fr rd):=by
 unfold kV;split
 .exact⟨bS,bS,bS,λi=>wV (λx hx=>by cases hx) i,Xz _⟩
 .refine⟨(show R64 1 by unfold R64;decide),h.id,hf,λi=>wV (λx hx=>?_) i,by show 3<=24;decide⟩;simp only[List.mem_cons,List.not_mem_nil,or_false] at hx;rcases hx with rfl|rfl|rfl<;>exact hr _
theorem aCF(h:NdOK n)(hl:tN l)(s a:Nat):R64 (relD n l s a):=by
 unfold relD;split
 .rename_i v e;exact IB hl e a
 .exact h.di s a
theorem aKM(h:NdOK n)(hl:tN l):NdOK (relN n l):=by
 unfold relN;split
 .exact h
 .exact⟨h.id,h.fr,h.tn,h.ax,h.rM,h.rJ,aCF h hl,h.he,h.ag,h.us,h.dg,h.vX,h.vA⟩
theorem aLi(h:NdOK n)(hl:tN l):MsOK (tQ n l):=by
 unfold tQ;split
 .exact D8
 .refine⟨(show R64 2 by unfold R64;decide),h.id,h.fr,λi=>wV (λx hx=>?_) i,by simp⟩;obtain⟨q,_,rfl⟩:=List.mem_map.1 hx;exact aCF h hl _ _
theorem aAT(h:NdOK n)(hl:tN l)(s a:Nat):R64 (decG n l s a):=aMs hl (h.di s a)
theorem aKB(h:NdOK n)(hl:tN l)(a:Nat):R64 (decU n l a):=aDJ (FH (λs=>aAT h hl s a) 4)
theorem aJE(h:NdOK n)(hl:tN l):NdOK (qX n l):=by
 unfold qX;split
 .exact h
 .exact⟨h.id,h.fr,h.tn,λa=>SY (h.ax a) _ _,h.rM,h.rJ,h.di,λs=>by show R64 (if _ then _ else _);split;exact aBq _ _;exact h.he s,aAT h hl,aKB h hl,aBq _ _,h.vX,h.vA⟩
theorem aJj(h:NdOK n)(_:tN l):MsOK (tZ n l):=by
 unfold tZ;split
 .exact D8
 .refine⟨(show R64 3 by unfold R64;decide),h.id,h.fr,λi=>wV (λx hx=>?_) i,by show 1<=24;decide⟩;simp only[List.mem_cons,List.not_mem_nil,or_false] at hx;rw[hx];exact aBq _ _
theorem aEL(h:NdOK n)(hl:tN l)(s:Nat):R64 (pasH n l s):=by
 unfold pasH;split
 .rename_i v e;exact IB hl e 0
 .exact h.he s
theorem aJu(h:NdOK n)(hl:tN l):NdOK (pasN n l):=by
 unfold pasN;split
 .exact h
 .exact⟨h.id,h.fr,h.tn,h.ax,h.rM,h.rJ,h.di,aEL h hl,h.ag,h.us,h.dg,h.vX,h.vA⟩
theorem aIB(h:NdOK n)(hl:tN l):MsOK (tK n l):=by
 unfold tK;split
 .exact D8
 .refine⟨(show R64 2 by unfold R64;decide),h.id,h.fr,λi=>wV (λx hx=>?_) i,by simp⟩;obtain⟨q,_,rfl⟩:=List.mem_map.1 hx;exact aEL h hl _
theorem aIP(h:NdOK n)(hl:tN l):R64 (judX n l):=by
 have hv:∀s,R64 (rV n l s):=λs=>aMs hl (h.he s)
 have:∀k,R64 (JG (rV n l) n.rl.I k):=by
  intro k
  induction k with
  |zero=>exact bS
  |succ k ih=>
   show R64 (if _ then _ else _)
   split
   .exact hv k
   .exact ih
 exact this 4
theorem aOl(h:NdOK n){A:Nat->Bool}(hg:kY n.rl=true):∀k,k<=4->∀i,R64 ((rnN A n.rl k).1.M i)/\R64 ((rnN A n.rl k).1.J i):=λk hk i=>by
 rcases Nat.lt_or_ge i 4 with c|c
 .have g:=uP.1 (CP (A:=A) hg k) i c
  cases e:(rnN A n.rl k).1.I i with
  |true=>have:=(gd_in e).1 g;unfold R64;omega
  |false=>have:=(rG e).1 g;unfold R64;omega
 .obtain⟨_,h2,h3⟩:=aAk (A:=A) (r:=n.rl) k (j:=i) Yo;rw[h2,h3];exact⟨h.rM i,h.rJ i⟩
theorem aDQ(h:NdOK n)(l:List Ms)(i:Nat):R64 ((judR n l).M i)/\R64 ((judR n l).J i):=by
 unfold judR;split
 .unfold stR;split
  .exact⟨bS,bS⟩
  .split
   .exact⟨bS,bS⟩
   .rename_i hg;split
    .exact aOl h (by simpa using hg) 4 (Xr _) i
    .exact⟨h.rM i,h.rJ i⟩
 .exact⟨h.rM i,h.rJ i⟩
theorem aIU(h:NdOK n)(hl:tN l):NdOK (judN n l):=by
 unfold judN;split
 .exact h
 .exact⟨h.id,h.fr,h.tn,h.ax,λi=>(aDQ h l i).1,λi=>(aDQ h l i).2,h.di,h.he,h.ag,h.us,h.dg,aIP h hl,by show ((List.range 4).map _).length<=_;rw[List.length_map,List.length_range];decide⟩
theorem aJI(h:NdOK n)(_:tN l):MsOK (qW n l):=by
 unfold qW;split
 .exact D8
 .exact⟨(show R64 5 by unfold R64;decide),h.id,h.fr,λi=>wV (aKU h.ax) i,by rw[aAo];decide⟩
theorem aKN(h:NdOK n)(hl:tN l):NdOK (gP n l):=by
 unfold gP;split
 .exact h
 .split
  .rename_i v e;split
   .have hv:∀i,R64 (v.getD i 0):=by
     unfold aBp at e;split at e
     .obtain⟨p,_,hp⟩:=List.exists_of_findSome?_eq_some e;unfold KY at hp;split at hp
      .rename_i a b e1 e2;split at hp
       .cases hp;exact IB hl e1
       .cases hp
      .cases hp
     .cases e
    have hm:∀(z:Int) (i:Nat),R64 (z/8^(3-i)%8):=λz i=>by unfold R64;omega
    exact⟨h.id,h.fr,h.tn,λa=>⟨hv _,hv _,hv _,hv _,hv _,hv _⟩,λi=>hm _ i,λi=>hm _ i,h.di,h.he,h.ag,h.us,h.dg,h.vX,h.vA⟩
   .exact h
  .exact h
end
variable{rd:Nat->Int}
theorem aMi(k:Nat)(h:NdOK n)(hl:tN l)(hf:R64 fr)(hr:∀a,R64 (rd a)):NdOK (phN k n fr rd l):=by grind [phN,aJq,aKM,aJE,aJu,aIU]
theorem aEQ(k:Nat)(h:NdOK n)(hl:tN l)(hf:R64 fr)(hr:∀a,R64 (rd a)):MsOK (phM k n fr rd l):=by grind [phM,aKC,aLi,aJj,aIB,aJI]
structure IpOK (x:Ip):Prop where
 rd:∀s a,R64 (x.rd s a)
 bad:R64 x.bad
 g:∀y,y∈x.ly->∀i,y.g i<256
def wE(c:Cl):Prop:=R64 c.fr/\∀i,i<4->NdOK (c.nd i)
variable{n:Nat}
theorem aEU{g:Nat->Nat}(hg:∀i,g i<256):∀m,m∈sS n g->MsOK m:=λm hm=>by
 unfold sS at hm;split at hm
 .rename_i e;obtain⟨h1,h2,h3,h4,h5,h6,h7⟩:=NR (zR.1 e);simp only[List.mem_cons,List.not_mem_nil,or_false] at hm;subst hm;have a1:=hg 1;have a2:=hg 2;have a3:=aIh hg;refine⟨?_,?_,?_,λi=>wV (λx hx=>?_) i,?_⟩
  .show R64 ((g 1:Nat):Int);unfold R64;omega
  .show R64 ((g 2:Nat):Int);unfold R64;omega
  .show R64 ((dR g:Nat):Int);unfold R64;omega
  .obtain⟨q,_,rfl⟩:=List.mem_map.1 hx;exact aLG hg q
  .show ((List.range (g 7)).map (dV g)).length<=24
   rw[List.length_map,List.length_range];exact h5
 .cases hm
variable{x:Ip}
theorem aMM(h:IpOK x){wo ph:Int}:∀m,m∈zC x.bad wo ph x.ly->MsOK m:=λm hm=>by
 unfold zC at hm;obtain⟨y,hy,h2⟩:=List.mem_flatMap.1 hm;split at h2
 .exact aEU (h.g y hy) m (List.mem_filter.1 h2).1
 .cases h2
theorem aEJ(h:IpOK x){told:Nat->Ms}{wo ph:Nat}:∀k:Nat,(∀j:Nat,j<k->(j:Int)≠x.bad->MsOK (told j))->∀m,m∈mQ x told wo ph k->MsOK m
 |0,_,m,hm=>by cases hm
 |k+1,ht,m,hm=>by
  rcases List.mem_append.1 hm with c|c
  .exact aEJ h k (λj hj g=>ht j Yo g) m c
  .split at c
   .cases c
   .split at c
    .exact aMM h m c
    .rename_i g;rw[aNG c];exact ht k Yo g
theorem MsOK.R'(h:∀m,m∈l->MsOK m):tN l:=λm hm=>(h m hm).L
variable{c:Cl}
theorem tT(hx:IpOK x)(hc:wE c):∀k,(∀i,i<4->NdOK (ndK x c k i))/\(∀i,i<4->∀m,m∈bxK x c k i->MsOK m)
 |0=>⟨hc.2,λi hi m hm=>by cases hm⟩
 |k+1=>by
  obtain⟨h1,h2⟩:=tT hx hc k;refine⟨λi hi=>?_,λi hi m hm=>?_⟩
  .by_cases g:(i:Int)=x.bad
   .show NdOK (if (i:Int)=x.bad then _ else _)
    rw[if_pos g];exact h1 i hi
   .rw[uT g];exact aMi k (h1 i hi) (MsOK.R' (h2 i hi)) hc.1 (hx.rd i)
  .refine aEJ hx 4 (λj hj g=>?_) m hm;show MsOK (mgK x c k j)
   rw[WJ g];exact aEQ k (h1 j hj) (MsOK.R' (h2 j hj)) hc.1 (hx.rd j)
theorem aNv(hx:IpOK x)(hc:wE c)(hi:i<4):NdOK (zY x c i):=by
 unfold zY;split
 .exact hc.2 i hi
 .exact aKN ((tT hx hc 5).1 i hi) (MsOK.R' ((tT hx hc 5).2 i hi))
theorem aFh:NdOK dI:=⟨bS,bS,⟨bS,bS,bS,bS⟩,λ_=>⟨bS,bS,bS,bS,bS,bS⟩,λ_=>bS,λ_=>bS,λ_ _=>bS,λ_=>bS,λ_ _=>bS,λ_=>bS,bS,bS,by show 0<=_;decide⟩
variable{t:Tn}
theorem aHT(h:t.Ok)(hi:i<4):NdOK (jY (i:Nat) t):=by
 have e:R64 ((i:Nat):Int):=by unfold R64;omega
 have b:St.beg0.Ok:=⟨bS,bS,by unfold R64;decide,bS,by unfold R64;decide,bS⟩;unfold jY;rw[if_neg (by rw[qB hi];decide)];exact⟨e,bS,h,λ_=>b,λ_=>bS,λ_=>bS,λ_ _=>bS,λ_=>bS,λ_ _=>bS,λ_=>bS,bS,bS,by show 0<=_;decide⟩
theorem aIJ(h:t.Ok):wE (aHL t):=⟨bS,λ_ hi=>aHT h hi⟩
theorem aME(hx:IpOK x)(hc:wE c):wE (vJ x c):=by
 unfold vJ;split
 .rename_i e;have:=(JS e).2.1;refine⟨?_,λi hi=>aNv hx hc hi⟩;show R64 (c.fr+1)
  unfold R64;omega
 .exact⟨bS,λ_ _=>aFh⟩
theorem aNK{fn:Nat}(hD:aHo fn){K F R:Int}(h:bW K F R n=0)(hf:∀i,R64 (f i))(ao:Option Addr)(cap:Nat)(w:World)(hc:12+8*n<=cap)(hs:Sr w ao (12+8*n) cap (bF (enS K F R n f))):Calls Tryz.prog fn #[.slice ao (12+8*n) cap] w λe w'=>∃(bo:Option Addr) (bc:Nat),e=.returned (.tuple #[gH K F R (.slice bo n bc),.int .i64 0])/\w'.ownsRow w.heap.size 3 1 (.slice bo n bc) n (rowV (iF f) n)/\Below w.heap.size w w':=by
 have hn:=(pY h).2.2.2.2.2.2;refine (hD ao (12+8*n) cap (enS K F R n f) w (aCC K F R n f) Yo hc hs).mono ?_;rintro e w' ⟨E,v,hE,rfl,o,k⟩;have e0:E=0:=aAO hE (aCE h);subst e0;obtain⟨e1,e2,eR,e7,eV⟩:=SB (f:=f) h hf;have d7:dN 0 (enS K F R n f 7)=n:=e7;rw[d7,gZ (f:=iF f) (λi hi=>by unfold iF;rw[eV i hi])] at o;obtain⟨bo,bc,rfl⟩:=iJ o;refine⟨bo,bc,?_,o,k⟩;show Ending.returned (.tuple #[gH (enS K F R n f 1:Nat) (enS K F R n f 2:Nat) (dR (enS K F R n f):Nat) (.slice bo n bc),.int .i64 0])=_
 rw[e1,e2,eR]
theorem wX(K F R:Int)(ao:Option Addr)(n cap:Nat)(w:World):Calls Tryz.prog 76 #[gH K F R (.slice ao n cap)] w λe w'=>e=.returned (.int .i64 (bW K F R n))/\Below w.heap.size w w':=by
 obtain⟨w1,e1,m1,k1,_⟩:=oG w K F R (.slice ao n cap);have c0:=m1.cell0;have c1:=m1.cell1;have c2:=m1.cell2;have c3:=m1.cell3;have E1:=aB e1;have K1:=aB k1;clear e1 m1 k1;unfold gH;by_cases h1:K<1
 .have G:=aB (show bW K F R n=4 by unfold bW;rw[if_pos (Or.inl h1)]);go_enter Tryz.func76,Tryz.ntmps76
  go_wp2_with fail
  rw[<-aA E1];go_wp2_with fail
  go_ret
  exact⟨by rw[aA G];rfl,aA K1⟩
 .by_cases h2:5<K
  .have G:=aB (show bW K F R n=4 by unfold bW;rw[if_pos (Or.inr h2)]);go_enter Tryz.func76,Tryz.ntmps76
   go_wp2_with fail
   rw[<-aA E1];go_wp2_with fail
   go_ret
   exact⟨by rw[aA G];rfl,aA K1⟩
  .by_cases h3:F<0
   .have G:=aB (show bW K F R n=3 by unfold bW;rw[if_neg Yo,if_pos Yo]);go_enter Tryz.func76,Tryz.ntmps76
    go_wp2_with fail
    rw[<-aA E1];go_wp2_with fail
    go_ret
    exact⟨by rw[aA G];rfl,aA K1⟩
   .by_cases h4:3<F
    .have G:=aB (show bW K F R n=3 by unfold bW;rw[if_neg Yo,if_pos Yo]);go_enter Tryz.func76,Tryz.ntmps76
     go_wp2_with fail
     rw[<-aA E1];go_wp2_with fail
     go_ret
     exact⟨by rw[aA G];rfl,aA K1⟩
    .by_cases h5:R<0
     .have G:=aB (show bW K F R n=3 by unfold bW;rw[if_neg Yo,if_pos Yo]);go_enter Tryz.func76,Tryz.ntmps76
      go_wp2_with fail
      rw[<-aA E1];go_wp2_with fail
      go_ret
      exact⟨by rw[aA G];rfl,aA K1⟩
     .by_cases h6:2147483647<R
      .have G:=aB (show bW K F R n=3 by unfold bW;rw[if_neg Yo,if_pos Yo]);go_enter Tryz.func76,Tryz.ntmps76
       go_wp2_with fail
       rw[<-aA E1];go_wp2_with fail
       go_ret
       exact⟨by rw[aA G];rfl,aA K1⟩
      .by_cases h7:24<n
       .have G:=aB (show bW K F R n=6 by unfold bW;rw[if_neg Yo,if_neg Yo,if_pos h7]);have h7':(24:Int)<(n:Int):=Yo;go_enter Tryz.func76,Tryz.ntmps76
        go_wp2_with fail
        rw[<-aA E1];go_wp2_with fail
        go_ret
        exact⟨by rw[aA G];rfl,aA K1⟩
       .have G:=aB (show bW K F R n=0 by unfold bW;rw[if_neg Yo,if_neg Yo,if_neg h7]);go_enter Tryz.func76,Tryz.ntmps76
        go_wp2_with fail
        rw[<-aA E1];go_wp2_with fail
        go_ret
        exact⟨by rw[aA G];rfl,aA K1⟩
theorem aLQ(v:Int)(k:Nat):[Value.int .u8 (v/256^k%256)]++rowV (bF (bt v k)) k=rowV (bF (bt v (k+1))) (1+k):=by
 have e:[Value.int .u8 (v/256^k%256)]=rowV (λ_=>Value.int .u8 (v/256^k%256)) 1:=rfl;rw[e,kS];refine gZ (λi hi=>?_);by_cases h:i<1
 .rw[if_pos h];have:i=0:=Yo;subst this;show _=Value.int .u8 ((bt v (k+1) 0:Nat):Int)
  rw[aJm]
 .rw[if_neg h];obtain⟨j,rfl⟩:∃j,i=j+1:=⟨i-1,Yo⟩;show Value.int .u8 ((bt v k (j+1-1):Nat):Int)=Value.int .u8 ((bt v (k+1) (j+1):Nat):Int)
  rw[aIZ,Nat.add_sub_cancel]
theorem yT(V:Int)(N:Nat)(w:World)(hv:R64 V)(hN:N<=8):Calls Tryz.prog 77 #[.int .i64 V,.int .i64 (N:Int)] w λe w'=>∃v,e=.returned v/\w'.ownsRow w.heap.size 5 1 v N (rowV (bF (bt V N)) N)/\Below w.heap.size w w':=by
 have HV:=aB hv;clear hv;go_enter Tryz.func77,Tryz.ntmps77
 go_wp2_with fail
 go_loopw [0,1,5] (λvs ns bs wr=>∃(k c:Nat) (ao:Option Addr),k<=N/\vs=.int .i64 (V/256^k)/\ns=.int .i64 ((N-k:Nat):Int)/\bs=.slice ao k c/\wr.ownsRow w.heap.size 5 1 (.slice ao k c) k (rowV (bF (bt V k)) k)/\Below w.heap.size w wr)
  (λ_ ns _ _=>(intOf ns).toNat)
 case atStart=>exact⟨0,0,none,Xz _,by rw[Int.pow_zero,Int.ediv_one],rfl,rfl,World.ownsRow_nil _ _ _ _,Below.refl _ _⟩
 case round=>
  obtain⟨k,c,ao,hk,rfl,rfl,rfl,ho,hK⟩:=hrel
  rename World=>wr
  obtain⟨x,ex⟩:∃x,V/256^k=x:=⟨_,rfl⟩;have DX:=aB (show x/256=V/256^(k+1) by rw[<-ex,WM]);have RX:=aB (show R64 x by
   have h:=aA HV;have hp:=E9 k;unfold R64 at h ⊢;have h1:(1:Int)<=256^k:=hp;subst ex;refine⟨?_,?_⟩
   .exact Int.le_ediv_of_mul_le hp (by
     have:(-9223372036854775808:Int)*256^k<= -9223372036854775808*1:=Int.mul_le_mul_of_nonpos_left Yc h1;omega)
   .refine Int.le_trans ?_ (show (9223372036854775807:Int)<=9223372036854775807 from Int.le_refl _);rcases Int.lt_or_le V 0 with hn|hn
    .have:=Int.ediv_neg_of_neg_of_pos hn hp;omega
    .have:=Int.ediv_le_self (256^k) hn;omega)
  have BR:=aB (aLQ V k);rw[ex] at BR ⊢;by_cases hin:k<N
  .have hs0:=(iT ho);obtain⟨a0,c0,e0,s0,_⟩:=hs0
   cases e0
   have S0:=aB (s0.below (bU wr (.cells #[.int .u8 (x%256)] 5)));have hv:Vh 5 (wr.alloc (.cells #[.int .u8 (x%256)] 5)) wr.heap.size 1 1 (λ_=>.int .u8 (x%256)):=Vh.new wr 5 #[.int .u8 (x%256)] _ (by show 1<=maxLen;decide) (λi hi=>by
    have:i=0:=by simp at hi;omega
    subst this;rfl)
   have kB:=hK.trans ((bU wr (.cells #[.int .u8 (x%256)] 5)).mono hK.size);have O1:=aB (hv.owns (base:=w.heap.size) hK.size);have KB:=aB kB;have ZB:=aB kB.size;clear ho hK s0 hv kB ex;go_wp2_with (at_builtin;refine iO _ rfl _ _ rfl w.heap.size (aA ZB) (.slice (some ⟨wr.heap.size,0,none⟩) 1 1) 1 (rowV (λ_=>.int .u8 (x%256)) 1) rfl (aA O1) ao k c (bF (bt V k)) rfl (aA S0) (λi _=>rfl) Yo ?_)
   intro v2 w2 h2 k2;have h2':w2.ownsRow w.heap.size 5 1 v2 (1+k) (rowV (bF (bt V (k+1))) (1+k)):=by rw[<-aA BR];exact h2
   rw[Nat.add_comm 1 k] at h2';obtain⟨a2,c2,rfl⟩:=iJ h2';have H2:=aB h2';have K2:=aB ((aA KB).trans k2);clear h2 k2 h2';go_wp2_with fail
   go_roundw
   case rel=>exact⟨k+1,c2,a2,Yo,by rw[<-aA DX],by go_num,rfl,aA H2,aA K2⟩
   case measure=>simp[intOf]<;>omega
  .have:k=N:=Yo;subst this;have HO:=aB ho;have HK:=aB hK;clear ho hK ex;go_wp2_with fail
   go_ret
   exact⟨_,rfl,aA HO,aA HK⟩
theorem GJ(n:Int):bits .and .i64 n 1=n%2:=by
 show IntKind.i64.wrap ((BitVec.ofInt 64 n &&& BitVec.ofInt 64 1).toNat:Int)=_
 have h1:(BitVec.ofInt 64 1).toNat=1:=by decide
 rw[BitVec.toNat_and,h1,Nat.and_two_pow_sub_one_eq_mod _ 1,BitVec.toNat_ofInt];rw[IntKind.wrap_i64];omega
theorem EO(a b:Nat)(ha:a<9223372036854775808)(hb:b<9223372036854775808):bits .xor .i64 (a:Int) (b:Int)=((a^^^b:Nat):Int):=by
 show IntKind.i64.wrap ((BitVec.ofInt 64 (a:Int)^^^BitVec.ofInt 64 (b:Int)).toNat:Int)=_
 have h1:(BitVec.ofInt 64 (a:Int)).toNat=a:=by rw[BitVec.toNat_ofInt];omega
 have h2:(BitVec.ofInt 64 (b:Int)).toNat=b:=by rw[BitVec.toNat_ofInt];omega
 have h3:a^^^b<9223372036854775808:=Nat.xor_lt_two_pow (n:=63) ha hb;rw[BitVec.toNat_xor,h1,h2,IntKind.wrap_i64];omega
def bT(x i:Nat):Nat:=x/2^i%2
theorem tH(x i:Nat):bT x i<2:=by unfold bT;omega
theorem IA(x i:Nat):bT x i=(x.testBit i).toNat:=by grind [bT]
theorem aBn(x y i:Nat):bT (x^^^y) i=bT x i^^^bT y i:=by
 rw[IA,IA,IA,Nat.testBit_xor]
 cases x.testBit i<;>cases y.testBit i<;>rfl
theorem aAd(x i:Nat):bT (x/2) i=bT x (i+1):=by
 unfold bT;rw[Nat.div_div_eq_div_mul,Nat.pow_succ,Nat.mul_comm 2]
theorem aLv{x:Nat}(h:x<2^i):bT x i=0:=by unfold bT;rw[Nat.div_eq_of_lt h]
def rB(r:Nat)(i:Nat):Value:=.int .i64 (bT r i:Nat)
theorem aIM(s:Int)(hk:k<32):1-s/2^k%2=(bT (bgS s) k:Nat):=by
 obtain⟨m,hm⟩:∃m:Nat,(m:Int)=s%4294967296:=⟨(s%4294967296).toNat,Yo⟩;have hb:bgS s=4294967295-m:=by unfold bgS;omega
 have hlt:m<4294967296:=Yo;have e1:s/2^k%2=((m/2^k%2:Nat):Int):=by
  have e:s=(m:Int)+2^k*(2*(2^(31-k)*(s/4294967296))):=by
   have p:(2:Int)^k*(2*2^(31-k))=4294967296:=by
    rw[<-Int.pow_succ', <-Int.pow_add,show k+(31-k+1)=32 by omega];decide
   have:(2:Int)^k*(2*(2^(31-k)*(s/4294967296)))=4294967296*(s/4294967296):=by rw[<-p];simp only[Int.mul_assoc]
   rw[this,hm];omega
  have pk:(2:Int)^k≠0:=by have:(0:Int)<2^k:=Int.pow_pos Yo;omega
  rw[e,Int.add_mul_ediv_left _ _ pk,Int.add_mul_emod_self_left];simp
 have e2:bT (4294967295-m) k=1-m/2^k%2:=by
  have:=aBn 4294967295 m k;rw[aIo m hlt] at this;rw[this];have h1:bT 4294967295 k=1:=by
   rw[IA,show 4294967295=2^32-1 by decide,Nat.testBit_two_pow_sub_one];simp[hk]
  rw[h1];show 1^^^bT m k=1-bT m k
  have:=tH m k;rcases (show bT m k=0\/bT m k=1 by omega) with h|h<;>rw[h]<;>rfl
 rw[e1,hb,e2];omega
def cB(r c:Nat):Nat->Nat
 |0=>r
 |k+1=>cS (cB r c k^^^bT c k)
theorem aNJ{r:Nat}(hr:r<4294967296)(c k:Nat):cB r c k<4294967296:=by
 induction k with
 |zero=>exact hr
 |succ k ih=>exact aIq (Nat.xor_lt_two_pow (n:=32) ih (by have:=tH c k;omega))
theorem aOa(r c k:Nat):cB r c k^^^c/2^k=cN k (r^^^c):=by
 induction k with
 |zero=>show r^^^c/1=r^^^c;rw[Nat.div_one]
 |succ k ih=>
  rw[ZP, <-ih];have e:c/2^k=bT c k^^^(c/2^(k+1))*2^1:=by
   have h:=aIs (x:=bT c k) 1 (tH c k) (c/2^(k+1));rw[<-h,Nat.pow_succ, <-Nat.div_div_eq_div_mul];unfold bT;omega
  rw[e, <-Nat.xor_assoc,aNy];have h2:cS (c/2^(k+1)*2^1)=c/2^(k+1):=aIv 1 (c/2^(k+1));rw[h2];rfl
theorem aOr(r c:Nat)(hc:c<256):cB r c 8=cN 8 (r^^^c):=by
 rw[<-aOa,Nat.div_eq_of_lt (show c<2^8 by omega),Nat.xor_zero]
theorem aNo(r b:Nat)(hb:b<2)(h:(bT r 0^^^b)=0):cS (r^^^b)=r/2:=by
 have e:(r^^^b)%2=0:=by
  have:=aBn r b 0;rw[show bT b 0=b by unfold bT;omega,h] at this;unfold bT at this;omega
 unfold cS;rw[if_pos e,TM,Nat.div_eq_of_lt hb,Nat.xor_zero]
theorem aNA(r b:Nat)(hb:b<2)(h:(bT r 0^^^b)=1):cS (r^^^b)=r/2^^^3988292384:=by
 have e:(r^^^b)%2=1:=by
  have:=aBn r b 0;rw[show bT b 0=b by unfold bT;omega,h] at this;unfold bT at this;omega
 unfold cS;rw[if_neg Yo,TM,Nat.div_eq_of_lt hb,Nat.xor_zero]
theorem aKw(r m:Nat)(hm:m<32):2*(2^m-1-r/2^(32-m))+1-bT r (31-m)=2^(m+1)-1-r/2^(31-m)\/¬r<4294967296:=by
 by_cases hr:r<4294967296
 .left;have e:r/2^(32-m)=r/2^(31-m)/2:=by rw[show 32-m=(31-m)+1 by omega,Nat.pow_succ,Nat.div_div_eq_div_mul]
  have hlt:r/2^(31-m)<2^(m+1):=by
   apply Nat.div_lt_of_lt_mul;rw[<-Nat.pow_add,show 31-m+(m+1)=32 by omega];exact hr
  rw[e];unfold bT;rw[Nat.pow_succ] at hlt ⊢;omega
 .right;exact hr
def AJ(s:Int)(k j:Nat):Value:=if j<k then rB (bgS s) j else .int .i64 0
theorem aEb(s:Int)(k:Nat):stW (AJ s k) k (rB (bgS s) k)=AJ s (k+1):=by grind [AJ,jP,gW]
def CG:Array Value:=Array.replicate 32 (.int .i64 0)
def FJ(r k j:Nat):Value:=if j<k then rB (r^^^3988292384) j else rB r j
theorem aCR(r k:Nat):stW (FJ r k) k (rB (r^^^3988292384) k)=FJ r (k+1):=by grind [FJ,jP,gW]
theorem aNO:(Tryz.prog.info? 3).map (·.size)=some 1:=Yl
def DJ(x i:Nat):Value:=if i<31 then rB x (i+1) else rB x i
theorem ZQ(w:World){a:Act}{K:Act->World->Prop}(d s:Operand)(ho:o.op=.call { callee:=.builtin .copy,args:=#[d,s],argTypes:=#[65,65] })(b x:Nat)(hd:a.eval d=.slice (some ⟨b,0,none⟩) 32 32)(hs:a.eval s=.slice (some ⟨b,1,none⟩) 31 31)(hv:Vh 204 w b 32 32 (rB x))(h:∀w',Vh 204 w' b 32 32 (DJ x)->Kept b w w'->K (a.put o.dst (goInt 31)) w'):o.wp Tryz.prog a w K Q:=by
 have hrow:=hv.whole;have hrun:=run_copy_row (P:=Tryz.prog) w 65 65 o.type 3 b 0 32 32 ⟨b,1,none⟩ 31 31 _ 204 (rowV (λi=>rB x (i+1)) 31) Tryz.underlying65 aNO hrow (by rw[gD];decide)
  (λj u hj=>by
   rw[Addr.add_lit];rcases Nat.lt_or_ge j 31 with h2|h2
   .rw[gY _ h2] at hj;cases hj;rw[Nat.add_comm 1 j];exact hv.cell Yo
   .rw[iN _ h2] at hj;cases hj) (by rw[gD];simp) (nK _ _ (λ_ _=>rfl))
 rw[gD] at hrun;have e:((rowV (rB x) 32).take 0++rowV (λi=>rB x (i+1)) 31++(rowV (rB x) 32).drop (0+31))=rowV (DJ x) 32:=by
  apply List.ext_getElem?;intro i;rw[List.take_zero,List.nil_append];rcases Nat.lt_or_ge i 31 with h2|h2
  .rw[List.getElem?_append_left (by rw[gD];exact h2),gY _ h2,gY _ Yo];unfold DJ;rw[if_pos h2]
  .rw[List.getElem?_append_right (by rw[gD];exact h2),gD,List.getElem?_drop];rcases Nat.lt_or_ge i 32 with h3|h3
   .obtain rfl:i=31:=Yo;rw[gY _ Yo,gY _ Yo];rfl
   .rw[iN _ Yo,iN _ h3]
 have e2:(((List.range 32).map (rB x)).toArray.toList.take 0++rowV (λi=>rB x (i+1)) 31++((List.range 32).map (rB x)).toArray.toList.drop (0+31))=rowV (DJ x) 32:=e;rw[e2] at hrun;have hh:=h _ (Vh.of_row (DJ x) 32 Ym (setRow_heap w b _ (rowV (DJ x) 32).toArray 204 (0,0) hrow)) ⟨rfl,rfl,rfl,by simp,λk _ hn=>setRow_other w b k _ hn⟩;unfold Oper.wp execOp;simp only[ho,resolve,invoke,builtin,Sem.run_bind,Sem.run_pure,Result.andThen_ok,List.map_toArray,List.map_cons,List.map_nil,hd,hs,hrun];exact hh
theorem aEM{b x:Nat}(hx:x<4294967296)(h:Vh 204 w b 32 32 (DJ x)):Vh 204 (w.setCell ⟨b,31,none⟩ (.int .i64 0)) b 32 32 (rB (x/2)):=by
 refine (h.set 31 (.int .i64 0)).congr (λi hi=>?_);by_cases e:i=31
 .subst e;rw[jP];unfold rB;rw[aAd,aLv Yo];rfl
 .rw[gW _ _ e];unfold DJ;rw[if_pos Yo];unfold rB;rw[aAd]
set_option maxRecDepth 100000 in
theorem YQ(s:Int)(hs:R64 s)(ao:Option Addr)(len cap:Nat)(g:Nat->Nat)(w:World)(hg:∀i,g i<256)(hl:len<=9223372036854775807)(hr:Rd w ao len (bF g)):Calls Tryz.prog 119 #[.int .i64 s,.slice ao len cap] w λe w'=>e=.returned (.int .i64 (moreN s g len:Nat))/\Below w.heap.size w w':=by
 have HR:=aB hr;have HG:=aB hg;obtain⟨s1,s2⟩:=hs;clear hr hg;go_enter Tryz.func119,Tryz.ntmps119
 go_wp2_with fail
 have hV:Vh 204 (w.alloc (.cells CG 204)) w.heap.size 32 32 (AJ s 0):=
  ⟨CG,heap_alloc_new _ _,by simp[CG],Xr _,by unfold maxLen;omega,λi hi=>by simp[CG,AJ,hi]⟩
 have hB:=bU w (.cells CG 204);unfold CG at hV hB;simp only[Array.replicate,List.replicate] at hV hB;have H0:=aB hV;have B0:=aB hB;clear hV hB
 go_loopw [15] (λis wr=>∃i:Nat,is=.int .i64 i/\i<=32/\Vh 204 wr w.heap.size 32 32 (AJ s i)/\Below w.heap.size w wr) (λis _=>32-(intOf is).toNat)
 case atStart=>exact⟨0,rfl,Xz _,aA H0,aA B0⟩
 case round=>
  obtain⟨i,rfl,hi,hV,hK⟩:=hrel;have V:=aB hV;have KK:=aB hK;clear hV hK H0 B0;by_cases hin:i<32
  .have hin2:(i:Int)<32:=Yo;have f1:=(aA V).free i;have l1:(_:World).cell? ⟨w.heap.size,i,none⟩=some (AJ s i i):=(aA V).cell hin;go_wp2_with fail
   go_roundw
   case rel=>
    have e1:wrap64 (1-bits .and .i64 (s/2^i) 1)=(bT (bgS s) i:Nat):=by
     rw[GJ,aIM s hin];have:=tH (bgS s) i;unfold wrap64;omega
    rw[e1];exact⟨i+1,by go_num,Yo,by rw[<-aEb s i];exact (aA V).set i _,aF (aA KK) (bG _ _ _ _) Yo (aA KK).size⟩
   case measure=>simp[intOf];omega
  .have e6:i=32:=Yo;subst e6;have V0:=aB (show Vh 204 _ w.heap.size 32 32 (rB (cF (bgS s) g 0)) from (aA V).congr (λi hi=>by unfold AJ;rw[if_pos hi];rfl));clear V;go_wp2_with fail
   rw[show ((32:Nat):Int)=32 from rfl]
   go_loopw [29] (λis wr=>∃i:Nat,is=.int .i64 i/\i<=len/\Vh 204 wr w.heap.size 32 32 (rB (cF (bgS s) g i))/\Below w.heap.size w wr) (λis _=>len-(intOf is).toNat)
   case atStart=>exact⟨0,rfl,Xz _,aA V0,aA KK⟩
   case round=>
    obtain⟨i,rfl,hi,hV,hK⟩:=hrel;have V:=aB hV;have K2:=aB hK;clear hV hK V0 KK;have hlt:cF (bgS s) g i<4294967296:=aIy (aDy s) (aA HG) i;obtain⟨r,er⟩:∃r,r=cF (bgS s) g i:=⟨_,rfl⟩;rw[<-er] at hlt V;have ER:=aB er;have HL:=aB hlt;clear er hlt;by_cases hin:i<len
    .obtain⟨b,o,rfl,hcs⟩:=(aA HR).below (aA K2) Yo;have hc:(_:World).cell? ⟨b,o+i,none⟩=some (.int .u8 (g i:Nat)):=hcs i hin;clear hcs;have hb:=aA HG i;obtain⟨c,ec⟩:∃c,c=g i:=⟨_,rfl⟩;rw[<-ec] at hc hb;have EC:=aB ec;clear ec;go_wp2_with fail
     clear hc
     go_loopw [10] (λks wr=>∃k:Nat,ks=.int .i64 k/\k<=8/\Vh 204 wr w.heap.size 32 32 (rB (cB r c k))/\Below w.heap.size w wr) (λks _=>8-(intOf ks).toNat)
     case atStart=>exact⟨0,rfl,Xz _,aA V,aA K2⟩
     case round=>
      obtain⟨k,rfl,hk,hV,hK⟩:=hrel;have V:=aB hV;have K3:=aB hK;clear hV hK K2;have hlt:cB r c k<4294967296:=aNJ (aA HL) c k;obtain⟨x,ex⟩:∃x,x=cB r c k:=⟨_,rfl⟩;rw[<-ex] at hlt V;have EX:=aB ex;have XL:=aB hlt;clear ex hlt;by_cases hk8:k<8
      .have hk2:(k:Int)<8:=Yo;have l0:(_:World).cell? ⟨w.heap.size,0,none⟩=some (.int .i64 (bT x 0:Nat)):=(aA V).cell Yo;have a1:bits .and .i64 ((c:Int)/2^k) 1=((bT c k:Nat):Int):=by rw[GJ];unfold bT;simp
       have b1:=tH x 0;have b2:=tH c k;have a2:=EO (bT x 0) (bT c k) Yo Yo;have d2:bT x 0^^^bT c k=0\/bT x 0^^^bT c k=1:=by
        have:=Nat.xor_lt_two_pow (n:=1) (x:=bT x 0) (y:=bT c k) b1 b2;omega
       rcases d2 with d|d
       .have D:=aB d;rw[d] at a2;clear d b1 b2;go_wp2_with fail
        clear a1 a2 l0;refine dF (S:=λ_=>True) [(0,false),(1,false),(2,true)] [] Yl Yl ?_;iterate 2
         refine bB (v:=?_) rfl (λ_ _ _ h=>h) (by rfl) trivial ?_ ?_
         rotate_left 1
         .intro wx hwx;go_simp<;>exact rfl
         go_frame
        refine aZ rfl (λK hK=>?_);rw[if_pos (by rfl)];refine ZQ _ (.tmp 46) (.tmp 47) rfl w.heap.size x (by rfl) (by rfl) ((aA V).same rfl) ?_;intro w3 h3 k3;refine hK _ _ (λ_=>trivial) ?_;clear hK K;refine fA ?_;have l3:w3.cell? ⟨w.heap.size,31,none⟩=some (DJ x 31):=h3.cell Yo;have f3:=h3.free 31;have h4:=aEM (aA XL) h3;have k4:=aF (aF (aT (aA K3)) k3 (Xr _) (aA K3).size) (bG w3 w.heap.size 31 (.int .i64 0)) (Xr _) (Nat.le_trans (aA K3).size k3.size);have H4:=aB h4;have K4:=aB k4;clear h3 k3 h4 k4;go_wp2_with fail
        go_roundw
        case rel=>exact⟨k+1,by go_num,Yo,by rw[show cB r c (k+1)=cS (cB r c k^^^bT c k) from rfl, <-aA EX,aNo _ _ (tH c k) (aA D)];exact aA H4,aA K4⟩
        case measure=>simp[intOf];omega
       .have D:=aB d;rw[d] at a2;clear d b1 b2;go_wp2_with fail
        clear a1 a2 l0;refine dF (S:=λ_=>True) [(0,false),(1,false),(2,true)] [] Yl Yl ?_;iterate 2
         refine bB (v:=?_) rfl (λ_ _ _ h=>h) (by rfl) trivial ?_ ?_
         rotate_left 1
         .intro wx hwx;go_simp<;>exact rfl
         go_frame
        refine aZ rfl (λK hK=>?_);rw[if_pos (by rfl)];refine ZQ _ (.tmp 46) (.tmp 47) rfl w.heap.size x (by rfl) (by rfl) ((aA V).same rfl) ?_;intro w3 h3 k3;refine hK _ _ (λ_=>trivial) ?_;clear hK K;refine fA ?_;have l3:w3.cell? ⟨w.heap.size,31,none⟩=some (DJ x 31):=h3.cell Yo;have f3:=h3.free 31;have h4:=aEM (aA XL) h3;have k4:=aF (aF (aT (aA K3)) k3 (Xr _) (aA K3).size) (bG w3 w.heap.size 31 (.int .i64 0)) (Xr _) (Nat.le_trans (aA K3).size k3.size);have H4:=aB h4;have K4:=aB k4;clear h3 k3 h4 k4;go_wp2_with fail
        go_loopw [52] (λjs wr=>∃j:Nat,js=.int .i64 j/\j<=32/\Vh 204 wr w.heap.size 32 32 (FJ (x/2) j)/\Below w.heap.size w wr) (λjs _=>32-(intOf js).toNat)
        case atStart=>exact⟨0,rfl,Xz _,(aA H4).congr (λi hi=>by unfold FJ;rw[if_neg Yo]),aA K4⟩
        case round=>
         obtain⟨j,rfl,hj,hV,hK⟩:=hrel;have V5:=aB hV;have K5:=aB hK;clear hV hK K4 H4;by_cases hj8:j<32
         .have hj2:(j:Int)<32:=Yo;have l5:(_:World).cell? ⟨w.heap.size,j,none⟩=some (.int .i64 (bT (x/2) j:Nat)):=((aA V5).cell hj8).trans (by unfold FJ;rw[if_neg Yo];rfl);have f5:=(aA V5).free j;have a1:bits .and .i64 ((3988292384:Int)/2^j) 1=((bT 3988292384 j:Nat):Int):=by rw[GJ];unfold bT;simp
          have b1:=tH (x/2) j;have b2:=tH 3988292384 j;have a2:=EO (bT (x/2) j) (bT 3988292384 j) Yo Yo;rw[<-aBn] at a2;go_wp2_with fail
          go_roundw
          case rel=>exact⟨j+1,by go_num,Yo,by rw[<-aCR (x/2) j];exact (aA V5).set j _,aF (aA K5) (bG _ _ _ _) Yo (aA K5).size⟩
          case measure=>simp[intOf];omega
         .have e7:j=32:=Yo;subst e7;go_wp2_with fail
          go_roundw
          case rel=>exact⟨k+1,by go_num,Yo,by rw[show cB r c (k+1)=cS (cB r c k^^^bT c k) from rfl, <-aA EX,aNA _ _ (tH c k) (aA D)];exact (aA V5).congr (λi hi=>by unfold FJ;rw[if_pos hi]),aA K5⟩
          case measure=>simp[intOf];omega
      .have e7:k=8:=Yo;subst e7;go_wp2_with fail
       go_roundw
       case rel=>exact⟨i+1,by go_num,Yo,by rw[show cF (bgS s) g (i+1)=cN 8 (cF (bgS s) g i^^^g i) from rfl, <-aA ER, <-aA EC, <-aOr _ _ hb, <-aA EX];exact aA V,aA K3⟩
       case measure=>simp[intOf];omega
    .have e7:i=len:=Yo;subst e7;go_wp2_with fail
     go_loop [13,14] (λns ks=>∃m:Nat,m<=32/\ks=.int .i64 (31-(m:Int))/\ns=.int .i64 ((2^m-1-r/2^(32-m):Nat):Int)) (λ_ ks=>(intOf ks+1).toNat)
     case atStart=>exact⟨0,Yo,rfl,by rw[show (2^0-1-r/2^(32-0):Nat)=0 by rw[show 2^0-1=0 from rfl,Nat.zero_sub]];rfl⟩
     case round=>
      obtain⟨m,hm,rfl,rfl⟩:=hrel;by_cases hm2:m<32
      .obtain⟨k,hk,rfl⟩:∃k,k<32/\m=31-k:=⟨31-m,Yo,Yo⟩;have e8:(31-((31-k:Nat):Int))=(k:Int):=Yo;rw[e8];have nb:2^(31-k)-1-r/2^(32-(31-k))<4294967296:=by
        have:2^(31-k)<=2^31:=Nat.pow_le_pow_right Yo Yo;exact Nat.lt_of_le_of_lt (Nat.le_trans (Nat.sub_le _ _) (Nat.sub_le _ _)) (Nat.lt_of_le_of_lt this Yc)
       have nu:2*(2^(31-k)-1-r/2^(32-(31-k)))+1-bT r k=2^(31-k+1)-1-r/2^(32-(31-k+1)):=by
        rcases aKw r (31-k) Yo with h|h
        .rw[show 31-(31-k)=k by omega] at h;rw[h,show 32-(31-k+1)=k by omega]
        .exact absurd (aA HL) h
       obtain⟨N,eN⟩:∃N,N=2^(31-k)-1-r/2^(32-(31-k)):=⟨_,rfl⟩;rw[<-eN] at nb nu ⊢;have NU:=aB nu;have EN:=aB eN;clear nu eN e8;have l9:wr.cell? ⟨w.heap.size,k,none⟩=some (.int .i64 (bT r k:Nat)):=(aA V).cell hk;have b9:=tH r k;have hk2:(k:Int)<32:=Yo;go_wp2_with fail
       go_round
       case rel=>exact⟨31-k+1,Yo,by go_num,by rw[<-aA NU];go_num⟩
       case measure=>simp[intOf]<;>omega
      .have e9:m=32:=Yo;subst e9;go_wp2_with fail
       go_ret
       exact⟨by unfold moreN;rw[<-aA ER];go_num,aA K2⟩
theorem KC(ao:Option Addr)(len cap:Nat)(g:Nat->Nat)(w:World)(hg:∀i,g i<256)(hl:len<=9223372036854775807)(hr:Rd w ao len (bF g)):Calls Tryz.prog 88 #[.slice ao len cap] w λe w'=>e=.returned (.int .i64 (moreN 0 g len:Nat))/\Below w.heap.size w w':=by
 go_enter Tryz.func88,Tryz.ntmps88
 go_wp2_with fail
 refine (YQ 0 (by unfold R64;omega) ao len cap g w hg hl hr).mono ?_;rintro e w1 ⟨rfl,k1⟩;go_wp2_with fail
 go_ret
 exact⟨rfl,k1⟩
end Go.Proofs.YthimcecbgpamdaaGreat
