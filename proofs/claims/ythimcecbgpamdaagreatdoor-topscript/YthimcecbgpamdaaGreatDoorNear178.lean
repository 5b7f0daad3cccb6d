import Derived.Test.YthimcecbgpamdaaGreatDoorNear155
namespace Go.Proofs.YthimcecbgpamdaaGreatDoor
open Go.RowKit
def aNx(T:Nat->(Ms×Ad)×Option Nat)(j:Nat):Value:=.pointer ((T j).2.map λb=>⟨b,0,none⟩)
def noM:Nat->(Ms×Ad)×Option Nat:=λ_=>((jG,(none,0)),none)
instance iRefCl3_1:ZerK Tryz.prog 119 4 (aNx noM):=⟨λw=>Yl⟩
def RlE(r s:Rl):Prop:=∀j,j<4->r.I j=s.I j/\r.M j=s.M j/\r.J j=s.J j
variable{r s:Rl}
theorem RlE.symm(h:RlE r s):RlE s r:=λj hj=>⟨(h j hj).1.symm,(h j hj).2.1.symm,(h j hj).2.2.symm⟩
theorem RlE.trans{t:Rl}(h:RlE r s)(h':RlE s t):RlE r t:=λj hj=>⟨(h j hj).1.trans (h' j hj).1,(h j hj).2.1.trans (h' j hj).2.1,(h j hj).2.2.trans (h' j hj).2.2⟩
theorem RlE.refl(r:Rl):RlE r r:=λ_ _=>⟨rfl,rfl,rfl⟩
variable{b:Nat->Bool}{f:Nat->Int}
theorem DI{b':Nat->Bool}{f':Nat->Int}:∀{k:Nat},(∀i,i<k->b i=b' i/\f i=f' i)->jI b f k=jI b' f' k
 |0,_=>rfl
 |k+1,h=>by
  show jI b f k++_=jI b' f' k++_
  rw[DI (λi hi=>h i Yo),(h k Yo).1,(h k Yo).2]
theorem zJ{g:Nat->Int}:∀{k:Nat},(∀i,i<k->f i=g i)->oK f k=oK g k
 |0,_=>rfl
 |k+1,h=>by
  show wrap64 (wrap64 (8*oK f k)+f k)=wrap64 (wrap64 (8*oK g k)+g k)
  rw[zJ (λi hi=>h i Yo),h k Yo]
theorem aAZ{ax bx:Nat->St}(h:∀a,a<3->ax a=bx a)(hr:RlE r s):qR ax r=qR bx s:=by
 unfold qR JF;rw[h 0 Yo,h 1 Yo,h 2 Yo,zJ (λi hi=>(hr i hi).2.1),zJ (λi hi=>(hr i hi).2.2),(hr 0 Yo).1,(hr 1 Yo).1,(hr 2 Yo).1,(hr 3 Yo).1]
theorem ZQ{ax bx:Nat->St}(h:∀a,a<3->ax a=bx a)(hr:RlE r s):IZ ax r=IZ bx s:=by
 have e:vT ax r=vT bx s:=by
  funext i
  unfold vT;rw[aAZ h hr]
 unfold IZ;rw[e]
variable{i:Nat}
theorem aCh{A A':Nat->Bool}(hi:i<4)(hA:A i=A' i)(h:RlE r s):RlE (kH A i r) (kH A' i s):=by
 have h4:cn r.I 4=cn s.I 4:=aCZ λj hj=>(h j hj).1
 have hu:∀(j:Nat) (α:Type) (f g:Nat->α) (y z:α),f j=g j->y=z->dH f i y j=dH g i z j:=λj α f g y z e1 e2=>by
  unfold dH;rw[e1,e2]
 intro j hj;obtain⟨a1,a2,a3⟩:=h j hj;obtain⟨b1,b2,b3⟩:=h i hi;unfold kH;rw[<-hA, <-b1, <-b2, <-b3, <-h4];split
 .split
  .exact⟨a1,hu j Int _ _ _ _ a2 rfl,a3⟩
  .split
   .exact⟨hu j Bool _ _ _ _ a1 rfl,hu j Int _ _ _ _ a2 rfl,a3⟩
   .exact⟨a1,hu j Int _ _ _ _ a2 rfl,a3⟩
 .split
  .split
   .exact⟨hu j Bool _ _ _ _ a1 rfl,a2,hu j Int _ _ _ _ a3 rfl⟩
   .exact⟨a1,a2,hu j Int _ _ _ _ a3 rfl⟩
  .exact⟨a1,a2,hu j Int _ _ _ _ a3 rfl⟩
theorem JQ{A A':Nat->Bool}(hA:∀i,i<4->A i=A' i)(h:RlE r s):∀k,k<=4->RlE (rnN A r k).1 (rnN A' s k).1
 |0,_=>h
 |k+1,hk=>aCh Yo (hA k Yo) (JQ hA h k Yo)
variable{D bad:Int}
theorem YG{v:Nat->Int}(h:∀s:Nat,s<4->(s:Int)≠bad->v s=D/\b s=true):AB v b 4=D/\QP v b D=true/\0<ti b 4:=by
 have p:∀s:Nat,s<4->(s:Int)≠bad->(if b s=true/\v s=D then 1 else 0)=1:=λs hs g=>if_pos ⟨(h s hs g).2,(h s hs g).1⟩
 have k3:3<=vk b v D 4:=by
  have p0:=p 0 Yo;have p1:=p 1 Yo;have p2:=p 2 Yo;have p3:=p 3 Yo;show 3<=(((0+if b 0=true/\v 0=D then 1 else 0)+if b 1=true/\v 1=D then 1 else 0)+if b 2=true/\v 2=D then 1 else 0)+if b 3=true/\v 3=D then 1 else 0
  generalize (if b 0=true/\v 0=D then 1 else 0)=y0 at*;generalize (if b 1=true/\v 1=D then 1 else 0)=y1 at*;generalize (if b 2=true/\v 2=D then 1 else 0)=y2 at*;generalize (if b 3=true/\v 3=D then 1 else 0)=y3 at*;omega
 have k1:∀u,u≠D->vk b v u 4<=1:=λu hu=>by
  have q:∀s:Nat,s<4->(s:Int)≠bad->(if b s=true/\v s=u then 1 else 0)=0:=λs hs g=>if_neg (by rintro⟨_,e⟩;exact hu (e.symm.trans (h s hs g).1))
  have l:∀s:Nat,(if b s=true/\v s=u then 1 else 0)<=1:=λs=>by split<;>omega
  have p0:=q 0 Yo;have p1:=q 1 Yo;have p2:=q 2 Yo;have p3:=q 3 Yo;have l0:=l 0;have l1:=l 1;have l2:=l 2;have l3:=l 3;show (((0+if b 0=true/\v 0=u then 1 else 0)+if b 1=true/\v 1=u then 1 else 0)+if b 2=true/\v 2=u then 1 else 0)+(if b 3=true/\v 3=u then 1 else 0)<=1
  generalize (if b 0=true/\v 0=u then 1 else 0)=y0 at*;generalize (if b 1=true/\v 1=u then 1 else 0)=y1 at*;generalize (if b 2=true/\v 2=u then 1 else 0)=y2 at*;generalize (if b 3=true/\v 3=u then 1 else 0)=y3 at*;omega
 have all:∀i,vk b v (v i) 4<=vk b v D 4:=λi=>by
  by_cases e:v i=D
  .rw[e];exact Xr _
  .have:=k1 _ e;omega
 have hV:qZ v b 4 D:=by
  by_cases c:b 0=true/\v 0=D
  .exact Or.inr ⟨0,Yo,c.1,c.2.symm,λi _ _=>all i,λi hi=>by omega⟩
  .have g0:(0:Int)=bad:=by
    by_cases g:((0:Nat):Int)=bad
    .exact g
    .exact absurd ⟨(h 0 Yo g).2,(h 0 Yo g).1⟩ c
   have h1:=h 1 Yo Yo;refine Or.inr ⟨1,Yo,h1.2,h1.1.symm,λi _ _=>all i,λi hi hb=>?_⟩;obtain rfl:i=0:=Yo;have:v 0≠D:=λe=>c ⟨hb,e⟩
   have:=k1 _ this;omega
 have t1:=QM b v D 4;have t2:=LQ b 4;refine⟨(aCs hV).symm,?_,Yo⟩;unfold QP;exact Xt ⟨Yo,Yo⟩
section
variable {x:Ip} {c:Cl}
theorem aMK(hE:bU x c=0)(hi:i<4)(g:(i:Int)≠x.bad):(ndK x c 5 i).tn=(c.nd i).tn:=by rw[oW hE hi g,qQ hE hi g,oP hE hi g,qC hE hi g,tK hE hi g]
theorem aGl(hE:bU x c=0)(hi:i<4)(g:(i:Int)≠x.bad):(ndK x c 5 i).us=(ndK x c 3 i).us:=by rw[oW hE hi g,qQ hE hi g]
theorem WR(hE:bU x c=0)(hi:i<4)(g:(i:Int)≠x.bad):(ndK x c 5 i).ax=(ndK x c 3 i).ax:=by rw[oW hE hi g,qQ hE hi g]
theorem aGk(hE:bU x c=0)(hi:i<4)(g:(i:Int)≠x.bad):(ndK x c 5 i).dg=(ndK x c 3 i).dg:=by rw[oW hE hi g,qQ hE hi g]
theorem WQ(hE:bU x c=0)(hi:i<4)(g:(i:Int)≠x.bad):(ndK x c 2 i).rl=(c.nd i).rl:=by rw[qC hE hi g,tK hE hi g]
theorem aMI(hE:bU x c=0)(hi:i<4)(g:(i:Int)≠x.bad):(ndK x c 2 i).ax=(c.nd i).ax:=by rw[qC hE hi g,tK hE hi g]
theorem aMJ(hE:bU x c=0)(hi:i<4)(g:(i:Int)≠x.bad):(ndK x c 2 i).tn=(c.nd i).tn:=by rw[qC hE hi g,tK hE hi g]
theorem LP(hE:bU x c=0)(hi:i<4)(g:(i:Int)≠x.bad):(ndK x c 4 i).rl=(c.nd i).rl:=by rw[qQ hE hi g,oP hE hi g];exact WQ hE hi g
theorem XZ(hE:bU x c=0)(hi:i<4)(g:(i:Int)≠x.bad)(a:Nat):(ndK x c 3 i).us a=pJ (jI (c.nd i).rl.I (λs=>(ndK x c 3 i).ag s a) 4):=by
 rw[oP hE hi g, <-WQ hE hi g];rfl
theorem VX(hE:bU x c=0)(hi:i<4)(g:(i:Int)≠x.bad)(a:Nat):(ndK x c 3 i).ax a=xN ((c.nd i).ax a) (c.nd i).tn ((ndK x c 3 i).us a):=by
 rw[oP hE hi g, <-aMI hE hi g, <-aMJ hE hi g];rfl
theorem WF(hE:bU x c=0)(hi:i<4)(g:(i:Int)≠x.bad):(ndK x c 3 i).dg=IZ (ndK x c 3 i).ax (c.nd i).rl:=by
 rw[oP hE hi g, <-WQ hE hi g];rfl
variable{a k:Nat}
theorem aJD(hE:bU x c=0)(hi:i<4)(hk:k<4)(gi:(i:Int)≠x.bad)(gk:(k:Int)≠x.bad)(hr:RlE (c.nd i).rl (c.nd k).rl)(ha:a<3):(ndK x c 3 i).us a=(ndK x c 3 k).us a:=by
 rw[XZ hE hi gi,XZ hE hk gk,DI λs hs=>⟨(hr s hs).1,aGF hE hi hk hs gi gk ha⟩]
theorem TR(hE:bU x c=0)(hi:i<4)(hk:k<4)(gi:(i:Int)≠x.bad)(gk:(k:Int)≠x.bad)(ht:(c.nd i).tn=(c.nd k).tn)(ha:∀a,a<3->(c.nd i).ax a=(c.nd k).ax a)(hr:RlE (c.nd i).rl (c.nd k).rl)(h3:a<3):(ndK x c 3 i).ax a=(ndK x c 3 k).ax a:=by
 rw[VX hE hi gi,VX hE hk gk,aJD hE hi hk gi gk hr h3,ht,ha a h3]
theorem aHl(hE:bU x c=0)(hi:i<4)(hk:k<4)(gi:(i:Int)≠x.bad)(gk:(k:Int)≠x.bad)(ht:(c.nd i).tn=(c.nd k).tn)(ha:∀a,a<3->(c.nd i).ax a=(c.nd k).ax a)(hr:RlE (c.nd i).rl (c.nd k).rl):(ndK x c 3 i).dg=(ndK x c 3 k).dg:=by
 rw[WF hE hi gi,WF hE hk gk,ZQ (λa h3=>TR hE hi hk gi gk ht ha hr h3) hr]
theorem P9(hE:bU x c=0)(hi:i<4)(gi:(i:Int)≠x.bad)(h:∀s:Nat,s<4->(s:Int)≠bad->uF x c i s=D/\(c.nd i).rl.I s=true):(ndK x c 5 i).vX=D/\(ndK x c 5 i).vS=true/\(∀s,judA (ndK x c 4 i) (bxK x c 4 i) s=decide (uF x c i s=D)):=by
 obtain⟨h1,h2,h3⟩:=YG (v:=uF x c i) h;have e:judX (ndK x c 4 i) (bxK x c 4 i)=D:=by
  unfold judX;rw[LP hE hi gi];exact h1
 refine⟨?_,?_,λs=>?_⟩
 .rw[oW hE hi gi];exact e
 .rw[oW hE hi gi];show judS _ _=true
  unfold judS;rw[e,LP hE hi gi];exact h2
 .unfold judA QO;rw[e,LP hE hi gi];exact decide_eq_decide.2 ⟨λq=>q.2,λq=>⟨h3,q⟩⟩
theorem aEE(hE:bU x c=0)(hi:i<4)(gi:(i:Int)≠x.bad)(hg:mI (c.nd i).rl=true)(h:∀s:Nat,s<4->(s:Int)≠bad->uF x c i s=D/\(c.nd i).rl.I s=true):(ndK x c 5 i).rl=(rnN (λs=>decide (uF x c i s=D)) (c.nd i).rl 4).1:=by
 obtain⟨_,h2,h3⟩:=P9 hE hi gi h;have e2:judS (ndK x c 4 i) (bxK x c 4 i)=true:=by rw[oW hE hi gi] at h2;exact h2
 have e3:judA (ndK x c 4 i) (bxK x c 4 i)=λs=>decide (uF x c i s=D):=funext h3
 rw[oW hE hi gi];show judR _ _=_
 unfold judR;rw[e2,e3,LP hE hi gi,EI hg,if_pos rfl]
theorem aAt(hE:bU x c=0)(hi:i<4)(gi:(i:Int)≠x.bad)(h:(ndK x c 5 i).vX=(ndK x c 5 i).dg):gG x c i=ndK x c 5 i:=by
 unfold gG;rw[if_neg gi];show gF (ndK x c 5 i) (bxK x c 5 i)=_
 unfold gF MM;rw[if_neg (by rw[id5 hE hi gi,mD hi];decide),if_neg (λq=>q.2 h)]
end
variable{x:Ip}
theorem UE{c:Cl}(h:(i:Int)=x.bad):gG x c i=c.nd i:=if_pos h
structure Inv (t:Tn) (bad:Int) (c:Cl):Prop where
 id:∀i,i<4->(c.nd i).id=(i:Nat)
 tn:∀i,i<4->(c.nd i).tn=t
 ax:∀i k:Nat,i<4->k<4->(i:Int)≠bad->(k:Int)≠bad->∀a,a<3->(c.nd i).ax a=(c.nd k).ax a
 rl:∀i k:Nat,i<4->k<4->(i:Int)≠bad->(k:Int)≠bad->RlE (c.nd i).rl (c.nd k).rl
 gd:∀i:Nat,i<4->(i:Int)≠bad->mI (c.nd i).rl=true
 on:∀i s:Nat,i<4->s<4->(i:Int)≠bad->(s:Int)≠bad->(c.nd i).rl.I s=true/\(c.nd i).rl.M s=0
theorem nW(t:Tn)(hi:i<4):jH (i:Nat) t={ dW with id:=(i:Nat),tn:=t,ax:=λ_=>St.beg0,rl:=beginR }:=by
 unfold jH;rw[if_neg (by rw[mD hi];decide)]
theorem rA(t:Tn)(bad:Int):Inv t bad (begC t) where
 id i hi:=by show (jH (i:Nat) t).id=_;rw[nW t hi]
 tn i hi:=by show (jH (i:Nat) t).tn=_;rw[nW t hi]
 ax i k hi hk _ _ a _:=by show (jH (i:Nat) t).ax a=(jH (k:Nat) t).ax a;rw[nW t hi,nW t hk]
 rl i k hi hk _ _:=by show RlE (jH (i:Nat) t).rl (jH (k:Nat) t).rl;rw[nW t hi,nW t hk];exact RlE.refl _
 gd i hi _:=by show mI (jH (i:Nat) t).rl=true;rw[nW t hi];rfl
 on i s hi _ _ _:=by show (jH (i:Nat) t).rl.I s=true/\(jH (i:Nat) t).rl.M s=0;rw[nW t hi];exact⟨rfl,rfl⟩
section
variable {t:Tn} {bad:Int} {x:Ip} {c:Cl}
theorem ZR(h:Inv t bad c)(hb:x.bad=bad)(hE:bU x c=0){k:Nat}(hi:i<4)(hk:k<4)(gi:(i:Int)≠bad)(gk:(k:Int)≠bad):(ndK x c 3 i).dg=(ndK x c 3 k).dg:=
 aHl hE hi hk (by rw[hb];exact gi) (by rw[hb];exact gk) ((h.tn i hi).trans (h.tn k hk).symm) (h.ax i k hi hk gi gk) (h.rl i k hi hk gi gk)
theorem FB(h:Inv t bad c)(hb:x.bad=bad)(hE:bU x c=0)(hi:i<4)(gi:(i:Int)≠bad):∀s:Nat,s<4->(s:Int)≠bad->uF x c i s=(ndK x c 3 i).dg/\(c.nd i).rl.I s=true:=λs hs gs=>
 ⟨(aJJ hE hi hs (by rw[hb];exact gi) (by rw[hb];exact gs)).trans (ZR h hb hE hs hi gs gi),(h.on i s hi hs gi gs).1⟩
theorem aJF(h:Inv t bad c)(hb:x.bad=bad)(hE:bU x c=0)(hi:i<4)(gi:(i:Int)≠bad):(ndK x c 5 i).vX=(ndK x c 5 i).dg:=by
 rw[aGk hE hi (by rw[hb];exact gi)];exact (P9 hE hi (by rw[hb];exact gi) (FB h hb hE hi gi)).1
theorem lC(h:Inv t bad c)(hb:x.bad=bad)(hE:bU x c=0)(hi:i<4)(gi:(i:Int)≠bad):gG x c i=ndK x c 5 i:=aAt hE hi (by rw[hb];exact gi) (aJF h hb hE hi gi)
theorem X5(h:Inv t bad c)(hb:x.bad=bad)(hE:bU x c=0)(hi:i<4)(gi:(i:Int)≠bad):(ndK x c 5 i).rl=(rnN (λs=>decide (uF x c i s=(ndK x c 3 i).dg)) (c.nd i).rl 4).1:=aEE hE hi (by rw[hb];exact gi) (h.gd i hi gi) (FB h hb hE hi gi)
theorem aJK(h:Inv t bad c)(hb:x.bad=bad)(hE:bU x c=0){k s:Nat}(hi:i<4)(hk:k<4)(hs:s<4)(gi:(i:Int)≠bad)(gk:(k:Int)≠bad):decide (uF x c i s=(ndK x c 3 i).dg)=decide (uF x c k s=(ndK x c 3 k).dg):=by
 rw[aJM hE hi hk hs (by rw[hb];exact gi) (by rw[hb];exact gk),ZR h hb hE hi hk gi gk]
theorem aDJ(h:Inv t bad c)(hb:x.bad=bad)(hE:bU x c=0):Inv t bad ⟨c.fr+1,gG x c⟩ where
 id i hi:=by
  show (gG x c i).id=_
  by_cases g:(i:Int)=bad
  .rw[UE (by rw[hb];exact g)];exact h.id i hi
  .rw[lC h hb hE hi g];exact id5 hE hi (by rw[hb];exact g)
 tn i hi:=by
  show (gG x c i).tn=_
  by_cases g:(i:Int)=bad
  .rw[UE (by rw[hb];exact g)];exact h.tn i hi
  .rw[lC h hb hE hi g,aMK hE hi (by rw[hb];exact g)];exact h.tn i hi
 ax i k hi hk gi gk a ha:=by
  show (gG x c i).ax a=(gG x c k).ax a
  rw[lC h hb hE hi gi,lC h hb hE hk gk,WR hE hi (by rw[hb];exact gi),WR hE hk (by rw[hb];exact gk)];exact TR hE hi hk (by rw[hb];exact gi) (by rw[hb];exact gk) ((h.tn i hi).trans (h.tn k hk).symm) (h.ax i k hi hk gi gk) (h.rl i k hi hk gi gk) ha
 rl i k hi hk gi gk:=by
  show RlE (gG x c i).rl (gG x c k).rl
  rw[lC h hb hE hi gi,lC h hb hE hk gk,X5 h hb hE hi gi,X5 h hb hE hk gk];exact JQ (λs hs=>aJK h hb hE hi hk hs gi gk) (h.rl i k hi hk gi gk) 4 (Xr _)
 gd i hi gi:=by
  show mI (gG x c i).rl=true
  rw[lC h hb hE hi gi,X5 h hb hE hi gi];exact X6 (h.gd i hi gi) 4
 on i s hi hs gi gs:=by
  show (gG x c i).rl.I s=true/\(gG x c i).rl.M s=0
  rw[lC h hb hE hi gi,X5 h hb hE hi gi];obtain⟨a,b⟩:=h.on i s hi hs gi gs;have:=PM (A:=λs=>decide (uF x c i s=(ndK x c 3 i).dg)) a b (Xt ((FB h hb hE hi gi) s hs gs).1) 4;exact⟨this.1,this.2.1⟩
end
variable{lo:Int}{n:Nat}
theorem aHZ{hi:Int}(h1:1<=n)(h2:n<=64)(hl:cl f n lo<=(n-1)/3)(hh:n-1-(n-1)/3<cl f n hi+ce f n hi):lo<=pJ (jE f n)/\pJ (jE f n)<=hi:=by
 obtain⟨m,hm⟩:=aAL f n h1;rw[<-GL h1 h2 hm];obtain⟨a,b,ha,hb,rfl⟩:=hm;have k1:=aMQ ha hl;have k2:=aMR hb hh;have k3:=GX ha hb Yo;omega
def skI(b i:Nat):Nat:=if i<b then i else i+1
theorem aDG(h:∀s,s<4->b s=true):jI b f 4=jE f 4:=by
 show (((([]++_)++_)++_)++_)=_
 rw[h 0 Yo,h 1 Yo,h 2 Yo,h 3 Yo];rfl
theorem aDH{q:Nat}(hq:q<4)(h0:b q=false)(h:∀s,s<4->s≠q->b s=true):jI b f 4=jE (λi=>f (skI q i)) 3:=by
 show (((([]++_)++_)++_)++_)=_
 rcases four hq with rfl|rfl|rfl|rfl
 .rw[h0,h 1 Yo Yo,h 2 Yo Yo,h 3 Yo Yo];rfl
 .rw[h0,h 0 Yo Yo,h 2 Yo Yo,h 3 Yo Yo];rfl
 .rw[h0,h 0 Yo Yo,h 1 Yo Yo,h 3 Yo Yo];rfl
 .rw[h0,h 0 Yo Yo,h 1 Yo Yo,h 2 Yo Yo];rfl
theorem sV(p:Prop)[Decidable p]:(p->ind p=1)/\(¬p->ind p=0):=⟨oD,yO⟩
theorem aDP{hi:Int}(h:∀s:Nat,s<4->(s:Int)≠bad->b s=true/\lo<=f s/\f s<=hi):lo<=pJ (jI b f 4)/\pJ (jI b f 4)<=hi:=by
 by_cases ha:∀s,s<4->b s=true
 .rw[aDG ha];have h0:=h 0 Yo;have h1:=h 1 Yo;have h2:=h 2 Yo;have h3:=h 3 Yo;refine aHZ Yo Yo ?_ ?_
  .rw[cl4];have i0:=sV (f 0<lo);have i1:=sV (f 1<lo);have i2:=sV (f 2<lo);have i3:=sV (f 3<lo);have j0:=P8 (f 0<lo);have j1:=P8 (f 1<lo);have j2:=P8 (f 2<lo);have j3:=P8 (f 3<lo);generalize ind (f 0<lo)=y0 at*;generalize ind (f 1<lo)=y1 at*;generalize ind (f 2<lo)=y2 at*;generalize ind (f 3<lo)=y3 at*;by_cases c0:((0:Nat):Int)=bad
   .have:=i1.2 (by have:=(h1 Yo).2;omega);have:=i2.2 (by have:=(h2 Yo).2;omega);have:=i3.2 (by have:=(h3 Yo).2;omega);omega
   .have:=i0.2 (by have:=(h0 c0).2;omega);by_cases c1:((1:Nat):Int)=bad
    .have:=i2.2 (by have:=(h2 Yo).2;omega);have:=i3.2 (by have:=(h3 Yo).2;omega);omega
    .have:=i1.2 (by have:=(h1 c1).2;omega);by_cases c2:((2:Nat):Int)=bad
     .have:=i3.2 (by have:=(h3 Yo).2;omega);omega
     .have:=i2.2 (by have:=(h2 c2).2;omega);omega
  .rw[aNr];have i0:=sV (f 0<=hi);have i1:=sV (f 1<=hi);have i2:=sV (f 2<=hi);have i3:=sV (f 3<=hi);generalize ind (f 0<=hi)=y0 at*;generalize ind (f 1<=hi)=y1 at*;generalize ind (f 2<=hi)=y2 at*;generalize ind (f 3<=hi)=y3 at*;by_cases c0:((0:Nat):Int)=bad
   .have:=i1.1 (h1 Yo).2.2;have:=i2.1 (h2 Yo).2.2;have:=i3.1 (h3 Yo).2.2;omega
   .have:=i0.1 (h0 c0).2.2;by_cases c1:((1:Nat):Int)=bad
    .have:=i2.1 (h2 Yo).2.2;have:=i3.1 (h3 Yo).2.2;omega
    .have:=i1.1 (h1 c1).2.2;by_cases c2:((2:Nat):Int)=bad
     .have:=i3.1 (h3 Yo).2.2;omega
     .have:=i2.1 (h2 c2).2.2;omega
 .obtain⟨q,hq,h0⟩:∃q,q<4/\b q=false:=by
   by_cases b0:b 0=true
   .by_cases b1:b 1=true
    .by_cases b2:b 2=true
     .by_cases b3:b 3=true
      .exact absurd (λs hs=>by rcases four hs with rfl|rfl|rfl|rfl<;>assumption) ha
      .exact⟨3,Yo,by simpa using b3⟩
     .exact⟨2,Yo,by simpa using b2⟩
    .exact⟨1,Yo,by simpa using b1⟩
   .exact⟨0,Yo,by simpa using b0⟩
  have hqb:(q:Int)=bad:=by
   by_cases e:(q:Int)=bad
   .exact e
   .rw[(h q hq e).1] at h0;cases h0
  rw[aDH hq h0 (λs hs hn=>(h s hs Yo).1)];obtain⟨m,hm⟩:=aAL (λi=>f (skI q i)) 3 Yo;rw[<-GL Yo Yo hm];refine WO hm λi hi=>?_
  have:skI q i<4/\skI q i≠q:=by unfold skI;split<;>omega
  exact (h _ this.1 Yo).2
section
variable {t:Tn} {bad:Int} {x:Ip} {c:Cl}
theorem aCq(h:Inv t bad c)(hb:x.bad=bad)(hE:bU x c=0){a:Nat}(hi:i<4)(gi:(i:Int)≠bad)(ha:a<3){hi':Int}(hr:∀s:Nat,s<4->(s:Int)≠bad->lo<=x.rd s a/\x.rd s a<=hi'):lo<=(gG x c i).us a/\(gG x c i).us a<=hi':=by
 have gi':(i:Int)≠x.bad:=by rw[hb];exact gi
 rw[lC h hb hE hi gi,aGl hE hi gi',XZ hE hi gi'];refine aDP (bad:=bad) λs hs gs=>?_
 rw[aGE hE hi hs gi' (by rw[hb];exact gs) ha];exact⟨(h.on i s hi hs gi gs).1,hr s hs gs⟩
theorem YX(h:Inv t bad c)(hb:x.bad=bad)(hE:bU x c=0){a:Nat}(hi:i<4)(gi:(i:Int)≠bad):(gG x c i).ax a=xN ((c.nd i).ax a) t ((gG x c i).us a):=by
 have gi':(i:Int)≠x.bad:=by rw[hb];exact gi
 rw[lC h hb hE hi gi,WR hE hi gi',aGl hE hi gi',VX hE hi gi',h.tn i hi]
end
section
variable {x:Ip} {c:Cl}
end
section
variable {n:Nd} {l m:List Ms}
end
structure Al (t:Tn) (b:Nat) (q:Nat) (c:Cl):Prop where
 id:∀i,i<4->(c.nd i).id=(i:Nat)
 tn:∀i,i<4->(c.nd i).tn=t
 ax:∀i k:Nat,i<4->k<4->∀a,a<3->(c.nd i).ax a=(c.nd k).ax a
 rl:∀i k:Nat,i<4->k<4->RlE (c.nd i).rl (c.nd k).rl
 gd:∀i:Nat,i<4->mI (c.nd i).rl=true
 on:∀i s:Nat,i<4->s<4->s≠b->(c.nd i).rl.I s=true/\(c.nd i).rl.M s=0
 jn:∀i,i<4->((c.nd i).rl.I b=true)\/(q:Int)<=(c.nd i).rl.J b
section
variable {t:Tn} {b:Nat} {x:Ip} {c:Cl}
end
variable{l:List It}{w w0:World}
theorem Cx.plus{w':World}{m:List It}(H:Cx w0 w l)(G:Cx w w' m):Cx w0 w' (m++l):=by
 have H':=H.call G.bel;have hs:=H.size;refine⟨H'.bel,λx hx=>?_,λx hx k hk=>?_,List.pairwise_append.2 ⟨G.dis,H.dis,λx hx y hy k h1 h2=>?_⟩⟩
 .rcases List.mem_append.1 hx with hx|hx
  .exact G.it x hx
  .exact H'.it x hx
 .rcases List.mem_append.1 hx with hx|hx
  .have:=G.up x hx k hk;omega
  .exact H.up x hx k hk
 .have h3:=G.up x hx k h1;have h4:=y.lt (H.it y hy) h2;omega
variable{B:Nat}
theorem xI{C:Nat}{t:TypeId}{s:Nat}{v:Value}{xs:List Value}(H:Cx w0 w (fF B t s v n xs::l))(h:C<=B):Cx w0 w (fF C t s v n xs::l):=H.wk (λh1=>dJ h1 h) (λ_ h=>h)
variable{D:Nat->Nd×Ad}
theorem pI{C:Nat}(H:Cx w0 w (lN B D::l))(h:C<=B):Cx w0 w (lN C D::l):=H.wk (λh1 i hi=>dJ (h1 i hi) h) (λ_ h=>h)
def cK(t:Tn)(L:List Li):Nat->Cl
 |0=>begC t
 |k+1=>match L[k]? with|some c=>frC c.x (cK t L k)|none=>cK t L k
variable{L:List Li}{k:Nat}{t:Tn}
theorem yH{c:Li}(h:L[k]?=some c):cK t L (k+1)=frC c.x (cK t L k):=by
 show (match L[k]? with|some c=>frC c.x (cK t L k)|none=>cK t L k)=_
 rw[h]
theorem aGX(n:Nd)(l:List Ms):(gF n l).id=n.id:=by
 unfold gF;split
 .rfl
 .split
  .split<;>rfl
  .rfl
variable{c:Cl}
theorem aAr(hE:bU x c=0)(hi:i<4):(gG x c i).id=(i:Nat):=by
 unfold gG;split
 .exact DD hE hi
 .rw[aGX];exact aGy hE (Xr _) hi
theorem AV(h1: -1<=x.bad/\x.bad<4)(h2:0<=c.fr/\c.fr<=1073741823)(h3:x.ly.length<=400)(h4:∀i,i<4->(c.nd i).id=(i:Nat)):bU x c=0:=by grind [bU]
def zB(L:List Li):Prop:=L.length<=1000/\∀c,c∈L->(-1<=c.bad/\c.bad<4)/\c.LL.length<=400
theorem zH(h:zB L):∀k,k<=L.length->(cK t L k).fr=(k:Nat)/\(∀i,i<4->((cK t L k).nd i).id=(i:Nat))/\(∀c,L[k]?=some c->bU c.x (cK t L k)=0)
 |0,_=>by
  have h2:∀i,i<4->((cK t L 0).nd i).id=(i:Nat):=λi hi=>(rA t (-1)).id i hi
  refine⟨rfl,h2,λc hc=>?_⟩;obtain⟨h3,h4⟩:=h.2 c (List.mem_of_getElem? hc);exact AV h3 ⟨Int.le_refl _,(show (0:Int)<=1073741823 by decide)⟩ (by show (c.LL.map Lj.y).length<=400;rw[List.length_map];exact h4) h2
 |k+1,hk=>by
  obtain⟨g1,g2,g3⟩:=zH h k Yo;have hc:=List.getElem?_eq_getElem (show k<L.length by omega);have hE:=g3 _ hc;have e:cK t L (k+1)=⟨(cK t L k).fr+1,gG (L[k]).x (cK t L k)⟩:=by rw[yH hc];unfold frC;rw[if_pos hE]
  have e1:(cK t L (k+1)).fr=((k+1:Nat):Int):=by rw[e];show (cK t L k).fr+1=_;rw[g1];omega
  have e2:∀i,i<4->((cK t L (k+1)).nd i).id=(i:Nat):=λi hi=>by rw[e];exact aAr hE hi
  refine⟨e1,e2,λc hc=>?_⟩;obtain⟨h3,h4⟩:=h.2 c (List.mem_of_getElem? hc);have:=h.1;exact AV h3 (by rw[e1];omega) (by show (c.LL.map Lj.y).length<=400;rw[List.length_map];exact h4) e2
theorem CK(ht:t.Ok)(hL:∀c,c∈L->IpOK c.x):∀k,lT (cK t L k)
 |0=>FM ht
 |k+1=>by
  show lT (match L[k]? with|some c=>frC c.x (cK t L k)|none=>cK t L k)
  split
  .rename_i c hc;exact frC_ok (hL c (List.mem_of_getElem? hc)) (CK ht hL k)
  .exact CK ht hL k
theorem N9{fr:Int}(hf:c.fr=fr)(hn:∀i,i<4->(D i).1=c.nd i):bU x ⟨fr,λi=>(D i).1⟩=bU x c/\(frC x ⟨fr,λi=>(D i).1⟩).fr=(frC x c).fr/\(∀i,i<4->(frC x ⟨fr,λi=>(D i).1⟩).nd i=(frC x c).nd i)/\frR x ⟨fr,λi=>(D i).1⟩=frR x c:=by
 have hk:∀k,∀i,i<4->(nD x ⟨fr,λi=>(D i).1⟩ k).nd i=(nD x c k).nd i/\(nD x ⟨fr,λi=>(D i).1⟩ k).bx i=(nD x c k).bx i:=by
  intro k
  induction k with
  |zero=>exact λi hi=>⟨hn i hi,rfl⟩
  |succ k ih=>
   intro i hi;obtain⟨h1,h2⟩:=ih i hi;refine⟨?_,?_⟩
   .show KG x fr _ k i=KG x c.fr _ k i
    rw[hf];exact (U1 h1 h2).1
   .show oJ x _ i k 4=oJ x _ i k 4
    refine J8 λj hj=>?_
    obtain⟨h3,h4⟩:=ih j hj;show AC x fr _ k j=AC x c.fr _ k j
    rw[hf];exact (U1 h3 h4).2
 have hN:∀i,i<4->gG x ⟨fr,λi=>(D i).1⟩ i=gG x c i:=λi hi=>by
  unfold gG;rw[(hk 5 i hi).1,(hk 5 i hi).2];show (if _ then (D i).1 else _)=_
  rw[hn i hi]
 have hE:bU x ⟨fr,λi=>(D i).1⟩=bU x c:=by
  unfold bU;dsimp only;simp only[hf,hn 0 Yo,hn 1 Yo,hn 2 Yo,hn 3 Yo]
 refine⟨hE,?_,λi hi=>?_,?_⟩
 .unfold frC;rw[hE];split
  .show fr+1=c.fr+1;rw[hf]
  .rfl
 .unfold frC;rw[hE];split
  .exact hN i hi
  .rfl
 .unfold frR;rw[hE];split
  .refine List.map_congr_left λi hi=>hN i ?_
   unfold P6 at hi;exact List.mem_range.1 (List.mem_filter.1 hi).1
  .rfl
def rK(t:Tn)(L:List Li)(k:Nat):Rn:=((L.take k).map Li.x).foldl rnS ⟨begC t,[],0⟩
theorem U5(x:Ip)(c:Cl):(frR x c).length<=4:=by grind [frR,P6]
def t1:Tn:=⟨4294967296,0,4294967296,429496729600⟩
def tZ(_ a:Nat):Int:=if a=0 then 4294967296 else 0
def x1:Ip:=⟨tZ, -1,[]⟩
theorem aGx:t1.Ok:=⟨by unfold R64 t1;decide,by unfold R64 t1;decide,by unfold R64 t1;decide,by unfold R64 t1;decide⟩
theorem aMY:IpOK x1:=⟨λs a=>by show R64 (tZ s a);unfold tZ;split<;>(unfold R64;decide),by unfold R64 x1;decide,λy hy=>by cases hy⟩
theorem JD:bU x1 (begC t1)=0:=AV (by unfold x1;decide) (show (0:Int)<=0/\(0:Int)<=1073741823 by decide) (Xz _) (λi hi=>(rA t1 (-1)).id i hi)
theorem aNu:frR x1 (begC t1)=[gG x1 (begC t1) 0,gG x1 (begC t1) 1,gG x1 (begC t1) 2,gG x1 (begC t1) 3]:=by
 unfold frR;rw[if_pos JD];rfl
theorem YQ:(gG x1 (begC t1) 3).vS=true:=by
 have h:=rA t1 (-1);rw[lC h rfl JD Yc Yc];exact (P9 JD Yc Yc (FB h rfl JD Yc Yc)).2.1
theorem aGf(hi:i<4):(gG x1 (begC t1) i).us 0=4294967296:=by
 have h:=aCq (rA t1 (-1)) rfl JD hi Yo (show 0<3 by decide) (lo:=4294967296) (hi':=4294967296) (λs _ _=>⟨Int.le_refl _,Int.le_refl _⟩);omega
theorem aGI:(gG x1 (begC t1) 2).us 0=4294967296:=aGf Yc
theorem aCL:(gG x1 (begC t1) 1).us 0=4294967296:=aGf Yc
theorem aCK:0<((gG x1 (begC t1) 1).ax 0).X:=by
 rw[YX (rA t1 (-1)) rfl JD Yc Yc,aCL];show 0<(xN ((jH ((1:Nat):Int) t1).ax 0) t1 4294967296).X
 rw[nW t1 Yc];decide+kernel
section
variable {f:Operand->Value} {o:Oper}
theorem aBz(ho:o.op=.build 27 #[(0,.const (.int .i64 4294967296)),(2,.const (.int .i64 4294967296)),(3,.const (.int .i64 429496729600))])(hc:∀v,f (.const v)=v)(w:World):(execOp f o).run Tryz.prog w=.ok (.value (aP (kW t1) 0 4)) w:=by
 unfold execOp;rw[ho];simp only[List.map_toArray,List.map_cons,List.map_nil,hc]
 kernel_rfl
theorem aBu(ho:o.op=.build 37 #[(0,.const (.int .i64 4294967296))])(hc:∀v,f (.const v)=v)(w:World):(execOp f o).run Tryz.prog w=.ok (.value (aP (λj=>iV (tZ 0 j)) 0 3)) w:=by
 unfold execOp;rw[ho];simp only[List.map_toArray,List.map_cons,List.map_nil,hc]
 kernel_rfl
variable{a:Operand}
theorem aBw{b c d:Operand}(ho:o.op=.build 38 #[(0,a),(1,b),(2,c),(3,d)])(ha:f a=aP (λj=>iV (tZ 0 j)) 0 3)(hb:f b=aP (λj=>iV (tZ 0 j)) 0 3)(hc:f c=aP (λj=>iV (tZ 0 j)) 0 3)(hd:f d=aP (λj=>iV (tZ 0 j)) 0 3)(w:World):(execOp f o).run Tryz.prog w=.ok (.value (aP (qU tZ) 0 12)) w:=by
 unfold execOp;rw[ho];simp only[List.map_toArray,List.map_cons,List.map_nil,ha,hb,hc,hd]
 kernel_rfl
theorem aBr(ho:o.op=.build 52 #[(0,a),(1,.const (.int .i64 (-1)))])(ha:f a=aP (qU tZ) 0 12)(hc:∀v,f (.const v)=v)(w:World):(execOp f o).run Tryz.prog w=.ok (.value (aP (lY tZ (-1) (.slice none 0 0)) 0 14)) w:=by
 unfold execOp;rw[ho];simp only[List.map_toArray,List.map_cons,List.map_nil,ha,hc]
 kernel_rfl
end
theorem aNz(n:Nd):gH n 2=.int .i64 (n.us 0):=rfl
theorem aNA(n:Nd):gH n 5=.int .i64 (n.ax 0).X:=rfl
theorem aNB(n:Nd):gH n 9=.bool n.vS:=rfl
set_option maxHeartbeats 2000000 in
theorem YS(w:World):Calls Tryz.prog 11 #[] w λe w'=>e=.returned (.bool true)/\Below w.heap.size w w':=by
 refine bB Tryz.func11 rfl 51 rfl Yd (λA hs hd hb=>?_);clear hb;have H:=Cx.start w;refine aD (aG ?_);refine qa ?_;refine aC<|aD<|qg (aBz rfl (λ_=>rfl) _) ?_;refine kX (uI t1 w aGx) ?_;rintro e w1 ⟨D,rfl,hD,G⟩;refine⟨_,rfl,?_⟩;replace H:=H.plus G;iterate 4 refine qg (aBu rfl (λ_=>rfl) _) ?_
 refine qg (aBw rfl Qv Qv Qv Qv _) ?_;refine qg (aBr rfl Qv (λ_=>rfl) _) ?_;have hag:∀i,i<4->xU w1 (D i).1 (D i).2.1 (D i).2.2:=λi hi=>by
  have ho:World.ownsRow _ _ _ _ _ _ _:=H.o0 i hi;obtain⟨a3,c3,e,hs3,_⟩:=kK ho
  cases e
  exact hs3
 have hcls:lT ⟨0,λi=>(D i).1⟩:=⟨bC,λi hi=>by show NdOK (D i).1;rw[hD i hi];exact MC aGx hi⟩;obtain⟨p1,p2,p3,p4⟩:=N9 (x:=x1) (c:=begC t1) (fr:=0) (D:=D) rfl hD;have hfr:=vH x1 0 D none 0 [] w1 rfl aMY hcls hag ⟨λh=>absurd h (Nat.lt_irrefl _),λ_ h=>(by cases h)⟩;change Calls _ _ #[aP (jU 0 D) 0 297,aP (lY tZ (-1) (.slice none 0 0)) 0 14] _ _ at hfr
 refine gX hfr ?_;clear hfr;rintro e w2 ⟨D',v,rfl,hD',G2⟩;refine⟨_,rfl,?_⟩;replace H:=H.plus G2;refine qa ?_;refine qg (jZ _ rfl Qv _) ?_;refine qg (kE _ rfl Qv _) ?_;refine qg (kF _ rfl Qv _) ?_;refine kR H ?_;intro w3 H z3;refine jB H.a0 bX (nX _ _) ?_;intro w4 H z4;iterate 2 refine qa ?_
 refine aC<|aD ?_;rw[p4,aNu] at H;have hrow:World.ownsRow _ _ _ _ _ _ _:=H.o1;obtain⟨g,cap,rfl,_,hcell⟩:=aBZ hrow (show 0<4 by decide) Yc;have eF:(frC x1 ⟨0,λi=>(D i).1⟩).fr=1:=by rw[p2];unfold frC;rw[if_pos JD];rfl
 have c3:w4.cell? ⟨g,0+3*14+9,none⟩=some (.bool true):=by
  have:=hcell 3 _ rfl 9 Yc;rw[this,aNB,YQ]
 have c2:w4.cell? ⟨g,0+2*14+2+0*1,none⟩=some (.int .i64 ((gG x1 (begC t1) 2).us 0)):=by
  have h2:=hcell 2 (gG x1 (begC t1) 2) rfl 2 Yc;rw[show 0+2*14+2+0*1=0+2*14+2 by decide,h2,aNz]
 have c1:w4.cell? ⟨g,0+1*14+5+0*1,none⟩=some (.int .i64 ((gG x1 (begC t1) 1).ax 0).X):=by
  have h2:=hcell 1 (gG x1 (begC t1) 1) rfl 5 Yc;rw[show 0+1*14+5+0*1=0+1*14+5 by decide,h2,aNA]
 refine qa ?_;refine qg (vZ (b:=true) _ _ rfl Qv Qv (Xt (p1.trans JD)) _) ?_;iterate 2 refine qa ?_
 refine qg (LenK.run rfl Qv _) ?_;refine qg (bT (b:=true) _ _ rfl Qv Qv (Xt rfl) _) ?_;refine qg (aO _ _ _ rfl Qv Qv _) ?_;iterate 3 refine qa ?_
 refine qg (bT (b:=true) _ _ rfl Qv Qv (Xt eF) _) ?_;refine qg (aO _ _ _ rfl Qv Qv _) ?_;iterate 2 refine qa ?_
 refine qg (eB (i:=3) _ _ _ _ rfl SlcK.out SizK.out Qv Qv rfl (show 3<4 by decide) _) ?_;refine qa ?_;refine qg (aEZ _ rfl Qv c3) ?_;refine qg (aO _ _ _ rfl Qv Qv _) ?_;iterate 2 refine qa ?_
 refine qg (eB (i:=2) _ _ _ _ rfl SlcK.out SizK.out Qv Qv rfl (show 2<4 by decide) _) ?_;refine qa ?_;refine qg (bQ (i:=0) _ _ _ _ rfl ArrK.out SizK.out Qv Qv rfl Yc _) ?_;refine qg (PV _ rfl Qv c2) ?_;refine qg (bT (b:=true) _ _ rfl Qv Qv (Xt aGI) _) ?_;refine qg (aO _ _ _ rfl Qv Qv _) ?_;iterate 2 refine qa ?_
 refine qg (eB (i:=1) _ _ _ _ rfl SlcK.out SizK.out Qv Qv rfl (show 1<4 by decide) _) ?_;refine qa ?_;refine qg (bQ (i:=0) _ _ _ _ rfl ArrK.out SizK.out Qv Qv rfl Yc _) ?_;refine qg (PV _ rfl Qv c1) ?_;refine qg (fV (b:=true) _ _ rfl Qv Qv (Xt aCK) _) ?_;refine qg (aO _ _ _ rfl Qv Qv _) ?_;refine qa ?_;refine aC ?_;exact aN (aK YB (bL rfl Qv) ⟨rfl,H.bel⟩)
def LX(bad:Int)(L:List Li):Prop:=∀c,c∈L->c.bad=bad
theorem VC{t:Tn}(h:zB L)(hb:LX bad L):∀k,k<=L.length->Inv t bad (cK t L k)
 |0,_=>rA t bad
 |k+1,hk=>by
  have ih:=VC (t:=t) h hb k Yo;have hc:=List.getElem?_eq_getElem (show k<L.length by omega);have hE:=(zH (t:=t) h k Yo).2.2 _ hc;rw[yH hc];unfold frC;rw[if_pos hE];exact aDJ ih (hb _ (List.getElem_mem Yo)) hE
variable{c:Li}
theorem aMq(h:zB L)(hc:L[k]?=some c)(i:Nat):(cK t L (k+1)).nd i=gG c.x (cK t L k) i:=by
 have hk:=(List.getElem?_eq_some_iff.1 hc).1;rw[yH hc];unfold frC;rw[if_pos ((zH (t:=t) h k Yo).2.2 c hc)]
instance:ZerK Tryz.prog 41 3 (GR 0 false (.slice none 0 0)):=⟨λw=>Yl⟩
structure Twn (n m:Nd):Prop where
 ax:∀a,a<3->n.ax a=m.ax a
 rl:RlE n.rl m.rl
 ag:∀s a,s<4->a<3->n.ag s a=m.ag s a
 us:∀a,a<3->n.us a=m.us a
 dg:n.dg=m.dg
 fr:n.fr=m.fr
 vX:n.vX=m.vX
 vS:n.vS=m.vS
 vA:n.vA=m.vA
section
variable {n m:Nd} {v u:Value}
end
section
variable {t:Tn} {bad:Int} {L:List Li} {k:Nat} {c:Li}
theorem aHt(h:zB L)(hb:LX bad L)(hc:L[k]?=some c){n:Nd}(hn:n∈frR c.x (cK t L k)):∃i:Nat,i<4/\(i:Int)≠bad/\n=(cK t L (k+1)).nd i/\n.id=(i:Nat)/\n.fr=(k:Nat):=by
 have hk:=(List.getElem?_eq_some_iff.1 hc).1;obtain⟨hf,_,hE⟩:=zH (t:=t) h k Yo;have hE:=hE c hc;have e:c.x.bad=bad:=hb c (List.mem_of_getElem? hc);unfold frR at hn;rw[if_pos hE] at hn;obtain⟨i,hi,rfl⟩:=List.mem_map.1 hn;unfold P6 at hi;have h1:=List.mem_filter.1 hi;have i4:=List.mem_range.1 h1.1;have gi:(i:Int)≠bad:=by rw[<-e];exact Xu h1.2
 refine⟨i,i4,gi,(aMq h hc i).symm,aAr hE i4,?_⟩;rw[lC (VC h hb k Yo) e hE i4 gi,fr5 hE i4 (by rw[e];exact gi),hf]
end
def UN(B:Nat)(c:Lj):It:=fF B 5 1 (ljV c) c.y.n (rowV (bF c.y.g) c.y.n)
def V3{α:Type}(f:α->It)(L:List α):It:=⟨λw=>∀c,c∈L->(f c).p w,λk=>∃c,c∈L/\(f c).foot k,λh e c hc=>(f c).ok (h c hc) (λk h1 h2=>e k h1 ⟨c,hc,h2⟩),λh ⟨c,hc,e⟩=>(f c).lt (h c hc) e⟩
theorem aDO{α:Type}{f:α->It}{L:List α}{c:α}(H:Cx w0 w (f c::V3 f L::l)):Cx w0 w (V3 f (L++[c])::l):=
 H.merge.wk (λh d hd=>by
  rcases List.mem_append.1 hd with hd|hd
  .exact h.2 d hd
  .rw[List.mem_singleton.1 hd];exact h.1) (λk ⟨d,hd,hk⟩=>by
  rcases List.mem_append.1 hd with hd|hd
  .exact Or.inr ⟨d,hd,hk⟩
  .rw[List.mem_singleton.1 hd] at hk;exact Or.inl hk)
def liJ(B:Nat)(c:Li):It:=(fF B 81 3 (.slice c.lo c.LL.length c.lc) c.LL.length (kG JK 3 c.LL)).and (V3 (UN B) c.LL)
theorem aMF(h:(liJ B c).p w)(hb:∀d,d∈c.LL->d.y.n<=140737488351232/\∀i,d.y.g i<256):JRd w c.lo c.LL:=by
 refine⟨GV (F:=JK) (s:=3) h.1 Yc,λd hd=>?_⟩;have h2:World.ownsRow _ _ _ _ _ _ _:=h.2 d hd;obtain⟨a,q,e,s,hc⟩:=kK h2;unfold ljV at e
 cases e
 exact⟨s,hc,hb d hd⟩
end Go.Proofs.YthimcecbgpamdaaGreatDoor
