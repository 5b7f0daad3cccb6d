import Derived.Test.YthimcecbgpamdaaGreatDoorNear208
import Derived.Test.YthimcecbgpamdaaGreatDoorNear180
namespace Go.Proofs.YthimcecbgpamdaaGreatDoor
open Go.RowKit
def pR(fr:Int)(nd:Nat->Nd)(v:Nat->Value)(j:Nat):Value:=if j=0 then iV fr else ndF (nd ((j-1)/74)) (v ((j-1)/74)) ((j-1)%74)
def lY(rd:Nat->Nat->Int)(bad:Int)(lv:Value)(j:Nat):Value:=if j<12 then iV (rd (j/3) (j%3)) else if j=12 then iV bad else lv
def lyF(ph wo:Int)(v:Value)(j:Nat):Value:=if j=0 then iV ph else if j=1 then iV wo else v
def G8(m:Nat->Ms)(v:Nat->Value)(j:Nat):Value:=qN (m (j/4)).K (m (j/4)).F (m (j/4)).R (v (j/4)) (j%4)
def wN(fr:Int)(nd:Nat->Nd)(v:Nat->Value)(bad:Int)(lv:Value)(bx:Nat->Value)(j:Nat):Value:=if j<297 then pR fr nd v j else if j=297 then iV bad else if j=298 then lv else bx (j-299)
def gN(a:Option Addr×Nat)(n:Nat):Value:=.slice a.1 n a.2
variable{i j:Nat}
theorem aKh(fr:Int)(nd:Nat->Nd)(v:Nat->Value)(hj:j<74):pR fr nd v (1+i*74+j)=ndF (nd i) (v i) j:=by grind [pR]
theorem TT(fr:Int)(nd:Nat->Nd)(v:Nat->Value)(i:Nat)(n:Nd)(u:Value):∀j,j<297->stP (pR fr nd v) (1+i*74) 74 (ndF n u) j=pR fr (dH nd i n) (dH v i u) j:=by
 intro j hj;unfold stP;by_cases c:1+i*74<=j/\j<1+i*74+74
 .rw[if_pos c];unfold pR;rw[if_neg Yo,show (j-1)/74=i by omega,show (j-1)%74=j-(1+i*74) by omega,bZ,bZ]
 .rw[if_neg c];unfold pR;by_cases c0:j=0
  .rw[if_pos c0,if_pos c0]
  .rw[if_neg c0,if_neg c0];have:(j-1)/74≠i:=Yo;rw[dD _ _ this,dD _ _ this]
theorem TS(fr:Int)(nd:Nat->Nd)(a:Nat->Option Addr×Nat)(n:Nat->Nat):∀j,j<297->(pR fr nd (λi=>gN (a i) (n i)) j).oneCell'=true:=by
 intro j _;unfold pR;split
 .rfl
 .exact dA _ _ _ _ _ (Nat.mod_lt _ Yc)
theorem UT(ph wo:Int)(ao:Option Addr)(n c:Nat):∀j,j<3->(lyF ph wo (.slice ao n c) j).oneCell'=true:=by
 intro j _;unfold lyF;split
 .rfl
 .split<;>rfl
theorem aLc(m:Nat->Ms)(v:Nat->Value)(hj:j<4):G8 m v (i*4+j)=qN (m i).K (m i).F (m i).R (v i) j:=by
 unfold G8;rw[show (i*4+j)/4=i by omega,show (i*4+j)%4=j by omega]
theorem aHT(m:Nat->Ms)(a:Nat->Option Addr×Nat)(n:Nat->Nat):∀j,j<16->(G8 m (λi=>gN (a i) (n i)) j).oneCell'=true:=by
 intro j _;exact gU _ _ _ _ _ _ _ (Nat.mod_lt _ Yc)
theorem aHU(m:Nat->Ms)(v:Nat->Value)(i:Nat)(n:Ms)(u:Value):∀j,j<16->stP (G8 m v) (i*4) 4 (qN n.K n.F n.R u) j=G8 (dH m i n) (dH v i u) j:=by
 intro j hj;unfold stP;by_cases c:i*4<=j/\j<i*4+4
 .rw[if_pos c];unfold G8;rw[show j/4=i by omega,show j%4=j-i*4 by omega,bZ,bZ]
 .rw[if_neg c];unfold G8;have:j/4≠i:=Yo;rw[dD _ _ this,dD _ _ this]
variable{bad fr:Int}
theorem yX{nd:Nat->Nd}{v:Nat->Value}{lv:Value}{bx:Nat->Value}(hj:j<297):wN fr nd v bad lv bx j=pR fr nd v j:=if_pos hj
theorem aJO(fr:Int)(nd:Nat->Nd)(v:Nat->Value)(bad:Int)(lv:Value)(bx:Nat->Value)(hi:i<4)(n:Nd)(u:Value):∀j,j<303->stP (wN fr nd v bad lv bx) (1+i*74) 74 (ndF n u) j=wN fr (dH nd i n) (dH v i u) bad lv bx j:=by
 intro j hj;by_cases c:j<297
 .rw[yX c, <-TT fr nd v i n u j c];unfold stP;split
  .rfl
  .exact yX c
 .rw[mG _ _ Yo];unfold wN;rw[if_neg c,if_neg c]
theorem aMf(fr:Int)(nd:Nat->Nd)(v:Nat->Value)(bad:Int)(lv:Value)(bx:Nat->Value)(i:Nat)(u:Value):∀j,j<303->eQ (wN fr nd v bad lv bx) (299+i) u j=wN fr nd v bad lv (dH bx i u) j:=by grind [wN,kS,Nat.add_sub_cancel_left,bZ,gP,dD]
instance:ZerK Tryz.prog 46 297 (pR 0 (λ_=>dW) (λ_=>gN (none,0) 0)):=⟨λw=>Yl⟩
instance:ZerK Tryz.prog 52 14 (lY (λ_ _=>0) 0 (.slice none 0 0)):=⟨λw=>Yl⟩
instance:ZerK Tryz.prog 81 3 (lyF 0 0 (.slice none 0 0)):=⟨λw=>Yl⟩
instance:ZerK Tryz.prog 57 14 (gH dW):=⟨U3⟩
instance:ZerK Tryz.prog 98 16 (G8 (λ_=>jG) (λ_=>gN (none,0) 0)):=⟨λw=>Yl⟩
variable{f:Operand->Value}{o:Oper}
theorem aBq(ho:o.op=.build 46 #[])(w:World):(execOp f o).run Tryz.prog w=.ok (.value (aP (pR 0 (λ_=>dW) (λ_=>gN (none,0) 0)) 0 297)) w:=by
 unfold execOp;rw[ho]
 kernel_rfl
def oZ(B:Nat)(v:Value)(L:List Lm):It:=⟨λw=>OwnM w B v L,λk=>v.ownBlock=some k\/∃c,c∈L/\(lmV c).ownBlock=some k,
 λh e=>⟨X7 h.1 (λk hk=>e k (h.1.lt k hk).2 (Or.inl hk)),λc hc=>X7 (h.2 c hc) (λk hk=>e k ((h.2 c hc).lt k hk).2 (Or.inr ⟨c,hc,hk⟩))⟩,
 λh e=>by
  rcases e with e|⟨c,hc,e⟩
  .exact (h.1.lt _ e).2
  .exact ((h.2 c hc).lt _ e).2⟩
variable{B:Nat}{L:List Lm}{v:Value}{w:World}
theorem zP(h:OwnM w B v L):∀j,(oZ B v L).foot j->B<=j:=λj e=>by
 rcases e with e|⟨c,hc,e⟩
 .exact (h.1.lt _ e).1
 .exact ((h.2 c hc).lt _ e).1
theorem OwnM.base{C:Nat}(h:OwnM w B v L)(e:C<=B):OwnM w C v L:=⟨dJ h.1 e,λc hc=>dJ (h.2 c hc) e⟩
variable{l:List It}{u:Value}{w' w0:World}
theorem aIh{v':Value}{M:List Lm}(H:Cx w0 w (oZ w0.heap.size v L::oZ w0.heap.size u M::l))(h2:w'.ownsRow w0.heap.size 79 4 v' (L.length+M.length) (uE L++uE M))(h3:w.grownBy w' v.ownBlock)(h4:∀k,v'.ownBlock=some k->v.ownBlock=some k\/w.heap.size<=k):Cx w0 w' (oZ w0.heap.size v' (L++M)::l):=by
 have hL:OwnM w w0.heap.size v L:=H.o0;have hM:OwnM w w0.heap.size u M:=H.o1;have apart:∀c,LY w w0.heap.size c->∀k,(lmV c).ownBlock=some k->some k≠v.ownBlock:=λc hc k hk e=>by
  obtain⟨u1,hu1⟩:=rT hc hk;obtain⟨u2,hu2⟩:=rT hL.1 e.symm;rw[hu1] at hu2
  cases hu2
 have kp:∀c,LY w w0.heap.size c->LY w' w0.heap.size c:=λc hc=>X7 hc (λk hk=>h3.block k (hc.lt k hk).2 (apart c hc k hk))
 have hn:OwnM w' w0.heap.size v' (L++M):=⟨by rw[List.length_append,WN];exact h2,λc hc=>by
  rcases List.mem_append.1 hc with hc|hc
  .exact kp c (hL.2 c hc)
  .exact kp c (hM.2 c hc)⟩
 refine H.merge.a0.put (y:=(oZ w0.heap.size v' (L++M))) ⟨h3.os,h3.tape,h3.output,h3.size,λj h5 h6=>h3.block j h5 (λe=>h6 (Or.inl (Or.inl e.symm))),hn,λj hj=>?_⟩;rcases hj with hj|⟨c,hc,hj⟩
 .rcases h4 j hj with h|h
  .exact Or.inl (Or.inl (Or.inl h))
  .exact Or.inr h
 .rcases List.mem_append.1 hc with hc|hc
  .exact Or.inl (Or.inl (Or.inr ⟨c,hc,hj⟩))
  .exact Or.inl (Or.inr (Or.inr ⟨c,hc,hj⟩))
variable{L':List (Nat×Value)}{Q:Exit->Act->World->Prop}
theorem XA{ops:Array Oper}{A:Act}{rest:List Oper}{d:Nat}{M:List Lm}{s x:Operand}(H:Cx w0 w (oZ w0.heap.size v L::oZ w0.heap.size u M::l))(hl:L.length+M.length<=2932031007401)(h:∀v' w',Cx w0 w' (oZ w0.heap.size v' (L++M)::l)->LstI Tryz.prog ops Q rest (aL A ((d,v')::L')) w')(ho:o.op=.call { callee:=.builtin .append,args:=#[s,x],argTypes:=#[101,101] }:=by rfl)(hs:(aL A L').eval s=v:=by exact Qv)(hx:(aL A L').eval x=u:=by exact Qv)(hd:o.dst=some d:=by rfl)(hw:Region.wanted o (yielded ops (aL A L').tmps)=true:=by exact cB rfl):LstI Tryz.prog ops Q (o::rest) (aL A L') w:=by
 have hL:OwnM w w0.heap.size v L:=H.o0;have hM:OwnM w w0.heap.size u M:=H.o1;exact bJ hd hw (λ_ hK=>F5 ho inferInstance H.size hs hx hL.1 (X3 hM.1) aHR Ym Yo (λv' w' h2 h3 h4=>hK _ _ (h v' w' (aIh H h2 h3 h4))))
variable{c:Lm}
theorem OZ{b:Nat}(h:Vh 79 w b 4 4 (sW c))(hb:B<=b):w.ownsRow B 79 4 (.slice (some ⟨b,0,none⟩) 1 1) 1 (uE [c]):=by
 obtain⟨cur,h1,h2,h3,h4,h5⟩:=h;refine⟨rfl,Or.inr ⟨b,1,cur,rfl,hb,h1,Xr _,by decide,Yo,?_⟩⟩;apply List.ext_getElem?;intro i;rw[List.getElem?_take];by_cases hi:i<1*4
 .rw[if_pos hi,Array.getElem?_toList,h5 i Yo];have:=aAG [c] 0 c rfl i Yo;rw[Nat.zero_mul,Nat.zero_add] at this;exact this.symm
 .rw[if_neg hi,List.getElem?_eq_none (by rw[UQ];exact Nat.le_of_not_lt hi)]
theorem aIi{x:It}(H:Cx w0 w (x::oZ w0.heap.size u [c]::l))(k:Below w.heap.size w w')(m:Vh 79 w' w.heap.size 4 4 (sW c)):Cx w0 w' (x::oZ w0.heap.size (.slice (some ⟨w.heap.size,0,none⟩) 1 1) [c]::l):=by
 have hM:OwnM w w0.heap.size u [c]:=H.o1;refine H.a1.put (y:=(oZ w0.heap.size (.slice (some ⟨w.heap.size,0,none⟩) 1 1) [c])) ⟨k.os,k.tape,k.output,k.size,λj h5 _=>k.block j h5,⟨OZ m H.size,λd hd=>bM (hM.2 d hd) k⟩,λj hj=>?_⟩;rcases hj with hj|hj
 .cases hj;exact Or.inr (Xr _)
 .exact Or.inl (Or.inr hj)
structure Lj where
 y:Ly
 ao:Option Addr
 cap:Nat
def ljV(c:Lj):Value:=.slice c.ao c.y.n c.cap
def JK(c:Lj):Nat->Value:=lyF c.y.ph c.y.wo (ljV c)
def aNk(w:World)(ao:Option Addr)(L:List Lj):Prop:=0<L.length->∃b o,ao=some ⟨b,o,none⟩/\∀i c,L[i]?=some c->∀k,k<3->w.cell? ⟨b,o+i*3+k,none⟩=some (JK c k)
def aCF(w:World)(c:Lj):Prop:=Sr w c.ao c.y.n c.cap (bF c.y.g)/\c.y.n<=c.cap/\c.y.n<=140737488351232/\∀i,c.y.g i<256
def JRd(w:World)(ao:Option Addr)(L:List Lj):Prop:=aNk w ao L/\∀c,c∈L->aCF w c
variable{ao:Option Addr}
theorem JRd.below{L:List Lj}(h:JRd w ao L)(k:Below w.heap.size w w'):JRd w' ao L:=⟨λhl=>by
 obtain⟨b,o,e,hc⟩:=h.1 hl;exact⟨b,o,e,λi c hi j hj=>aU (hc i c hi j hj) k⟩,λc hc=>⟨(h.2 c hc).1.below k,(h.2 c hc).2⟩⟩
variable{n:Nat}
theorem lK{g f:Nat->Value}{o:Nat}(h:∀j,j<n->g (o+j)=f j):aP g o n=aP f 0 n:=by
 unfold aP
 congr 2
 refine List.map_congr_left λj hj=>?_
 rw[h j (List.mem_range.1 hj),Nat.zero_add]
section
variable {P:Program} {Q:Exit->Act->World->Prop} {a:Act} {w:World} {y:Code} {id id2:Nat} {ops:Array Oper}
theorem aKc(h:CodI P y Q a w):CodI P .skip (Exit.inBlock id (Exit.inBlock id2 (Nx P y Q))) a w:=uV h
theorem aAC(h:CodI P y Q a w):LstI P ops (Exit.inBlock id (Exit.inBlock id2 (Nx P y Q))) [] a w:=⟨wpList_nil h⟩
end
section
variable {n:Nd} {s:Nat} {kind:Int} {many:Nat}
theorem aDw(a b:List Ms):iH n (a++b) s kind many=(iH n a s kind many).or (iH n b s kind many):=by
 unfold iH;rw[List.find?_append]
 cases List.find? _ a<;>rfl
theorem aHv{l:List Ms}(h:∀m,m∈l->m.F≠(s:Int)):iH n l s kind many=none:=by
 unfold iH;rw[Option.map_eq_none_iff,List.find?_eq_none];intro m hm c;simp only[Bool.and_eq_true,decide_eq_true_eq] at c;exact h m hm c.1.1.1.1
theorem U6{m:Ms}(h1:m.F=(s:Int))(h2:n.id≠(s:Int))(h3:m.K=kind)(h4:m.R=n.fr)(h5:m.L.length=many)(h6:wrongM m.K m.F m.R m.L.length=0):iH n (yY m) s kind many=some m.L:=by
 unfold iH yY;rw[if_pos h6,List.find?_cons];have e:(decide (m.F=(s:Int))&&decide (m.F≠n.id)&&decide (m.K=kind)&&decide (m.R=n.fr)&&decide (m.L.length=many))=true:=by
  rw[Xt h1,Xt (by rw[h1];exact λe=>h2 e.symm),Xt h3,Xt h4,Xt h5];rfl
 rw[e];rfl
end
theorem aME{wo ph:Int}{l:List Ly}{m:Ms}(h:m∈uD bad wo ph l):m.F=bad:=by
 unfold uD at h;obtain⟨y,_,h2⟩:=List.mem_flatMap.1 h;split at h2
 .simpa using (List.mem_filter.1 h2).2
 .cases h2
theorem aGz{m m':Ms}(h:m'∈yY m):m'=m:=by
 unfold yY at h;split at h
 .simpa using h
 .cases h
variable{s:Nat}{told:Nat->Ms}
theorem yL{x:Ip}{n:Nd}{wo ph:Nat}{kind:Int}{many:Nat}(hF:∀j:Nat,j<4->(j:Int)≠x.bad->(told j).F=(j:Nat))(hs:s≠wo):∀k,k<=4->iH n (oJ x told wo ph k) s kind many=if s<k then (if (s:Int)=x.bad then iH n (uD x.bad wo ph x.ly) s kind many else iH n (yY (told s)) s kind many) else none
 |0,_=>by rw[if_neg Yo];rfl
 |k+1,hk=>by
  have ih:=yL (n:=n) (ph:=ph) (kind:=kind) (many:=many) hF hs k Yo;show iH n (oJ x told wo ph k++_) s kind many=_
  rw[aDw,ih];by_cases c:s=k
  .subst c;rw[if_neg (Nat.lt_irrefl s),if_neg hs,if_pos (Nat.lt_succ_self s)];split
   .rw[Option.none_or]
   .rw[Option.none_or]
  .have e:iH n (if k=wo then [] else if (k:Int)=x.bad then uD x.bad wo ph x.ly else yY (told k)) s kind many=none:=by
    refine aHv λm hm=>?_
    split at hm
    .cases hm
    .split at hm
     .rename_i h;rw[aME hm, <-h];omega
     .rename_i h;rw[aGz hm,hF k Yo h];omega
   rw[e,Option.or_none];by_cases d:s<k
   .rw[if_pos d,if_pos (show s<k+1 by omega)]
   .rw[if_neg d,if_neg (show ¬s<k+1 by omega)]
def T9(H:Nat->Nat->Int)(T:Nat->Nat->Nat->Int)(i s:Nat):Int:=if s=i then H i s else mY (H i s) (T i (o1 i s) s) (T i (o2 i s) s)
theorem four(h:i<4):i=0\/i=1\/i=2\/i=3:=Yo
theorem aKn(a c:Int):mY a c a=a:=by unfold mY;split;rfl;rw[if_pos rfl]
theorem Q4(hi:i<4)(hs:s<4)(h:s≠i):o1 i s<4/\o2 i s<4/\o1 i s≠i/\o1 i s≠s/\o2 i s≠i/\o2 i s≠s/\o1 i s≠o2 i s:=by
 rcases four hi with rfl|rfl|rfl|rfl<;>rcases four hs with rfl|rfl|rfl|rfl<;>first|(exact absurd rfl h)|decide
section
variable {H:Nat->Nat->Int} {T:Nat->Nat->Nat->Int} {bad:Int}
theorem D5(hT:∀i j s:Nat,i<4->j<4->s<4->(i:Int)≠bad->(j:Int)≠bad->j≠i->j≠s->s≠i->T i j s=H j s){v:Int}(hi:i<4)(hs:s<4)(gi:(i:Int)≠bad)(hv:∀j:Nat,j<4->(j:Int)≠bad->H j s=v):T9 H T i s=v:=by
 unfold T9;by_cases e:s=i
 .rw[if_pos e];exact hv i hi gi
 .rw[if_neg e,hv i hi gi];obtain⟨a1,a2,a3,a4,a5,a6,a7⟩:=Q4 hi hs e;by_cases c:((o1 i s:Nat):Int)=bad
  .have c2:((o2 i s:Nat):Int)≠bad:=Yo;rw[hT i (o2 i s) s hi a2 hs gi c2 a5 a6 e,hv _ a2 c2,aKn]
  .rw[hT i (o1 i s) s hi a1 hs gi c a3 a4 e,hv _ a1 c,aHf]
theorem aHc(a b c:Int):mY a b c=mY c a b:=by rw[CR,CQ]
theorem aHb(a b c:Int):mY a b c=mY b c a:=by rw[CQ,CR]
theorem aHd(a b c:Int):mY a b c=mY c b a:=by rw[CR,CQ,CR]
theorem aJe(hT:∀i j s:Nat,i<4->j<4->s<4->(i:Int)≠bad->(j:Int)≠bad->j≠i->j≠s->s≠i->T i j s=H j s){k:Nat}(hi:i<4)(hk:k<4)(hs:s<4)(gi:(i:Int)≠bad)(gk:(k:Int)≠bad)(hb:(s:Int)=bad):T9 H T i s=T9 H T k s:=by
 by_cases e0:i=k
 .rw[e0]
 have ei:s≠i:=Yo;have ek:s≠k:=Yo;unfold T9;rw[if_neg ei,if_neg ek];obtain⟨a1,a2,a3,a4,a5,a6,a7⟩:=Q4 hi hs ei;obtain⟨b1,b2,b3,b4,b5,b6,b7⟩:=Q4 hk hs ek;rw[hT i _ s hi a1 hs gi Yo a3 a4 ei,hT i _ s hi a2 hs gi Yo a5 a6 ei,hT k _ s hk b1 hs gk Yo b3 b4 ek,hT k _ s hk b2 hs gk Yo b5 b6 ek];have h1:o1 i s=k\/o2 i s=k:=Yo;have h2:o1 k s=i\/o2 k s=i:=Yo;rcases h1 with h1|h1<;>rcases h2 with h2|h2
 .have h3:o2 i s=o2 k s:=Yo;rw[h1,h2,h3,CQ]
 .have h3:o2 i s=o1 k s:=Yo;rw[h1,h2,h3,aHb]
 .have h3:o1 i s=o2 k s:=Yo;rw[h1,h2,h3,aHc]
 .have h3:o1 i s=o1 k s:=Yo;rw[h1,h2,h3,aHd]
theorem QI(hT:∀i j s:Nat,i<4->j<4->s<4->(i:Int)≠bad->(j:Int)≠bad->j≠i->j≠s->s≠i->T i j s=H j s)(V:Nat->Int)(hV:∀j s:Nat,j<4->s<4->(j:Int)≠bad->(s:Int)≠bad->H j s=V s){k:Nat}(hi:i<4)(hk:k<4)(hs:s<4)(gi:(i:Int)≠bad)(gk:(k:Int)≠bad):T9 H T i s=T9 H T k s:=by
 by_cases hb:(s:Int)=bad
 .exact aJe hT hi hk hs gi gk hb
 .rw[D5 hT hi hs gi (λj hj g=>hV j s hj hs g hb),D5 hT hk hs gk (λj hj g=>hV j s hj hs g hb)]
end
theorem xS{K F R:Int}(h1:1<=K/\K<=5)(h2:0<=F/\F<=3)(h3:0<=R/\R<=2147483647)(h4:n<=24):wrongM K F R n=0:=by
 unfold wrongM;rw[if_neg Yo,if_neg Yo,if_neg Yo]
section
variable {x:Ip} {c:Cl}
def ndK(x:Ip)(c:Cl)(k i:Nat):Nd:=(nD x c k).nd i
def bxK(x:Ip)(c:Cl)(k i:Nat):List Ms:=(nD x c k).bx i
def H6(x:Ip)(c:Cl)(k i:Nat):Ms:=AC x c.fr (nD x c k) k i
variable{k:Nat}
theorem rQ(h:(i:Int)≠x.bad):ndK x c (k+1) i=phN k (ndK x c k i) c.fr (x.rd i) (bxK x c k i):=by
 show (if (i:Int)=x.bad then _ else _)=_
 rw[if_neg h];rfl
theorem yR(h:(i:Int)≠x.bad):H6 x c k i=phM k (ndK x c k i) c.fr (x.rd i) (bxK x c k i):=by
 show (if (i:Int)=x.bad then _ else _)=_
 rw[if_neg h];rfl
theorem zG:bxK x c (k+1) i=oJ x (H6 x c k) i k 4:=rfl
theorem nd1(h:(i:Int)≠x.bad):ndK x c 1 i=pO (c.nd i) c.fr (x.rd i):=rQ h
theorem nd2(h:(i:Int)≠x.bad):ndK x c 2 i=relN (ndK x c 1 i) (bxK x c 1 i):=rQ h
theorem nd3(h:(i:Int)≠x.bad):ndK x c 3 i=uZ (ndK x c 2 i) (bxK x c 2 i):=rQ h
theorem nd4(h:(i:Int)≠x.bad):ndK x c 4 i=pasN (ndK x c 3 i) (bxK x c 3 i):=rQ h
theorem nd5(h:(i:Int)≠x.bad):ndK x c 5 i=judN (ndK x c 4 i) (bxK x c 4 i):=rQ h
theorem mg0(h:(i:Int)≠x.bad):H6 x c 0 i=oN (c.nd i) c.fr (x.rd i):=yR h
theorem mg1(h:(i:Int)≠x.bad):H6 x c 1 i=vW (ndK x c 1 i) (bxK x c 1 i):=yR h
theorem mg2(h:(i:Int)≠x.bad):H6 x c 2 i=uY (ndK x c 2 i) (bxK x c 2 i):=yR h
theorem mg3(h:(i:Int)≠x.bad):H6 x c 3 i=vR (ndK x c 3 i) (bxK x c 3 i):=yR h
theorem DD(hE:bU x c=0)(hi:i<4):(c.nd i).id=(i:Nat):=(O0 hE).2.2.2 i hi
theorem tK(hE:bU x c=0)(hi:i<4)(g:(i:Int)≠x.bad):ndK x c 1 i={ c.nd i with fr:=c.fr,di:=λs a=>if (s:Int)=(c.nd i).id then x.rd i a else 0,he:=λ_=>0 }:=by
 rw[nd1 g];unfold pO;rw[if_neg (by rw[DD hE hi,mD hi];decide)]
theorem qC(hE:bU x c=0)(hi:i<4)(g:(i:Int)≠x.bad):ndK x c 2 i={ ndK x c 1 i with di:=relD (ndK x c 1 i) (bxK x c 1 i) }:=by
 rw[nd2 g];unfold relN;rw[if_neg (by rw[tK hE hi g];show ¬jV (c.nd i).id=true;rw[DD hE hi,mD hi];decide)]
theorem UJ(hE:bU x c=0)(hi:i<4)(g:(i:Int)≠x.bad):(ndK x c 1 i).id=(i:Nat):=by rw[tK hE hi g];exact DD hE hi
theorem id2(hE:bU x c=0)(hi:i<4)(g:(i:Int)≠x.bad):(ndK x c 2 i).id=(i:Nat):=by rw[qC hE hi g];exact UJ hE hi g
theorem oP(hE:bU x c=0)(hi:i<4)(g:(i:Int)≠x.bad):ndK x c 3 i={ ndK x c 2 i with ag:=decG (ndK x c 2 i) (bxK x c 2 i),us:=decU (ndK x c 2 i) (bxK x c 2 i),ax:=decA (ndK x c 2 i) (bxK x c 2 i),dg:=decD (ndK x c 2 i) (bxK x c 2 i),he:=λs=>if (s:Int)=(ndK x c 2 i).id then decD (ndK x c 2 i) (bxK x c 2 i) else (ndK x c 2 i).he s }:=by
 rw[nd3 g];unfold uZ;rw[if_neg (by rw[id2 hE hi g,mD hi];decide)]
theorem NU(hE:bU x c=0)(hi:i<4)(g:(i:Int)≠x.bad):(ndK x c 3 i).id=(i:Nat):=by rw[oP hE hi g];exact id2 hE hi g
theorem qQ(hE:bU x c=0)(hi:i<4)(g:(i:Int)≠x.bad):ndK x c 4 i={ ndK x c 3 i with he:=pasH (ndK x c 3 i) (bxK x c 3 i) }:=by
 rw[nd4 g];unfold pasN;rw[if_neg (by rw[NU hE hi g,mD hi];decide)]
theorem id4(hE:bU x c=0)(hi:i<4)(g:(i:Int)≠x.bad):(ndK x c 4 i).id=(i:Nat):=by rw[qQ hE hi g];exact NU hE hi g
theorem oW(hE:bU x c=0)(hi:i<4)(g:(i:Int)≠x.bad):ndK x c 5 i={ ndK x c 4 i with vX:=judX (ndK x c 4 i) (bxK x c 4 i),vS:=judS (ndK x c 4 i) (bxK x c 4 i),vA:=(List.range 4).map (judA (ndK x c 4 i) (bxK x c 4 i)),rl:=judR (ndK x c 4 i) (bxK x c 4 i) }:=by
 rw[nd5 g];unfold judN;rw[if_neg (by rw[id4 hE hi g,mD hi];decide)]
theorem id5(hE:bU x c=0)(hi:i<4)(g:(i:Int)≠x.bad):(ndK x c 5 i).id=(i:Nat):=by rw[oW hE hi g];exact id4 hE hi g
theorem fr1(hE:bU x c=0)(hi:i<4)(g:(i:Int)≠x.bad):(ndK x c 1 i).fr=c.fr:=by rw[tK hE hi g]
theorem fr2(hE:bU x c=0)(hi:i<4)(g:(i:Int)≠x.bad):(ndK x c 2 i).fr=c.fr:=by rw[qC hE hi g];exact fr1 hE hi g
theorem fr3(hE:bU x c=0)(hi:i<4)(g:(i:Int)≠x.bad):(ndK x c 3 i).fr=c.fr:=by rw[oP hE hi g];exact fr2 hE hi g
theorem fr4(hE:bU x c=0)(hi:i<4)(g:(i:Int)≠x.bad):(ndK x c 4 i).fr=c.fr:=by rw[qQ hE hi g];exact fr3 hE hi g
theorem fr5(hE:bU x c=0)(hi:i<4)(g:(i:Int)≠x.bad):(ndK x c 5 i).fr=c.fr:=by rw[oW hE hi g];exact fr4 hE hi g
theorem ms0(hE:bU x c=0)(hi:i<4)(g:(i:Int)≠x.bad):H6 x c 0 i=⟨1,(i:Nat),c.fr,[x.rd i 0,x.rd i 1,x.rd i 2]⟩:=by
 rw[mg0 g];unfold oN;rw[if_neg (by rw[DD hE hi,mD hi];decide),DD hE hi]
theorem ms1(hE:bU x c=0)(hi:i<4)(g:(i:Int)≠x.bad):H6 x c 1 i=⟨2,(i:Nat),c.fr,(List.range 12).map λk=>(ndK x c 2 i).di (k/3) (k%3)⟩:=by
 rw[mg1 g,qC hE hi g];unfold vW;rw[if_neg (by rw[UJ hE hi g,mD hi];decide),UJ hE hi g,fr1 hE hi g]
theorem ms2(hE:bU x c=0)(hi:i<4)(g:(i:Int)≠x.bad):H6 x c 2 i=⟨3,(i:Nat),c.fr,[(ndK x c 3 i).dg]⟩:=by
 rw[mg2 g,oP hE hi g];unfold uY;rw[if_neg (by rw[id2 hE hi g,mD hi];decide),id2 hE hi g,fr2 hE hi g]
theorem ms3(hE:bU x c=0)(hi:i<4)(g:(i:Int)≠x.bad):H6 x c 3 i=⟨2,(i:Nat),c.fr,(List.range 4).map (ndK x c 4 i).he⟩:=by
 rw[mg3 g,qQ hE hi g];unfold vR;rw[if_neg (by rw[NU hE hi g,mD hi];decide),NU hE hi g,fr3 hE hi g]
theorem LK(hE:bU x c=0):0<=c.fr/\c.fr<=2147483647:=by have:=(O0 hE).2.1;omega
theorem aMv(hE:bU x c=0)(hi:i<4)(hs:s<4)(g:(i:Int)≠x.bad)(gs:(s:Int)≠x.bad)(h:s≠i):iH (ndK x c 1 i) (bxK x c 1 i) s 1 3=some [x.rd s 0,x.rd s 1,x.rd s 2]:=by
 rw[zG,yL (λj hj gj=>by rw[ms0 hE hj gj]) h 4 (Xr _),if_pos hs,if_neg gs,ms0 hE hs gs];exact U6 rfl (by rw[UJ hE hi g];omega) rfl (by rw[fr1 hE hi g]) rfl (xS (show 1<=(1:Int)/\(1:Int)<=5 by decide) ⟨by show 0<=((s:Nat):Int);omega,by show ((s:Nat):Int)<=3;omega⟩ (LK hE) (by show 3<=24;decide))
theorem aMw(hE:bU x c=0)(hi:i<4)(hs:s<4)(g:(i:Int)≠x.bad)(gs:(s:Int)≠x.bad)(h:s≠i):iH (ndK x c 2 i) (bxK x c 2 i) s 2 12=some ((List.range 12).map λk=>(ndK x c 2 s).di (k/3) (k%3)):=by
 rw[zG,yL (λj hj gj=>by rw[ms1 hE hj gj]) h 4 (Xr _),if_pos hs,if_neg gs,ms1 hE hs gs];exact U6 rfl (by rw[id2 hE hi g];omega) rfl (by rw[fr2 hE hi g]) (by simp) (xS (show 1<=(2:Int)/\(2:Int)<=5 by decide) ⟨by show 0<=((s:Nat):Int);omega,by show ((s:Nat):Int)<=3;omega⟩ (LK hE) (by simp))
theorem aMx(hE:bU x c=0)(hi:i<4)(hs:s<4)(g:(i:Int)≠x.bad)(gs:(s:Int)≠x.bad)(h:s≠i):iH (ndK x c 3 i) (bxK x c 3 i) s 3 1=some [(ndK x c 3 s).dg]:=by
 rw[zG,yL (λj hj gj=>by rw[ms2 hE hj gj]) h 4 (Xr _),if_pos hs,if_neg gs,ms2 hE hs gs];exact U6 rfl (by rw[NU hE hi g];omega) rfl (by rw[fr3 hE hi g]) rfl (xS (show 1<=(3:Int)/\(3:Int)<=5 by decide) ⟨by show 0<=((s:Nat):Int);omega,by show ((s:Nat):Int)<=3;omega⟩ (LK hE) (by show 1<=24;decide))
theorem aMy(hE:bU x c=0)(hi:i<4)(hs:s<4)(g:(i:Int)≠x.bad)(gs:(s:Int)≠x.bad)(h:s≠i):iH (ndK x c 4 i) (bxK x c 4 i) s 2 4=some ((List.range 4).map (ndK x c 4 s).he):=by
 rw[zG,yL (λj hj gj=>by rw[ms3 hE hj gj]) h 4 (Xr _),if_pos hs,if_neg gs,ms3 hE hs gs];exact U6 rfl (by rw[id4 hE hi g];omega) rfl (by rw[fr4 hE hi g]) (by simp) (xS (show 1<=(2:Int)/\(2:Int)<=5 by decide) ⟨by show 0<=((s:Nat):Int);omega,by show ((s:Nat):Int)<=3;omega⟩ (LK hE) (by simp))
variable{a:Nat}
theorem UA(hE:bU x c=0)(hj:j<4)(hs:s<4)(gj:(j:Int)≠x.bad)(gs:(s:Int)≠x.bad)(ha:a<3):(ndK x c 2 j).di s a=x.rd s a:=by
 rw[qC hE hj gj];show relD (ndK x c 1 j) (bxK x c 1 j) s a=_
 unfold relD;by_cases e:s=j
 .subst e;rw[NJ (by rw[UJ hE hj gj])];dsimp only;rw[tK hE hj gj];show (if (s:Int)=(c.nd s).id then x.rd s a else 0)=_
  rw[if_pos (DD hE hj).symm]
 .rw[aMv hE hj hs gj gs e];dsimp only;have:a=0\/a=1\/a=2:=Yo;rcases this with rfl|rfl|rfl<;>rfl
theorem UG(hE:bU x c=0)(hj:j<4)(hs:s<4)(gj:(j:Int)≠x.bad)(gs:(s:Int)≠x.bad):(ndK x c 4 j).he s=(ndK x c 3 s).dg:=by
 rw[qQ hE hj gj];show pasH (ndK x c 3 j) (bxK x c 3 j) s=_
 unfold pasH;by_cases e:s=j
 .subst e;rw[NJ (by rw[NU hE hj gj])];dsimp only;rw[oP hE hj gj];show (if (s:Int)=(ndK x c 2 s).id then decD (ndK x c 2 s) (bxK x c 2 s) else (ndK x c 2 s).he s)=_
  rw[if_pos (id2 hE hj gj).symm]
 .rw[aMx hE hj hs gj gs e];rfl
def tdG(x:Ip)(c:Cl)(a i j s:Nat):Int:=jD (ndK x c 2 i) (bxK x c 2 i) j (3*s+a) 12
theorem VR(hE:bU x c=0)(hi:i<4)(g:(i:Int)≠x.bad):(ndK x c 3 i).ag s a=T9 (λi s=>(ndK x c 2 i).di s a) (tdG x c a) i s:=by
 rw[oP hE hi g];show xP (ndK x c 2 i) (bxK x c 2 i) s ((ndK x c 2 i).di s a) (3*s+a) 12=_
 unfold xP T9 tdG;rw[id2 hE hi g];by_cases e:s=i
 .rw[if_pos e,if_pos (by rw[e])]
 .rw[if_neg e,if_neg Yo];rfl
theorem QH(hE:bU x c=0)(ha:a<3):∀i j s:Nat,i<4->j<4->s<4->(i:Int)≠x.bad->(j:Int)≠x.bad->j≠i->j≠s->s≠i->tdG x c a i j s=(ndK x c 2 j).di s a:=λi j s hi hj hs gi gj h1 _ _=>by
 unfold tdG jD;rw[aMw hE hi hj gi gj h1];dsimp only;rw[List.getD_eq_getElem?_getD,List.getElem?_map,List.getElem?_range Yo];show (ndK x c 2 j).di ((3*s+a)/3) ((3*s+a)%3)=_
 rw[show (3*s+a)/3=s by omega,show (3*s+a)%3=a by omega]
theorem aGE(hE:bU x c=0)(hi:i<4)(hs:s<4)(gi:(i:Int)≠x.bad)(gs:(s:Int)≠x.bad)(ha:a<3):(ndK x c 3 i).ag s a=x.rd s a:=by
 rw[VR hE hi gi];exact D5 (QH hE ha) hi hs gi (λj hj gj=>UA hE hj hs gj gs ha)
theorem aGF(hE:bU x c=0)(hi:i<4)(hk:k<4)(hs:s<4)(gi:(i:Int)≠x.bad)(gk:(k:Int)≠x.bad)(ha:a<3):(ndK x c 3 i).ag s a=(ndK x c 3 k).ag s a:=by
 rw[VR hE hi gi,VR hE hk gk];exact QI (QH hE ha) (λs=>x.rd s a) (λj s hj hs gj gs=>UA hE hj hs gj gs ha) hi hk hs gi gk
def uF(x:Ip)(c:Cl)(i s:Nat):Int:=rH (ndK x c 4 i) (bxK x c 4 i) s
theorem YI(hE:bU x c=0)(hi:i<4)(g:(i:Int)≠x.bad):uF x c i s=T9 (λi s=>(ndK x c 4 i).he s) (λi j s=>jD (ndK x c 4 i) (bxK x c 4 i) j s 4) i s:=by
 unfold uF rH xP T9;rw[id4 hE hi g];by_cases e:s=i
 .rw[if_pos e,if_pos (by rw[e])]
 .rw[if_neg e,if_neg Yo];rfl
theorem VJ(hE:bU x c=0):∀i j s:Nat,i<4->j<4->s<4->(i:Int)≠x.bad->(j:Int)≠x.bad->j≠i->j≠s->s≠i->jD (ndK x c 4 i) (bxK x c 4 i) j s 4=(ndK x c 4 j).he s:=λi j s hi hj hs gi gj h1 _ _=>by
 unfold jD;rw[aMy hE hi hj gi gj h1];dsimp only;rw[List.getD_eq_getElem?_getD,List.getElem?_map,List.getElem?_range hs];rfl
theorem aJJ(hE:bU x c=0)(hi:i<4)(hs:s<4)(gi:(i:Int)≠x.bad)(gs:(s:Int)≠x.bad):uF x c i s=(ndK x c 3 s).dg:=by
 rw[YI hE hi gi];exact D5 (VJ hE) hi hs gi (λj hj gj=>UG hE hj hs gj gs)
theorem aJM(hE:bU x c=0)(hi:i<4)(hk:k<4)(hs:s<4)(gi:(i:Int)≠x.bad)(gk:(k:Int)≠x.bad):uF x c i s=uF x c k s:=by
 rw[YI hE hi gi,YI hE hk gk];exact QI (VJ hE) (λs=>(ndK x c 3 s).dg) (λj s hj hs gj gs=>UG hE hj hs gj gs) hi hk hs gi gk
end
theorem bC:R64 0:=⟨by decide,by decide⟩
theorem vJ{l:List Int}(h:∀x,x∈l->R64 x)(i:Nat):R64 (gL l i):=by
 unfold gL;rw[List.getD_eq_getElem?_getD];rcases Nat.lt_or_ge i l.length with c|c
 .rw[List.getElem?_eq_getElem c];exact h _ (List.getElem_mem c)
 .rw[List.getElem?_eq_none c];exact bC
theorem aGi{a b c:Int}(ha:R64 a)(hb:R64 b):R64 (mY a b c):=by
 unfold mY;split
 .exact ha
 .split
  .exact ha
  .split
   .exact hb
   .exact bC
variable{kind:Int}{many:Nat}{n:Nd}{v:List Int}
theorem aDx(h:iH n (L.map Lm.m) s kind many=some v):∃c,c∈L/\c.m.L=v:=by
 rw[<-nZ] at h;obtain⟨c,h1,h2⟩:=Option.map_eq_some_iff.1 h;exact⟨c,List.mem_of_find?_eq_some h1,h2⟩
theorem XW(hRL:∀m,m∈L->∀i,R64 (gL m.m.L i))(i k many:Nat):R64 (jD n (L.map Lm.m) i k many):=by
 unfold jD
 cases e:iH n (L.map Lm.m) i 2 many with
 |none=>exact bC
 |some v=>
  obtain⟨c,h1,rfl⟩:=aDx e;exact hRL c h1 k
theorem XV(hRL:∀m,m∈L->∀i,R64 (gL m.m.L i)){h:Int}{k:Nat}(hh:R64 h):R64 (xP n (L.map Lm.m) s h k many):=by
 unfold xP;split
 .exact hh
 .exact aGi hh (XW hRL _ _ _)
theorem aLk(n:Nd)(v:Value){a:Nat}(ha:a<3):ndF n v (0+67+a*1)=.int .i64 (n.us a):=by
 unfold ndF;rw[if_neg Yo,if_neg Yo,if_neg Yo,if_neg Yo,if_neg Yo,if_neg Yo,if_neg Yo,if_pos Yo,show 0+67+a*1-67=a by omega];rfl
def NA(n:Nd)(ag:Nat->Nat->Int)(us:Nat->Int)(ax:Nat->St):Nd:={ n with ag:=ag,us:=us,ax:=ax }
def yV(n:Nd)(l:List Ms)(x k:Nat):Int:=if k<x then decU n l k else n.us k
def J2(n:Nd)(l:List Ms)(x k:Nat):St:=if k<x then decA n l k else n.ax k
variable{l:List Ms}{x:Nat}
theorem aJC:(λk=>if k=x then pJ (jI n.rl.I (λs=>decG n l s x) 4) else yV n l x k)=yV n l (x+1):=by
 funext k
 unfold yV;by_cases c:k=x
 .subst c;rw[if_pos rfl,if_pos Yo];rfl
 .rw[if_neg c];by_cases c2:k<x
  .rw[if_pos c2,if_pos Yo]
  .rw[if_neg c2,if_neg Yo]
theorem aMa:yV n l (x+1) x=decU n l x:=by
 unfold yV;rw[if_pos Yo]
theorem aGO:(λk=>if k=x then decA n l x else J2 n l x k)=J2 n l (x+1):=by grind [J2]
theorem aKq{I:Nat}{x:Int}(h:n.id=(I:Int)):(λs:Nat=>if (s:Int)=n.id then x else n.he s)=λs=>if s=I then x else n.he s:=by
 funext s
 rw[h];by_cases e:s=I
 .rw[if_pos Yo,if_pos e]
 .rw[if_neg Yo,if_neg e]
variable{b:Nat->Bool}{f:Nat->Int}
theorem aMB(h:b i=true):jI b f (i+1)=jI b f i++[f i]:=by
 show jI b f i++_=_
 rw[h];rfl
theorem aMA(h:b i=false):jI b f (i+1)=jI b f i:=by
 show jI b f i++_=_
 rw[h];exact List.append_nil _
theorem ZO(hok:NdOK n)(hRL:∀m,m∈L->∀i,R64 (gL m.m.L i))(s a:Nat):R64 (decG n (L.map Lm.m) s a):=XV hRL (hok.di s a)
variable{l:List Int}
theorem aGv(h:∀x,x∈l->R64 x)(i:Nat):R64 ((gZ l).getD i 0):=by
 refine vJ (l:=gZ l) (λx hx=>h x ?_) i;unfold gZ at hx;exact (List.mem_mergeSort).1 hx
theorem aAK(h:∀x,x∈l->R64 x):R64 (pJ l):=by
 unfold pJ;split
 .have h1:=aGv h ((l.length-1)/3);have h2:=aGv h (l.length-1-(l.length-1)/3);unfold R64 at h1 h2 ⊢;omega
 .exact bC
theorem AZ(h:∀s,R64 (f s))(k:Nat):∀x,x∈jI b f k->R64 x:=by
 induction k with
 |zero=>intro x hx;exact absurd hx (List.not_mem_nil)
 |succ k ih=>
  intro x hx;rcases List.mem_append.1 hx with c|c
  .exact ih x c
  .split at c
   .rw[List.mem_singleton.1 c];exact h k
   .exact absurd c (List.not_mem_nil)
theorem aKp(hok:NdOK n)(hRL:∀m,m∈L->∀i,R64 (gL m.m.L i))(a:Nat):R64 (decU n (L.map Lm.m) a):=aAK (AZ (λs=>ZO hok hRL s a) 4)
theorem aLb(l:List Int):jE (gL l) l.length=l:=by
 unfold jE;apply List.ext_getElem?;intro i;rcases Nat.lt_or_ge i l.length with c|c
 .rw[List.getElem?_map,List.getElem?_range c,List.getElem?_eq_getElem c];show some (gL l i)=_
  unfold gL;rw[List.getD_eq_getElem?_getD,List.getElem?_eq_getElem c];rfl
 .rw[List.getElem?_eq_none c,List.getElem?_eq_none (by simpa using c)]
def qI(l:List Ms):Prop:=∀m,m∈l->∀i,R64 (gL m.L i)
structure MsOK (m:Ms):Prop where
 K:R64 m.K
 F:R64 m.F
 R:R64 m.R
 L:∀i,R64 (gL m.L i)
 n:m.L.length<=24
variable{l:List Ms}
theorem DC(h:qI l)(hv:iH n l s kind many=some v)(i:Nat):R64 (v.getD i 0):=by
 unfold iH at hv;obtain⟨m,h1,rfl⟩:=Option.map_eq_some_iff.1 hv;exact h m (List.mem_of_find?_eq_some h1) i
theorem aLQ(h:qI l){v:Int}{k:Nat}(hv:R64 v):R64 (xP n l s v k many):=by
 unfold xP;split
 .exact hv
 .refine aGi hv ?_;unfold jD;split
  .rename_i u e;exact DC h e k
  .exact bC
theorem aGA(h:x<=4294967295):R64 ((x:Nat):Int):=by unfold R64;omega
theorem WE(ax:Nat->St)(r:Rl):R64 (IZ ax r):=aGA (Nat.sub_le _ _)
theorem aIq{ax:Nat->St}{r:Rl}(h:∀a,(ax a).Ok):∀x,x∈qR ax r->R64 x:=by
 have h1:∀a x,x∈CF (ax a)->R64 x:=λa x hx=>by
  unfold CF at hx;simp only[List.mem_cons,List.not_mem_nil,or_false] at hx;rcases hx with rfl|rfl|rfl|rfl|rfl|rfl|rfl
  .exact (h a).X
  .exact (h a).V
  .exact (h a).P00
  .exact (h a).P01
  .exact (h a).P11
  .unfold R64;split<;>omega
  .exact (h a).M
 have h2:∀(f:Nat->Int) k,R64 (oK f (k+1)):=λf k=>by
  show R64 (wrap64 _)
  unfold R64 wrap64;omega
 intro x hx;unfold qR at hx;simp only[List.mem_append,List.mem_cons,List.not_mem_nil,or_false] at hx;rcases hx with ((hx|hx)|hx)|rfl|rfl|rfl
 .exact h1 0 x hx
 .exact h1 1 x hx
 .exact h1 2 x hx
 .unfold JF R64;split<;>split<;>split<;>split<;>omega
 .exact h2 _ 3
 .exact h2 _ 3
theorem F6:MsOK jG:=⟨bC,bC,bC,λi=>vJ (λx hx=>by cases hx) i,Xz _⟩
section
variable {n:Nd} {l:List Ms}
variable{rd:Nat->Int}
theorem aIZ(h:NdOK n)(hf:R64 fr)(hr:∀a,R64 (rd a)):NdOK (pO n fr rd):=by
 unfold pO;split
 .exact h
 .exact⟨h.id,hf,h.tn,h.ax,h.rM,h.rJ,λs a=>by show R64 (if _ then _ else _);split;exact hr a;exact bC,λ_=>bC,h.ag,h.us,h.dg,h.vX,h.vA⟩
theorem aIY(h:NdOK n)(hf:R64 fr)(hr:∀a,R64 (rd a)):MsOK (oN n fr rd):=by
 unfold oN;split
 .exact⟨bC,bC,bC,λi=>vJ (λx hx=>by cases hx) i,Xz _⟩
 .refine⟨(show R64 1 by unfold R64;decide),h.id,hf,λi=>vJ (λx hx=>?_) i,by show 3<=24;decide⟩;simp only[List.mem_cons,List.not_mem_nil,or_false] at hx;rcases hx with rfl|rfl|rfl<;>exact hr _
theorem aBi(h:NdOK n)(hl:qI l)(s a:Nat):R64 (relD n l s a):=by
 unfold relD;split
 .rename_i v e;exact DC hl e a
 .exact h.di s a
theorem aIC(h:NdOK n)(hl:qI l):NdOK (relN n l):=by
 unfold relN;split
 .exact h
 .exact⟨h.id,h.fr,h.tn,h.ax,h.rM,h.rJ,aBi h hl,h.he,h.ag,h.us,h.dg,h.vX,h.vA⟩
theorem aIB(h:NdOK n)(hl:qI l):MsOK (vW n l):=by
 unfold vW;split
 .exact F6
 .refine⟨(show R64 2 by unfold R64;decide),h.id,h.fr,λi=>vJ (λx hx=>?_) i,by simp⟩;obtain⟨q,_,rfl⟩:=List.mem_map.1 hx;exact aBi h hl _ _
theorem TY(h:NdOK n)(hl:qI l)(s a:Nat):R64 (decG n l s a):=aLQ hl (h.di s a)
theorem aHj(h:NdOK n)(hl:qI l)(a:Nat):R64 (decU n l a):=aAK (AZ (λs=>TY h hl s a) 4)
theorem aHi(h:NdOK n)(hl:qI l):NdOK (uZ n l):=by
 unfold uZ;split
 .exact h
 .exact⟨h.id,h.fr,h.tn,λa=>aFA (h.ax a) _ _,h.rM,h.rJ,h.di,λs=>by show R64 (if _ then _ else _);split;exact WE _ _;exact h.he s,TY h hl,aHj h hl,WE _ _,h.vX,h.vA⟩
theorem aHh(h:NdOK n)(_:qI l):MsOK (uY n l):=by
 unfold uY;split
 .exact F6
 .refine⟨(show R64 3 by unfold R64;decide),h.id,h.fr,λi=>vJ (λx hx=>?_) i,by show 1<=24;decide⟩;simp only[List.mem_cons,List.not_mem_nil,or_false] at hx;rw[hx];exact WE _ _
theorem aAX(h:NdOK n)(hl:qI l)(s:Nat):R64 (pasH n l s):=by
 unfold pasH;split
 .rename_i v e;exact DC hl e 0
 .exact h.he s
theorem aIn(h:NdOK n)(hl:qI l):NdOK (pasN n l):=by
 unfold pasN;split
 .exact h
 .exact⟨h.id,h.fr,h.tn,h.ax,h.rM,h.rJ,h.di,aAX h hl,h.ag,h.us,h.dg,h.vX,h.vA⟩
theorem aIm(h:NdOK n)(hl:qI l):MsOK (vR n l):=by
 unfold vR;split
 .exact F6
 .refine⟨(show R64 2 by unfold R64;decide),h.id,h.fr,λi=>vJ (λx hx=>?_) i,by simp⟩;obtain⟨q,_,rfl⟩:=List.mem_map.1 hx;exact aAX h hl _
theorem aHJ(h:NdOK n)(hl:qI l):R64 (judX n l):=by
 have hv:∀s,R64 (rH n l s):=λs=>aLQ hl (h.he s)
 have:∀k,R64 (AB (rH n l) n.rl.I k):=by
  intro k
  induction k with
  |zero=>exact bC
  |succ k ih=>
   show R64 (if _ then _ else _)
   split
   .exact hv k
   .exact ih
 exact this 4
theorem aNy(h:NdOK n){A:Nat->Bool}(hg:mI n.rl=true):∀k,k<=4->∀i,R64 ((rnN A n.rl k).1.M i)/\R64 ((rnN A n.rl k).1.J i):=λk hk i=>by
 rcases Nat.lt_or_ge i 4 with c|c
 .have g:=yM.1 (X6 (A:=A) hg k) i c
  cases e:(rnN A n.rl k).1.I i with
  |true=>have:=(gd_in e).1 g;unfold R64;omega
  |false=>have:=(sU e).1 g;unfold R64;omega
 .obtain⟨_,h2,h3⟩:=VA (A:=A) (r:=n.rl) k (j:=i) Yo;rw[h2,h3];exact⟨h.rM i,h.rJ i⟩
theorem aAB(h:NdOK n)(l:List Ms)(i:Nat):R64 ((judR n l).M i)/\R64 ((judR n l).J i):=by
 unfold judR;split
 .unfold stR;split
  .exact⟨bC,bC⟩
  .split
   .exact⟨bC,bC⟩
   .rename_i hg;split
    .exact aNy h (by simpa using hg) 4 (Xr _) i
    .exact⟨h.rM i,h.rJ i⟩
 .exact⟨h.rM i,h.rJ i⟩
theorem aHI(h:NdOK n)(hl:qI l):NdOK (judN n l):=by
 unfold judN;split
 .exact h
 .exact⟨h.id,h.fr,h.tn,h.ax,λi=>(aAB h l i).1,λi=>(aAB h l i).2,h.di,h.he,h.ag,h.us,h.dg,aHJ h hl,by show ((List.range 4).map _).length<=_;rw[List.length_map,List.length_range];decide⟩
theorem aHH(h:NdOK n)(_:qI l):MsOK (vO n l):=by
 unfold vO;split
 .exact F6
 .exact⟨(show R64 5 by unfold R64;decide),h.id,h.fr,λi=>vJ (aIq h.ax) i,by rw[aIp];decide⟩
theorem aGY(h:NdOK n)(hl:qI l):NdOK (gF n l):=by
 unfold gF;split
 .exact h
 .split
  .rename_i v e;split
   .have hv:∀i,R64 (v.getD i 0):=by
     unfold MM at e;split at e
     .obtain⟨p,_,hp⟩:=List.exists_of_findSome?_eq_some e;unfold DU at hp;split at hp
      .rename_i a b e1 e2;split at hp
       .cases hp;exact DC hl e1
       .cases hp
      .cases hp
     .cases e
    have hm:∀(z:Int) (i:Nat),R64 (z/8^(3-i)%8):=λz i=>by unfold R64;omega
    exact⟨h.id,h.fr,h.tn,λa=>⟨hv _,hv _,hv _,hv _,hv _,hv _⟩,λi=>hm _ i,λi=>hm _ i,h.di,h.he,h.ag,h.us,h.dg,h.vX,h.vA⟩
   .exact h
  .exact h
end
variable{rd:Nat->Int}
theorem aLt(k:Nat)(h:NdOK n)(hl:qI l)(hf:R64 fr)(hr:∀a,R64 (rd a)):NdOK (phN k n fr rd l):=by grind [phN,aIZ,aIC,aHi,aIn,aHI]
theorem aBa(k:Nat)(h:NdOK n)(hl:qI l)(hf:R64 fr)(hr:∀a,R64 (rd a)):MsOK (phM k n fr rd l):=by grind [phM,aIY,aIB,aHh,aIm,aHH]
structure IpOK (x:Ip):Prop where
 rd:∀s a,R64 (x.rd s a)
 bad:R64 x.bad
 g:∀y,y∈x.ly->∀i,y.g i<256
def lT(c:Cl):Prop:=R64 c.fr/\∀i,i<4->NdOK (c.nd i)
theorem ZN{n:Nat}{g:Nat->Nat}(hg:∀i,g i<256):∀m,m∈sQ n g->MsOK m:=λm hm=>by
 unfold sQ at hm;split at hm
 .rename_i e;obtain⟨h1,h2,h3,h4,h5,h6,h7⟩:=IX (U4.1 e);simp only[List.mem_cons,List.not_mem_nil,or_false] at hm;subst hm;have a1:=hg 1;have a2:=hg 2;have a3:=aGh hg;refine⟨?_,?_,?_,λi=>vJ (λx hx=>?_) i,?_⟩
  .show R64 ((g 1:Nat):Int);unfold R64;omega
  .show R64 ((g 2:Nat):Int);unfold R64;omega
  .show R64 ((dR g:Nat):Int);unfold R64;omega
  .obtain⟨q,_,rfl⟩:=List.mem_map.1 hx;exact aKm hg q
  .show ((List.range (g 7)).map (dV g)).length<=24
   rw[List.length_map,List.length_range];exact h5
 .cases hm
variable{x:Ip}
theorem aKY(h:IpOK x){wo ph:Int}:∀m,m∈uD x.bad wo ph x.ly->MsOK m:=λm hm=>by
 unfold uD at hm;obtain⟨y,hy,h2⟩:=List.mem_flatMap.1 hm;split at h2
 .exact ZN (h.g y hy) m (List.mem_filter.1 h2).1
 .cases h2
theorem ZC(h:IpOK x){wo ph:Nat}:∀k:Nat,(∀j:Nat,j<k->(j:Int)≠x.bad->MsOK (told j))->∀m,m∈oJ x told wo ph k->MsOK m
 |0,_,m,hm=>by cases hm
 |k+1,ht,m,hm=>by
  rcases List.mem_append.1 hm with c|c
  .exact ZC h k (λj hj g=>ht j Yo g) m c
  .split at c
   .cases c
   .split at c
    .exact aKY h m c
    .rename_i g;rw[aGz c];exact ht k Yo g
theorem MsOK.R'(h:∀m,m∈l->MsOK m):qI l:=λm hm=>(h m hm).L
variable{c:Cl}
theorem F3(hx:IpOK x)(hc:lT c):∀k,(∀i,i<4->NdOK (ndK x c k i))/\(∀i,i<4->∀m,m∈bxK x c k i->MsOK m)
 |0=>⟨hc.2,λi hi m hm=>by cases hm⟩
 |k+1=>by
  obtain⟨h1,h2⟩:=F3 hx hc k;refine⟨λi hi=>?_,λi hi m hm=>?_⟩
  .by_cases g:(i:Int)=x.bad
   .show NdOK (if (i:Int)=x.bad then _ else _)
    rw[if_pos g];exact h1 i hi
   .rw[rQ g];exact aLt k (h1 i hi) (MsOK.R' (h2 i hi)) hc.1 (hx.rd i)
  .refine ZC hx 4 (λj hj g=>?_) m hm;show MsOK (H6 x c k j)
   rw[yR g];exact aBa k (h1 j hj) (MsOK.R' (h2 j hj)) hc.1 (hx.rd j)
theorem aAs(hx:IpOK x)(hc:lT c)(hi:i<4):NdOK (gG x c i):=by
 unfold gG;split
 .exact hc.2 i hi
 .exact aGY ((F3 hx hc 5).1 i hi) (MsOK.R' ((F3 hx hc 5).2 i hi))
theorem aGd:NdOK dW:=⟨bC,bC,⟨bC,bC,bC,bC⟩,λ_=>⟨bC,bC,bC,bC,bC,bC⟩,λ_=>bC,λ_=>bC,λ_ _=>bC,λ_=>bC,λ_ _=>bC,λ_=>bC,bC,bC,by show 0<=_;decide⟩
variable{t:Tn}
theorem MC(h:t.Ok)(hi:i<4):NdOK (jH (i:Nat) t):=by
 have e:R64 ((i:Nat):Int):=by unfold R64;omega
 have b:St.beg0.Ok:=⟨bC,bC,by unfold R64;decide,bC,by unfold R64;decide,bC⟩;unfold jH;rw[if_neg (by rw[mD hi];decide)];exact⟨e,bC,h,λ_=>b,λ_=>bC,λ_=>bC,λ_ _=>bC,λ_=>bC,λ_ _=>bC,λ_=>bC,bC,bC,by show 0<=_;decide⟩
theorem FM(h:t.Ok):lT (begC t):=⟨bC,λ_ hi=>MC h hi⟩
theorem frC_ok(hx:IpOK x)(hc:lT c):lT (frC x c):=by
 unfold frC;split
 .rename_i e;have:=(O0 e).2.1;refine⟨?_,λi hi=>aAs hx hc hi⟩;show R64 (c.fr+1)
  unfold R64;omega
 .exact⟨bC,λ_ _=>aGd⟩
end Go.Proofs.YthimcecbgpamdaaGreatDoor
