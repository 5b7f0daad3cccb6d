import Derived.Test.YthimcecbgpamdaaGreatDoorNear227
set_option maxHeartbeats 4000000
set_option maxRecDepth 10000
open Go.Proofs.YthimcecbgpamdaaGreatDoor renaming Qv->G,vhI->η,ndF->μ,slV->ο,rowV->σ,Its->τ,aTY->χ,q_c->ω,aTZ->Γ,aUa->Φ,j_c->Ψ,senN->à,hide->ã,OwnM->ä,MsOK->æ,relD->è,NdOK->ê,relN->ë,relM->ì
open _root_ renaming rfl->δ,if_neg->θ,if_pos->ι,List->ν,absurd->φ,Option->Δ,congrArg->Ω,Bool->â,Array->å
open Go.Value renaming slice->ε,int->π,pointer->ψ,int->í,bool->î,tuple->ï
open Option renaming some->ζ
open Go.Proofs.Tryz renaming prog->κ
open Go.IntKind renaming i64->ξ
open Go renaming Calls->ρ,execOp->υ,World->Θ,Act->Λ,Addr->á,Oper->é,Operand->ñ,TypeId->ò
open List renaming range->Ξ,length->ç
open Go.Exit renaming inBlock->ð
namespace Go.Proofs.YthimcecbgpamdaaGreatDoor
section
open Go.RowKit
variable{i:Nat}
theorem aAI{f:Nat->Int}{n}(hi:i<n):gL ((Ξ n).map f) i=f i:=by unfold gL;grind
theorem LV(ao)(len cap)g(w)(hg:∀i,g i<256)(hl:len<=140737488351232)(hc:len<=cap)(hr:Sr w ao len cap (bF g)):ρ κ 191 #[.slice ao len cap] w λe w'=>∃mo mc M,e=.returned (.slice mo M.length mc)/\M.map Lm.m=vU len g/\ä w' w.heap.size (.slice mo M.length mc) M/\Below w.heap.size w w':=by
 refine bC Tryz.func191 δ 14 δ Yd (λA hs hd hb=>?_);have s:A.iQ 0=ε ao len cap:=hb 0 _ δ;have H:=Bl w;refine aD (aG<|Qz ?_);refine ω (ZG ao len cap g w hg hl hc hr) ?_;rintro e t ⟨E,v,n,rfl,o1,k1⟩;obtain⟨f,l,rfl,p⟩:=dU o1;refine⟨ï #[aX (msF (dN E (g 1):Nat) (dN E (g 2):Nat) (dN E (dR g):Nat) (ε f (dN E (g 7)) l)) 0 4,iY E],δ,?_⟩;replace H:=H.add k1 (fU _ _ _ _ _ _) o1 (λj e=>(o1.lt j e).1);repeat refine qa ?_
 refine gQ H ?_;intro y H C;refine gH H.a0 aZ (fV _ _ _ _ _ _) ?_;intro z H D;refine Qz ?_;refine fB (λh=>?_) (λh=>?_)
 .have a:E≠0:=Xu h;refine Qz ?_;exact aQ (fF (aN YB (bS δ G) ⟨none,0,[],δ,by unfold vU;rw[aGD n a];rfl,OwnM.nil _ _,H.bel⟩))
 have a:E=0:=Ns;subst a;repeat first|refine qa ?_|refine aC ?_|refine aD ?_|refine aH ?_|refine aR ?_
 have m:=AV.2 n;refine bI δ Yw (λK hK=>?_);have d:((Ξ (g 7)).map (dV g)).length=g 7:=by rw[Ao,Ck]
 refine FJ _ _ δ (c:=⟨⟨(g 1:Nat),(g 2:Nat),(dR g:Nat),(Ξ (g 7)).map (dV g)⟩,f,l⟩) (Eq.trans G (by unfold wT lmV;rw[d];rfl)) ?_;intro B q o F;refine hK _ _ ?_;have ho:=bO H.o1 o;refine Qz ?_;refine aQ (aN YB (bS δ G) ⟨_,_,[⟨⟨(g 1:Nat),(g 2:Nat),(dR g:Nat),(Ξ (g 7)).map (dV g)⟩,f,l⟩],δ,by unfold vU;rw[m];rfl,⟨?_,λc hc=>?_⟩,(H.call o).bel⟩)
 .exact OB q (by have:=H.size;omega)
 simp only[Bv,Di,or_false] at hc;subst hc;unfold ZR lmV;rw[d,iW (λi hi=>show iF (gL ((Ξ (g 7)).map (dV g))) i=iF (dV g) i by unfold iF;rw[aAI hi])];exact ho
theorem KQ(bad wo ph)(l):(BC bad wo ph l).length<=l.length:=by
 unfold BC;induction l with
 |nil=>exact Xr _
 |cons y l ih=>
  rw[List.flatMap_cons,Ag,Ai];have:(if y.ph=ph/\y.wo=wo then (vU y.n y.g).filter λm=>decide (m.F=bad) else []).length<=1:=by
   split
   .refine Ap (List.length_filter_le _ _) ?_;unfold vU;split<;>simp
   exact Xz _
  omega
theorem aCC(m)(ao)(cap)(w)(hm:æ m)(hc:m.L.length<=cap)(hr:Sr w ao m.L.length cap (iF (gL m.L))):ρ κ 132 #[lsV m (.slice ao m.L.length cap)] w λe w'=>∃mo mc M,e=.returned (.slice mo M.length mc)/\M.map Lm.m=KD m/\ä w' w.heap.size (.slice mo M.length mc) M/\Below w.heap.size w w':=by
 refine bC Tryz.func132 δ 14 δ Yd (λA hs hd hb=>?_);have S:A.iQ 0=aX (msF m.K m.F m.R (ε ao m.L.length cap)) 0 4:=hb 0 _ δ;have U:=hm.n;have H:=Bl w;refine aD (aG ?_);refine jO H ?_;intro P H W;repeat first|refine qa ?_|refine aC ?_|refine aD ?_
 refine ω (FY m.K m.F m.R ao m.L.length cap (gL m.L) P hm.K hm.F hm.R hm.L Yo hc (hr.below H.bel)) ?_;rintro e y ⟨v,rfl,d,t⟩;obtain⟨q,s,rfl,l⟩:=dU d;refine⟨_,δ,?_⟩;replace H:=H.add t (fU _ _ _ _ _ _) d (λj e=>(d.lt j e).1);repeat first|refine qa ?_|refine aC ?_|refine aD ?_|refine aH ?_
 refine fB (λh=>?_) (λh=>?_)
 .have a:wrongM m.K m.F m.R m.L.length≠0:=Xu h;repeat first|refine qa ?_|refine aC ?_|refine aD ?_|refine aH ?_
  exact aQ (fF (aN YB (bS δ G) ⟨none,0,[],δ,by unfold KD;rw[θ a];rfl,OwnM.nil _ _,H.bel⟩))
 have a:wrongM m.K m.F m.R m.L.length=0:=Ns;have D:rT m.K m.F m.R m.L.length=12+8*m.L.length:=by unfold rT;rw[ι a]
 repeat first|refine qa ?_|refine aC ?_|refine aD ?_|refine aH ?_|refine aR ?_
 have p:Sr y q (rT m.K m.F m.R m.L.length) s (bF (enS m.K m.F m.R m.L.length (gL m.L))):=by obtain⟨Q,T,e,o,_⟩:=iT d;cases e;exact o
 refine ω (LV q (rT m.K m.F m.R m.L.length) s _ y (PY _ _ _ _ _) Yo l p) ?_;rintro e V ⟨mo,mc,M,rfl,I,O,J⟩;refine⟨_,δ,?_⟩;replace H:=H.call J;repeat first|refine qa ?_|refine aC ?_|refine aD ?_
 refine aQ (aN YB (bS δ G) ⟨mo,mc,M,δ,?_,O.base (by have:=t.size;omega),H.bel⟩);rw[I];unfold vU KD;obtain⟨e1,e2,z,B,C⟩:=aAo (f:=gL m.L) a hm.L;rw[D,AV.2 (aGM a),ι δ,ι a,e1,e2,z,B];obtain⟨K,F,R,L⟩:=m;congr 2;refine Gg (λi=>?_);rw[Bu];rcases Ar i L.length with c|c
 .rw[Cr c,Bf c];show ζ (dV _ i)=_;rw[C i c];unfold gL;rw[Bh,Bf c];rfl
 rw[List.getElem?_eq_none c,List.getElem?_eq_none (by simpa using c)];rfl
variable{bad:Int}
theorem tN{wo ph}{l:ν Ly}{y}(h:l[i]?=ζ y):BC bad wo ph (l.take (i+1))=BC bad wo ph (l.take i)++(if y.ph=ph/\y.wo=wo then (vU y.n y.g).filter λm=>decide (m.F=bad) else []):=by unfold BC;rw[List.take_add_one,h,List.flatMap_append];simp
theorem aDT(n)g:(vU n g).length<=1:=by unfold vU;split<;>simp
theorem aFk(b)(fr)(nd:Nat->Nd)v(bad)(lo)(lc)(LL)bx(wo ph)(w)(G0:Vh 104 w b 303 303 (P9 fr nd v bad (.slice lo LL.length lc) bx))(hj:JRd w lo LL)(hl:LL.length<=400):ρ κ 131 #[.pointer (ζ ⟨b,0,none⟩),.int .i64 wo,.int .i64 ph] w λe w'=>∃mo mc M,e=.returned (.slice mo M.length mc)/\M.map Lm.m=BC bad wo ph (LL.map Lj.y)/\ä w' w.heap.size (.slice mo M.length mc) M/\Below w.heap.size w w':=by
 refine bC Tryz.func131 δ 53 δ Yd (λA hs hd hb=>?_);have P:A.iQ 0=iG b:=hb 0 _ δ;have Q:A.iQ 1=iY wo:=hb 1 _ δ;have R:A.iQ 2=iY ph:=hb 2 _ δ;clear hb;have H:=Bl w;refine aD (aG ?_);repeat first|refine qa ?_|refine aC ?_|refine aD ?_|refine aH ?_
 refine aJ ?_;refine bR (λr A W=>∃(i:Nat) (u:Value) (M:ν Lm),i<=LL.length/\LL.length-i<=r/\A.tmps.size=53/\A.defers=[]/\A.iQ 0=iG b/\A.iQ 1=iY wo/\A.iQ 2=iY ph/\A.iQ 15=ε lo LL.length lc/\A.iQ 16=iY (LL.length:Int)/\A.iQ 17=iY (i:Int)/\A.iQ 7=u/\M.map Lm.m=BC bad wo ph ((LL.map Lj.y).take i)/\Cx w W [qO w.heap.size u M]) LL.length
  ⟨0,_,[],Xz _,Yo,YA,YB,G,G,G,G,G,G,G,rfl,H.add (Af _ _) (qO _ _ _) (OwnM.nil _ _) (X0 (OwnM.nil w _))⟩ (λr B W V=>?_)
 clear P Q R hs hd H;obtain⟨i,u,M,hi,hr,hs,hd,P,Q,R,D,I,J,b7,s,H⟩:=V;have a5:M.length<=400:=by have h1:=Ω ç s;have h2:=KQ bad wo ph ((LL.map Lj.y).take i);rw[Ao] at h1;rw[Ea,Ao] at h2;omega
 refine aD (aG ?_);repeat first|refine qa ?_|refine aC ?_|refine aD ?_|refine aH ?_
 refine fB (λh=>?_) (λh=>?_)
 .have hin:i<LL.length:=Mk;have hc:=Bf hin;obtain⟨a,ec⟩:=wZ (LL[i]);rw[<-ec] at hc;have hy:(LL.map Lj.y)[i]?=ζ a.y:=by rw[Bu,hc];rfl
  obtain⟨pb,po,rfl,f⟩:=hj.1 Yo;have f:=f i a hc;have o:=hj.2 a (by rw[ec];exact Dj hin);refine aR<|aH (aJ ?_);refine aD<|qa ?_;refine qg (nR (g:=QW a) ManyK.out (λk hk=>aP (f k hk) H.bel) δ G) ?_;refine gQ H ?_;intro w1 H z1;refine gH H.a0 aZ (KS _ _ _ _ _) ?_;intro w2 H z2;refine aC<|aH<|aD ?_;iterate 3 refine qa ?_
  by_cases h1:a.y.ph=ph
  .refine qg (dO (b:=false) _ _ δ G G (Xf (λe=>e h1)) _) ?_;iterate 4 refine qa ?_
   by_cases h2:a.y.wo=wo
   .refine qg (dO (b:=false) _ _ δ G G (Xf (λe=>e h2)) _) ?_;refine χ ?_;refine aC<|OG rfl (aR ?_);refine aD ?_;iterate 2 refine qa ?_
    refine ω (LV a.ao a.y.n a.cap a.y.g _ o.2.2.2 o.2.2.1 o.2.1 (o.1.below H.bel)) ?_;rintro e w3 ⟨mo,mc,l,rfl,t,O,k3⟩;refine⟨_,δ,?_⟩;have Z:=H.size;replace H:=H.tl.add k3 (qO w.heap.size _ l) (O.base Z) (λj e=>X0 O j e);repeat first|refine qa ?_|refine aC ?_|refine aD ?_
    have hl1:l.length<=1:=by have h3:=Ω ç t;rw[Ao] at h3;have:=aDT a.y.n a.y.g;omega
    refine aJ ?_;refine bR (λr A W=>∃(j:Nat) (u:Value) (q:ν Lm),j<=l.length/\l.length-j<=r/\A.tmps.size=53/\A.defers=[]/\A.iQ 0=iG b/\A.iQ 1=iY wo/\A.iQ 2=iY ph/\A.iQ 15=ε (ζ ⟨pb,po,none⟩) LL.length lc/\A.iQ 16=iY (LL.length:Int)/\A.iQ 17=iY (i:Int)/\A.iQ 33=ε mo l.length mc/\A.iQ 34=iY (l.length:Int)/\A.iQ 35=iY (j:Int)/\A.iQ 7=u/\q.map Lm.m=BC bad wo ph ((LL.map Lj.y).take i)++((vU a.y.n a.y.g).take j).filter (λm=>decide (m.F=bad))/\Cx w W (qO w.heap.size u q::if j=0 then [qO w.heap.size (ε mo l.length mc) l] else [])) l.length
     ⟨0,_,M,Xz _,Yo,YA,YB,G,G,G,G,G,G,G,G,G,G,by rw[s];exact (Be _).symm,H.perm (List.Perm.swap _ _ _)⟩ (λr2 B2 T V=>?_)
    clear P Q R D I J b7 hs hd H;obtain⟨j,u2,q,a6,a9,hs,hd,P,Q,R,D,I,J,a2,a3,a4,b7,p,H⟩:=V;have a1:q.length<=400+1:=by have h3:=Ω ç p;rw[Ag,Ao, <-s,Ao] at h3;have h4:=List.length_filter_le (λm:Ms=>decide (m.F=bad)) ((vU a.y.n a.y.g).take j);rw[Ea] at h4;have:=aDT a.y.n a.y.g;omega
    refine aD (aG ?_);repeat first|refine qa ?_|refine aC ?_|refine aD ?_|refine aH ?_
    refine fB (λh=>?_) (λh=>?_)
    .have X:j<l.length:=Mk;obtain rfl:j=0:=Yo;obtain⟨d,rfl⟩:∃d,l=[d]:=by
      match l,X,hl1 with
      |[d],_,_=>exact⟨d,rfl⟩
     have C:vU a.y.n a.y.g=[d.m]:=t.symm;rw[ι δ] at H;have hO:ä T w.heap.size (ε mo 1 mc) [d]:=H.o1;have a7:d.m.L.length<=24:=by have:=(aGE o.2.2.2 d.m (by rw[C];exact Ee)).n;exact this
     obtain⟨pm,qm,rfl,z⟩:=(hO.rd (λc hc=>by simp at hc;subst hc;omega)).1 (Nat.succ_pos 0);have z:=z 0 d δ;refine aR<|aH (aJ ?_);refine aD<|qa ?_;refine qg (nR (g:=wT d) ManyK.out z δ G) ?_;refine gQ H ?_;intro w5 H z5;refine gH H.a0 aZ (mV _) ?_;intro w6 H z6;refine aC<|aH ?_;replace H:=H.drew;have hS:τ [η 79 T.heap.size 4 4 (wT d),η 104 b 303 303 (P9 fr nd v bad (ε (ζ ⟨pb,po,none⟩) LL.length lc) bx)] w6.drew:=Aj H.o0 (Aj (Vh.below G0 H.bel) (Ak _));refine fI (S:=τ [η 79 T.heap.size 4 4 (wT d),η 104 b 303 303 (P9 fr nd v bad (ε (ζ ⟨pb,po,none⟩) LL.length lc) bx)]) (.mv 0 (.rd 1 (.mv 2 (.mv 3 (.mv 4 (.rd 5 (.mv 6 .fin))))))) [] Yl Yl ?_;repeat first|refine qj ?_|refine qr hS ?_
     refine gM<|fB (λY=>?_) (λY=>?_)
     .have U:d.m.F=bad:=Xu Y;refine aI ?_;iterate 2 refine qa ?_
      refine bI δ Yw (λK hK=>FJ _ _ δ (c:=d) G (λw7 m7 k7 z7=>hK _ _ ?_));replace H:=aOY H.tl k7 m7;refine RP H (by show q.length+1<=_;omega) ?_;intro u8 w8 H;refine qa ?_;refine fK<|aI ?_;repeat refine qa ?_
      exact aU ⟨0,Yo,1,_,q++[d],Xr _,Bq (Gh _),YA,YB,G,G,G,G,G,G,G,G,G,G,by rw[Cb,p,C,Ce];simp[U],H⟩
     have U:d.m.F≠bad:=Xg Y;refine gT<|aI ?_;repeat refine qa ?_
     exact aU ⟨0,Yo,1,_,q,Xr _,Bq (Gh _),YA,YB,G,G,G,G,G,G,G,G,G,G,by rw[p,C];simp[U],H.tl.sub (Gz _ (El _))⟩
    obtain rfl:j=l.length:=Mo;refine bL (BQ ?_);refine aI ?_;repeat refine qa ?_
    exact aU ⟨LL.length-(i+1),Yo,i+1,_,q,Yo,Yo,YA,YB,G,G,G,G,G,Ae G YC,G,by have e:(vU a.y.n a.y.g).take l.length=vU a.y.n a.y.g:=Hy (by rw[<-t,Ao];exact Xr _);rw[tN hy,ι ⟨h1,h2⟩,p,e],H.sub (Gz _ (El _))⟩
   refine Φ ?_;refine χ ?_;refine aC<|X3 rfl ?_;refine bL (Z0 ?_);refine aI ?_;repeat refine qa ?_
   exact aU ⟨LL.length-(i+1),Yo,i+1,_,M,Yo,Yo,YA,YB,G,G,G,G,G,Ae G YC,G,by rw[tN hy,θ (λe=>h2 e.2),Be];exact s,H.tl⟩
  refine Φ ?_;refine qa ?_;iterate 4 refine bP ?_
  refine Γ ?_;refine aC<|X3 rfl ?_;refine bL (Z0 ?_);refine aI ?_;repeat refine qa ?_
  exact aU ⟨LL.length-(i+1),Yo,i+1,_,M,Yo,Yo,YA,YB,G,G,G,G,G,Ae G YC,G,by rw[tN hy,θ (λe=>h1 e.1),Be];exact s,H.tl⟩
 obtain rfl:i=LL.length:=Mo;refine bL (dQ ?_);refine aD ?_;repeat first|refine qa ?_|refine aC ?_|refine aD ?_|refine aH ?_
 have hO:ä W w.heap.size u M:=H.o0;obtain⟨mo,mc,rfl,a8⟩:=dU hO.1;rw[Hy (by rw[Ao];exact Xr _)] at s;exact aQ (aN YB (bS δ G) ⟨mo,mc,M,δ,s,hO,H.bel⟩)
theorem aEK(m):(KD m).length<=1:=by unfold KD;split<;>simp
theorem KM{x:Ip}(h:x.ly.length<=400)(told:Nat->Ms)(wo ph:Nat):∀k,(nO x told wo ph k).length<=400*k
 |0=>Xr _
 |k+1=>by
  have ih:=KM h told wo ph k;show (nO x told wo ph k++_).length<=_;rw[Ag];have:(if k=wo then [] else if (k:Int)=x.bad then BC x.bad wo ph x.ly else KD (told k)).length<=400:=by
   split
   .exact Xz _
   split
   .exact Ap (KQ _ _ _ _) h
   exact Ap (aEK _) Yc
  omega
theorem aFR(x:Ip)(b)(fr)(nd:Nat->Nd)v(lo)(lc)(LL)bx(wo ph:Nat)told(ta:Nat->Δ Addr×Nat)(w)(G0:Vh 104 w b 303 303 (P9 fr nd v x.bad (.slice lo LL.length lc) bx))(hx:x.ly=LL.map Lj.y)(hj:JRd w lo LL)(hl:LL.length<=400)(_:wo<4)(ht:∀j:Nat,j<4->(j)≠x.bad->æ (told j)/\(told j).L.length<=(ta j).2/\Sr w (ta j).1 (told j).L.length (ta j).2 (iF (gL (told j).L))):ρ κ 74 #[.pointer (ζ ⟨b,0,none⟩),.int .i64 wo,.int .i64 ph,aX (FP told (λj=>ο (ta j) (told j).L.length)) 0 16] w λe w'=>∃mo mc M,e=.returned (.slice mo M.length mc)/\M.map Lm.m=nO x told wo ph 4/\ä w' w.heap.size (.slice mo M.length mc) M/\Below w.heap.size w w':=by
 refine bC Tryz.func74 δ 39 δ Yd (λA hs hd hb=>?_);have q:A.iQ 0=iG b:=hb 0 _ δ;have s:A.iQ 1=iY (wo:Int):=hb 1 _ δ;have C:A.iQ 2=iY (ph:Int):=hb 2 _ δ;have S:A.iQ 3=aX (FP told (λj=>ο (ta j) (told j).L.length)) 0 16:=hb 3 _ δ;have H:=Bl w;refine aD (aG ?_);refine jO H ?_;intro p H X;repeat first|refine qa ?_|refine aC ?_|refine aD ?_|refine aH ?_
 refine aJ ?_;refine bR (λr A W=>∃(i:Nat) (u:Value) (M:ν Lm),i<=4/\4-i<=r/\A.tmps.size=39/\A.defers=[]/\A.iQ 0=iG b/\A.iQ 1=iY (wo:Int)/\A.iQ 2=iY (ph:Int)/\A.iQ 12=aX (FP told (λj=>ο (ta j) (told j).L.length)) 0 16/\A.iQ 13=iY (i:Int)/\A.iQ 9=u/\M.map Lm.m=nO x told wo ph i/\Cx w W [qO w.heap.size u M]) 4
  ⟨0,_,[],Xz _,Yo,YA,YB,G,G,G,G,G,G,rfl,H.tl.add (Af _ _) (qO _ _ _) (OwnM.nil _ _) (λj e=>X0 (OwnM.nil p p.heap.size) j e)⟩ (λr B W D=>?_)
 obtain⟨i,u,M,hi,hr,hs,hd,q,s,C,t,z,T,l,H⟩:=D;have F:M.length<=400*i:=by have h1:=Ω ç l;rw[Ao] at h1;rw[h1];exact KM (by rw[hx,Ao];exact hl) told wo ph i
 refine aD (aG ?_);repeat first|refine qa ?_|refine aC ?_|refine aD ?_|refine aH ?_
 refine fB (λh=>?_) (λh=>?_)
 .have hin:i<4:=Mk;refine aR<|aH (aJ ?_);refine aD<|qa ?_;refine qg (Ae (nH _ _ _ _ δ ArrK.out ManyK.out G δ G δ hin _) (by rw[mZ (λj hj=>aRU told (λj=>ο (ta j) (told j).L.length) hj)])) ?_;refine gQ H ?_;intro U H Y;refine qa ?_;refine gH H.a0 aZ (fV _ _ _ _ _ _) ?_;intro V H Z;repeat first|refine qa ?_|refine aC ?_|refine aD ?_
  refine aJ<|aD ?_;repeat first|refine qa ?_|refine aC ?_
  refine fB (λh1=>?_) (λh1=>?_)
  .have e1:i=wo:=by have:=Xu h1;omega
   refine aRe<|aI ?_;repeat refine qa ?_
   exact aU ⟨4-(i+1),Yo,i+1,_,M,Yo,Yo,YA,YB,G,G,G,G,Ae G YC,G,by rw[l];show _=nO x told wo ph i++_;rw[ι e1,Be],H.tl⟩
  have e1:i≠wo:=by have:=Xg h1;omega
  refine aD ?_;repeat first|refine qa ?_|refine aC ?_
  refine fB (λh2=>?_) (λh2=>?_)
  .have e2:(i:Int)=x.bad:=Xu h2;refine aI ?_;iterate 4 refine qa ?_
   have f:=H.size;refine ω (aFk b fr nd v x.bad lo lc LL bx (wo:Int) (ph:Int) _ (Vh.below G0 H.bel) (hj.below H.bel) hl) ?_;rintro e Q ⟨mo,mc,d,rfl,a,c,n⟩;refine⟨_,δ,?_⟩;replace H:=(H.tl.add n (qO w.heap.size _ d) (c.base f) (λj e=>X0 c j e)).perm (List.Perm.swap _ _ _);have hl1:d.length<=400:=by have h3:=Ω ç a;rw[Ao] at h3;have o:=KQ x.bad wo ph (LL.map Lj.y);rw[Ao] at o;omega
   refine RP H Yo ?_;intro P R H;refine qa ?_;refine aHu<|aI ?_;repeat refine qa ?_
   exact aU ⟨4-(i+1),Yo,i+1,_,M++d,Yo,Yo,YA,YB,G,G,G,G,Ae G YC,G,by rw[Cb,l,a];show _=nO x told wo ph i++_;rw[θ e1,ι e2,hx],H⟩
  have e2:(i:Int)≠x.bad:=Xg h2;obtain⟨J,K,O⟩:=ht i hin e2;refine aI ?_;iterate 2 refine qa ?_
  have f:=H.size;refine ω (aCC (told i) (ta i).1 (ta i).2 _ J K (O.below H.bel)) ?_;rintro e Q ⟨mo,mc,d,rfl,a,c,n⟩;refine⟨_,δ,?_⟩;replace H:=(H.tl.add n (qO w.heap.size _ d) (c.base f) (λj e=>X0 c j e)).perm (List.Perm.swap _ _ _);have hl1:d.length<=1:=by have h3:=Ω ç a;rw[Ao] at h3;have o:=aEK (told i);omega
  refine RP H Yo ?_;intro P R H;refine qa ?_;refine aHu<|aI ?_;repeat refine qa ?_
  exact aU ⟨4-(i+1),Yo,i+1,_,M++d,Yo,Yo,YA,YB,G,G,G,G,Ae G YC,G,by rw[Cb,l,a];show _=nO x told wo ph i++_;rw[θ e1,θ e2],H⟩
 obtain rfl:i=4:=Mo;refine bL (dQ ?_);refine aD ?_;repeat first|refine qa ?_|refine aC ?_|refine aD ?_|refine aH ?_
 have hO:ä W w.heap.size u M:=H.o0;obtain⟨mo,mc,rfl,I⟩:=dU hO.1;exact aQ (aN YB (bS δ G) ⟨mo,mc,M,δ,l,hO,H.bel⟩)
def CU(f:Nat->It):It:=⟨λw=>∀i,i<4->(f i).p w,λk=>∃i,i<4/\(f i).foot k,λh e i hi=>(f i).ok (h i hi) (λk h1 h2=>e k h1 ⟨i,hi,h2⟩),λh ⟨i,hi,e⟩=>(f i).lt (h i hi) e⟩
variable{l:ν It}{w w0:Θ}
theorem Cx.wk{x y}(H:Cx w0 w (x::l))(h1:x.p w->y.p w)(h2:∀k,y.foot k->x.foot k):Cx w0 w (y::l):=by
 obtain⟨d,f⟩:=Gf.1 H.dis;refine⟨H.bel,λz a=>?_,λz a j c=>?_,Gf.2 ⟨λz a j h3=>d z a j (h2 j h3),f⟩⟩
 .rcases Bv.1 a with rfl|a
  .exact h1 H.o0
  exact H.it z (Du _ a)
 rcases Bv.1 a with rfl|a
 .exact H.up x Ee j (h2 j c)
 exact H.up z (Du _ a) j c
variable{α:Type}
theorem nX{g:α->It}{D:Nat->α}{y}(i)(H:Cx w0 w (g y::CU (λj=>g (D j))::l)):Cx w0 w (CU (λj=>g (fP D i y j))::l):=by
 refine H.merge.wk (λh j c=>?_) (λk a=>?_)
 .show (g (fP D i y j)).p w;by_cases e:j=i
  .rw[e,dZ];exact h.1
  rw[dI _ _ e];exact h.2 j c
 obtain⟨j,c,a⟩:=a;have a:(g (fP D i y j)).foot k:=a;by_cases e:j=i
 .rw[e,dZ] at a;exact Aa a
 rw[dI _ _ e] at a;exact Ab ⟨j,c,a⟩
abbrev Ad:=Δ Addr×Nat
def zC(B:Nat)(d:Nd×Ad):It:=fU B 4 1 (ο d.2 d.1.vA.length) d.1.vA.length (σ (tF (bA d.1)) d.1.vA.length)
def tlJ(B:Nat)(d:Ms×Ad):It:=fU B 3 1 (ο d.2 d.1.L.length) d.1.L.length (σ (iF (gL d.1.L)) d.1.L.length)
def bxJ(B:Nat)(d:ν Lm×Ad):It:=qO B (ο d.2 d.1.length) d.1
def oU(B:Nat)(D:Nat->Nd×Ad):It:=CU (λi=>zC B (D i))
def XU(B:Nat)(T:Nat->Ms×Ad):It:=CU (λi=>tlJ B (T i))
def AP(B:Nat)(X:Nat->ν Lm×Ad):It:=CU (λi=>bxJ B (X i))
def lM(fr:Int)(D:Nat->Nd×Ad)(bad:Int)(lv:Value)(X:Nat->ν Lm×Ad):Nat->Value:=P9 fr (λi=>(D i).1) (λi=>ο (D i).2 (D i).1.vA.length) bad lv (λi=>ο (X i).2 (X i).1.length)
def U8(T:Nat->Ms×Ad):Nat->Value:=FP (λi=>(T i).1) (λi=>ο (T i).2 (T i).1.L.length)
def kZ(fr:Int)(D:Nat->Nd×Ad):Nat->Value:=tK fr (λi=>(D i).1) (λi=>ο (D i).2 (D i).1.vA.length)
theorem yT{β}(f:α->β)D(i)(y):(λj=>f (fP D i y j))=fP (λj=>f (D j)) i (f y):=by funext j;unfold fP;split<;>rfl
theorem aJk(fr)D(bad)(lv)X(hi:i<4)(d):∀j,j<303->stP (lM fr D bad lv X) (1+i*74) 74 (μ d.1 (ο d.2 d.1.vA.length)) j=lM fr (fP D i d) bad lv X j:=by unfold lM;rw[yT (λd:Nd×Ad=>d.1),yT (λd:Nd×Ad=>ο d.2 d.1.vA.length)];exact aQC _ _ _ _ _ _ hi _ _
theorem aSO(fr)D(bad)(lv)X(i)(d):∀j,j<303->stW (lM fr D bad lv X) (299+i) (ο d.2 d.1.length) j=lM fr D bad lv (fP X i d) j:=by unfold lM;rw[yT (λd:ν Lm×Ad=>ο d.2 d.1.length)];exact aSM _ _ _ _ _ _ _ _
theorem aOM(T:Nat->Ms×Ad)(i)(d):∀j,j<16->stP (U8 T) (i*4) 4 (msF d.1.K d.1.F d.1.R (ο d.2 d.1.L.length)) j=U8 (fP T i d) j:=by unfold U8;rw[yT (λd:Ms×Ad=>d.1),yT (λd:Ms×Ad=>ο d.2 d.1.L.length)];exact aOK _ _ _ _ _
theorem UD(fr)D(i)(d):∀j,j<297->stP (kZ fr D) (1+i*74) 74 (μ d.1 (ο d.2 d.1.vA.length)) j=kZ fr (fP D i d) j:=by unfold kZ;rw[yT (λd:Nd×Ad=>d.1),yT (λd:Nd×Ad=>ο d.2 d.1.vA.length)];exact aDL _ _ _ _ _ _
theorem oN(fr)D:∀j,j<297->(kZ fr D j).oneCell'=true:=AQ _ _ _ _
theorem aOL(T:Nat->Ms×Ad):∀j,j<16->(U8 T j).oneCell'=true:=aOJ _ _ _
section
variable {P:Program} {Q:Exit->Λ->Θ->Prop} {J:Λ->Θ->Prop} {a:Λ} {w:Θ} {x:Code} {id:Nat} {fn:Func} {R:Ending->Θ->Prop}
theorem aTs(h:Q .normal a w):Nx P x (Exit.then J (ð id Q)) (.exit id) a w:=by show (if id=id then _ else _);grind
theorem aRn(hd:a.defers=[])(hr:fn.results=#[])(h:R (.returned (.tuple #[])) w):bodyPost P fn R .normal a w:=⟨hd,ï #[],by simp[results,hr],h⟩
variable{caps:å Value}
theorem aMI{o:é}{K:Λ->Θ->Prop}(c x y:ñ)(T:å ò)(ho:o.op=.call { callee:=.value c,args:=#[x,y],argTypes:=T })(n:Nat){u v:Value}(hc:a.eval c=.func (.func n) #[] caps)(hx:a.eval x=u)(hy:a.eval y=v)(hk:ρ P n (#[u,v]++caps) w R)(h:∀e w',R e w'->∃r,e=.returned r/\K (a.put o.dst r) w')(E:∀args w,(callFunc n args).run P w=.ok (.enter n args) w:=by assumption):WpI P o a w K Q:=by
 refine⟨?_⟩;have e:(υ a.eval o).run P w=.ok (.enter n (#[u,v]++caps)) w:=by unfold υ;rw[ho];simp only[resolve,invoke,Aq,Ay,Aw,Az,hc,hx,hy];go_simp
 unfold Oper.wp;rw[e,Fp];refine hk.mono ?_;intro e w' hr;obtain⟨r,rfl,d⟩:=h e w' hr;exact d
end
theorem aLQ(x:Ip)(b)(fr)D(lo)(lc)(LL)X(ph:Nat)T(w0 w)(l)(H:Cx w0 w (η 104 b 303 303 (lM fr D x.bad (.slice lo LL.length lc) X)::AP w0.heap.size X::XU w0.heap.size T::l))(hx:x.ly=LL.map Lj.y)(hj:JRd w0 lo LL)(hl:LL.length<=400)(hT:∀j:Nat,j<4->(j)≠x.bad->æ (T j).1):ρ κ 34 #[.pointer (ζ ⟨b,0,none⟩),.int .i64 ph,aX (U8 T) 0 16] w λe w'=>e=.returned (.tuple #[])/\∃X',(∀i,i<4->(X' i).1.map Lm.m=nO x (λj=>(T j).1) i ph 4)/\Cx w0 w' (η 104 b 303 303 (lM fr D x.bad (.slice lo LL.length lc) X')::AP w0.heap.size X'::XU w0.heap.size T::l):=by
 refine bC Tryz.func34 δ 21 δ Yd (λA hs hd hb=>?_);have L:A.iQ 0=iG b:=hb 0 _ δ;have p:A.iQ 1=iY (ph:Int):=hb 1 _ δ;have b2:A.iQ 2=aX (U8 T) 0 16:=hb 2 _ δ;refine aD (aG ?_);refine jO H ?_;intro w1 H F;repeat first|refine qa ?_|refine aC ?_|refine aD ?_
 refine aJ<|bR (λr A W=>∃(i:Nat) (X':Nat->ν Lm×Ad),i<=4/\4-i<=r/\A.tmps.size=21/\A.defers=[]/\A.iQ 0=iG b/\A.iQ 1=iY (ph:Int)/\A.iQ 5=iG w.heap.size/\A.iQ 7=iY (i:Int)/\(∀j,j<i->(X' j).1.map Lm.m=nO x (λj=>(T j).1) j ph 4)/\Cx w0 W (η 98 w.heap.size 16 16 (U8 T)::η 104 b 303 303 (lM fr D x.bad (ε lo LL.length lc) X')::AP w0.heap.size X'::XU w0.heap.size T::l)) 4
  ⟨0,X,Xz _,Yo,YA,YB,G,G,G,G,λj h=>φ h (Fv j),H⟩ (λr B W q=>?_)
 obtain⟨i,X',hi,hr,hs,hd,L,p,P,z,J,H⟩:=q;refine aD (aG ?_);repeat first|refine qa ?_|refine aC ?_|refine aD ?_|refine aH ?_
 refine fB (λh=>?_) (λh=>?_)
 .have hin:i<4:=Mk;refine aR<|aH (aJ ?_);refine aD ?_;repeat first|refine qa ?_|refine aC ?_
  replace H:=H.drew;have O:τ [η 98 w.heap.size 16 16 (U8 T)] W.drew:=Aj H.o0 (Ak _);refine fI (S:=τ [η 98 w.heap.size 16 16 (U8 T)]) (.mv 0 (.mv 1 (.mv 2 (.mv 3 (.mv 4 (.rd 5 (.mv 7 (.mv 8 (.go 6 (.mv 9 (.go 10 .fin))))))))))) [10] Yl Yl ?_;repeat first|refine qj ?_|refine qr O ?_
  refine dA δ δ Yw (λK hK=>?_);have d:=H.size;refine qU _ 74 _ _ _ _ _ δ G G G G Yh (aFR x b fr _ _ lo lc LL _ i ph (λj=>(T j).1) (λj=>(T j).2) _ H.v1 hx (hj.below H.bel) hl hin (λj f hb=>?_)) ?_
  .have ho:World.ownsRow _ _ _ _ _ _ _:=H.o3 j f;obtain⟨o,c3,e,I,c⟩:=iT ho;obtain⟨e1,e2⟩:(T j).2.1=o/\(T j).2.2=c3:=by cases e;exact⟨δ,δ⟩
   exact⟨hT j f hb,by rw[e2];exact c,by rw[e1,e2];exact I⟩
  rintro e C ⟨mo,n,M1,rfl,hM1,a,t⟩;replace H:=H.add t (bxJ w0.heap.size (M1,(mo,n))) (a.base d) (λj e=>X0 a j e);refine⟨_,δ,hK _ _ (λ_ _=>Aj H.o1 (Ak _)) ?_⟩;repeat refine qj ?_
  refine dK δ Yw (λK hK=>iO _ _ _ _ δ OneK.out G G H.v2 Yo δ δ δ (λQ y k3 z3=>hK _ (λh=>φ h Yc) ?_));replace H:=H.a2.s k3 (y.congr (λj hj=>Ae (by rw[show 0+299+i*1=299+i by omega];rfl) (aSO fr D x.bad (ε lo LL.length lc) X' i (M1,(mo,n)) j hj)));refine oC<|aI ?_;repeat refine qa ?_
  exact aU ⟨4-(i+1),Yo,i+1,_,Yo,Yo,YA,YB,G,G,G,Ae G YC,λj hj=>(by
   by_cases e:j=i
   .rw[e,dZ];exact hM1
   rw[dI _ _ e];exact J j Yo),(nX (g:=bxJ w0.heap.size) i H.f3.f1).b2⟩
 obtain rfl:i=4:=Mo;refine bL (aTs ?_);exact aRn YB δ ⟨δ,X',J,H.tl⟩
def CZ(D:Nat->Nd×Ad)(j:Nat):Value:=μ (D (j/74)).1 (ο (D (j/74)).2 (D (j/74)).1.vA.length) (j%74)
variable{j:Nat}
theorem UU(D:Nat->Nd×Ad)(hj:j<74):CZ D (i*74+j)=μ (D i).1 (ο (D i).2 (D i).1.vA.length) j:=by unfold CZ;grind
theorem aQD(fr)D(bad)(lv)X(hj:j<296):lM fr D bad lv X (0+0+1+j)=CZ D j:=by unfold lM;rw[BN Yo];unfold tK CZ;grind
theorem aDM(fr)D(hj:j<296):kZ fr D (0+1+j)=CZ D j:=by unfold kZ tK CZ;rw[θ Yo,show 0+1+j-1=j by omega]
theorem aSN(fr)D(bad)(lv)X(_:i<4):lM fr D bad lv X (299+i)=ο (X i).2 (X i).1.length:=by unfold lM P9;grind
def emI:It:=⟨λ_=>True,λ_=>False,λh _=>h,λ_ e=>e.elim⟩
theorem Cx.add2{w'}(H:Cx w0 w l)(k:Below w.heap.size w w')(x y)(hx:x.p w')(hy:y.p w')(fx:∀j,x.foot j->w.heap.size<=j)(fy:∀j,y.foot j->w.heap.size<=j)(hd:∀j,x.foot j->¬y.foot j):Cx w0 w' (x::y::l):=by
 have c:=H.add k y hy fy;have hs:=H.size;refine⟨c.bel,λz a=>?_,λz a j d=>?_,Gf.2 ⟨λz a j h1 h2=>?_,c.dis⟩⟩
 .rcases Bv.1 a with rfl|a
  .exact hx
  exact c.it z a
 .rcases Bv.1 a with rfl|a
  .grind
  exact c.up z a j d
 rcases Bv.1 a with rfl|a
 .grind
 have h3:=fx j h1;have f:=z.lt (H.it z a) h2;omega
def PvC(w0:Θ)(bad:Int)(n:Nat)(caps:å Value)(N:Nat->Nd->ν Ms->Nd)(M:Nat->Nd->ν Ms->Ms)(Ys:Nat->It->Prop)(Dn:Nat->Nd)(Bn:Nat->ν Ms):Prop:=∀(i:Nat) nd ao c mo mc L w y l,i<4->(i)≠bad->nd=Dn i->L.map Lm.m=Bn i->nd.id=(i)->ê nd->zX w nd ao c->MRd w mo L->L.length<=1600->L.length<=mc->(∀m,m∈L->æ m.m)->Ys i y->Cx w0 w (y::l)->
 ρ κ n (#[jX nd (ε ao nd.vA.length c),ε mo L.length mc]++caps) w λe w'=>∃(a1 a2:Ad) (y':It),Ys (i+1) y'/\e=.returned (ï #[jX (N i nd (L.map Lm.m)) (ο a1 (N i nd (L.map Lm.m)).vA.length),lsV (M i nd (L.map Lm.m)) (ο a2 (M i nd (L.map Lm.m)).L.length)])/\Cx w0 w' (zC w0.heap.size (N i nd (L.map Lm.m),a1)::tlJ w0.heap.size (M i nd (L.map Lm.m),a2)::y'::l)
variable{n:Nd}
theorem DR{w'}(H:Cx w0 w l)(k:Below w.heap.size w w'){m}{a1 a2}(h1:sM w.heap.size w' n a1.1 a1.2)(h2:BU w.heap.size w' m a2.1 a2.2):Cx w0 w' (zC w0.heap.size (n,a1)::tlJ w0.heap.size (m,a2)::l):=by have hs:=H.size;refine H.add2 k _ _ (cO h1 hs) (cO h2 hs) (λj e=>(h1.lt j e).1) (λj e=>(h2.lt j e).1) (λj e1 e2=>?_);obtain⟨d,a⟩:=xU h1 e1;obtain⟨f,c⟩:=xU h2 e2;grind
variable{Bn:Nat->ν Ms}{Dn:Nat->Nd}
theorem aKR{fn}{N:Nd->ν Ms->Nd}{M:Nd->ν Ms->Ms}(h:zY N M fn):PvC w0 bad fn #[] (λ_=>N) (λ_=>M) (λ_ y=>y=emI) Dn Bn:=by intro i I q c F D L w y l hi _ _ _ _ n a f J d j hy H;refine (h I q c F D L w n a f Yo d (λm C=>(j m C).L)).mono ?_;rintro e w' ⟨o,s,p,t,rfl,z,A,B⟩;exact⟨(o,s),(p,t),y,hy,δ,DR H B z A⟩
def WO(bad:Int)(N:Nat->Nd->ν Ms->Nd)(D:Nat->Nd×Ad)(X:Nat->ν Lm×Ad)(i:Nat):Nd:=if i=bad then (D i).1 else N i (D i).1 ((X i).1.map Lm.m)
def doM(bad:Int)(M:Nat->Nd->ν Ms->Ms)(D:Nat->Nd×Ad)(X:Nat->ν Lm×Ad)(i:Nat):Ms:=if i=bad then kQ else M i (D i).1 ((X i).1.map Lm.m)
theorem aAm(b)(fr)(D:Nat->Nd×Ad)(bad)(lv)X(n:Nat)(caps)N(M:Nat->Nd->ν Ms->Ms)Ys(w0 w)(y0)(l)(hE:∀args w,(callFunc n args).run κ w=.ok (.enter n args) w)(hp:PvC w0 bad n caps N M Ys (λi=>(D i).1) (λi=>(X i).1.map Lm.m))(hy0:Ys 0 y0)(hXp:∀i:Nat,i=bad->∀y,Ys i y->Ys (i+1) y)(hid:∀i,i<4->(D i).1.id=(i))(hok:∀i,i<4->ê (D i).1)(hX:∀i,i<4->(X i).1.length<=1600/\∀c,c∈(X i).1->æ c.m)(H:Cx w0 w (oU w0.heap.size D::y0::η 104 b 303 303 (lM fr D bad lv X)::AP w0.heap.size X::l)):ρ κ 35 #[.pointer (ζ ⟨b,0,none⟩),.func (.func n) #[] caps] w λe w'=>∃(D':Nat->Nd×Ad) (T:Nat->Ms×Ad) (y':It),Ys 4 y'/\e=.returned (aX (U8 T) 0 16)/\(∀i,i<4->(D' i).1=WO bad N D X i)/\(∀i,i<4->(T i).1=doM bad M D X i)/\Cx w0 w' (XU w0.heap.size T::oU w0.heap.size D'::y'::η 104 b 303 303 (lM fr D' bad lv X)::AP w0.heap.size X::l):=by
 refine bC Tryz.func35 δ 45 δ Yd (λA hs hd hb=>?_);have R:A.iQ 0=iG b:=hb 0 _ δ;have U:A.iQ 1=.func (.func n) #[] caps:=hb 1 _ δ;refine aD (aG ?_);refine gQ H ?_;intro P H z1;refine aC<|aD<|gQ H ?_;intro w2 H z2;refine aC<|aH<|aD ?_;iterate 4 refine qa ?_
 refine qg (Ae (bE _ _ δ ManyK.out G H.v4 Yo) (by rw[mZ (λj a=>aQD fr D bad lv X a)])) ?_;repeat first|refine qa ?_|refine aC ?_
 refine aJ ?_;refine bR (λr A W => ∃ (i : Nat) (D' : Nat -> Nd × Ad) (T : Nat -> Ms × Ad) (y : It), Ys i y /\ i <= 4 /\ 4 - i <= r /\ A.tmps.size = 45 /\ A.defers = [] /\ A.iQ 0 = ψ (ζ ⟨b, 0, none⟩) /\ A.iQ 1 = .func (.func n) #[] caps /\ A.iQ 4 = ψ (ζ ⟨w.heap.size, 0, none⟩) /\ A.iQ 5 = ψ (ζ ⟨P.heap.size, 0, none⟩) /\ A.iQ 12 = aX (CZ D) 0 296 /\ A.iQ 13 = iY (i : Int) /\
   (∀j,j<4->(D' j).1=if j<i then WO bad N D X j else (D j).1)/\(∀j,i<=j->D' j=D j)/\(∀j,j<4->(T j).1=if j<i then doM bad M D X j else kQ)/\
   Cx w0 W (XU w0.heap.size T::oU w0.heap.size D'::y::η 98 P.heap.size 16 16 (U8 T)::η 98 w.heap.size 16 16 (U8 (λ_=>(kQ,(none,0))))::η 104 b 303 303 (lM fr D' bad lv X)::AP w0.heap.size X::l)) 4
  ⟨0,D,λ_=>(kQ,(none,0)),y0,hy0,Xz _,Yo,YA,YB,G,G,G,G,G,G,λj _=>(θ (Fv j)).symm,λ_ _=>rfl,λj _=>(θ (Fv j)).symm,
   (H.add (Af _ _) (XU w0.heap.size (λ_=>(kQ,(none,0)))) (λ_ _=>Am _ _ _ _) (λj ⟨_,_,e⟩=>φ e (λe=>nomatch e))).f4.f4.f2⟩ (λr B W hI=>?_)
 obtain⟨i,D',T,y,hy,hi,hr,hs,hd,R,U,b4,b5,V,Y,z,d,C,H⟩:=hI;refine aD (aG ?_);repeat first|refine qa ?_|refine aC ?_|refine aD ?_|refine aH ?_
 refine fB (λh=>?_) (λh=>?_)
 .have hin:i<4:=Mk;refine aR<|aH (aJ ?_);refine aD<|qa ?_;refine qg (Ae (nH _ _ _ _ δ ArrK.out ManyK.out G δ G δ hin _) (by rw[mZ (λj a=>UU D a)])) ?_;refine gQ H ?_;intro w3 H z3;refine qa ?_;refine gH H.a0 aZ (bQ _ _ _ _) ?_;intro I H z4;repeat first|refine qa ?_|refine aC ?_|refine aD ?_
  refine fB (λh1=>?_) (λh1=>?_)
  .have e1:(i:Int)≠bad:=Xu h1;replace H:=H.drew;have O:τ [η 43 W.heap.size 74 74 (μ (D i).1 (ο (D i).2 (D i).1.vA.length)),η 104 b 303 303 (lM fr D' bad lv X)] I.drew:=Aj H.o0 (Aj H.o6 (Ak _));have f:=hX i hin;have q:zX I.drew (D i).1 (D i).2.1 (D i).2.2:=by have ho:World.ownsRow _ _ _ _ _ _ _:=H.o2 i hin;obtain⟨Q,Z,e,p,_⟩:=iT ho;rw[d i (Xr _)] at e p;cases e;exact p
   have o:ä I.drew w0.heap.size (ο (X i).2 (X i).1.length) (X i).1:=H.o7 i hin;have t:(X i).1.length<=(X i).2.2:=by obtain⟨Q,Z,e,h3⟩:=dU o.1;cases e;exact h3
   refine fI (S:=τ [η 43 W.heap.size 74 74 (μ (D i).1 (ο (D i).2 (D i).1.vA.length)),η 104 b 303 303 (lM fr D' bad lv X)]) (.mv 0 (.mv 1 (.mv 2 (.mv 3 (.rd 4 (.mv 5 (.mv 6 (.mv 7 (.mv 8 (.mv 9 (.rd 10 (.mv 15 (.mv 16 (.mv 17 (.go 11 (.mv 12 (.mv 13 (.mv 14 (.mv 18 (.go 19 (.mv 20 (.go 21 .fin)))))))))))))))))))))) [19,21] Yl Yl ?_;iterate 10 first|refine qj ?_|refine qr O ?_
   refine Yr δ O (λ_ H=>Ae (aT _ _ δ OneK.out G H.v1 Yo δ) (by rw[show 0+299+i*1=299+i by omega,aSN _ _ _ _ _ hin])) ?_;repeat refine qj ?_
   refine dA δ δ Yw (λK hK=>aMI _ _ _ _ δ n G G G (hp i (D i).1 (D i).2.1 (D i).2.2 (X i).2.1 (X i).2.2 (X i).1 _ _ _ hin e1 δ δ (hid i hin) (hok i hin) q (o.rd (λc hc=>by have:=(f.2 c hc).n;omega)) f.1 t f.2 hy H.f3) ?_);rintro e w5 ⟨J,L,y2,F,rfl,H⟩;refine⟨_,δ,hK _ _ (λ_ _=>Aj H.o3 (Aj H.o8 (Ak _))) ?_⟩;repeat refine qj ?_
   refine dK δ Yw (λK hK=>aW _ _ _ _ δ ManyK.out G G H.v8 Yo (bQ _ _ _ _) δ (λw6 m6 k6 z6=>hK _ (λh=>φ h Yc) ?_));replace H:=H.a8.s k6 (m6.congr (λj a=>Ae (by rw[show 0+0+1+i*74=1+i*74 by omega];rfl) (aJk fr D' bad lv X hin (N i (D i).1 ((X i).1.map Lm.m),J) j a)));repeat refine qj ?_
   refine dK δ Yw (λK hK=>aW _ _ _ _ δ ManyK.out G G H.v6 Yo (fV _ _ _ _ _ _) δ (λw7 m7 k7 z7=>hK _ (λh=>φ h Yc) ?_));replace H:=H.a6.s k7 (m7.congr (λj a=>Ae (by rw[show 0+i*4=i*4 by omega];rfl) (aOM T i (M i (D i).1 ((X i).1.map Lm.m),L) j a)));refine oC<|aI ?_;repeat refine qa ?_
   refine aU ⟨4-(i+1),Yo,i+1,fP D' i (N i (D i).1 ((X i).1.map Lm.m),J),fP T i (M i (D i).1 ((X i).1.map Lm.m),L),y2,F,Yo,Yo,YA,YB,G,G,G,G,G,Ae G YC,λj a=>?_,λj a=>(dI _ _ Yo).trans (d j Yo),λj a=>?_,
    (nX (g:=tlJ w0.heap.size) i (nX (g:=zC w0.heap.size) i H.f5.f1).f4.f2).f3.tl⟩
   .by_cases e:j=i
    .rw[e,dZ,ι Yo];unfold WO;rw[θ e1]
    rw[dI _ _ e,z j a];by_cases e2:j<i
    .rw[ι e2,ι Yo]
    rw[θ e2,θ Yo]
   by_cases e:j=i
   .rw[e,dZ,ι Yo];unfold doM;rw[θ e1]
   rw[dI _ _ e,C j a];by_cases e2:j<i
   .rw[ι e2,ι Yo]
   rw[θ e2,θ Yo]
  have e1:(i:Int)=bad:=by have:=Xg h1;omega
  refine gT<|aI ?_;repeat refine qa ?_
  refine aU ⟨4-(i+1),Yo,i+1,D',T,y,hXp i e1 y hy,Yo,Yo,YA,YB,G,G,G,G,G,Ae G YC,λj a=>?_,λj a=>d j Yo,λj a=>?_,H.tl⟩
  .rw[z j a];by_cases e:j=i
   .rw[θ Yo,ι Yo];unfold WO;rw[e,ι e1]
   by_cases e2:j<i
   .rw[ι e2,ι Yo]
   rw[θ e2,θ Yo]
  rw[C j a];by_cases e:j=i
  .rw[θ Yo,ι Yo];unfold doM;rw[e,ι e1]
  by_cases e2:j<i
  .rw[ι e2,ι Yo]
  rw[θ e2,θ Yo]
 obtain rfl:i=4:=Mo;refine bL (dQ ?_);refine aD<|qa ?_;refine gH H.a4 aZ (aOL T) ?_;intro w5 H z5;refine aC<|aQ (aN YB (sW rfl G ManyK.out H.v4 (Xr _)) ⟨D',T,y,hy,rfl,λj a=>?_,λj a=>?_,H.f4.tl.f3.tl⟩)
 .rw[z j a,ι a]
 rw[C j a,ι a]
variable{f:ñ->Value}{o:é}
theorem aIm(ho:o.op=.build 38 #[])(w):(υ f o).run κ w=.ok (.value (aX (λ_=>iV 0) 0 12)) w:=by go_simp;rfl
theorem aBm:aQP 69:=by
 intro n ao c frame rd w m f z hrd;have f:Sr w ao n.vA.length c (tF (bA n)):=f;refine bC Tryz.func69 δ 31 δ Yd (λA hs hd hb=>?_);have b0:A.iQ 0=jX n (ε ao n.vA.length c):=hb 0 _ δ;have O:A.iQ 1=iY frame:=hb 1 _ δ;have b2:A.iQ 2=aX (λa=>iV (rd a)) 0 3:=hb 2 _ δ;refine aD (aG ?_);refine jO (Bl w) ?_;intro C H z1;refine jO H ?_;intro w0 H U;refine gQ H ?_;intro Q H V;refine gQ H ?_;intro w3 H z3;refine aC<|aD<|qg (bE _ _ rfl ManyK.out G H.v3 Yo) ?_;refine ω (show ρ _ _ #[aX (μ n (ε ao n.vA.length c)) 0 74] _ _ from zS n ao c _ (f.below H.bel) m.vA) ?_;rintro e R ⟨a3,d,rfl,o4,B⟩;refine⟨aX (μ n (ε a3 n.vA.length d)) 0 74,δ,?_⟩;have hsz:=H.size;replace H:=H.add B (fU w.heap.size 4 1 (ε a3 n.vA.length d) n.vA.length (σ (tF (bA n)) n.vA.length)) (cO o4 hsz) (λj e=>(o4.lt j e).1);refine gH H.a4 aZ (bQ _ _ _ _) ?_;intro w5 H W;refine aC<|aH<|aD<|qa ?_;refine qg (aT (v:=iY n.id) _ _ δ OneK.out G H.v4 Yo δ) ?_;refine ω (lI n.id _) ?_;rintro e T ⟨rfl,k6⟩;refine⟨_,δ,?_⟩;replace H:=H.call k6;refine qg (tZ _ _ δ G _) ?_;refine aC ?_;cases hno:kR n.id with
 |true=>refine aS G ?_;refine aD<|qg (bE _ _ rfl ManyK.out G H.v4 Yo) ?_;refine qg (oH δ _) ?_;refine gH H.a2 aZ (bQ _ _ _ _) ?_;intro F H z7;refine gH H.a1 aZ (fV _ _ _ _ _ _) ?_;intro w8 H L;refine aC ?_;rw[show à n frame rd=n by unfold à;rw[ι hno],show mO n frame rd=kQ by unfold mO;rw[ι hno]];exact aQ (fF (aN YB (iC δ G G ManyK.out ManyK.out H.v2 (Xr _) H.v1 (Xr _)) ⟨a3,d,none,0,δ,H.o0,Am _ _ _ _,H.bel⟩))
 |false=>
  obtain⟨P,h3⟩:=tQ hno;obtain⟨I,t⟩:∃I:Nat,n.id=(I:Int):=⟨n.id.toNat,Yo⟩;have l:I<4:=Yo;refine aO G (aR ?_);refine aD ?_;iterate 2 refine qa ?_
  refine kX H.a4 (aJe _ _ _) ?_;intro F H z7;refine aC<|aD<|qg (aIm rfl _) ?_;refine qa ?_;refine gH H.a4 (aJd _ _ (λ_ _=>0)) (λj hj=>rfl) ?_;intro w8 H L;refine aC<|aD<|qa ?_;refine qg (aT (v:=iY n.id) _ _ δ OneK.out G H.v4 Yo δ) ?_;refine qg (bE _ _ δ ManyK.out G H.v3 Yo) ?_;refine qa ?_;refine qg (bB _ _ _ _ δ ArrK.out SizK.out G G t l _) ?_;refine gH H.a4 (PD _ _ rd I l) (λj hj=>rfl) ?_;intro w9 H z9;refine aC<|aD<|qg (aBM rfl _) ?_;refine qa ?_;refine gH H.a4 (aJf _ _ (λ_=>0)) (λj hj=>rfl) ?_;intro q H J;refine aC<|aH ?_;obtain⟨N,eN⟩:∃N:Nd,N={ n with fr:=frame,di:=λs a=>if s=I then rd a else 0,he:=λ_=>0 }:=⟨_,rfl⟩;replace H:=H.drew;have hS:τ [η 43 w.heap.size 74 74 (μ N (ε a3 n.vA.length d))] q.drew:=Aj (by rw[eN];exact H.o4) (Ak _);refine fI (S:=τ [η 43 w.heap.size 74 74 (μ N (ε a3 n.vA.length d))]) (.rd 0 (.rd 1 (.mv 2 (.go 3 (.go 4 (.go 5 .fin)))))) [] Yl Yl ?_;iterate 2 refine oD rfl rfl (λ_ _ _ h=>h) Yw hS (λ_ H=>bE _ _ rfl ManyK.out G H.v0 Yo) ?_
  refine Yk δ (λ_=>yQ _ δ G _) ?_;refine Ψ (xX N (ε a3 n.vA.length d) 1 (ζ ⟨C.heap.size,0,none⟩) 3 3 rd _ (Ab ⟨_,δ,λi hi=>by rw[kC,Ah];exact H.v3.cell hi⟩) Yc) ?_;rintro e w11 ⟨a2,c2,rfl,y,k11⟩;have hsz:=H.size;replace H:=H.add k11 (fU w.heap.size 3 1 (ε a2 3 c2) 3 _) (cO y hsz) (λj e=>(y.lt j e).1);refine⟨_,δ,λ_ _=>Aj (by rw[eN];exact H.o5) (Ak _),?_⟩;refine aUc H.v3 (bQ _ _ _ _) ?_;intro D p o z12;replace H:=H.a3.s o (p.congr aZ);refine⟨λ_ _=>Aj (by rw[eN];exact H.o5) (Ak _),?_⟩;refine aUc H.v2 (fV _ _ _ _ _ _) ?_;intro w13 m13 k13 K;replace H:=H.a2.s k13 (m13.congr aZ);refine⟨λ_ _=>Aj (by rw[eN];exact H.o5) (Ak _),?_⟩;refine gM ?_;have e1:à n frame rd=N:=by
   rw[eN];unfold à;rw[θ Mw];congr 1;funext s a;rw[t];by_cases c:s=I
   .rw[ι c,ι Yo]
   rw[θ c,θ Yo]
  have e2:mO n frame rd=⟨1,N.id,N.fr,[rd 0,rd 1,rd 2]⟩:=by rw[eN];unfold mO;rw[θ Mw]
  rw[e1,e2];exact aQ (aN YB (iC δ G G ManyK.out ManyK.out H.v3 (Xr _) H.v2 (Xr _)) ⟨a3,d,a2,c2,by rw[eN];rfl,H.o1,H.o0,H.bel⟩)
theorem aHj{k l}(h:k.length=l.length)(hg:∀j,j<k.length->gL k j=gL l j):k=l:=by refine List.ext_getElem h (λj h1 h2=>?_);have:=hg j h1;unfold gL at this;grind
def aTU(x y:á)(i:Nat)(k l:ν Int)(W:Θ):Prop:=W.cell? (x.add i)=ζ (π ξ (gL k i))/\W.cell? (y.add i)=ζ (π ξ (gL l i))
variable{ao:Δ á}
theorem aTS{bo}{ac bc}{k l}{W}(hka:Sr w ao k.length ac (iF (gL k)))(hlb:Sr w bo l.length bc (iF (gL l)))(hk:i<k.length)(hl:i<l.length)(K:Below w.heap.size w W):∃x y,ao=ζ x/\bo=ζ y/\aTU x y i k l W:=by
 rcases hka with ⟨_,e,_⟩|⟨x,e,hx⟩
 .omega
 rcases hlb with ⟨_,e2,_⟩|⟨y,e2,hy⟩
 .omega
 exact⟨x,y,e,e2,aP (hx i hk) K,aP (hy i hl) K⟩
theorem CP(k l)(ao bo)(ac bc)(w)(hk:k.length<=140737488351232)(hka:Sr w ao k.length ac (iF (gL k)))(hlb:Sr w bo l.length bc (iF (gL l))):ρ κ 193 #[.slice ao k.length ac,.slice bo l.length bc] w λe w'=>e=.returned (.bool (decide (k=l)))/\Below w.heap.size w w':=by
 refine bC Tryz.func193 δ 26 δ Yd (λA hs hd hb=>?_);have o:A.iQ 0=ε ao k.length ac:=hb 0 _ δ;have p:A.iQ 1=ε bo l.length bc:=hb 1 _ δ;refine aD (aG ?_);refine qa ?_;refine aC<|aH<|aD ?_;iterate 5 refine qa ?_
 refine aC<|fB (λhc=>?_) (λhc=>?_)
 .refine aD<|qa ?_;refine aC ?_;exact aQ (fF (aN YB (bS δ G) ⟨by rw[Xf (λe=>Xu hc (by rw[e]))],Af _ _⟩))
 have m:k.length=l.length:=Jg;refine aR<|aH<|aD ?_;iterate 3 refine qa ?_
 refine aC<|aJ<|bR (λq A W=>∃i:Nat,i<=k.length/\k.length-i<=q/\A.tmps.size=26/\A.defers=[]/\A.iQ 0=ε ao k.length ac/\A.iQ 1=ε bo l.length bc/\A.iQ 12=iY ((k.length:Nat):Int)/\A.iQ 13=iY (i:Int)/\(∀j,j<i->gL k j=gL l j)/\nS w W) k.length ⟨0,Xz _,Yo,YA,YB,G,G,G,G,λj h=>φ h (Fv _),Af _ _⟩ (λq B W z=>?_);obtain⟨i,hi,D,hs,hd,o,p,s,t,f,kB⟩:=z;refine aD (aG ?_);refine qa ?_;refine aC<|aH<|fB (λhc=>?_) (λhc=>?_)
 .have hin:i<k.length:=Jf;obtain⟨x,y,rfl,rfl,d⟩:=aTS hka hlb hin Yo (aY kB);refine aR<|aH (aJ ?_);refine aD ?_;iterate 2 refine qa ?_
  refine aC<|aH<|fI (S:=aTU x y i k l) (.mv 0 (.mv 1 (.mv 2 (.rd 3 (.mv 4 (.mv 5 (.mv 6 (.rd 7 (.mv 8 .fin))))))))) [] Yl Yl ?_;iterate 2 refine qj ?_
  refine Yk δ (λ_=>dF _ _ δ (a:=x) (n:=k.length) (cap:=ac) G G (i:=i) δ Yo _) ?_;refine Yr δ d (λ_ d=>dG _ δ G d.1) ?_;iterate 2 refine qj ?_
  refine Yk δ (λ_=>dF _ _ δ (a:=y) (n:=l.length) (cap:=bc) G G (i:=i) δ Yo _) ?_;refine Yr δ d (λ_ d=>dG _ δ G d.2) ?_;refine qj ?_;refine gM<|fB (λc=>?_) (λc=>?_)
  .refine aD<|qa ?_;refine aC<|aQ ?_;simp only[Nx,ð,Exit.then];exact aN YB (bS δ G) ⟨by rw[Xf (λe=>Xu c (by rw[e]))],aY kB⟩
  have c:gL k i=gL l i:=Classical.not_not.1 (Xg c);refine gT<|aI ?_;iterate 2 refine qa ?_
  exact aU ⟨k.length-(i+1),Yo,i+1,Yo,Yo,YA,YB,G,G,G,Ae G YC,(λj C=>by
   by_cases e:j=i
   .rw[e];exact c
   exact f j Yo),aY kB⟩
 have:=Xg hc;refine bL (dQ ?_);refine aD<|qa ?_;refine aC ?_;exact aQ (aN YB (bS δ G) ⟨by rw[Xt (aHj m (λj C=>f j Yo))],kB⟩)
theorem SH(k l)(ao bo)(ac bc)(w)(hk:k.length<=140737488351232)(hka:Sr w ao k.length ac (iF (gL k)))(hlb:Sr w bo l.length bc (iF (gL l))):ρ κ 108 #[.slice ao k.length ac,.slice bo l.length bc] w λe w'=>e=.returned (.bool (decide (k=l)))/\Below w.heap.size w w':=by
 refine bC Tryz.func108 δ 26 δ Yd (λA hs hd hb=>?_);have o:A.iQ 0=ε ao k.length ac:=hb 0 _ δ;have p:A.iQ 1=ε bo l.length bc:=hb 1 _ δ;refine aD (aG ?_);refine qa ?_;refine aC<|aH<|aD ?_;iterate 5 refine qa ?_
 refine aC<|fB (λhc=>?_) (λhc=>?_)
 .refine aD<|qa ?_;refine aC ?_;exact aQ (fF (aN YB (bS δ G) ⟨by rw[Xf (λe=>Xu hc (by rw[e]))],Af _ _⟩))
 have m:k.length=l.length:=Jg;refine aR<|aH<|aD ?_;iterate 3 refine qa ?_
 refine aC<|aJ<|bR (λq A W=>∃i:Nat,i<=k.length/\k.length-i<=q/\A.tmps.size=26/\A.defers=[]/\A.iQ 0=ε ao k.length ac/\A.iQ 1=ε bo l.length bc/\A.iQ 12=iY ((k.length:Nat):Int)/\A.iQ 13=iY (i:Int)/\(∀j,j<i->gL k j=gL l j)/\nS w W) k.length ⟨0,Xz _,Yo,YA,YB,G,G,G,G,λj h=>φ h (Fv _),Af _ _⟩ (λq B W z=>?_);obtain⟨i,hi,D,hs,hd,o,p,s,t,f,kB⟩:=z;refine aD (aG ?_);refine qa ?_;refine aC<|aH<|fB (λhc=>?_) (λhc=>?_)
 .have hin:i<k.length:=Jf;obtain⟨x,y,rfl,rfl,d⟩:=aTS hka hlb hin Yo (aY kB);refine aR<|aH (aJ ?_);refine aD ?_;iterate 2 refine qa ?_
  refine aC<|aH<|fI (S:=aTU x y i k l) (.mv 0 (.mv 1 (.mv 2 (.rd 3 (.mv 4 (.mv 5 (.mv 6 (.rd 7 (.mv 8 .fin))))))))) [] Yl Yl ?_;iterate 2 refine qj ?_
  refine Yk δ (λ_=>dF _ _ δ (a:=x) (n:=k.length) (cap:=ac) G G (i:=i) δ Yo _) ?_;refine Yr δ d (λ_ d=>dG _ δ G d.1) ?_;iterate 2 refine qj ?_
  refine Yk δ (λ_=>dF _ _ δ (a:=y) (n:=l.length) (cap:=bc) G G (i:=i) δ Yo _) ?_;refine Yr δ d (λ_ d=>dG _ δ G d.2) ?_;refine qj ?_;refine gM<|fB (λc=>?_) (λc=>?_)
  .refine aD<|qa ?_;refine aC<|aQ ?_;simp only[Nx,ð,Exit.then];exact aN YB (bS δ G) ⟨by rw[Xf (λe=>Xu c (by rw[e]))],aY kB⟩
  have c:gL k i=gL l i:=Classical.not_not.1 (Xg c);refine gT<|aI ?_;iterate 2 refine qa ?_
  exact aU ⟨k.length-(i+1),Yo,i+1,Yo,Yo,YA,YB,G,G,G,Ae G YC,(λj C=>by
   by_cases e:j=i
   .rw[e];exact c
   exact f j Yo),aY kB⟩
 have:=Xg hc;refine bL (dQ ?_);refine aD<|qa ?_;refine aC ?_;exact aQ (aN YB (bS δ G) ⟨by rw[Xt (aHj m (λj C=>f j Yo))],kB⟩)
def hrO(id fr:Int)(L:ν Lm)(kind many:Int)(s:Nat):Value:=match fL id fr L (s:Int) kind many with|some c=>lmV c|none=>ε none 0 0
theorem aOs(id fr)(L)(kind many):∀j,j<4->(hrO id fr L kind many j).oneCell'=true:=by intro j _;unfold hrO lmV;split<;>rfl
variable{L:ν Lm}{c:Lm}
theorem uD(hc:L[i]?=ζ c):L.take (i+1)=L.take i++[c]:=by rw[List.take_add_one,hc];rfl
variable{fr kind many:Int}
theorem UK{id s}:fL id fr (L++[c]) s kind many=(fL id fr L s kind many).or (if jI id fr s kind many c.m then ζ c else none):=by simp[fL]
theorem zQ{id}(h:∀s:Nat,s<4->jI id fr s kind many c.m=false\/(fL id fr L s kind many).isSome=true):∀j,j<4->hrO id fr L kind many j=hrO id fr (L++[c]) kind many j:=by grind [hrO,UK]
theorem aRH{id}{f:Nat}(hF:c.m.F=(f))(hn:fL id fr L f kind many=none)(hfit:jI id fr f kind many c.m=true):∀j,j<4->stW (hrO id fr L kind many) (0+f*1) (lmV c) j=hrO id fr (L++[c]) kind many j:=by
 intro j a;by_cases e:j=0+f*1
 .subst e;rw[lL];unfold hrO;rw[UK,Ah,Cs,hn,hfit];rfl
 rw[iR _ _ e];unfold hrO;rw[UK];have e2:jI id fr (j:Int) kind many c.m=false:=by unfold jI;rw[Xf (show ¬c.m.F=(j:Int) by omega)];simp
 grind
variable{mo:Δ á}
theorem aTQ(hmr:MRd w mo L)(kind many)(i):∃(ao:Δ á) (c:Nat) (l:ν Int),hrO n.id n.fr L kind many i=.slice ao l.length c/\Sr w ao l.length c (iF (gL l))/\l.length<=140737488351232/\(((l=[]/\ao=none/\c=0)/\fL n.id n.fr L i kind many=none)\/∃cm,fL n.id n.fr L i kind many=ζ cm/\cm.m.L=l/\l.length=many):=by
 cases h:fL n.id n.fr L (i:Int) kind many with
 |none=>exact⟨none,0,[],by unfold hrO;rw[h];rfl,Aa ⟨rfl,rfl,rfl⟩,Yc,Aa ⟨⟨rfl,rfl,rfl⟩,rfl⟩⟩
 |some cm=>obtain⟨a,d⟩:=qD h;exact⟨cm.ao,cm.cap,cm.m.L,by unfold hrO;rw[h];rfl,(hmr.2 cm a).1,by have:=(hmr.2 cm a).2.2;omega,Ab ⟨cm,rfl,rfl,vZ d⟩⟩
def RlA(a:Λ)(sz b b1 b2:Nat)(v:Value)(i:Nat):Prop:=a.tmps.size=sz/\a.defers=[]/\a.eval (.tmp 2)=ψ (ζ ⟨b,0,none⟩)/\a.eval (.tmp 4)=ψ (ζ ⟨b1,0,none⟩)/\a.eval (.tmp 5)=ψ (ζ ⟨b2,0,none⟩)/\a.eval (.tmp 18)=v/\a.eval (.tmp 19)=π ξ i
instance iPr4_1:ManyK κ 178 4:=⟨QZ⟩
instance iPr4_2:ZerK κ 178 4 (λ_=>.slice none 0 0):=⟨aJt⟩
instance iPr4_3:ArrK κ 178 4 72:=⟨Eg⟩
variable{N b cap:Nat}{g:Nat->Value}{t:ò}
theorem Cx.sw{x}{g':Nat->Value}(H:Cx w0 w (x::η t b N cap g::l))(e:∀j,j<N->g j=g' j):Cx w0 w (x::η t b N cap g'::l):=H.a1.s ⟨rfl,rfl,rfl,Xr _,λ_ _ _=>rfl⟩ (H.v1.congr e)
abbrev HrA(A:Λ)(kind many:Int)(p q r:Nat)(mo:Δ á)(mc l i:Nat):Prop:=A.tmps.size=65/\A.defers=[]/\A.eval (.tmp 2)=π ξ kind/\A.eval (.tmp 3)=π ξ many/\A.eval (.tmp 4)=ψ (ζ ⟨p,0,none⟩)/\A.eval (.tmp 8)=ψ (ζ ⟨q,0,none⟩)/\A.eval (.tmp 9)=ψ (ζ ⟨r,0,none⟩)/\A.eval (.tmp 13)=ε mo l mc/\A.eval (.tmp 14)=π ξ l/\A.eval (.tmp 15)=π ξ i
theorem I5(n)(nv)(mo)(mc)(L)(kind many)(w)(hr:MRd w mo L)(hN:L.length<=140737488351232)(hm:0<many):ρ κ 121 #[jX n nv,.slice mo L.length mc,.int .i64 kind,.int .i64 many] w λe w'=>e=.returned (aX (hrO n.id n.fr L kind many) 0 4)/\Below w.heap.size w w':=by
 refine bC Tryz.func121 δ 65 δ Yd (λA hs hd hb=>?_);have b0:A.iQ 0=aX (μ n nv) 0 74:=hb 0 _ δ;have b1:A.iQ 1=ε mo L.length mc:=hb 1 _ δ;have P:A.iQ 2=iY kind:=hb 2 _ δ;have Q:A.iQ 3=iY many:=hb 3 _ δ;refine aD (aG ?_);refine jO (Bl _) ?_;intro D H z1;refine gQ H ?_;intro I H z2;refine aC<|aD<|gQ H ?_;intro w3 H z3;refine aC<|aH<|aD ?_;iterate 3 refine qa ?_
 refine aC<|aJ ?_;refine bR (λr A W=>∃i:Nat,i<=L.length/\L.length-i<=r/\HrA A kind many w.heap.size D.heap.size I.heap.size mo mc L.length i/\Cx w W [η 178 I.heap.size 4 4 (hrO n.id n.fr (L.take i) kind many),η 178 D.heap.size 4 4 (λ_=>ε none 0 0),η 43 w.heap.size 74 74 (μ n nv)]) L.length
  ⟨0,Xz _,Yo,⟨YA,YB,G,G,G,G,G,G,G,G⟩,H⟩ (λr B W t=>?_)
 obtain⟨i,hi,a5,⟨hs,hd,P,Q,T,U,V,l,o,p⟩,H⟩:=t;refine aD (aG ?_);refine qa ?_;refine aC<|aH<|fB (λhc=>?_) (λhc=>?_)
 .have hin:i<L.length:=Jf;obtain⟨c,ec⟩:=wZ (L[i]);have hc?:L[i]?=ζ c:=by rw[Bf hin,ec]
  obtain⟨X,of,rfl,hq⟩:=(hr.below H.bel).1 Yo;have j:=hq i c hc?;refine aR<|lS (λA W=>HrA A kind many w.heap.size D.heap.size I.heap.size (ζ ⟨X,of,none⟩) mc L.length i/\Cx w W [η 178 I.heap.size 4 4 (hrO n.id n.fr (L.take i++[c]) kind many),η 178 D.heap.size 4 4 (λ_=>ε none 0 0),η 43 w.heap.size 74 74 (μ n nv)]) ?_ (λC O t=>?_)
  .refine aJ<|aD<|qg (dD (i:=i) _ _ _ _ rfl SlcK.out SizK.out G G rfl hin _) ?_;refine qg (nR (g:=wT c) ManyK.out j δ G) ?_;refine gQ H ?_;intro w5 H z5;refine gH H.a0 aZ (mV _) ?_;intro w6 H z6;refine aC<|lS (λA O=>HrA A kind many w.heap.size D.heap.size I.heap.size (ζ ⟨X,of,none⟩) mc L.length i/\A.iQ 11=iG W.heap.size/\A.iQ 12=î (decide (c.m.K=kind)&&decide (c.m.R=n.fr)&&decide ((c.m.L.length:Int)=many))/\O=w6) ?_ (λC O t=>?_)
   .refine aI<|qa ?_;refine qg (aT (v:=iY c.m.K) _ _ δ OneK.out G H.v0 Yo δ) ?_;refine qa ?_;by_cases h1:c.m.K=kind
    .refine Φ ?_;iterate 2 refine qa ?_
     refine qg (aT (v:=iY c.m.R) _ _ δ OneK.out G H.v0 Yo δ) ?_;refine qa ?_;refine qg (aT (v:=iY n.fr) _ _ δ OneK.out G H.v3 Yo δ) ?_;by_cases h2:c.m.R=n.fr
     .refine Φ ?_;refine Γ ?_;iterate 2 refine qa ?_
      refine qg (aT (v:=ε c.ao c.m.L.length c.cap) _ _ δ OneK.out G H.v0 Yo δ) ?_;iterate 2 refine qa ?_
      refine qg (bK (b:=decide ((c.m.L.length:Int)=many)) _ _ δ G G δ _) ?_;refine Γ ?_;refine qa ?_;exact kL ⟨δ,⟨YA,YB,G,G,G,G,G,G,G,G⟩,G,Ae G (by simp[h1,h2]),δ⟩
     refine aUb ?_;refine Γ ?_;refine qa ?_;iterate 5 refine bP ?_
     refine χ ?_;refine qa ?_;exact kL ⟨δ,⟨YA,YB,G,G,G,G,G,G,G,G⟩,G,Ae G (by simp[h2]),δ⟩
    refine aUb ?_;refine qa ?_;iterate 5 refine bP ?_
    refine χ ?_;refine qa ?_;iterate 5 refine bP ?_
    refine χ ?_;refine qa ?_;exact kL ⟨δ,⟨YA,YB,G,G,G,G,G,G,G,G⟩,G,Ae G (by simp[h1]),δ⟩
   obtain⟨⟨hs,hd,P,Q,T,U,V,l,o,p⟩,a2,a3,rfl⟩:=t;refine aD (aG ?_);iterate 2 refine qa ?_
   cases Z:(decide (c.m.K=kind)&&decide (c.m.R=n.fr)&&decide ((c.m.L.length:Int)=many)) with
   |false=>
    iterate 3 refine bP ?_
    refine χ ?_;refine qa ?_;iterate 5 refine bP ?_
    refine χ ?_;refine qa ?_;iterate 6 refine bP ?_
    refine χ ?_;refine aC<|aO G ?_;exact iE ⟨δ,⟨YA,YB,G,G,G,G,G,G,G,G⟩,(H.sw (zQ (λs _=>Or.inl (by unfold jI;rw[Bool.and_assoc,Bool.and_assoc, <-Bool.and_assoc (decide (c.m.K=kind)),Z,Bool.and_false])))).tl⟩
   |true=>
    have S:c.m.K=kind/\c.m.R=n.fr/\(c.m.L.length:Int)=many:=by simpa [and_assoc] using Z
    refine qa ?_;refine qg (aT (v:=iY c.m.F) _ _ δ OneK.out G H.v0 Yo δ) ?_;refine ω (lI c.m.F _) ?_ (hw:=dW δ δ δ G);rintro e w7 ⟨rfl,k7⟩;replace H:=H.call k7;refine⟨_,δ,?_⟩;refine Γ ?_;refine qa ?_;cases q:kR c.m.F with
    |true=>
     iterate 5 refine bP ?_
     refine χ ?_;refine qa ?_;iterate 6 refine bP ?_
     refine χ ?_;refine aC<|aO G ?_;exact iE ⟨δ,⟨YA,YB,G,G,G,G,G,G,G,G⟩,(H.sw (zQ (λs a6=>Or.inl (by unfold jI;rw[Xf (λe=>by rw[e] at q;unfold kR at q;simp at q;omega)];rfl)))).tl⟩
    |false=>
     obtain⟨f,J,y⟩:∃f:Nat,c.m.F=(f:Int)/\f<4:=⟨c.m.F.toNat,by have:=tQ q;omega,by have:=tQ q;omega⟩;refine qa ?_;refine qg (aT (v:=iY c.m.F) _ _ δ OneK.out G H.v0 Yo δ) ?_;refine qa ?_;refine qg (aT (v:=iY n.id) _ _ δ OneK.out G H.v3 Yo δ) ?_;by_cases Y:c.m.F≠n.id
     .refine Φ ?_;refine Γ ?_;iterate 2 refine qa ?_
      refine qg (aT (v:=iY c.m.F) _ _ δ OneK.out G H.v0 Yo δ) ?_;refine qg (bB (i:=f) _ _ _ _ δ ArrK.out SizK.out G G J y _) ?_;cases d:fL n.id n.fr (L.take i) (f:Int) kind many with
      |some c2=>
       obtain⟨_,a⟩:=qD d;have a4:(c2.m.L.length:Int)=many:=by unfold jI at a;simp at a;exact a.2
       refine qg (aT (v:=ε c2.ao c2.m.L.length c2.cap) _ _ δ OneK.out G H.v1 Yo (by unfold hrO;rw[Ah,Cs,d];rfl)) ?_;refine qa ?_;refine aUb ?_;refine Γ ?_;refine aC<|aO G ?_;exact iE ⟨δ,⟨YA,YB,G,G,G,G,G,G,G,G⟩,(H.sw (zQ (λs _=>(Classical.em (c.m.F=(s:Int))).elim (λe=>Ab (by rw[show s=f by omega,d];rfl)) (λe=>Or.inl (by unfold jI;rw[Xf e];rfl))))).tl⟩
      |none=>
       have z:jI n.id n.fr (f:Int) kind many c.m=true:=by unfold jI;rw[Xt J,Xt Y,Xt S.1,Xt S.2.1,Xt S.2.2];rfl
       refine qg (aT (v:=ε none 0 0) _ _ δ OneK.out G H.v1 Yo (by unfold hrO;rw[Ah,Cs,d])) ?_;refine qa ?_;refine Φ ?_;refine Γ ?_;refine aC<|aS G ?_;refine aI<|qa ?_;refine qg (aT (v:=iY c.m.F) _ _ δ OneK.out G H.v0 Yo δ) ?_;refine qa ?_;refine qg (aT (v:=lmV c) _ _ δ OneK.out G H.v0 Yo δ) ?_;refine qg (bB (i:=f) _ _ _ _ δ ArrK.out SizK.out G G J y _) ?_;refine kX H.a1 (aRH J d z) ?_;intro w8 H z8;exact kL ⟨δ,⟨YA,YB,G,G,G,G,G,G,G,G⟩,H.tl⟩
     refine aUb ?_;refine Γ ?_;refine qa ?_;iterate 6 refine bP ?_
     refine χ ?_;refine aC<|aO G ?_;exact iE ⟨δ,⟨YA,YB,G,G,G,G,G,G,G,G⟩,(H.sw (zQ (λs _=>Or.inl (by unfold jI;rw[Xf Y];simp)))).tl⟩
  obtain⟨⟨hs,hd,P,Q,T,U,V,l,o,p⟩,H⟩:=t;refine aI (aG ?_);repeat refine qa ?_
  exact aU ⟨L.length-(i+1),Yo,i+1,Yo,Yo,⟨YA,YB,G,G,G,G,G,G,G,Ae G YC⟩,by rw[uD hc?];exact H⟩
 obtain rfl:i=L.length:=Jg;rw[Hz] at H;refine bL (dQ ?_);refine aD<|qa ?_;refine gH H.a1 aZ (aOs _ _ _ _ _) ?_;intro w4 H z4;refine aC ?_;exact aQ (aN YB (sW δ G ManyK.out H.v1 (Xr _)) ⟨δ,H.bel⟩)
def kM(n:Nd)(L:ν Lm)(p q:Nat):Δ Lm:=match fL n.id n.fr L (p:Int) 5 24,fL n.id n.fr L (q:Int) 5 24 with|some a,ζ b=>if a.m.L=b.m.L then ζ a else none|_,_=>none
def T9(n:Nd)(L:ν Lm):Δ Lm:=prs.findSome? λp=>kM n L p.1 p.2
def CB:Δ Lm->Value
 |some c=>lmV c
 |none=>ε none 0 0
theorem ZW(h:∀p q,p<q->q<4->kM n L p q=none):T9 n L=none:=by unfold T9;rw[List.findSome?_eq_none_iff];intro p a;unfold prs at a;grind
theorem WE{k}(hik:i<k)(hk:k<4)(h:kM n L i k=ζ c)(hb:∀p q,p<q->q<4->(p<i\/(p=i/\q<k))->kM n L p q=none):T9 n L=ζ c:=by
 unfold T9 prs
 match i,k,hik,hk with
 |0,1,_,_=>simp only[List.findSome?,h]
 |0,2,_,_=>simp only[List.findSome?,hb 0 1 Yc Yc Yo,h]
 |0,3,_,_=>simp only[List.findSome?,hb 0 1 Yc Yc Yo,hb 0 2 Yc Yc Yo,h]
 |1,2,_,_=>simp only[List.findSome?,hb 0 1 Yc Yc Yo,hb 0 2 Yc Yc Yo,hb 0 3 Yc Yc Yo,h]
 |1,3,_,_=>simp only[List.findSome?,hb 0 1 Yc Yc Yo,hb 0 2 Yc Yc Yo,hb 0 3 Yc Yc Yo,hb 1 2 Yc Yc Yo,h]
 |2,3,_,_=>simp only[List.findSome?,hb 0 1 Yc Yc Yo,hb 0 2 Yc Yc Yo,hb 0 3 Yc Yc Yo,hb 1 2 Yc Yc Yo,hb 1 3 Yc Yc Yo,h]
 |i+3,k,h1,h2=>exact φ h1 Yo
def sO(i:Nat):Nat:=if 4=i then 0 else i
theorem TF(h:i≠4):sO i=i:=θ (Ne.symm h)
section
variable {f:ñ->Value} {o:é}
variable{z:Int}
theorem aLh(x y)(ho:o.op=.slice 178 x (ζ y) none none)(hx:f x=.pointer (ζ ⟨b,0,none⟩))(hy:f y=.int .i64 z)(hz:z=(i))(hi:i<=4)(w):(υ f o).run κ w=.ok (.value (.slice (ζ ⟨b,sO i,none⟩) (4-i) (4-i))) w:=by have:i=0\/i=1\/i=2\/i=3\/i=4:=Yo;rcases this with rfl|rfl|rfl|rfl|rfl<;>go_simp<;>rfl
theorem aIE(x)(ho:o.op=.call { callee:=.builtin .len,args:=#[x],argTypes:=#[235] }){n c}(hx:f x=.slice ao n c)(w):(υ f o).run κ w=.ok (.value (.int .i64 ((n)))) w:=by unfold υ;rw[ho];dsimp only;go_simp
theorem DW(x y)(ho:o.op=.indexAddr 235 x y){off n}(hx:f x=.slice (ζ ⟨b,off,none⟩) n cap)(hy:f y=.int .i64 z)(hz:z=(i))(hi:i<n)(w):(υ f o).run κ w=.ok (.value (.pointer (ζ ⟨b,off+i,none⟩))) w:=by go_simp
end
def AkA(A:Λ)(h:Nat->Value)(b i x:Nat):Prop:=A.tmps.size=31/\A.defers=[]/\A.eval (.tmp 1)=ψ (ζ ⟨b,0,none⟩)/\A.eval (.tmp 7)=aX h 0 4/\A.eval (.tmp 8)=π ξ i/\A.eval (.tmp 4)=h i/\A.eval (.tmp 14)=ε (ζ ⟨b,sO (i+1),none⟩) (4-(i+1)) (4-(i+1))/\A.eval (.tmp 15)=π ξ ((4-(i+1):Nat))/\A.eval (.tmp 16)=π ξ x
theorem aGl(n)(mo)(L)(w)(hmr:MRd w mo L):ρ κ 134 #[aX (hrO n.id n.fr L 5 24) 0 4] w λe w'=>e=.returned (CB (T9 n L))/\Below w.heap.size w w':=by
 refine bC Tryz.func134 δ 31 δ Yd (λA hs hd hb=>?_);have b0:A.iQ 0=aX (hrO n.id n.fr L 5 24) 0 4:=hb 0 _ δ;obtain⟨h,j⟩:=wZ (hrO n.id n.fr L 5 24);rw[<-j] at b0;refine aD (aG ?_);refine jO (Bl w) ?_;intro w1 H z1;refine qa ?_;refine aC<|aH<|aD<|qg (bE _ _ rfl ManyK.out G H.v0 Yo) ?_;refine qa ?_;refine aC<|aJ<|bR (λq A W=>∃i:Nat,i<=4/\4-i<=q/\A.tmps.size=31/\A.defers=[]/\A.iQ 1=iG w.heap.size/\A.iQ 7=aX h 0 4/\A.iQ 8=iY (i:Int)/\(∀p q,p<q->q<4->p<i->kM n L p q=none)/\Cx w W [η 178 w.heap.size 4 4 h]) 4 ⟨0,Yo,Yo,YA,YB,G,G,G,λp q _ _ h=>φ h Yo,H⟩ (λq B W z=>?_);obtain⟨i,hi,a1,hs,hd,T,U,V,hno,H⟩:=z;refine aD (aG ?_);refine qa ?_;refine aC<|aH<|fB (λhc=>?_) (λhc=>?_)
 .have hin:i<4:=Jf;refine aR<|aH (aJ ?_);refine aD<|qa ?_;refine qg (nG _ _ _ _ δ ArrK.out OneK.out G G δ hin _) ?_;iterate 2 refine qa ?_
  refine aC<|aD ?_;iterate 2 refine qa ?_
  refine qg (aLh (i:=i+1) _ _ δ G G YC Yo _) ?_;refine qg (aIE _ δ G _) ?_;refine qa ?_;refine aC<|aJ<|bR (λq A W=>∃x:Nat,x<=3-i/\3-i-x<=q/\AkA A h w.heap.size i x/\(∀p q,p<q->q<4->(p<i\/(p=i/\q<i+1+x))->kM n L p q=none)/\Cx w W [η 178 w.heap.size 4 4 h]) (3-i) ⟨0,Yo,Yo,⟨YA,YB,G,G,G,G,G,G,G⟩,(λp q h1 h2 h3=>hno p q h1 h2 Yo),H⟩ (λq B W z=>?_);obtain⟨x,hx,a2,⟨hs,hd,T,U,V,y,K,O,P⟩,hno,H⟩:=z;refine aD (aG ?_);refine qa ?_;refine aC<|aH<|fB (λo=>?_) (λo=>?_)
  .have a0:x<3-i:=by have:=Xu o;omega
   have S:sO (i+1)+x=i+1+x:=by rw[TF Yo]
   obtain⟨D,c,l,s,si,nl,Y⟩:=aTQ (n:=n) (hmr.below H.bel) 5 24 i;obtain⟨X,d,J,ek,sk,_,ck⟩:=aTQ (n:=n) (hmr.below H.bel) 5 24 (i+1+x);have f:kM n L i (i+1+x)=if l≠[]/\l=J then fL n.id n.fr L (i:Int) 5 24 else none:=by
    unfold kM;rcases Y with ⟨⟨rfl,_⟩,e⟩|⟨F,e,rfl,ll⟩
    .rw[e,θ (λh=>h.1 δ)]
    have hl:F.m.L≠[]:=λe=>by rw[e] at ll;exact φ ll Yc
    rcases ck with ⟨⟨rfl,_⟩,e2⟩|⟨R,e2,rfl,_⟩
    .rw[e,e2,θ (λh=>h.1 h.2)]
    rw[e,e2];by_cases I:F.m.L=R.m.L
    .exact (ι I).trans (ι ⟨hl,I⟩).symm
    exact (θ I).trans (θ (λh=>I h.2)).symm
   refine aR<|aH (aJ ?_);refine aD<|qg (DW _ _ rfl G G rfl Yo _) ?_;refine qg (aT (v:=ε X J.length d) _ _ δ OneK.out G H.v0 Yo (by rw[S,j,ek])) ?_;refine qa ?_;refine aC ?_;have y:B.iQ 4=ε D l.length c:=y.trans (by rw[j,s]);refine lS (λA Z=>AkA A h w.heap.size i x/\A.iQ 27=î (decide (l≠[]/\l=J))/\Cx w Z [η 178 w.heap.size 4 4 h]) ?_ (λC Z z=>?_)
   .refine aI ?_;iterate 2 refine qa ?_
    cases l with
    |nil=>
     refine qg (bW (b:=false) _ _ δ G G (Xf Yc) _) ?_;refine qa ?_;iterate 3 refine bP ?_
     refine χ ?_;exact kL ⟨δ,⟨YA,YB,G,G,G,Ae G (by rw[j,s]),G,G,G⟩,G,H⟩
    |cons a l=>
     refine qg (bW (b:=true) _ _ δ G G (Xt Ol) _) ?_;iterate 3 refine qa ?_
     refine ω (CP (a::l) J D X c d _ nl si sk) ?_ (hw:=dW δ δ δ G);rintro e w5 ⟨rfl,k5⟩;replace H:=H.call k5;refine⟨_,δ,?_⟩;refine Γ ?_;exact kL ⟨δ,⟨YA,YB,G,G,G,Ae G (by rw[j,s]),G,G,G⟩,Ae G Mt,H⟩
   obtain⟨⟨hs,hd,T,U,V,y,K,O,P⟩,Q,H⟩:=z;have y:C.iQ 4=ε D l.length c:=y.trans (by rw[j,s]);refine mK Q (λt=>?_) (λt=>?_)
   .have t:=Xu t;rw[ι t] at f;rcases Y with ⟨⟨e,_⟩,_⟩|⟨F,e,el,_⟩
    .exact φ e t.1
    rw[e] at f;have eb:lmV F=ε D l.length c:=by rw[<-s];unfold hrO;rw[e]
    refine aD (aG ?_);iterate 2 refine qa ?_
    refine aC<|aQ ?_;simp only[Nx,ð,Exit.then];refine aN YB (bS δ G) ⟨?_,H.bel⟩;rw[WE (show i<i+1+x by omega) Yo f (λp q h1 h2 h3=>hno p q h1 h2 h3)];exact Ω _ eb.symm
   rw[θ (Xg t)] at f;refine gT<|aI (aG ?_);iterate 2 refine qa ?_
   exact aU ⟨3-i-(x+1),Yo,x+1,Yo,Yo,⟨YA,YB,G,G,G,Ae G (by rw[j,s]),G,G,Ae G YC⟩,(λp q h1 h2 h3=>by
    by_cases e:p=i/\q=i+1+x
    .rw[e.1,e.2];exact f
    exact hno p q h1 h2 Yo),H⟩
  have:=Xg o;refine bL (BQ ?_);refine aI ?_;iterate 2 refine qa ?_
  exact aU ⟨4-(i+1),Yo,i+1,Yo,Yo,YA,YB,G,G,Ae G YC,(λp q h1 h2 h3=>hno p q h1 h2 Yo),H⟩
 have:=Xg hc;refine bL (dQ ?_);refine aD<|qa ?_;refine aC<|aQ (aN YB (bS rfl G) ⟨?_,H.bel⟩);rw[ZW (λp q h1 h2=>hno p q h1 h2 Yo)];rfl
def tL(n:Nd)(l:ν Ms):Nd:=if kR n.id then dS else gW n l
def aQK(fn:Nat):Prop:=∀(n) ao c mo mc L w,ê n->zX w n ao c->MRd w mo L->L.length<=140737488351232->L.length<=mc->(∀m,m∈L->∀i,R64 (gL m.m.L i))->
 ρ κ fn #[jX n (ε ao n.vA.length c),ε mo L.length mc] w λe w'=>∃a' c',e=.returned (ï #[jX (gW n (L.map Lm.m)) (ε a' (gW n (L.map Lm.m)).vA.length c'),aX (iX (tL n (L.map Lm.m))) 0 14])/\sM w.heap.size w' (gW n (L.map Lm.m)) a' c'/\Below w.heap.size w w'
def cloT(n:Nd)(L:ν Lm):Nd:=match T9 n L with|some c=>if unOK c.m.L then { n with ax:=unA c.m.L,rl:=unR c.m.L } else n|none=>n
theorem aNW(n)(L):(cloT n L).vA=n.vA:=by
 unfold cloT;split
 .split<;>rfl
 rfl
theorem aKJ(n)(L)(p):RO n (L.map Lm.m) p=(kM n L p.1 p.2).map (λc=>c.m.L):=by
 unfold RO kM;rw[<-(uH n L p.1 5 24), <-(uH n L p.2 5 24)];cases fL n.id n.fr L (p.1:Int) 5 24 with
 |none=>rfl
 |some a=>
  cases fL n.id n.fr L (p.2:Int) 5 24 with
  |none=>rfl
  |some b=>grind
theorem aJV{β γ:Type}g(f:β->γ)(l:ν α):l.findSome? (λp=>(g p).map f)=(l.findSome? g).map f:=by
 induction l with
 |nil=>rfl
 |cons x l ih=>grind
theorem aNC(n)(L):prs.findSome? (RO n (L.map Lm.m))=(T9 n L).map (λc=>c.m.L):=by unfold T9;rw[<-aJV];congr 1;funext p;exact aKJ n L p
theorem GL{l}(hno:kR n.id=false)(h:¬(n.vS=true/\n.vX≠n.dg)):gW n l=n:=by unfold gW aEW;grind
theorem aAd(hno:kR n.id=false)(h:n.vS=true/\n.vX≠n.dg):gW n (L.map Lm.m)=cloT n L:=by unfold gW aEW cloT;rw[θ Mw,ι h,aNC];grind
theorem aKK{p q}(h:kM n L p q=ζ c):c∈L/\c.m.L.length=24:=by
 unfold kM at h;cases h1:fL n.id n.fr L (p:Int) 5 24 with
 |none=>rw[h1] at h;cases h
 |some a=>
  rw[h1] at h;cases h2:fL n.id n.fr L (q:Int) 5 24 with
  |none=>rw[h2] at h;cases h
  |some b=>
   rw[h2] at h;dsimp only at h;split at h
   .cases h;obtain⟨m,f⟩:=qD h1;exact⟨m,by have:=vZ f;omega⟩
   cases h
theorem aND(h:T9 n L=ζ c):c∈L/\c.m.L.length=24:=by obtain⟨p,_,a⟩:=List.exists_of_findSome?_eq_some h;exact aKK a
theorem aNE(hmr:MRd w mo L):∃(to:Δ á) (tc:Nat) (v:ν Int),CB (T9 n L)=.slice to v.length tc/\Sr w to v.length tc (iF (gL v))/\v.length<=tc/\movN n v=cloT n L:=by
 cases h:T9 n L with
 |none=>exact⟨none,0,[],rfl,Or.inl ⟨rfl,rfl,rfl⟩,Xr _,by unfold movN cloT;rw[h];rfl⟩
 |some c=>obtain⟨m,a⟩:=aND h;refine⟨c.ao,c.cap,c.m.L,δ,(hmr.2 c m).1,(hmr.2 c m).2.1,?_⟩;unfold movN cloT;rw[h,Xt a,Gr]
theorem aBj:aQK 76:=by
 intro n ao c B mc L w p hag d J O a6;have hag:Sr w ao n.vA.length c (tF (bA n)):=hag;refine bC Tryz.func76 δ 34 δ Yd (λA hs hd hb=>?_);have V:A.iQ 0=jX n (ε ao n.vA.length c):=hb 0 _ δ;have b1:A.iQ 1=ε B L.length mc:=hb 1 _ δ;refine aD (aG ?_);refine jO (Bl w) ?_;intro D H z1;refine gQ H ?_;intro w2 H z2;refine gQ H ?_;intro w3 H z3;refine aC<|aD<|qg (bE _ _ rfl ManyK.out G H.v2 Yo) ?_;refine ω (show ρ _ _ #[aX (μ n (ε ao n.vA.length c)) 0 74] _ _ from zS n ao c _ (hag.below H.bel) p.vA) ?_;rintro e Z ⟨a3,a,rfl,o4,k4⟩;refine⟨aX (μ n (ε a3 n.vA.length a)) 0 74,δ,?_⟩;have q:=H.size;replace H:=H.add k4 (fU w.heap.size 4 1 (ε a3 n.vA.length a) n.vA.length (σ (tF (bA n)) n.vA.length)) (cO o4 q) (λj e=>(o4.lt j e).1);refine gH H.a3 aZ (bQ _ _ _ _) ?_;intro w5 H z5;refine aC<|aH<|aD<|qa ?_;refine qg (aT (v:=iY n.id) _ _ δ OneK.out G H.v3 Yo δ) ?_;refine ω (lI n.id _) ?_;rintro e T ⟨rfl,P⟩;refine⟨_,δ,?_⟩;replace H:=H.call P;refine qg (tZ _ _ δ G _) ?_;refine aC ?_;cases hno:kR n.id with
 |true=>refine aS G ?_;refine aD<|qg (bE _ _ rfl ManyK.out G H.v3 Yo) ?_;refine qg (TB δ _) ?_;refine gH H.a2 aZ (bQ _ _ _ _) ?_;intro F H z7;refine gH H.a1 aZ (mX _ _) ?_;intro w8 H z8;refine aC ?_;rw[show gW n (L.map Lm.m)=n by unfold gW;rw[ι hno],show tL n (L.map Lm.m)=dS by unfold tL;rw[ι hno]];exact aQ (fF (aN YB (iC δ G G ManyK.out ManyK.out H.v2 (Xr _) H.v1 (Xr _)) ⟨a3,a,δ,H.o0,H.bel⟩))
 |false=>
  refine aO G (aR ?_);have a0:(gW n (L.map Lm.m)).vA=n.vA:=by
   by_cases h:n.vS=true/\n.vX≠n.dg
   .rw[aAd hno h];exact aNW n L
   rw[GL hno h]
  refine lS (λA W=>A.tmps.size=34/\A.defers=[]/\A.iQ 2=iG w.heap.size/\A.iQ 4=iG D.heap.size/\A.iQ 5=iG w2.heap.size/\Cx w W [fU w.heap.size 4 1 (ε a3 n.vA.length a) n.vA.length (σ (tF (bA n)) n.vA.length),η 57 w2.heap.size 14 14 (iX dS),η 43 D.heap.size 74 74 (μ dS (ε none 0 0)),η 43 w.heap.size 74 74 (μ (gW n (L.map Lm.m)) (ε a3 n.vA.length a))]) ?_ (λC W hI=>?_)
  .refine aD ?_;iterate 2 refine qa ?_
   refine qg (aT (v:=î n.vS) _ _ δ OneK.out G H.v3 Yo δ) ?_;refine qa ?_;cases l:n.vS with
   |false=>
    iterate 6 refine bP ?_
    refine χ ?_;refine aC<|aO G ?_;exact iE ⟨δ,YA,YB,G,G,G,by rw[GL hno (by rintro⟨h,_⟩;rw[l] at h;cases h)];exact H⟩
   |true=>
    iterate 2 refine qa ?_
    refine qg (aT (v:=iY n.vX) _ _ δ OneK.out G H.v3 Yo δ) ?_;refine qa ?_;refine qg (aT (v:=iY n.dg) _ _ δ OneK.out G H.v3 Yo δ) ?_;refine qa ?_;refine Γ ?_;refine aC<|fB (λhc=>?_) (λhc=>?_)
    .have t:n.vX≠n.dg:=by simpa using hc
     replace H:=H.drew;have o:τ [η 43 w.heap.size 74 74 (μ n (ε a3 n.vA.length a))] T.drew:=Aj H.o3 (Ak _);refine fI (S:=τ [η 43 w.heap.size 74 74 (μ n (ε a3 n.vA.length a))]) (.rd 0 (.rd 1 (.mv 2 (.go 3 (.go 4 (.go 5 (.go 6 .fin))))))) [6] Yl Yl ?_;iterate 2 refine oD rfl rfl (λ_ _ _ h=>nomatch h.1) Yw o (λ_ H=>bE _ _ rfl ManyK.out G H.v0 Yo) ?_
     refine qj ?_ (hQ:=λ_ _ _ h=>nomatch h.1);refine Ψ (I5 n _ B mc L 5 24 _ (d.below H.bel) J Yc) ?_;rintro e F ⟨rfl,y⟩;replace H:=H.call y;refine⟨_,δ,λ_ _=>Aj H.o3 (Ak _),?_⟩;refine Ψ (aGl n B L _ (d.below H.bel)) ?_;rintro e w8 ⟨rfl,k8⟩;replace H:=H.call k8;obtain⟨R,tc,v,I,hsr,a5,a4⟩:=aNE (n:=n) (d.below H.bel);refine⟨_,δ,λ_ _=>Aj H.o3 (Ak _),?_⟩;refine dA δ δ Yw (λK hK=>eB _ 133 _ _ _ δ G (Ae G I) Yh (aHF n (ε a3 n.vA.length a) v R tc _ δ hsr a5) ?_);rintro e w9 ⟨rfl,z⟩;replace H:=H.call z;refine⟨_,δ,hK _ _ (λ_ _=>Aj H.o3 (Ak _)) ?_⟩;refine aUc (f:=μ (movN n v) (ε a3 n.vA.length a)) H.v3 (bQ _ _ _ _) (λa7 m10 k10 U=>⟨λh=>φ h Yc,?_⟩);replace H:=H.a3.s k10 (g':=μ (gW n (L.map Lm.m)) (ε a3 n.vA.length a)) (m10.congr (by rw[aAd hno ⟨l,t⟩, <-a4];exact aZ));exact BK ⟨δ,YA,YB,G,G,G,H⟩
    exact iE ⟨δ,YA,YB,G,G,G,by rw[GL hno (λh=>h.2 (by simpa using hc))];exact H⟩
  obtain⟨hs,hd,X,b4,Y,H⟩:=hI;refine aH ?_;replace H:=H.drew;have o:τ [η 43 w.heap.size 74 74 (μ (gW n (L.map Lm.m)) (ε a3 n.vA.length a))] W.drew:=Aj H.o3 (Ak _);refine fI (S:=τ [η 43 w.heap.size 74 74 (μ (gW n (L.map Lm.m)) (ε a3 n.vA.length a))]) (.rd 0 (.rd 1 (.go 2 (.go 3 (.go 4 .fin))))) [] Yl Yl (BB ?_);iterate 2 refine oD rfl rfl (λ_ _ _ h=>h) Yw o (λ_ H=>bE _ _ rfl ManyK.out G H.v0 Yo) ?_
  refine Ψ (DK (gW n (L.map Lm.m)) (ε a3 n.vA.length a) _) ?_;rintro e F ⟨rfl,y⟩;replace H:=H.call y;refine⟨_,δ,λ_ _=>Aj H.o3 (Ak _),?_⟩;refine aUc H.v2 (bQ _ _ _ _) (λw8 m8 k8 z8=>?_);replace H:=H.a2.s k8 (m8.congr aZ);refine⟨λ_ _=>Aj H.o3 (Ak _),?_⟩;refine aUc H.v1 (mX _ _) (λw9 Q z z9=>?_);replace H:=H.a1.s z (Q.congr aZ);refine⟨λ_ _=>Aj H.o3 (Ak _),?_⟩;refine gM ?_;rw[show tL n (L.map Lm.m)=gW n (L.map Lm.m) by unfold tL;rw[θ Mw]];exact aQ (aN YB (iC δ G G ManyK.out ManyK.out H.v2 (Xr _) H.v1 (Xr _)) ⟨a3,a,by rw[a0];rfl,by unfold sM bA;rw[a0];exact H.o0,H.bel⟩)
theorem LC(n)(fr)rd:(à n fr rd).vA=n.vA:=by unfold à;split<;>rfl
theorem aST{m}(h:n.vA=m.vA):bA n=bA m:=by unfold bA;rw[h]
variable{c:Nat}
theorem ZV{B}{m}(h:sM B w n ao c)(e:m.vA=n.vA):sM B w m ao c:=by unfold sM at h ⊢;rw[e,aST e];exact h
def JI(rd:Nat->Nat->Int)(j:Nat):Value:=iV (rd (j/3) (j%3))
theorem aPi(rd:Nat->Nat->Int)(hj:j<3):JI rd (0+i*3+j)=iV (rd i j):=by unfold JI;grind
def LU(fb rb:Nat)(fr:Int)(rd:Nat->Nat->Int):It:=(η 3 fb 1 1 (λ_=>iV fr)).and (η 38 rb 12 12 (JI rd))
theorem aIP(w0)(bad)(fb rb)(fr)rd(hfr:R64 fr)(hrd:∀s a,R64 (rd s a))(Dn:Nat->Nd)Bn:PvC w0 bad 68 #[.pointer (ζ ⟨fb,0,none⟩),.pointer (ζ ⟨rb,0,none⟩)] (λi n _=>à n fr (rd i)) (λi n _=>mO n fr (rd i)) (λ_ y=>y=LU fb rb fr rd) Dn Bn:=by
 intro i d f c mo P L w y l hi _ _ _ X q o _ _ _ _ hy H;subst hy;refine bC Tryz.func68 δ 17 δ Yd (λA hs hd hb=>?_);have b0:A.iQ 0=aX (μ d (ε f d.vA.length c)) 0 74:=hb 0 _ δ;have O:A.iQ 2=iG fb:=hb 2 _ δ;have b3:A.iQ 3=iG rb:=hb 3 _ δ;refine aD (aG ?_);refine bI δ Yw (λK hK=>xZ _ _ _ δ G Yd (λQ F k1 z1=>hK _ _ ?_));replace H:=H.add k1 (η _ _ _ _ _) F (λj e=>Bq e.symm);refine bI δ Yw (λK hK=>kF _ _ δ ZerK.out Yd (λw2 m2 Y U=>hK _ _ ?_));replace H:=H.add Y (η _ _ _ _ _) m2 (λj e=>Bq e.symm);refine bI δ Yw (λK hK=>kF _ _ δ ZerK.out Yd (λw3 I z z3=>hK _ _ ?_));replace H:=H.add z (η _ _ _ _ _) I (λj e=>Bq e.symm);refine Qz ?_;have kA:nS w w3:=(k1.trans (Y.mono Yo)).trans (z.mono Yo);replace H:=H.drew;have hcp:(LU fb rb fr rd).p w3.drew:=H.o3;have t:τ [η 43 w.heap.size 74 74 (μ d (ε f d.vA.length c)),η 3 fb 1 1 (λ_=>iV fr),η 38 rb 12 12 (JI rd)] w3.drew:=Aj H.o2 (Aj hcp.1 (Aj hcp.2 (Ak _)));refine fI (S:=τ [η 43 w.heap.size 74 74 (μ d (ε f d.vA.length c)),η 3 fb 1 1 (λ_=>iV fr),η 38 rb 12 12 (JI rd)]) (.rd 0 (.rd 1 (.mv 2 (.rd 3 (.mv 4 (.rd 5 (.go 6 (.mv 7 (.mv 8 (.go 9 (.go 10 .fin))))))))))) [9,10] Yl Yl ?_;iterate 4 first|refine qj ?_|refine qr t ?_
 refine dC δ δ (λ_ _ _ h=>h) Yw (λw=>bB _ _ _ _ δ ArrK.out SizK.out G G X hi w) ?_;refine Yr δ t (λ_ H=>Ae (bE _ _ δ ManyK.out G H.v2 Yo) (by rw[mZ (λj Z=>aPi rd Z)])) ?_;refine dA δ δ Yw (λK hK=>jH _ 69 _ _ _ _ δ G G G Yh (aBm d f c fr (rd i) _ q (o.below (aY kA)) hfr (hrd i)) ?_);rintro e R ⟨W,m,a2,c2,rfl,g1,B,C⟩;replace H:=DR (n:=à d fr (rd i)) (a1:=(W,m)) (a2:=(a2,c2)) H C (ZV g1 (LC _ _ _)) B;refine⟨ï #[jX (à d fr (rd i)) (ο (W,m) d.vA.length),lsV (mO d fr (rd i)) (ο (a2,c2) (mO d fr (rd i)).L.length)],δ,hK _ _ (λ_ _=>Aj H.o4 (Aj (show Vh _ _ _ _ _ _ from H.o5.1) (Aj (show Vh _ _ _ _ _ _ from H.o5.2) (Ak _)))) ?_⟩;repeat refine qj ?_
 refine dK δ Yw (λK hK=>aW _ _ _ _ δ ManyK.out G G H.v3 Yo (bQ _ _ _ _) δ (λw6 m6 k6 V=>hK _ (λh=>φ h Yc) ?_));replace H:=H.a3.s k6 (m6.congr aZ);refine dK δ Yw (λK hK=>aW _ _ _ _ δ ManyK.out G G H.v2 Yo (fV _ _ _ _ _ _) δ (λT J D z7=>hK _ (λh=>φ h Yc) ?_));replace H:=H.a2.s D (J.congr aZ);refine gM<|aQ (aN YB (iC rfl G G ManyK.out ManyK.out H.v3 (Xr _) H.v2 (Xr _)) ⟨(W,m),(a2,c2),_,rfl,?_,H.f2.tl.f2.tl.f2.tl⟩);rw[LC];rfl
theorem aAJ(bad)(i):IJ bad (i+1)=IJ bad i++(if i=bad then [] else [i]):=by unfold IJ;rw[Hw,List.filter_append];grind
def rvI(B rv:Nat)(v:Value)(L:ν Nd):It:=(η 48 rv 1 1 (λ_=>v)).and (fU B 57 14 v L.length (qP iX 14 L))
def nW(bad:Int)(Dn:Nat->Nd)(Bn:Nat->ν Ms)(k:Nat):ν Nd:=(IJ bad k).map λi=>gW (Dn i) (Bn i)
theorem aDO(bad)(Dn:Nat->Nd)Bn(k):(nW bad Dn Bn k).length<=k:=by grind [nW,IJ]
theorem aAc(h:(i)≠bad):nW bad Dn Bn (i+1)=nW bad Dn Bn i++[gW (Dn i) (Bn i)]:=by unfold nW;rw[aAJ,θ h,Cb];rfl
theorem aDN(h:(i)=bad):nW bad Dn Bn (i+1)=nW bad Dn Bn i:=by unfold nW;rw[aAJ,ι h,Be]
theorem aGz(w0)(bad)(rv)(Dn:Nat->Nd)Bn:PvC w0 bad 75 #[.pointer (ζ ⟨rv,0,none⟩)] (λ_ n l=>gW n l) (λ_ _ _=>kQ) (λi y=>∃v,y=rvI w0.heap.size rv v (nW bad Dn Bn i)) Dn Bn:=by
 intro i C ao c mo mc L w y l hi O U T W a5 V Z hl Y a2 ⟨v,hy⟩ H;subst hy;refine bC Tryz.func75 δ 21 δ Yd (λA hs hd hb=>?_);have b0:A.iQ 0=aX (μ C (ε ao C.vA.length c)) 0 74:=hb 0 _ δ;have b1:A.iQ 1=ε mo L.length mc:=hb 1 _ δ;have b2:A.iQ 2=iG rv:=hb 2 _ δ;refine aD (aG ?_);refine bI δ Yw (λK hK=>xZ _ _ _ δ G Yd (λw1 m1 k1 z1=>hK _ _ ?_));replace H:=H.add k1 (η _ _ _ _ _) m1 (λj e=>Bq e.symm);refine bI δ Yw (λK hK=>kF _ _ δ ZerK.out Yd (λw2 m2 k2 z2=>hK _ _ ?_));replace H:=H.add k2 (η _ _ _ _ _) m2 (λj e=>Bq e.symm);refine bI δ Yw (λK hK=>kF _ _ δ ZerK.out Yd (λw3 m3 k3 z3=>hK _ _ ?_));replace H:=H.add k3 (η _ _ _ _ _) m3 (λj e=>Bq e.symm);have kA:nS w w3:=(k1.trans (k2.mono Yo)).trans (k3.mono Yo);refine aC<|aD ?_;iterate 2 refine qa ?_
 refine ω (aBj C ao c mo mc L w3 a5 (V.below kA) (Z.below kA) Yo Y (λm hm=>(a2 m hm).L)) ?_;rintro e w4 ⟨a',c',rfl,g1,k4⟩;have a7:=H.size;replace H:=H.add k4 (zC w0.heap.size (gW C (L.map Lm.m),(a',c'))) (cO g1 a7) (λj e=>(g1.lt j e).1);have P:tL C (L.map Lm.m)=gW C (L.map Lm.m):=by unfold tL;rw[θ (by rw[W,uY hi];decide)]
 rw[P];refine⟨_,δ,?_⟩;iterate 3 refine qa ?_
 refine gQ H ?_;intro w5 H z5;refine gQ H ?_;intro w6 H z6;refine gH H.a1 aZ (bQ _ _ _ _) ?_;intro w7 H z7;refine gH H.a0 aZ (mX _ _) ?_;intro w8 H z8;refine aC<|aD ?_;have o:(rvI w0.heap.size rv v (nW bad Dn Bn i)).p w8:=H.o6;have b3:=H.size;refine qg (aT _ _ δ OneK.out G o.1 Yo δ) ?_;refine qa ?_;refine bI δ Yw (λK hK=>LH SlcK.out ManyK.out ZerK.out Yc Yc δ G (λw9 m9 k9 z9=>hK _ _ ?_));replace H:=H.call k9;have o:(rvI w0.heap.size rv v (nW bad Dn Bn i)).p w9:=H.o6;have b4:=aDO bad Dn Bn i;refine bI δ Yw (λK hK=>?_);refine rQ δ inferInstance H.size G G o.2 (zU (EL (B:=w0.heap.size) (F:=iX) (x:=gW C (L.map Lm.m)) m9 Yo)) (KZ (λx _=>mX x 3)) Ym Yo ?_;intro v' a9 D d Q;have s:Vh 48 w9 rv 1 1 (λ_=>v):=o.1;have z:∀k,v.ownBlock=ζ k->k≠rv:=λk X e=>by obtain⟨u1,q⟩:=xU o.2 X;obtain⟨u2,J,_⟩:=s;rw[e,J] at q;cases q
 have a:Vh 48 a9 rv 1 1 (λ_=>v):=s.same (d.block rv s.lt (λe=>z rv e.symm δ));replace H:=H.a6.put (y:=((η 48 rv 1 1 (λ_=>v)).and (fU w0.heap.size 57 14 v' ((nW bad Dn Bn i).length+1) (qP iX 14 (nW bad Dn Bn i)++qP iX 14 [gW C (L.map Lm.m)])))) ⟨d.os,d.tape,d.output,d.size,λj R S=>d.block j R (λe=>S (Ab e.symm)),⟨a,D⟩,λj I=>by
  rcases I with I|I
  .exact Aa (Aa I)
  rcases Q j I with h|h
  .exact Aa (Ab h)
  exact Ab h⟩
 refine hK _ _ ?_;have t:∀k,v'.ownBlock=ζ k->k≠rv:=λk X e=>by obtain⟨u1,q⟩:=xU D X;obtain⟨u2,J,_⟩:=a;rw[e,J] at q;cases q
 obtain⟨va,vc,rfl,b5⟩:=dU D;refine lN Yw (λK hK=>?_);refine iO _ _ _ _ δ OneK.out G G a Yo δ δ δ ?_;intro b6 a8 f b9;replace H:=H.a6.put (y:=(rvI w0.heap.size rv (ε va ((nW bad Dn Bn i).length+1) vc) (nW bad Dn Bn (i+1)))) ⟨f.os,f.tape,f.output,f.size,λj R S=>f.block j R (λe=>S (Aa e)),⟨a8.congr (λj I=>by
  obtain rfl:j=0:=Yo;exact lL _ _ _),by
   have e1:nW bad Dn Bn (i+1)=nW bad Dn Bn i++[gW C (L.map Lm.m)]:=by rw[aAc O,U,T]
   show World.ownsRow _ _ _ _ _ (nW bad Dn Bn (i+1)).length (qP iX 14 (nW bad Dn Bn (i+1)));rw[e1,Ag,KY];exact bX D f (λe=>t rv e δ)⟩,λj I=>Aa I⟩
 refine hK _ ?_;refine aC<|aD<|qa ?_;refine qg (oH δ _) ?_;refine gH H.a4 aZ (bQ _ _ _ _) ?_;intro b7 H c0;refine gH H.a3 aZ (fV _ _ _ _ _ _) ?_;intro b8 H c1;refine aC<|aQ (aN YB (iC rfl G G ManyK.out ManyK.out H.v4 (Xr _) H.v3 (Xr _)) ⟨(a',c'),(none,0),rvI w0.heap.size rv (ε va ((nW bad Dn Bn i).length+1) vc) (nW bad Dn Bn (i+1)),⟨_,rfl⟩,rfl,?_⟩);exact (H.tl.tl.f1.tl.f1.tl.f1.tl.add (Af _ _) (tlJ w0.heap.size (kQ,(none,0))) (Am _ _ _ _) (λj e=>nomatch e)).f1
variable{P:Program}{u:Value}
theorem aLB(fn)(x)(ho:o.op=.makeFunc fn #[] #[x])(hx:f x=u)(w):(υ f o).run P w=.ok (.value (.func fn #[] #[u])) w:=VP fn _ ho (by simp[hx]) w
variable{v:Value}
theorem aLC(fn)(x y)(ho:o.op=.makeFunc fn #[] #[x,y])(hx:f x=u)(hy:f y=v)(w):(υ f o).run P w=.ok (.value (.func fn #[] #[u,v])) w:=VP fn _ ho (by simp[hx,hy]) w
theorem aEX(b)(fr)(D:Nat->Nd×Ad)(bad)(lv)X(w0 w)(l)(hid:∀i,i<4->(D i).1.id=(i))(hok:∀i,i<4->ê (D i).1)(hX:∀i,i<4->(X i).1.length<=1600/\∀c,c∈(X i).1->æ c.m)(H:Cx w0 w (oU w0.heap.size D::η 104 b 303 303 (lM fr D bad lv X)::AP w0.heap.size X::l)):ρ κ 36 #[.pointer (ζ ⟨b,0,none⟩)] w λe w'=>∃(D':Nat->Nd×Ad) (v:Value),e=.returned v/\(∀i,i<4->(D' i).1=WO bad (λ_ n l=>gW n l) D X i)/\Cx w0 w' (fU w0.heap.size 57 14 v (nW bad (λi=>(D i).1) (λi=>(X i).1.map Lm.m) 4).length (qP iX 14 (nW bad (λi=>(D i).1) (λi=>(X i).1.map Lm.m) 4))::oU w0.heap.size D'::η 104 b 303 303 (lM fr D' bad lv X)::AP w0.heap.size X::l):=by
 refine bC Tryz.func36 δ 8 δ Yd (λA hs hd hb=>?_);have f:A.iQ 0=iG b:=hb 0 _ δ;refine aD (aG ?_);repeat first|refine qa ?_|refine aC ?_|refine aD ?_
 refine aTj H ?_;intro d H o;repeat first|refine qa ?_|refine aC ?_|refine aD ?_
 refine qg (aLB _ _ δ G _) ?_;replace H:=(H.add (Af _ _) (fU w0.heap.size 57 14 (ε none 0 0) 0 []) (Am _ _ _ _) (λj e=>nomatch e)).f1.merge;refine ω (aAm b fr D bad lv X 75 #[iG w.heap.size] (λ_ n l=>gW n l) (λ_ _ _=>kQ) (λi y=>∃v,y=rvI w0.heap.size w.heap.size v (nW bad (λi=>(D i).1) (λi=>(X i).1.map Lm.m) i)) w0 d _ l (λ_ _=>Yh) (aGz w0 bad w.heap.size _ _) ⟨ε none 0 0,δ⟩ (λi hi y hy=>by obtain⟨v,rfl⟩:=hy;exact⟨v,by rw[aDN hi]⟩) hid hok hX H.f1) ?_;rintro e w2 ⟨D',T,y',⟨v,rfl⟩,rfl,a,_,H⟩;refine⟨_,δ,?_⟩;refine aC<|aD ?_;have hrv:(rvI w0.heap.size w.heap.size v (nW bad (λi=>(D i).1) (λi=>(X i).1.map Lm.m) 4)).p w2:=H.o2;refine qg (aT _ _ δ OneK.out G hrv.1 Yo δ) ?_;repeat first|refine qa ?_|refine aC ?_
 exact aQ (aN YB (bS δ G) ⟨D',v,δ,a,H.tl.f1.wk (λh=>h.2) (λk hk=>Ab hk)⟩)
def kU(g:Nat->Value)(N:Nat):å Value:=((Ξ N).map g).toArray
theorem yE(g:Nat->Value)(n):(aX g 0 n).cells=kU g n:=by unfold aX kU;show ((Ξ n).map λj=>g (0+j)).toArray=_;grind
theorem LQ(g:Nat->Value)(N):(kU g N).size=N:=by simp[kU]
theorem WG(g:Nat->Value)(N i):(kU g N)[i]?=if i<N then ζ (g i) else none:=by unfold kU;grind
variable{n:Nat}{place:Nat->Δ (Nat×Nat)}
theorem QI{off}{f:Nat->Value}(hp:place i=ζ (off,n))(hv:v.cells=kU f n)(hN:off+n<=N)(rest):Instr.fill place (kU g N) ((i,v)::rest)=Instr.fill place (kU (stP g off n f) N) rest:=by
 rw[Instr.fill];simp only[hp,hv,LQ];rw[θ Mm];congr 1;obtain⟨h1,h2⟩:=NH off ((Ξ n).map f) 0 (kU g N) (by rw[LQ,Ao,Ck];omega);have e1:Array.foldl (λc x=>c.setIfInBounds (off+x.2) x.1) (kU g N) (kU f n).zipIdx=(((Ξ n).map f).zipIdx 0).foldl (λa p=>a.setIfInBounds (off+p.2) p.1) (kU g N):=by unfold kU;simp
 rw[e1];refine Array.ext_getElem? (λj=>?_);rw[h2 j,WG,WG,Ao,Ck];unfold stP;grind
variable{fields:å Field}{parts:å (Nat×Operand)}{places:å (Nat×Nat)}
theorem aBN{z:Nat->Value}(hu:P.underlying t=ζ (.struct fields))(hz:∀w,(zeroValue t).run P w=.ok (aX z 0 N) w)(hpl:∀w,(fields.mapM λ(f)=>do pure (f.offset, <-sizeOf f.type):Sem (å (Nat×Nat))).run P w=.ok places w)(ho:o.op=.build t parts)(hf:Instr.fill (places[·]?) (kU z N) (parts.map λp=>(p.1,f p.2)).toList=ζ (kU g N))(w):(υ f o).run P w=.ok (.value (aX g 0 N)) w:=by unfold υ;simp only[ho,Instr.build,Aq,hz,Bb,Fq hu,hpl,yE];rw[show (Array.map (λx=>match x with|(i,x)=>(i,f x)) parts).toList=(parts.map λp=>(p.1,f p.2)).toList from rfl,hf];show Result.ok (Next.value (Value.agg (kU g N))) w=_;unfold aX kU at*;grind
variable{D:Nat->Nd×Ad}
theorem aOt(hi:i<4)(h:(D i).1.id≠(i)):¬((D 0).1.id=0/\(D 1).1.id=1/\(D 2).1.id=2/\(D 3).1.id=3):=by grind
theorem aCD(x)(fr)D(lo)(lc)(w):ρ κ 31 #[aX (kZ fr D) 0 297,aX (jW x.rd x.bad (.slice lo x.ly.length lc)) 0 14] w λe w'=>e=.returned (.int .i64 (gY x ⟨fr,λi=>(D i).1⟩))/\Below w.heap.size w w':=by
 refine bC Tryz.func31 δ 40 δ Yd (λA hs hd hb=>?_);have t:A.iQ 0=aX (kZ fr D) 0 297:=hb 0 _ δ;have y:A.iQ 1=aX (jW x.rd x.bad (ε lo x.ly.length lc)) 0 14:=hb 1 _ δ;have H:=Bl w;refine aD (aG ?_);refine jO H ?_;intro z H J;refine jO H ?_;intro C H K;refine qa ?_;refine aC<|aH<|aD ?_;iterate 2 refine qa ?_
 by_cases n:x.bad< -1
 .refine Φ ?_;refine qa ?_;iterate 3 refine bP ?_
  refine Γ ?_;refine qa ?_;iterate 3 refine bP ?_
  refine Γ ?_;refine qa ?_;iterate 3 refine bP ?_
  refine Γ ?_;refine aC<|X3 rfl ?_;repeat first|refine qa ?_|refine aC ?_|refine aD ?_
  exact aQ (fF (aN YB (bS δ G) ⟨by unfold gY;rw[ι (Aa n)],H.bel⟩))
 refine aUb ?_;iterate 3 refine qa ?_
 by_cases o:4<=x.bad
 .refine Φ ?_;refine χ ?_;refine qa ?_;iterate 3 refine bP ?_
  refine Γ ?_;refine qa ?_;iterate 3 refine bP ?_
  refine Γ ?_;refine aC<|X3 rfl ?_;repeat first|refine qa ?_|refine aC ?_|refine aD ?_
  exact aQ (fF (aN YB (bS δ G) ⟨by unfold gY;rw[ι (Ab (Aa o))],H.bel⟩))
 refine aUb ?_;refine χ ?_;iterate 3 refine qa ?_
 by_cases p:fr<0
 .refine Φ ?_;refine χ ?_;refine qa ?_;iterate 3 refine bP ?_
  refine Γ ?_;refine aC<|X3 rfl ?_;repeat first|refine qa ?_|refine aC ?_|refine aD ?_
  exact aQ (fF (aN YB (bS δ G) ⟨by unfold gY;rw[ι (Ab (Ab (Aa p)))],H.bel⟩))
 refine aUb ?_;refine χ ?_;iterate 3 refine qa ?_
 by_cases q:1073741823<fr
 .refine Φ ?_;refine χ ?_;refine aC<|X3 rfl ?_;repeat first|refine qa ?_|refine aC ?_|refine aD ?_
  exact aQ (fF (aN YB (bS δ G) ⟨by unfold gY;rw[ι (Ab (Ab (Ab q)))],H.bel⟩))
 refine aUb ?_;refine χ ?_;refine aC<|OG rfl (aR ?_);have f:¬(x.bad< -1\/4<=x.bad\/fr<0\/1073741823<fr):=Yo;refine aH<|aD ?_;repeat first|refine qa ?_|refine aC ?_
 refine fB (λh=>?_) (λh=>?_)
 .have c:400<x.ly.length:=Mk;repeat first|refine qa ?_|refine aC ?_|refine aD ?_
  exact aQ (fF (aN YB (bS δ G) ⟨by unfold gY;rw[θ f,ι c],H.bel⟩))
 have c:¬400<x.ly.length:=Mo;refine aR<|aH<|aD<|qa ?_;refine qg (Ae (bE _ _ δ ManyK.out G H.v1 Yo) (by rw[mZ (λj d=>aDM fr D d)])) ?_;repeat first|refine qa ?_|refine aC ?_
 refine aJ ?_;refine bR (λr A W=>∃i:Nat,i<=4/\4-i<=r/\A.tmps.size=40/\A.defers=[]/\A.iQ 30=aX (CZ D) 0 296/\A.iQ 31=iY (i:Int)/\(∀j,j<i->(D j).1.id=(j:Nat))/\Cx w W []) 4
  ⟨0,Xz _,Yo,YA,YB,G,G,λj h=>φ h (Fv j),H.tl.tl⟩ (λr B W s=>?_)
 obtain⟨i,hi,hr,hs,hd,l,m,a,H⟩:=s;refine aD (aG ?_);repeat first|refine qa ?_|refine aC ?_|refine aD ?_|refine aH ?_
 refine fB (λh=>?_) (λh=>?_)
 .have hin:i<4:=Mk;refine aR<|aH (aJ ?_);refine aD<|qa ?_;refine qg (Ae (nH _ _ _ _ δ ArrK.out ManyK.out G δ G δ hin _) (by rw[mZ (λj d=>UU D d)])) ?_;refine gQ H ?_;intro F H L;refine qa ?_;refine gH H.a0 aZ (bQ _ _ _ _) ?_;intro I H O;repeat first|refine qa ?_|refine aC ?_|refine aD ?_
  refine fB (λh1=>?_) (λh1=>?_)
  .have e1:(D i).1.id≠(i:Nat):=Xu h1;repeat first|refine qa ?_|refine aC ?_|refine aD ?_
   exact aQ (lQ (fF (DJ (lQ (fF (aN YB (bS δ G) ⟨by unfold gY;rw[θ f,θ c,θ (aOt hin e1)],H.bel⟩))))))
  have e1:(D i).1.id=(i:Nat):=by have:=Xg h1;simpa using this
  refine gT<|aI ?_;repeat refine qa ?_
  exact aU ⟨4-(i+1),Yo,i+1,Yo,Yo,YA,YB,G,Ae G YC,λj d=>(by
   by_cases e:j=i
   .rw[e];exact e1
   exact a j Yo),H.tl⟩
 obtain rfl:i=4:=Mo;refine bL (dQ ?_);refine aD ?_;repeat first|refine qa ?_|refine aC ?_
 exact aQ (aN YB (bS δ G) ⟨by unfold gY;rw[θ f,θ c,ι ⟨a 0 Yo,a 1 Yo,a 2 Yo,a 3 Yo⟩],H.bel⟩)
variable{lo:Δ á}
theorem aLg{p q r}(ho:o.op=.build 104 #[(0,p),(1,q),(2,r)]){lc}(hp:f p=aX (kZ fr D) 0 297)(hq:f q=.int .i64 bad)(hr:f r=.slice lo n lc)(w):(υ f o).run κ w=.ok (.value (aX (lM fr D bad (.slice lo n lc) (λ_=>([],(none,0)))) 0 303)) w:=by
 refine aBN (z:=lM 0 (λ_=>(dS,(none,0))) 0 (ε none 0 0) (λ_=>([],(none,0)))) (places:=#[(0,297),(297,1),(298,1),(299,4)]) Tryz.underlying104 (λw=>Yl) (λw=>Yl) ho ?_ w;rw[show (Array.map (λp:Nat×Operand=>(p.1,f p.2)) #[(0,p),(1,q),(2,r)]).toList=[(0,f p),(1,f q),(2,f r)] by simp];rw[hp,hq,hr,QI δ (yE _ _) Yc,QI (f:=λ_=>iY bad) δ δ Yc,QI (f:=λ_=>ε lo n lc) δ δ Yc];refine Ω ζ ?_;refine Ω List.toArray (Cw λj c=>?_);have c:=Df.1 c;by_cases a:j<297
 .rw[qJ _ _ Yo,qJ _ _ Yo];have:=qI (lM 0 (λ_=>(dS,(none,0))) 0 (ε none 0 0) (λ_=>([],(none,0)))) (o:=0) (kZ fr D) a;rw[Ah] at this;rw[this];exact (BN a).symm
 by_cases d:j=297
 .subst d;rfl
 by_cases l:j=298
 .subst l;rfl
 rw[qJ _ _ Yo,qJ _ _ Yo,qJ _ _ Yo];unfold lM P9;grind
theorem aMH(fr)D(bad)(lv)X(hi:i<4)(a:Ad):∀j,j<303->stW (lM fr D bad lv X) (1+i*74+73) (ο a (D i).1.vA.length) j=lM fr (fP D i ((D i).1,a)) bad lv X j:=by
 intro j d;rw[<-aJk fr D bad lv X hi ((D i).1,a) j d];unfold stP;by_cases c:1+i*74<=j/\j<1+i*74+74
 .rw[<-(NW (D i).1 (ο (D i).2 (D i).1.vA.length) (ο a (D i).1.vA.length) (j-(1+i*74)) Yo)];unfold stW;have hb:lM fr D bad lv X j=μ (D i).1 (ο (D i).2 (D i).1.vA.length) (j-(1+i*74)):=by unfold lM;rw[BN Yo];have:=aGw fr (λi=>(D i).1) (λi=>ο (D i).2 (D i).1.vA.length) (i:=i) (j:=j-(1+i*74)) Yo;grind
  grind
 rw[θ c,iR _ _ Yo]
theorem aSA(h:Sr w ao n c g):VZ w 1 (.slice ao n c) n (σ g n):=by
 rcases h with ⟨rfl,rfl,rfl⟩|⟨y,rfl,hc⟩
 .exact Aa ⟨δ,δ,δ⟩
 refine Ab ⟨y,c,δ,M9 g n,λj u a=>?_⟩;rcases Ar j n with h|h
 .rw[iU g h] at a;grind
 rw[jQ g h] at a;cases a
theorem aEQ(x:Ip)(fr)D(lo)(lc)(w0 w)(l)(hag:∀i,i<4->zX w0 (D i).1 (D i).2.1 (D i).2.2)(hok:∀i,i<4->ê (D i).1)(H:Cx w0 w l):ρ κ 32 #[aX (kZ fr D) 0 297,aX (jW x.rd x.bad (.slice lo x.ly.length lc)) 0 14] w λe w'=>∃(b:Nat) (D':Nat->Nd×Ad),e=.returned (.pointer (ζ ⟨b,0,none⟩))/\(∀i,i<4->(D' i).1=(D i).1)/\Cx w0 w' (oU w0.heap.size D'::η 104 b 303 303 (lM fr D' x.bad (.slice lo x.ly.length lc) (λ_=>([],(none,0))))::l):=by
 refine bC Tryz.func32 δ 35 δ Yd (λA hs hd hb=>?_);have b0:A.iQ 0=aX (kZ fr D) 0 297:=hb 0 _ δ;have C:A.iQ 1=aX (jW x.rd x.bad (ε lo x.ly.length lc)) 0 14:=hb 1 _ δ;refine aD (aG ?_);refine jO H ?_;intro w1 H z1;refine jO H ?_;intro f H J;repeat first|refine qa ?_|refine aC ?_|refine aD ?_
 refine qg (aLg (fr:=fr) (D:=D) δ G G G _) ?_;refine jO H ?_;intro y H z;refine qa ?_;refine aC<|aH<|aD<|qa ?_;refine qg (Ae (bE _ _ δ ManyK.out G H.v2 Yo) (by rw[mZ (λj hj=>aDM fr D hj)])) ?_;repeat first|refine qa ?_|refine aC ?_
 refine aJ ?_;refine bR (λr A W => ∃ (i : Nat) (D' E : Nat -> Nd × Ad), i <= 4 /\ 4 - i <= r /\ A.tmps.size = 35 /\ A.defers = [] /\ A.iQ 5 = ψ (ζ ⟨f.heap.size, 0, none⟩) /\ A.iQ 16 = aX (CZ D) 0 296 /\ A.iQ 17 = iY (i : Int) /\ (∀ j, j < 4 -> (D' j).1 = (D j).1) /\ (∀ j, j < i -> E j = D' j) /\
   Cx w0 W (oU w0.heap.size E::η 104 f.heap.size 303 303 (lM fr D' x.bad (ε lo x.ly.length lc) (λ_=>([],(none,0))))::l)) 4
  ⟨0,D,λ_=>(dS,(none,0)),Xz _,Yo,YA,YB,G,G,G,λ_ _=>rfl,λj h=>φ h (Fv j),H.f1.tl.f1.tl.add (Af _ _) (oU w0.heap.size (λ_=>(dS,(none,0)))) (λ_ _=>Am _ _ _ _) (λj ⟨_,_,e⟩=>φ e (λe=>nomatch e))⟩ (λr B W hI=>?_)
 obtain⟨i,D',E,hi,hr,hs,hd,b5,m,b17,hD,d,H⟩:=hI;refine aD (aG ?_);repeat first|refine qa ?_|refine aC ?_|refine aD ?_|refine aH ?_
 refine fB (λh=>?_) (λh=>?_)
 .have hin:i<4:=Mk;refine aR<|aH (aJ ?_);refine aD<|qa ?_;refine qg (Ae (nH _ _ _ _ δ ArrK.out ManyK.out G δ G δ hin _) (by rw[mZ (λj hj=>UU D hj)])) ?_;refine gQ H ?_;intro y H z;refine qa ?_;refine gH H.a0 aZ (bQ _ _ _ _) ?_;intro w4 H z4;refine aC ?_;replace H:=H.drew;have o:τ [η 43 W.heap.size 74 74 (μ (D i).1 (ο (D i).2 (D i).1.vA.length))] w4.drew:=Aj H.o0 (Ak _);refine fI (S:=τ [η 43 W.heap.size 74 74 (μ (D i).1 (ο (D i).2 (D i).1.vA.length))]) (.mv 0 (.mv 1 (.mv 2 (.mv 3 (.rd 4 (.mv 6 (.mv 7 (.mv 8 (.go 5 (.mv 9 (.mv 10 (.mv 11 (.go 12 .fin))))))))))))) [12] Yl Yl ?_;repeat first|refine qj ?_|refine qr o ?_
  refine dA δ δ Yw (λK hK=>?_);have q:=(hok i hin).vA;refine rQ δ inferInstance H.size G G (Am _ _ _ _) (aSA ((hag i hin).below H.bel)) (pW _ _ (λ_ _=>rfl)) Ym Yo ?_;intro F w5 o5 a n;rw[Ah,Da] at o5;obtain⟨c,c5,rfl,hc5⟩:=dU o5;have k5:Below w4.drew.heap.size w4.drew w5:=⟨a.os,a.tape,a.output,a.size,λk hk=>a.block k hk (λe=>nomatch e)⟩;replace H:=H.add k5 (zC w0.heap.size ((D i).1,(c,c5))) o5 (λj e=>(n j e).resolve_left (λe=>nomatch e));refine hK _ _ (λ_ _=>Aj H.o1 (Ak _)) ?_;repeat refine qj ?_
  refine dK δ Yw (λK hK=>iO _ _ _ _ δ OneK.out G G H.v3 Yo δ δ δ (λI m6 t L=>hK _ (λh=>φ h Yc) ?_));replace H:=H.a3.s t (m6.congr (λj hj=>Ae (by rw[show 0+0+1+i*74+71+2=1+i*74+73 by omega,hD i hin];rfl) (aMH fr D' x.bad (ε lo x.ly.length lc) (λ_=>([],(none,0))) hin (c,c5) j hj)));refine oC<|aI ?_;repeat refine qa ?_
  refine aU ⟨4-(i+1),Yo,i+1,fP D' i ((D' i).1,(c,c5)),fP E i ((D i).1,(c,c5)),Yo,Yo,YA,YB,G,G,Ae G YC,λj hj=>?_,λj hj=>?_,nX (g:=zC w0.heap.size) i H.f1.tl⟩
  .by_cases e:j=i
   .rw[e,dZ];exact hD i hin
   rw[dI _ _ e];exact hD j hj
  by_cases e:j=i
  .rw[e,dZ,dZ,hD i hin]
  rw[dI _ _ e,dI _ _ e];exact d j Yo
 obtain rfl:i=4:=Mo;refine bL (dQ ?_);refine aD ?_;repeat first|refine qa ?_|refine aC ?_
 refine aQ (aN YB (bS δ G) ⟨f.heap.size,D',δ,hD,H.wk (λh j hj=>?_) (λk ⟨j,hj,hk⟩=>⟨j,hj,?_⟩)⟩)
 .have this:(zC w0.heap.size (E j)).p W:=h j hj;rw[d j hj] at this;exact this
 show (zC w0.heap.size (E j)).foot k;rw[d j hj];exact hk
def vB(fb rb:Nat)(k:Nat):Value:=if k=0 then .func (.func 68) #[] #[ψ (ζ ⟨fb,0,none⟩),ψ (ζ ⟨rb,0,none⟩)] else if k=1 then .func (.func 70) #[] #[] else if k=2 then .func (.func 71) #[] #[] else if k=3 then .func (.func 72) #[] #[] else .func (.func 73) #[] #[]
variable{Q:Exit->Λ->Θ->Prop}
theorem aMN(w){a}{K:Λ->Θ->Prop}{x}(ho:o.op=.buildSlice 93 5 #[(0,x),(1,.func 70),(2,.func 71),(3,.func 72),(4,.func 73)]){fb rb}(hx:a.eval x=vB fb rb 0)(h:∀w',Vh 96 w' w.heap.size 5 5 (vB fb rb)->Below w.heap.size w w'->w'.heap.size=w.heap.size+1->K (a.put o.dst (.slice (ζ ⟨w.heap.size,0,none⟩) 5 5)) w'):WpI κ o a w K Q:=by
 have e:(υ a.eval o).run uC w=.ok (.value (AZ w.heap.size 5 5)) (w.alloc (.cells #[vB fb rb 0,vB fb rb 1,vB fb rb 2,vB fb rb 3,vB fb rb 4] 96)):=by have e1:a.eval (.func 70)=vB fb rb 1:=rfl;have e2:a.eval (.func 71)=vB fb rb 2:=rfl;have c:a.eval (.func 72)=vB fb rb 3:=rfl;have d:a.eval (.func 73)=vB fb rb 4:=rfl;generalize a.eval=f at hx e1 e2 c d;unfold vB at*;go_simp
 refine⟨?_⟩;unfold Oper.wp;rw[e];exact (h (w.alloc (.cells #[vB fb rb 0,vB fb rb 1,vB fb rb 2,vB fb rb 3,vB fb rb 4] 96)) (Cf (vB fb rb) 5 Yc Mr) (bU _ _) (fA _ _))
theorem aFt(fr)rd(w0 w)(l)(H:Cx w0 w l):ρ κ 33 #[.int .i64 fr,aX (JI rd) 0 12] w λe w'=>∃fb rb pb,e=.returned (.slice (ζ ⟨pb,0,none⟩) 5 5)/\Cx w0 w' (η 96 pb 5 5 (vB fb rb)::LU fb rb fr rd::l):=by
 refine bC Tryz.func33 δ 9 δ Yd (λA hs hd hb=>?_);have f:=hb 0 _ δ;have b1:=hb 1 _ δ;refine aD (aG ?_);refine aSn H ?_;intro d H o;refine jO H ?_;intro m H p;repeat first|refine qa ?_|refine aC ?_|refine aD ?_
 refine qg (aLC _ _ _ δ G G _) ?_;repeat first|refine qa ?_|refine aC ?_|refine aD ?_
 refine bI δ Yw (λK hK=>aMN _ δ (Ae G δ) (λn c a q=>hK _ _ ?_));replace H:=H.add a (η _ _ _ _ _) c (λj e=>Bq e.symm);refine Qz ?_;exact aQ (aN YB (bS δ G) ⟨w.heap.size,d.heap.size,_,δ,H.f2.f2.f1.merge.b1⟩)
theorem aTt(w):(zeroValue 37).run κ w=.ok (aX (λ_=>iV 0) 0 3) w:=Yl
theorem aLV(g:Nat->Value)h:∀j,j<3->stP g 0 3 h j=h j:=λj a=>by have:=qI g (o:=0) h a;grind
theorem aLr(x)(ho:o.op=.call { callee:=.builtin .len,args:=#[x],argTypes:=#[181] })(hx:f x=.slice ao n c)(w):(υ f o).run κ w=.ok (.value (.int .i64 ((n)))) w:=by unfold υ;rw[ho];dsimp only;go_simp
theorem aPt(x y)(ho:o.op=.indexAddr 181 x y){off}{z}(hx:f x=.slice (ζ ⟨b,off,none⟩) n cap)(hy:f y=.int .i64 z)(hz:z=(i))(hi:i<n)(w):(υ f o).run κ w=.ok (.value (.pointer (ζ ⟨b,off+i*3,none⟩))) w:=by go_simp
theorem aGU{d:Nat->Nat->Int}:σ (iF (λj=>d (j/3) (j%3))) (3*i)++σ (λk=>iV (d i k)) 3=σ (iF (λj=>d (j/3) (j%3))) (3*(i+1)):=by
 rw[mH];refine iW (λj a=>?_);by_cases c:j<3*i
 .rw[ι c]
 rw[θ c];show iV (d i (j-3*i))=iV (d (j/3) (j%3));grind
theorem aJW(b o N cap)(t)g(d:Nat->Nat->Int)(w)(hm:Vh t w b N cap g)(ho:o+12<=N)(hg:∀i k,i<4->k<3->g (o+i*3+k)=iV (d i k)):ρ κ 122 #[.slice (ζ ⟨b,o,none⟩) 4 4] w λe w'=>∃a2 c2,e=.returned (.slice a2 12 c2)/\w'.ownsRow w.heap.size 3 1 (.slice a2 12 c2) 12 (σ (iF (λj=>d (j/3) (j%3))) 12)/\Below w.heap.size w w':=by
 refine bC Tryz.func122 δ 17 δ Yd (λA hs hd hb=>?_);have L:=hb 0 _ δ;refine aD (aG ?_);refine Yx ?_;refine aC<|aD<|Yx ?_;refine aC<|aH<|aD<|Yx ?_;refine Yq (aLr _ δ Yf _) ?_;refine Yx ?_;refine aC<|aJ<|bR (λr a W=>∃(i:Nat) (v:Value),i<=4/\4-i<=r/\a.tmps.size=17/\a.defers=[]/\a.iQ 6=ε (ζ ⟨b,o,none⟩) 4 4/\a.iQ 7=iY ((4:Nat):Int)/\a.iQ 8=iY (i:Int)/\a.iQ 3=v/\W.ownsRow w.heap.size 3 1 v (3*i) (σ (iF (λj=>d (j/3) (j%3))) (3*i))/\nS w W) 4 ⟨0,_,Yo,Yo,YA,YB,Yf,Yf,Yf,Yf,Am _ _ _ _,Af _ _⟩ (λr B W y=>?_);obtain⟨i,v,hi,I,hs,hd,P,Q,R,O,l,kB⟩:=y;have z:=kB.size;have C:=hm.lt;by_cases hin:i<4
 .refine aD (aG ?_);refine Yx ?_;refine aC<|aH (aS Yf (aR ?_));refine aH (aJ ?_);refine aD<|Yq (aPt _ _ rfl Yb Yb rfl hin _) ?_;refine Yq (cZ (h:=λk=>iV (d i k)) _ _ δ mW Yf (hm.below kB) Yo (λk F=>hg i k hin F)) ?_;refine Za aTt (λV J k1 Z=>?_);have n:=bO l k1;refine Zs mW J (λj S=>rfl) (λX m q z2=>?_);have c:=Ac m (aLV _ _);have p:=bX n q (λe=>by have e2:=(l.lt _ e).2;omega);refine aC<|aI<|Yx ?_;refine Yq (yQ _ δ Yf _) ?_;refine bI δ Yw (λK hK=>?_);refine⟨mF _ _ _ δ w.heap.size Yo v _ _ Yf p _ 3 3 _ Yf (Ab ⟨_,δ,λi hi=>by rw[kC,Ah];exact c.cell hi⟩) (λi _=>rfl) Yo ?_⟩;intro U Y f s;have T:=s.size;rw[aGU] at f;refine hK _ _ ?_;refine Yx ?_;refine fK<|aI ?_;iterate 2 refine Yx ?_
  exact aU ⟨4-(i+1),Yo,i+1,_,Yo,Yo,YA,YB,Yb,Yb,(Ye δ).trans YC,Yf,f,(aF (kB.trans (k1.mono Yo)) q Yo Yo).trans (s.mono Yo)⟩
 refine aD (aG ?_);refine Yx ?_;obtain rfl:i=4:=Yo;refine aC<|aH (aO Yf (bL (dQ ?_)));refine aD ?_;iterate 2 refine Yx ?_
 obtain⟨a2,c2,rfl,D⟩:=dU l;refine aC ?_;exact aQ (aN YB (bS δ Yf) ⟨a2,c2,δ,l,kB⟩)
end
section
open Go.RowKit
theorem aSz:(Tryz.prog.info? 3).map (·.size)=ζ 1:=Yl
variable{K:Λ->Θ->Prop}{Q:Exit->Λ->Θ->Prop}{a:Λ}{o:é}
theorem aCr(w)(d s)(ho:o.op=.call { callee:=.builtin .copy,args:=#[d,s],argTypes:=#[72,72] }){b k m N cap cv l}{t}{g f:Nat->Value}{y}(hd:a.eval d=.slice (ζ ⟨b,k,none⟩) m m)(hv:Vh t w b N cap g)(hn:k+m<=N)(hs:a.eval s=.slice (ζ y) l cv)(hl:l=m)(hc:∀i,i<m->w.cell? (y.add i)=ζ (f i))(h1:∀i,i<m->(f i).oneCell'=true)(h:∀w',Vh t w' b N cap (stP g k m f)->Kept b w w'->w'.heap.size=w.heap.size->K (a.put o.dst (goInt m)) w'):WpI κ o a w K Q:=by
 subst hl;obtain⟨w',e,hv',hk,hz⟩:=xB (P:=uC) b k t N cap f l 0 g w hv Yo (λj hj=>by rw[Ah];exact h1 j hj);have hh:=h w' (hv'.congr (λj _=>by rw[Nat.add_zero];congr 1;funext i;rw[Ah])) hk hz;have e2:(storeCells ⟨b,k,none⟩ ((Ξ l).map f)).run uC w=.ok () w':=by grind
 have hrun:(Builtin.copy_ #[72,72] o.type #[ε (ζ ⟨b,k,none⟩) l l,ε (ζ y) l cv]).run uC w=.ok (goInt l) w':=by simp only[Builtin.copy_,Fq Fu,Builtin.lenOf,Builtin.firstCells,Nat.min_self,Aq,Bo,Bb,iI.size,Cs,(run_loadCells w y l f hc),e2,Ho,List.getElem?_cons_zero,List.getElem?_cons_succ]
 refine⟨?_⟩;unfold Oper.wp υ;simp only[ho,resolve,invoke,builtin,Aq,Bo,Bb,Ay,Aw,Az,hd,hs,hrun];exact hh
variable{ad:Δ á}
theorem aMJ(w)(d s)(ho:o.op=.call { callee:=.builtin .copy,args:=#[d,s],argTypes:=#[72,72] }){m c}(hd:a.eval d=.slice ad m c)(hs:a.eval s=.slice none 0 0)(h:K (a.put o.dst (goInt 0)) w):WpI κ o a w K Q:=by refine⟨?_⟩;unfold Oper.wp υ;simp only[ho,resolve,invoke,builtin,Aq,Bo,Bb,Ay,Aw,Az,hd,hs,(run_copy_none w 72 72 o.type 3 ad none m c 0 0 Fu aSz Mt)];exact h
end
section
open Go.RowKit
variable{a:Δ á}{g:Nat->Value}{n:Nat}{t:ò}{w:Θ}
theorem aTm{B c}(h:w.ownsRow B t 1 (.slice a n c) n (σ g n)):Sr w a n c g:=by obtain⟨f,d,e,hs,_⟩:=iT h;cases e;exact hs
theorem aBl:zY ë ì 70:=by
 intro n z c mo mc L w P o t hN a4 a0;have o:Sr w z n.vA.length c (tF (bA n)):=o;refine bC Tryz.func70 δ 36 δ Yd (λA hs hd hb=>?_);have b0:A.iQ 0=jX n (ε z n.vA.length c):=hb 0 _ δ;have b1:A.iQ 1=ε mo L.length mc:=hb 1 _ δ;refine aD (aG ?_);refine jO (Bl w) ?_;intro D H z1;refine gQ H ?_;intro F H z2;refine gQ H ?_;intro w3 H z3;refine aC<|aD<|qg (bE _ _ rfl ManyK.out G H.v2 Yo) ?_;refine ω (show ρ _ _ #[aX (μ n (ε z n.vA.length c)) 0 74] _ _ from zS n z c _ (o.below H.bel) P.vA) ?_;rintro e w4 ⟨a3,d,rfl,o4,k4⟩;refine⟨aX (μ n (ε a3 n.vA.length d)) 0 74,δ,?_⟩;have p:=H.size;replace H:=H.add k4 (fU w.heap.size 4 1 (ε a3 n.vA.length d) n.vA.length (σ (tF (bA n)) n.vA.length)) (cO o4 p) (λj e=>(o4.lt j e).1);refine gH H.a3 aZ (bQ _ _ _ _) ?_;intro w5 H z5;refine aC<|aH<|aD<|qa ?_;refine qg (aT (v:=iY n.id) _ _ δ OneK.out G H.v3 Yo δ) ?_;refine ω (lI n.id _) ?_;rintro e w6 ⟨rfl,k6⟩;refine⟨_,δ,?_⟩;replace H:=H.call k6;refine qg (tZ _ _ δ G _) ?_;refine aC ?_;cases hno:kR n.id with
 |true=>refine aS G ?_;refine aD<|qg (bE _ _ rfl ManyK.out G H.v3 Yo) ?_;refine qg (oH δ _) ?_;refine gH H.a2 aZ (bQ _ _ _ _) ?_;intro w7 H z7;refine gH H.a1 aZ (fV _ _ _ _ _ _) ?_;intro w8 H z8;refine aC ?_;rw[show ë n (L.map Lm.m)=n by unfold ë;rw[ι hno],show ì n (L.map Lm.m)=kQ by unfold ì;rw[ι hno]];exact aQ (fF (aN YB (iC δ G G ManyK.out ManyK.out H.v2 (Xr _) H.v1 (Xr _)) ⟨a3,d,none,0,δ,H.o0,Am _ _ _ _,H.bel⟩))
 |false=>
  obtain⟨h0,h3⟩:=tQ hno;refine aO G (aR ?_);refine aH<|aD<|qg (bE _ _ rfl ManyK.out G H.v3 Yo) ?_;refine qa ?_;refine ω (I5 n _ mo mc L 1 3 _ (t.below H.bel) hN Yc) ?_;rintro e w7 ⟨rfl,k7⟩;replace H:=H.call k7;refine⟨_,δ,?_⟩;refine qa ?_;refine aC<|aJ<|bR (λr a W=>∃i:Nat,i<=4/\4-i<=r/\RlA a 36 w.heap.size D.heap.size F.heap.size (aX (hrO n.id n.fr L 1 3) 0 4) i/\Cx w W [fU w.heap.size 4 1 (ε a3 n.vA.length d) n.vA.length (σ (tF (bA n)) n.vA.length),η 79 F.heap.size 4 4 (msF 0 0 0 (ε none 0 0)),η 43 D.heap.size 74 74 (μ dS (ε none 0 0)),η 43 w.heap.size 74 74 (μ { n with di:=relI n (L.map Lm.m) i } (ε a3 n.vA.length d))]) 4 ⟨0,Yo,Yo,⟨YA,YB,G,G,G,G,G⟩,H⟩ (λr B W O=>?_);obtain⟨i,hi,a5,⟨hs,hd,b2,b4,b5,I,J⟩,H⟩:=O;refine aD (aG ?_);refine qa ?_;refine aC<|aH<|fB (λhc=>?_) (λhc=>?_)
  .have hin:i<4:=Jf;obtain⟨so,sc,l,el,sl,_,cl⟩:=aTQ (n:=n) t 1 3 i;refine aR<|lS (λa W=>RlA a 36 w.heap.size D.heap.size F.heap.size (aX (hrO n.id n.fr L 1 3) 0 4) i/\Cx w W [fU w.heap.size 4 1 (ε a3 n.vA.length d) n.vA.length (σ (tF (bA n)) n.vA.length),η 79 F.heap.size 4 4 (msF 0 0 0 (ε none 0 0)),η 43 D.heap.size 74 74 (μ dS (ε none 0 0)),η 43 w.heap.size 74 74 (μ { n with di:=relI n (L.map Lm.m) (i+1) } (ε a3 n.vA.length d))]) ?_ (λC Z O=>?_)
   .refine aJ<|aD<|qa ?_;refine qg ((nG _ _ _ _ δ ArrK.out OneK.out G G δ hin _).trans (by rw[el])) ?_;iterate 2 refine qa ?_
    refine aC<|aI ?_;iterate 3 refine qa ?_
    refine qg (yQ _ δ G _) ?_;refine qa ?_;rcases cl with ⟨⟨rfl,rfl,rfl⟩,e⟩|⟨cm,e,rfl,e2⟩
    .refine bI δ Yw (λK hK=>aMJ _ _ _ δ G G (hK _ _ ?_));exact kL ⟨δ,⟨YA,YB,G,G,G,G,G⟩,by rw[<-aBH (n:=n) e];exact H⟩
    rcases sl with ⟨_,e3,_⟩|⟨y,rfl,hy⟩
    .omega
    refine bI δ Yw (λK hK=>aCr _ _ _ δ (f:=λa=>iV (gL cm.m.L a)) G H.v3 Yo G Yo (λa ha=>aP (hy a Yo) H.bel) (λ_ _=>rfl) (λw8 m8 T z8=>hK _ _ ?_));replace H:=H.a3.s T (m8.congr (PD _ _ _ i hin));exact kL ⟨δ,⟨YA,YB,G,G,G,G,G⟩,by rw[<-aBI (n:=n) e];exact H⟩
   obtain⟨⟨hs,hd,b2,b4,b5,I,J⟩,H⟩:=O;refine aI (aG ?_);iterate 2 refine qa ?_
   exact aU ⟨4-(i+1),Yo,i+1,Yo,Yo,⟨YA,YB,G,G,G,G,Ae G YC⟩,H⟩
  obtain rfl:i=4:=Jg;refine bL (dQ ?_);refine aH ?_;rw[aEo (aBG n (L.map Lm.m))] at H;replace H:=H.drew;have hS:τ [η 43 w.heap.size 74 74 (μ { n with di:=è n (L.map Lm.m) } (ε a3 n.vA.length d))] W.drew:=Aj H.o3 (Ak _);refine fI (S:=τ [η 43 w.heap.size 74 74 (μ { n with di:=è n (L.map Lm.m) } (ε a3 n.vA.length d))]) (.rd 0 (.rd 1 (.mv 2 (.mv 3 (.go 4 (.go 5 (.go 6 (.go 7 .fin)))))))) [] Yl Yl ?_;iterate 2 refine oD rfl rfl (λ_ _ _ h=>h) Yw hS (λ_ H=>bE _ _ rfl ManyK.out G H.v0 Yo) ?_
  refine qj ?_;refine Yk δ (λ_=>aIt _ δ G _) ?_;refine Ψ (aJW _ (0+39) 74 74 _ _ (è n (L.map Lm.m)) _ H.v3 Yo (λi k hi hk=>by have:=aBg { n with di:=è n (L.map Lm.m) } (ε a3 n.vA.length d) hi hk;rw[Cs] at this;exact this)) ?_;rintro e w8 ⟨fa,fc,rfl,X,T⟩;have Y:=aTm X;replace H:=H.call T;refine⟨_,δ,λ_ _=>Aj H.o3 (Ak _),?_⟩;refine Ψ (xX { n with di:=è n (L.map Lm.m) } (ε a3 n.vA.length d) 2 _ 12 _ _ _ Y Yc) ?_;rintro e w9 ⟨a2,c2,rfl,q,k9⟩;have p:=H.size;have eg:=aHk (relR n (L.map Lm.m)) 12;unfold relR at eg;rw[<-eg] at q;replace H:=H.add k9 (fU w.heap.size 3 1 (ε a2 12 c2) 12 _) (cO q p) (λj e=>(q.lt j e).1);refine⟨_,δ,λ_ _=>Aj H.o4 (Ak _),?_⟩;refine aUc H.v3 (bQ _ _ _ _) ?_;intro a6 U Q a8;replace H:=H.a3.s Q (U.congr aZ);refine⟨λ_ _=>Aj H.o4 (Ak _),?_⟩;refine aUc H.v2 (fV _ _ _ _ _ _) ?_;intro a7 V R a9;replace H:=H.a2.s R (V.congr aZ);refine⟨λ_ _=>Aj H.o4 (Ak _),?_⟩;refine gM ?_;rw[show ë n (L.map Lm.m)={ n with di:=è n (L.map Lm.m) } by unfold ë;rw[θ Mw],show ì n (L.map Lm.m)=⟨2,n.id,n.fr,(Ξ 12).map (relR n (L.map Lm.m))⟩ by unfold ì;rw[θ Mw];rfl];exact aQ (aN YB (iC δ G G ManyK.out ManyK.out H.v3 (Xr _) H.v2 (Xr _)) ⟨a3,d,a2,c2,δ,H.o1,H.o0,H.bel⟩)
def ME(ax:Nat->St):Nat->ν Int
 |0=>[]
 |a+1=>ME ax a++AJ (ax a)
def inP(b:Nat->â):Nat->Int
 |0=>0
 |k+1=>inP b k*2+if b (3-k) then 1 else 0
theorem aRI(b:Nat->â)(k):0<=inP b k/\inP b k<2^k:=by
 induction k with
 |zero=>exact⟨Bp 0,(by decide:(0:Int)<2^0)⟩
 |succ k ih=>show 0<=inP b k*2+_/\inP b k*2+_<_;omega
variable{x:Nat}
theorem aMi(h:x<=4):(2:Int)^x<=16:=by have:x=0\/x=1\/x=2\/x=3\/x=4:=Yo;grind
theorem aKn(b:Nat->â):inP b 4=IP b:=by show ((((0*2+if b 3 then (1:Int) else 0)*2+if b 2 then 1 else 0)*2+if b 1 then 1 else 0)*2+if b 0 then 1 else 0)=_;unfold IP;grind
variable{b:Nat->â}
theorem aTE(h:b (3-x)=false):(.int .i64 (inP b x*2):Value)=.int .i64 (inP b (x+1)):=by show _=í ξ (inP b x*2+if b (3-x) then 1 else 0);grind
theorem aTF(h:b (3-x)=true):(.int .i64 (inP b x*2+1):Value)=.int .i64 (inP b (x+1)):=by show _=í ξ (inP b x*2+if b (3-x) then 1 else 0);grind
theorem UZ(ax:Nat->St)(x):(ME ax (x+1)).map iV=(ME ax x).map iV++σ (λi=>iV (gL (AJ (ax x)) i)) 7:=by show (ME ax x++AJ (ax x)).map iV=_;rw[Cb];rfl
theorem aSi(ax:Nat->St)(r):(qH ax r).map iV=(ME ax 3).map iV++σ (λi=>iV (gL [inP r.I 4,qX r.M 4,qX r.J 4] i)) 3:=by have e:=aKn r.I;generalize inP r.I 4=q at e;subst e;rfl
instance iRN7_1:ZerK κ 31 7 (fJ St.nil'):=⟨xE⟩
theorem aTP{b}(h:Vh t w b n n g):VZ w 1 (.slice (ζ ⟨b,0,none⟩) n n) n (σ g n):=Ab ⟨_,_,rfl,by simp[σ],λj u a=>by
 have c:j<n:=by have:=(Gi.1 a).1;simpa [σ] using this
 obtain rfl:g j=u:=by simpa [σ,c] using a
 rw[kC,Ah];exact h.cell c⟩
theorem aTO(g:Nat->Int)(n):∀u∈σ (λi=>iV (g i)) n,u.oneCell'=true:=λu hu=>by obtain⟨i,_,rfl⟩:=Eh.1 hu;rfl
variable{s:Nat}
theorem AtK.jn{w0 w'}{e}{m}{v v'}{xs ys}{F:It->ν It}(H:AtK w0 w (fU w0.heap.size e s v n xs) F)(h2:w'.ownsRow w0.heap.size e s v' m ys)(h3:w.grownBy w' v.ownBlock)(h4:∀k,v'.ownBlock=ζ k->v.ownBlock=ζ k\/w.heap.size<=k):Cx w0 w' (F (fU w0.heap.size e s v' m ys)):=H.put ⟨h3.os,h3.tape,h3.output,h3.size,λj a c=>h3.block j a (λe=>c e.symm),h2,h4⟩
theorem FT(n)(nv)(w):ρ κ 107 #[jX n nv] w λe w'=>∃ao c,e=.returned (.slice ao 24 c)/\w'.ownsRow w.heap.size 3 1 (.slice ao 24 c) 24 (σ (iF (gL (qH n.ax n.rl))) 24)/\Below w.heap.size w w':=by
 refine bC Tryz.func107 δ 79 δ Yd (λA hs hd hb=>?_);have Q:A.eval (.tmp 0)=jX n nv:=hb 0 _ δ;refine aD (aG ?_);refine jO (Bl w) ?_;intro U H X;refine qa ?_;refine aC<|aD<|qa ?_;refine aC<|aH<|aD<|qa ?_;refine aC<|aJ<|bR (λr a W=>∃(x:Nat) (v:Value),x<=3/\3-x<=r/\a.tmps.size=79/\a.defers=[]/\a.eval (.tmp 1)=ψ (ζ ⟨w.heap.size,0,none⟩)/\a.eval (.tmp 3)=v/\a.eval (.tmp 4)=π ξ (x:Int)/\Cx w W [fU w.heap.size 3 1 v (7*x) ((ME n.ax x).map iV),η 43 w.heap.size 74 74 (μ n nv)]) 3 ⟨0,ε none 0 0,Yo,Yo,YA,YB,G,G,G,H.add (Af _ _) (fU w.heap.size 3 1 (ε none 0 0) 0 []) (Am _ _ _ _) (λ_ e=>nomatch e)⟩ (λr B W d=>?_);obtain⟨x,v,hx,hr,hs,hd,f,j,y,H⟩:=d;refine aH<|aD (aG ?_);iterate 2 refine qa ?_
 refine aC<|fB (λhc=>?_) (λhc=>?_)
 .have hin:x<3:=Jf;refine aR<|aH (aJ ?_);refine aD ?_;iterate 3 refine qa ?_
  refine qg (cZ (h:=fJ (n.ax x)) _ _ δ ManyK.out G H.v1 Yo (aBf _ _ hin)) ?_;refine gQ H ?_;intro V H z3;refine gH H.a0 aZ (gI _) ?_;intro F H z4;refine aC<|aD<|qa ?_;refine aC<|lS (λA Z=>A.tmps.size=79/\A.defers=[]/\A.eval (.tmp 1)=ψ (ζ ⟨w.heap.size,0,none⟩)/\A.eval (.tmp 3)=v/\A.eval (.tmp 4)=π ξ (x:Int)/\A.eval (.tmp 5)=ψ (ζ ⟨W.heap.size,0,none⟩)/\A.eval (.tmp 6)=π ξ (gL (AJ (n.ax x)) 5)/\Z=F) ?_ (λC Z d=>?_)
  .refine aD<|qa ?_;refine qg (aT (v:=î (n.ax x).B) _ _ δ OneK.out G H.v0 Yo δ) ?_;refine aC<|fB (λhb=>?_) (λhb=>?_)
   .refine aI ?_;iterate 3 refine qa ?_
    exact kL ⟨δ,YA,YB,G,G,G,G,Ae G (by show _=í ξ (if (n.ax x).B then 1 else 0);rw[hb];rfl),rfl⟩
   exact iE ⟨δ,YA,YB,G,G,G,G,Ae G (by show _=í ξ (if (n.ax x).B then 1 else 0);rw[hb];rfl),rfl⟩
  obtain⟨hs,hd,f,j,y,R,S,rfl⟩:=d;refine aI (aG ?_);refine qa ?_;iterate 5 (refine qa ?_;refine qg (aT _ _ δ OneK.out G H.v0 Yo δ) ?_)
  iterate 2 refine qa ?_
  refine qg (aT _ _ δ OneK.out G H.v0 Yo δ) ?_;refine bI δ Yw (λK hK=>VY _ _ _ _ _ _ _ _ δ (g:=gL (AJ (n.ax x))) G G G G G G G ?_);intro L o m P;replace H:=H.call m;refine hK _ _ ?_;refine OE (bytes:=8) H.a1 (aTP o) (aTO _ _) Ym Yo ?_;intro D O H;rw[<-UZ] at H;refine qa ?_;refine fK<|aI ?_;iterate 3 refine qa ?_
  exact aU ⟨3-(x+1),Yo,x+1,_,Yo,Yo,YA,YB,G,G,Ae G YC,H.tl⟩
 obtain rfl:x=3:=Jg;refine bL (dQ ?_);refine aD ?_;iterate 3 refine qa ?_
 refine aC<|aH<|aD<|qa ?_;refine aC<|aJ<|bR (λr a Z=>∃x:Nat,x<=4/\4-x<=r/\a.tmps.size=79/\a.defers=[]/\a.eval (.tmp 1)=ψ (ζ ⟨w.heap.size,0,none⟩)/\a.eval (.tmp 3)=v/\a.eval (.tmp 7)=π ξ (inP n.rl.I x)/\a.eval (.tmp 8)=π ξ 0/\a.eval (.tmp 9)=π ξ 0/\a.eval (.tmp 10)=π ξ (3-(x:Int))/\Z=W) 4 ⟨0,Yo,Yo,YA,YB,G,G,G,G,G,G,rfl⟩ (λr B Z d=>?_);obtain⟨x,hx,hr,hs,hd,f,j,p,q,s,l,rfl⟩:=d;have T:=aRI n.rl.I x;have z:(2:Int)^x<=16:=aMi hx;refine aH<|aD (aG ?_);iterate 2 refine qa ?_
 refine aC<|fB (λhc=>?_) (λhc=>?_)
 .have hin:x<4:=Jf;refine aR<|lS (λA Y=>A.tmps.size=79/\A.defers=[]/\A.eval (.tmp 1)=ψ (ζ ⟨w.heap.size,0,none⟩)/\A.eval (.tmp 3)=v/\A.eval (.tmp 7)=π ξ (inP n.rl.I (x+1))/\A.eval (.tmp 8)=π ξ 0/\A.eval (.tmp 9)=π ξ 0/\A.eval (.tmp 10)=π ξ (3-(x:Int))/\Y=Z) ?_ (λC Y d=>?_)
  .refine aJ<|aD<|qa ?_;refine qg (rO _ _ δ G G Yo Yo _) ?_;refine qa ?_;refine aC<|aD ?_;iterate 3 refine qa ?_
   refine qg (bB _ _ _ _ δ ArrK.out SizK.out G G (i:=3-x) Yo Yo _) ?_;refine qg (aT (v:=î (n.rl.I (3-x))) _ _ δ OneK.out G H.v1 Yo (RI _ _ Yo)) ?_;refine aC<|fB (λhb=>?_) (λhb=>?_)
   .refine aI ?_;iterate 3 refine qa ?_
    exact kL ⟨δ,YA,YB,G,G,Ae G (aTF hb),G,G,G,δ⟩
   exact iE ⟨δ,YA,YB,G,G,Ae G (aTE hb),G,G,G,δ⟩
  obtain⟨hs,hd,f,j,p,q,s,l,rfl⟩:=d;refine aI (aG ?_);iterate 3 refine qa ?_
  exact aU ⟨4-(x+1),Yo,x+1,Yo,Yo,YA,YB,G,G,G,G,G,Ae G Ov,δ⟩
 obtain rfl:x=4:=Jg;refine bL (dQ ?_);refine aH<|aD<|qa ?_;refine aC<|aJ<|bR (λr a Y=>∃x:Nat,x<=4/\4-x<=r/\a.tmps.size=79/\a.defers=[]/\a.eval (.tmp 1)=ψ (ζ ⟨w.heap.size,0,none⟩)/\a.eval (.tmp 3)=v/\a.eval (.tmp 7)=π ξ (inP n.rl.I 4)/\a.eval (.tmp 8)=π ξ (qX n.rl.M x)/\a.eval (.tmp 9)=π ξ (qX n.rl.J x)/\a.eval (.tmp 11)=π ξ (x:Int)/\Y=Z) 4 ⟨0,Yo,Yo,YA,YB,G,G,G,G,G,G,rfl⟩ (λr B Y d=>?_);obtain⟨x,hx,hr,hs,hd,f,j,p,q,s,t,rfl⟩:=d;refine aH<|aD (aG ?_);iterate 2 refine qa ?_
 refine aC<|fB (λhc=>?_) (λhc=>?_)
 .have hin:x<4:=Jf;refine aR<|aH (aJ ?_);refine aD<|qa ?_;refine qg (EH _ _ δ G G _) ?_;iterate 4 refine qa ?_
  refine qg (aT _ _ δ OneK.out G H.v1 Yo (aSa _ _ hin)) ?_;refine qg (OI _ _ δ G G _) ?_;refine qa ?_;refine aC<|aI<|qa ?_;refine qg (EH _ _ δ G G _) ?_;iterate 4 refine qa ?_
  refine qg (aT _ _ δ OneK.out G H.v1 Yo (aRZ _ _ hin)) ?_;refine qg (OI _ _ δ G G _) ?_;refine qa ?_;refine fK<|aI ?_;iterate 3 refine qa ?_
  exact aU ⟨4-(x+1),Yo,x+1,Yo,Yo,YA,YB,G,G,G,G,G,Ae G YC,δ⟩
 obtain rfl:x=4:=Jg;refine bL (dQ ?_);refine aD ?_;iterate 4 refine qa ?_
 refine bI δ Yw (λK hK=>LJ _ _ _ _ δ (g:=gL [inP n.rl.I 4,qX n.rl.M 4,qX n.rl.J 4]) G G G ?_);intro L o m P;replace H:=H.call m;refine hK _ _ ?_;refine OE (bytes:=8) H.a0 (aTP o) (aTO _ _) Ym Yo ?_;intro D O H;rw[<-aSi,show (qH n.ax n.rl).map iV=σ (iF (gL (qH n.ax n.rl))) 24 from II _] at H;obtain⟨ao,c,rfl,hc⟩:=dU H.o0;refine qa ?_;refine aC ?_;exact aQ (aN YB (bS δ G) ⟨ao,c,δ,H.o0,H.bel⟩)
def bz(b:â):Int:=if b then 1 else 0
theorem aBv(b)(w):ρ κ 184 #[.bool b] w λe w'=>e=.returned (.int .i64 (bz b))/\Below w.heap.size w w':=by
 refine bC Tryz.func184 δ 4 δ Yd (λA hs hd hb=>?_);have a:=hb 0 _ δ;refine aD (aG<|Qz ?_);cases b
 .refine aO G (aR ?_);refine Qz ?_;exact aQ (aN YB (bS δ G) ⟨δ,Af _ _⟩)
 refine aS G<|Qz ?_;exact aQ (fF (aN YB (bS δ G) ⟨δ,Af _ _⟩))
variable{f:ñ->Value}{i:Nat}{o:é}
theorem aLH(x y)(ho:o.op=.binOp .shl 3 x y 3){b}(hx:f x=.int .i64 (bz b))(hy:f y=.int .i64 i)(hi:i<4)(w):(υ f o).run κ w=.ok (.value (.int .i64 (if b then 2^i else 0))) w:=by have:i=0\/i=1\/i=2\/i=3:=Yo;unfold υ;rw[ho];dsimp only;rw[hx,hy];rcases this with rfl|rfl|rfl|rfl<;>cases b<;>(change _=_;kernel_rfl)
variable{z:Int}
theorem aPu(x y)(ho:o.op=.indexAddr 39 x y){b off cap}(hx:f x=.slice (ζ ⟨b,off,none⟩) n cap)(hy:f y=.int .i64 z)(hz:z=(i))(hi:i<n)(w):(υ f o).run κ w=.ok (.value (.pointer (ζ ⟨b,off+i,none⟩))) w:=by go_simp
theorem aLp(x y)(ho:o.op=.indexAddr 72 x y){b off cap}(hx:f x=.slice (ζ ⟨b,off,none⟩) n cap)(hy:f y=.int .i64 z)(hz:z=(i))(hi:i<n)(w):(υ f o).run κ w=.ok (.value (.pointer (ζ ⟨b,off+i,none⟩))) w:=by go_simp
def sN(b:Nat->â):Nat->Int
 |0=>0
 |k+1=>sN b k+(if b k then 2^k else 0)
theorem aPH(b:Nat->â):sN b 4=IP b:=by show 0+_+_+_+_=_;unfold IP;grind
variable{k:Nat}
theorem aNm(b:Nat->â)(hk:k<=4):0<=sN b k/\sN b k<=15/\(k<4->0<=(if b k then (2:Int)^k else 0)/\(if b k then (2:Int)^k else 0)<=8):=by
 have h1:∀(x:â) (i:Nat),0<=(if x then (2:Int)^i else 0)/\(if x then (2:Int)^i else 0)<=(2:Int)^i:=λx i=>by grind
 have a:=h1 (b 3) 3
 match k,hk with
 |0,_=>exact⟨Bp _,by show (0:Int)<=15;decide,λ_=>⟨(h1 (b 0) 0).1,by show (if b 0 then (1:Int) else 0)<=8;omega⟩⟩
 |1,_=>exact⟨by show 0<=0+(if b 0 then (1:Int) else 0);omega,by show 0+(if b 0 then (1:Int) else 0)<=15;omega,λ_=>⟨(h1 (b 1) 1).1,by show (if b 1 then (2:Int) else 0)<=8;omega⟩⟩
 |2,_=>exact⟨by show 0<=0+(if b 0 then (1:Int) else 0)+(if b 1 then (2:Int) else 0);omega,by show 0+(if b 0 then (1:Int) else 0)+(if b 1 then (2:Int) else 0)<=15;omega,λ_=>⟨(h1 (b 2) 2).1,by show (if b 2 then (4:Int) else 0)<=8;omega⟩⟩
 |3,_=>exact⟨by show 0<=0+(if b 0 then (1:Int) else 0)+(if b 1 then (2:Int) else 0)+(if b 2 then (4:Int) else 0);omega,by show 0+(if b 0 then (1:Int) else 0)+(if b 1 then (2:Int) else 0)+(if b 2 then (4:Int) else 0)<=15;omega,λ_=>⟨a.1,a.2⟩⟩
 |4,_=>exact⟨by show 0<=0+(if b 0 then (1:Int) else 0)+(if b 1 then (2:Int) else 0)+(if b 2 then (4:Int) else 0)+(if b 3 then (8:Int) else 0);omega,by show 0+(if b 0 then (1:Int) else 0)+(if b 1 then (2:Int) else 0)+(if b 2 then (4:Int) else 0)+(if b 3 then (8:Int) else 0)<=15;omega,λh=>φ h Yo⟩
theorem ZA(b o N cap)(t)(g:Nat->Value)c(w)(hm:Vh t w b N cap g)(ho:o+4<=N)(hg:∀i,i<4->g (o+i)=.bool (c i)):ρ κ 185 #[.slice (ζ ⟨b,o,none⟩) 4 4] w λe w'=>e=.returned (.int .i64 (IP c))/\Below w.heap.size w w':=by
 refine bC Tryz.func185 δ 21 δ Yd (λA hs hd hb=>?_);have m:=hb 0 _ δ;refine aD (aG ?_);refine qa ?_;refine aC<|aD<|qa ?_;refine aC<|aH<|aD ?_;iterate 3 refine qa ?_
 refine aC<|aJ<|bR (λr a W=>∃i:Nat,i<=4/\4-i<=r/\a.tmps.size=21/\a.defers=[]/\a.iQ 6=ε (ζ ⟨b,o,none⟩) 4 4/\a.iQ 7=iY ((4:Nat):Int)/\a.iQ 8=iY (i:Int)/\a.iQ 3=iY (sN c i)/\nS w W) 4 ⟨0,Yo,Yo,YA,YB,G,G,G,G,Af _ _⟩ (λr B W d=>?_);obtain⟨i,hi,l,hs,hd,p,q,s,n,kB⟩:=d;refine aD (aG ?_);refine qa ?_;refine aC<|aH<|fB (λhc=>?_) (λhc=>?_)
 .have hin:i<4:=Jf;refine aR<|aH (aJ ?_);refine aD<|qa ?_;refine qg (aPu _ _ δ G G δ hin _) ?_;refine qg (aT _ _ δ OneK.out G (hm.below kB) Yo (hg i hin)) ?_;iterate 2 refine qa ?_
  refine aC<|aI ?_;iterate 2 refine qa ?_
  refine ω (aBv _ _) ?_;rintro e y ⟨rfl,k1⟩;refine⟨_,δ,?_⟩;refine qa ?_;refine qg (aLH _ _ δ G G hin _) ?_;have f:=aNm c hi;have j:=f.2.2 hin;refine qg (nA _ _ δ G G Yo Yo _) ?_;refine qa ?_;refine fK<|aI ?_;iterate 2 refine qa ?_
  exact aU ⟨4-(i+1),Yo,i+1,Yo,Yo,YA,YB,G,G,Ae G YC,G,kB.trans (k1.mono kB.size)⟩
 obtain rfl:i=4:=Jg;refine bL (dQ ?_);refine aD ?_;iterate 2 refine qa ?_
 refine aC ?_;exact aQ (aN YB (bS δ G) ⟨by rw[aPH],kB⟩)
theorem U1(b o N cap)(t)(g:Nat->Value)c(w)(hm:Vh t w b N cap g)(ho:o+4<=N)(hg:∀i,i<4->g (o+i)=.int .i64 (c i)):ρ κ 186 #[.slice (ζ ⟨b,o,none⟩) 4 4] w λe w'=>e=.returned (.int .i64 (qX c 4))/\Below w.heap.size w w':=by
 refine bC Tryz.func186 δ 18 δ Yd (λA hs hd hb=>?_);have j:=hb 0 _ δ;refine aD (aG ?_);refine qa ?_;refine aC<|aD<|qa ?_;refine aC<|aH<|aD ?_;iterate 3 refine qa ?_
 refine aC<|aJ<|bR (λr a W=>∃i:Nat,i<=4/\4-i<=r/\a.tmps.size=18/\a.defers=[]/\a.eval (.tmp 6)=ε (ζ ⟨b,o,none⟩) 4 4/\a.eval (.tmp 7)=π ξ ((4:Nat):Int)/\a.eval (.tmp 8)=π ξ (i:Int)/\a.eval (.tmp 3)=π ξ (qX c i)/\Below w.heap.size w W) 4 ⟨0,Yo,Yo,YA,YB,G,G,G,G,Af _ _⟩ (λr B W d=>?_);obtain⟨i,hi,f,hs,hd,m,n,p,l,kB⟩:=d;refine aD (aG ?_);refine qa ?_;refine aC<|aH<|fB (λhc=>?_) (λhc=>?_)
 .have hin:i<4:=Jf;refine aR<|aH (aJ ?_);refine aD<|qg (aLp _ _ rfl G G rfl hin _) ?_;refine qg (aT _ _ δ OneK.out G (hm.below kB) Yo (hg i hin)) ?_;refine qa ?_;refine aC<|aI<|qa ?_;refine qg (EH _ _ δ G G _) ?_;refine qa ?_;refine qg (OI _ _ δ G G _) ?_;refine qa ?_;refine fK<|aI ?_;iterate 2 refine qa ?_
  exact aU ⟨4-(i+1),Yo,i+1,Yo,Yo,YA,YB,G,G,Ae G YC,Ae G (by show í ξ (wrap64 (wrap64 (qX c i*8)+c i))=π ξ (wrap64 (wrap64 (8*qX c i)+c i));rw[Bc]),kB⟩
 obtain rfl:i=4:=Jg;refine bL (dQ ?_);refine aD ?_;iterate 2 refine qa ?_
 refine aC ?_;exact aQ (aN YB (bS δ G) ⟨δ,kB⟩)
def xP(ax:Nat->St)(j:Nat):Value:=fJ (ax (j/7)) (j%7)
theorem aBe(ax:Nat->St):aX (xP ax) (x*7) 7=aX (fJ (ax x)) 0 7:=by unfold aX xP;congr 2;refine Cw (λj a=>?_);grind
theorem aPf(ax:Nat->St)(r):(qH ax r).map iV=(ME ax 3).map iV++σ (λi=>iV (gL [IP r.I,qX r.M 4,qX r.J 4] i)) 3:=by unfold qH;rw[Cb];rfl
theorem aSc(r)(hi:i<4):dJ r (0+0+i)=.bool (r.I i):=by unfold dJ;grind
theorem aSe(r)(hi:i<4):dJ r (0+4+i)=.int .i64 (r.M i):=by unfold dJ;rw[θ Yo,ι Yo,show 0+4+i-4=i by omega];rfl
theorem aSd(r)(hi:i<4):dJ r (0+8+i)=.int .i64 (r.J i):=by unfold dJ;rw[θ Yo,θ Yo,show 0+8+i-8=i by omega];rfl
theorem Y9(ax:Nat->St)(r)(w):ρ κ 127 #[aX (xP ax) 0 21,aX (dJ r) 0 12] w λe w'=>∃ao c,e=.returned (.slice ao 24 c)/\w'.ownsRow w.heap.size 3 1 (.slice ao 24 c) 24 (σ (iF (gL (qH ax r))) 24)/\Below w.heap.size w w':=by
 refine bC Tryz.func127 δ 43 δ Yd (λA hs hd hb=>?_);have T:A.iQ 0=aX (xP ax) 0 21:=hb 0 _ δ;have U:A.iQ 1=aX (dJ r) 0 12:=hb 1 _ δ;refine aD (aG ?_);refine jO (Bl w) ?_;intro d H z1;refine jO H ?_;intro w2 H z2;refine qa ?_;refine aC<|aD<|qa ?_;refine aC<|aH<|aD<|qg (bE _ _ rfl ManyK.out G H.v1 Yo) ?_;refine qa ?_;refine aC<|aJ<|bR (λq a W=>∃(x:Nat) (v:Value),x<=3/\3-x<=q/\a.tmps.size=43/\a.defers=[]/\a.iQ 3=iG d.heap.size/\a.iQ 8=aX (xP ax) 0 21/\a.iQ 9=iY (x:Int)/\a.iQ 5=v/\Cx w W [fU w.heap.size 3 1 v (7*x) ((ME ax x).map iV),η 36 d.heap.size 12 12 (dJ r)]) 3 ⟨0,ε none 0 0,Yo,Yo,YA,YB,G,G,G,G,H.f1.tl.add (Af _ _) (fU w.heap.size 3 1 (ε none 0 0) 0 []) (Am _ _ _ _) (λ_ e=>nomatch e)⟩ (λq B W t=>?_);obtain⟨x,v,hx,z,hs,hd,V,Y,Z,X,H⟩:=t;refine aD (aG ?_);refine qa ?_;refine aC<|aH<|fB (λhc=>?_) (λhc=>?_)
 .have hin:x<3:=Jf;refine aR<|aH (aJ ?_);refine aD<|qg ((nH _ _ _ _ rfl ArrK.out ManyK.out G rfl G rfl hin _).trans (by rw[aBe ax])) ?_;refine gQ H ?_;intro L H z3;refine gH H.a0 aZ (gI _) ?_;intro o H z4;refine aC ?_;replace H:=H.drew;have n:τ [η 31 W.heap.size 7 7 (fJ (ax x))] o.drew:=Aj H.o0 (Ak _);refine fI (S:=τ [η 31 W.heap.size 7 7 (fJ (ax x))]) (.mv 0 (.mv 1 (.rd 2 (.mv 3 (.rd 4 (.mv 5 (.rd 6 (.mv 7 (.rd 8 (.mv 9 (.rd 10 (.mv 11 (.rd 12 (.mv 14 (.rd 15 (.go 13 (.go 16 (.go 17 (.mv 18 .fin))))))))))))))))))) [17] Yl Yl ?_;refine qj ?_;iterate 7 (refine qj ?_;refine oD δ δ (λ_ _ _ h=>h) Yw n (λ_ H=>aT _ _ δ OneK.out G H.v0 Yo δ) ?_)
  refine Ψ (aBv (ax x).B _) ?_;rintro e O ⟨rfl,j⟩;replace H:=H.call j;refine⟨_,δ,λ_ _=>Aj H.o0 (Ak _),?_⟩;refine dA δ δ Yw (λK hK=>VY _ _ _ _ _ _ _ _ δ (g:=gL (AJ (ax x))) G G G G G G G ?_);intro P m l R;replace H:=H.call l;refine hK _ _ (λ_ _=>Aj H.o0 (Ak _)) ?_;refine dA δ δ Yw (λK hK=>rQ δ inferInstance H.size G G H.o1 (aTP m) (aTO _ _) Ym Yo ?_);intro F Q h2 h3 f;rw[<-UZ] at h2;replace H:=H.a1.jn h2 h3 f;refine hK _ _ (λh=>φ h Yc) ?_;refine qj ?_;refine oC<|aI ?_;iterate 2 refine qa ?_
  exact aU ⟨3-(x+1),Yo,x+1,_,Yo,Yo,YA,YB,G,G,Ae G YC,G,H.tl⟩
 obtain rfl:x=3:=Jg;refine bL (dQ ?_);refine aH ?_;replace H:=H.drew;have n:τ [η 36 d.heap.size 12 12 (dJ r)] W.drew:=Aj H.o1 (Ak _);refine fI (S:=τ [η 36 d.heap.size 12 12 (dJ r)]) (.mv 0 (.mv 1 (.mv 2 (.mv 4 (.mv 5 (.mv 7 (.mv 8 (.go 3 (.go 6 (.go 9 (.go 10 (.go 11 (.mv 12 .fin))))))))))))) [] Yl Yl ?_;iterate 2 refine qj ?_
 refine Yk δ (λ_=>aIv _ δ G _) ?_;refine qj ?_;refine Yk δ (λ_=>DU _ δ G _) ?_;refine qj ?_;refine Yk δ (λ_=>DU _ δ G _) ?_;refine Ψ (ZA _ (0+0) 12 12 _ _ r.I _ H.v1 Yc (λi hi=>aSc r hi)) ?_;rintro e L ⟨rfl,C⟩;replace H:=H.call C;refine⟨_,δ,λ_ _=>Aj H.o1 (Ak _),?_⟩;refine Ψ (U1 _ (0+4) 12 12 _ _ r.M _ H.v1 Yc (λi hi=>aSe r hi)) ?_;rintro e o ⟨rfl,D⟩;replace H:=H.call D;refine⟨_,δ,λ_ _=>Aj H.o1 (Ak _),?_⟩;refine Ψ (U1 _ (0+8) 12 12 _ _ r.J _ H.v1 Yc (λi hi=>aSd r hi)) ?_;rintro e O ⟨rfl,j⟩;replace H:=H.call j;refine⟨_,δ,λ_ _=>Aj H.o1 (Ak _),?_⟩;refine dA δ δ Yw (λK hK=>LJ _ _ _ _ δ (g:=gL [IP r.I,qX r.M 4,qX r.J 4]) G G G ?_);intro P m l R;replace H:=H.call l;refine hK _ _ (λ_ _=>Aj H.o1 (Ak _)) ?_;refine dA δ δ Yw (λK hK=>rQ δ inferInstance H.size G G H.o0 (aTP m) (aTO _ _) Ym Yo ?_);intro F Q h2 h3 f;rw[<-aPf] at h2;replace H:=H.a0.jn h2 h3 f;obtain⟨p,s,rfl,y⟩:=dU h2;refine hK _ _ (λ_ _=>Aj H.o1 (Ak _)) ?_;refine qj ?_;refine gM ?_;rw[II] at h2;exact aQ (aN YB (bS δ G) ⟨p,s,δ,h2,H.bel⟩)
def aTu(fn:Nat):Prop:=∀(a b c) w,R64 a->R64 b->R64 c->
 ρ κ fn #[π ξ a,π ξ b,π ξ c] w λe w'=>e=.returned (π ξ (WI a b c))/\Below w.heap.size w w'
theorem vT(f:Nat->Int)(n)(v):ce f (n+1) v=ce f n v+if f n=v then 1 else 0:=by
 show cn _ n+(if decide (f n=v)=true then 1 else 0)=_;by_cases h:f n=v
 .rw[ι (Xt h),ι h];rfl
 rw[θ (by rw[Xf h];decide),θ h];rfl
theorem aKu{f:Nat->Int}(h:∀j,j<n->¬n<2*ce f n (f j))(other):KH f n other other:=by refine Ab ⟨λv c=>?_,rfl⟩;obtain⟨i,hi,a⟩:=aAf (by show 0<ce f n v;omega);grind
theorem VH(ao)(n cap)f(other)(w)(hl:n<=17592186043904)(hr:Rd w ao n (iF f)):ρ κ 164 #[.slice ao n cap,.int .i64 other] w λe w'=>∃m,KH f n other m/\e=.returned (.int .i64 m)/\w'=w:=by
 have R:=ã hr;clear hr;go_in;go_wp2_with fail;go_loopw [6,7,9,12] (λ_ _ _ z B=>w=B/\∃i:Nat,z=iY i/\i<=n/\∀j,j<i->¬n<2*ce f n (f j)) (λ_ _ _ z _=>n-(intOf z).toNat);case atStart=>exact⟨rfl,0,rfl,Xz _,λj P=>φ P Yo⟩
 case round=>
  obtain⟨rfl,i,rfl,hi,hno⟩:=hrel;have I:=ã hno;clear hno;by_cases hin:i<n
  .obtain⟨b,o,rfl,hc⟩:=aA R Yo;have Q:=ã hc;have K:w.cell? ⟨b,o+i,none⟩=ζ (iY (f i)):=hc i hin;obtain⟨v,p⟩:=yZ (f i);rw[p] at K;have F:=ã p;clear p hc;go_wp2_with fail;clear K;go_loopw [7,9,18] (λT _ A B=>w=B/\∃j:Nat,A=iY j/\j<=n/\T=iY (ce f j v:Nat)) (λ_ _ A _=>n-(intOf A).toNat);case atStart=>exact⟨rfl,0,rfl,Xz _,rfl⟩
   case round=>
    obtain⟨rfl,j,rfl,P,rfl⟩:=hrel;have J:ce f j v<=j:=zI _ _;by_cases y:j<n
    .have S:w.cell? ⟨b,o+j,none⟩=ζ (iY (f j)):=aA Q j y;have c:=ã (vT f j v);obtain⟨q,a⟩:=yZ (ce f j v);obtain⟨u,L⟩:=yZ (f j);rw[a] at J c ⊢;rw[L] at S c;clear a L;by_cases O:u=v
     .subst O;have U:(u==u)=true:=Mt;have d:=ã (show ce f (j+1) u=q+1 by rw[aA c,ι δ]);go_wp2_with fail;go_roundw;case rel=>exact⟨trivial,j+1,Je,Yo,by rw[aA d];go_num⟩
      case measure=>simp[intOf]<;>omega
     have U:(v==u)=false:=Mm;have d:=ã (show ce f (j+1) v=q by rw[aA c,θ O];rfl);go_wp2_with fail;go_roundw;case rel=>exact⟨trivial,j+1,Je,Yo,by rw[aA d]⟩
     case measure=>simp[intOf]<;>omega
    have l:j=n:=Yo;subst l;have C:=ã (show ce f j v=ce f j (f i) by rw[aA F]);obtain⟨q,a⟩:=yZ (ce f j v);have D:=ã a;rw[a] at J ⊢;clear a;by_cases h2:j<2*q
    .have s:(j:Int)<2*(q:Int):=Yo;go_wp2_with fail;go_ret;exact⟨v,Aa (by rw[aA D];exact h2),δ,δ⟩
    have s:¬(j:Int)<2*(q:Int):=Yo;go_wp2_with fail;go_roundw;case rel=>exact⟨trivial,i+1,Je,Yo,λt V=>by
     by_cases e:t=i
     .subst e;rw[aA F,aA D];exact h2
     exact aA I t Yo⟩
    case measure=>simp[intOf]<;>omega
  have l:i=n:=Yo;subst l;go_wp2_with fail;go_ret;exact⟨other,aKu (aA I) other,δ,δ⟩
def FW(I s:Nat)(T:Nat->Int)(h:Int):Nat->ν Int
 |0=>[h]
 |i+1=>FW I s T h i++if i=I\/i=s then [] else [T i]
theorem aPR(I s)T(h)(i):(FW I s T h i).length<=i+1:=by
 induction i with
 |zero=>exact Xr 1
 |succ i ih=>show (FW I s T h i++_).length<=_;grind
variable{T:Nat->Int}{h:Int}
theorem aEF{I}(e:i=I\/i=s):FW I s T h (i+1)=FW I s T h i:=by show FW I s T h i++_=_;grind
theorem aEG{I}{x}(e1:i≠I)(e2:i≠s)(ex:T i=x):FW I s T h (i+1)=FW I s T h i++[x]:=by show FW I s T h i++_=_;grind
theorem aPS{I}(hI:I<4)(hs:s<4)(e:I≠s):FW I s T h 4=[h,T (o1 I s),T (o2 I s)]:=by have:I=0\/I=1\/I=2\/I=3:=Yo;have:s=0\/s=1\/s=2\/s=3:=Yo;rcases ‹I=0\/_› with rfl|rfl|rfl|rfl<;>rcases ‹s=0\/_› with rfl|rfl|rfl|rfl<;>first|(exact φ rfl e)|rfl
variable{L:ν Lm}{n:Nd}
theorem aCj{many:Nat}{c}(h:fL n.id n.fr L i 2 many=ζ c):kY n (L.map Lm.m) i k many=gL c.m.L k:=by have:=uH n L i 2 many;rw[h] at this;unfold kY;rw[<-this];rfl
theorem aCi{many:Nat}(h:fL n.id n.fr L i 2 many=none):kY n (L.map Lm.m) i k many=0:=by have:=uH n L i 2 many;rw[h] at this;unfold kY;rw[<-this];rfl
theorem JM(n:Nd)(nv)(mo)(mc)(L)(I s:Nat)(h)(k many:Nat)(w)(hI:n.id=(I))(hI4:I<4)(hs4:s<4)(hk:k<many)(hmr:MRd w mo L)(hN:L.length<=140737488351232):ρ κ 101 #[jX n nv,.slice mo L.length mc,.int .i64 s,.int .i64 h,.int .i64 k,.int .i64 (many)] w λe w'=>e=.returned (.int .i64 (yS n (L.map Lm.m) s h k many))/\Below w.heap.size w w':=by
 refine bC Tryz.func101 δ 58 δ Yd (λA hs hd hb=>?_);have b0:A.iQ 0=jX n nv:=hb 0 _ δ;have b1:A.iQ 1=ε mo L.length mc:=hb 1 _ δ;have b2:A.iQ 2=iY (s:Int):=hb 2 _ δ;have b3:A.iQ 3=iY h:=hb 3 _ δ;have b4:A.iQ 4=iY (k:Int):=hb 4 _ δ;have b5:A.iQ 5=iY (many:Int):=hb 5 _ δ;refine aD (aG ?_);refine Zb (λw1 m1 k1 z1=>?_);refine Yx ?_;refine aC<|aH<|aD ?_;by_cases o:(s:Int)=n.id
 .refine Yp ?_;iterate 2 refine Yx ?_
  refine Yq (bK (b:=true) _ _ δ Yf Yf (Xt o) _) ?_;refine aC<|aS Yf ?_;refine aD ?_;iterate 2 refine Yx ?_
  refine aC<|aQ ?_;simp only[Nx,Exit.then];refine aN YB (bS δ Yf) ⟨by unfold yS;rw[ι o],k1⟩
 refine Yp ?_;iterate 2 refine Yx ?_
 refine Yq (bK (b:=false) _ _ δ Yf Yf (Xf o) _) ?_;refine aC<|aO Yf (aR ?_);refine aD<|Yx ?_;refine bI δ Yw (λK hK=>BP _ _ δ Yf (λw2 m2 k2 z2=>hK _ _ ?_));have a2:=m1.below k2;refine Yx ?_;refine aC<|aH<|aD<|Yx ?_;refine aC<|aJ<|bR (λr a W=>∃(i:Nat) (v:Value),i<=4/\4-i<=r/\a.tmps.size=58/\a.defers=[]/\a.iQ 1=ε mo L.length mc/\a.iQ 2=iY (s:Int)/\a.iQ 4=iY (k:Int)/\a.iQ 5=iY (many:Int)/\a.iQ 6=iG w.heap.size/\a.iQ 13=v/\a.iQ 14=iY (i:Int)/\Vh 43 W w.heap.size 74 74 (μ n nv)/\W.ownsRow w1.heap.size 3 1 v (FW I s (λj=>kY n (L.map Lm.m) j k many) h i).length ((FW I s (λj=>kY n (L.map Lm.m) j k many) h i).map iV)/\nS w W/\w1.heap.size<=W.heap.size) 4 ⟨0,_,Yo,Yo,YA,YB,Yb,Yb,Yb,Yb,Yf,Yf,Yf,a2,Vh.owns m2 (Xr _),k1.trans (k2.mono Yo),Yo⟩ (λr B W hI=>?_);obtain⟨i,v,hi,a7,hs,hd,b1,b2,b4,b5,b6,a4,a5,Z,J,kB,hW⟩:=hI;by_cases hin:i<4
 .have a6:=aPR I s (λj=>kY n (L.map Lm.m) j k many) h i;by_cases f:(i:Int)=n.id
  .have l:True:=trivial;refine aH<|aD (aG ?_);iterate 2 refine Yx ?_
   refine aC<|aS Yf (aR ?_);refine aH (aJ ?_);refine aH<|aD ?_;iterate 3 refine Yx ?_
   refine Yq (bK (b:=true) _ _ δ Yf Yf (Xt f) _) ?_;refine Yx ?_;iterate 3 refine Yu ?_
   refine Yq (aK _ _ _ δ Yf (aL _ _) _) ?_;refine aC<|aS Yf (bL (Z0 ?_));refine aI ?_;iterate 3 refine Yx ?_
   exact aU ⟨4-(i+1),Yo,i+1,_,Yo,Yo,YA,YB,Yb,Yb,Yb,Yb,Yb,Yb,(Ye δ).trans YC,Z,by rw[(aEF Yo)];exact J,kB,Yo⟩
  by_cases l:(i:Int)=(s:Int)
  .refine aH<|aD (aG ?_);iterate 2 refine Yx ?_
   refine aC<|aS Yf (aR ?_);refine aH (aJ ?_);refine aH<|aD ?_;iterate 3 refine Yx ?_
   refine Yq (bK (b:=false) _ _ δ Yf Yf (Xf f) _) ?_;iterate 3 refine Yx ?_
   refine Yq (bK (b:=true) _ _ δ Yf Yf (Xt l) _) ?_;refine Yq (aM _ _ _ δ Yf Yf _) ?_;refine aC<|aS Yf (bL (Z0 ?_));refine aI ?_;iterate 3 refine Yx ?_
   exact aU ⟨4-(i+1),Yo,i+1,_,Yo,Yo,YA,YB,Yb,Yb,Yb,Yb,Yb,Yb,(Ye δ).trans YC,Z,by rw[(aEF Yo)];exact J,kB,Yo⟩
  rcases c:fL n.id n.fr L (i:Int) 2 (many:Int) with _|Q
  .refine aH<|aD (aG ?_);iterate 2 refine Yx ?_
   refine aC<|aS Yf (aR ?_);refine aH (aJ ?_);refine aH<|aD ?_;iterate 3 refine Yx ?_
   refine Yq (bK (b:=false) _ _ δ Yf Yf (Xf f) _) ?_;iterate 3 refine Yx ?_
   refine Yq (bK (b:=false) _ _ δ Yf Yf (Xf l) _) ?_;refine Yq (aM _ _ _ δ Yf Yf _) ?_;refine aC<|aO Yf (aR ?_);refine aD ?_;iterate 4 refine Yx ?_
   refine bI δ Yw (λK hK=>?_);have R:wI 100 #[jX n nv,ε mo L.length mc,iY (i:Int),iY 2,iY (many:Int)] W λe w'=>e=.returned (fstV (fL n.id n.fr L (i:Int) 2 (many:Int)))/\nS W w':=oG n _ mo mc L (i:Int) 2 (many:Int) _ (hmr.below kB) hN;rw[c] at R;refine pY _ 100 _ _ _ _ _ _ δ Yf Yf Yf (aL _ _) Yf (pQ _ _ _ _ _ _) R ?_;rintro e w7 ⟨rfl,d⟩;have n7:=d.size;have z:=Z.below d;have O:=bO J d;refine⟨_,δ,?_⟩;refine hK _ _ ?_;iterate 5 refine Yx ?_
   refine aC<|aD<|Yx ?_;refine aC<|aO Yf ?_;refine aI<|Yx ?_;refine bI δ Yw (λK hK=>BP _ _ δ (aL _ _) (λw8 m8 q z8=>hK _ _ ?_));have C:=z.below q;have P:=bO O q;refine bI δ Yw (λK hK=>?_);refine⟨mF _ _ _ δ w1.heap.size Yo v _ _ Yf P _ 1 1 _ Yf (Ab ⟨_,δ,λi hi=>by rw[kC,Ah];exact m8.cell hi⟩) (λi _=>rfl) Yo ?_⟩;intro v9 w9 F t;have n9:=t.size;have D:=C.same (t.block _ Yo);refine hK _ _ ?_;refine Yx ?_;refine fK<|aI ?_;iterate 3 refine Yx ?_
   exact aU ⟨4-(i+1),Yo,i+1,_,Yo,Yo,YA,YB,Yb,Yb,Yb,Yb,Yb,Yf,(Ye δ).trans YC,D,by rw[(aEG (T:=λj=>kY n (L.map Lm.m) j k many) Yo Yo (aCi c)),Ag,Cb];exact F,(((kB.trans (d.mono Yo)).trans (q.mono Yo)).trans (t.mono Yo)),Yo⟩
  obtain⟨p,U⟩:=qD c;have V:=vZ U;obtain⟨ca,X,hy⟩:∃y,Q.ao=ζ y/\∀W',nS w W'->∀i,i<Q.m.L.length->W'.cell? (y.add i)=ζ (iY (gL Q.m.L i)):=by obtain⟨y,e,_⟩:=(hmr.2 Q p).at Yo;refine⟨y,e,λW' k=>?_⟩;obtain⟨y',e',a0⟩:=((hmr.2 Q p).below k).at Yo;rw[e] at e';cases e';exact a0
  obtain⟨mm,a8,a1⟩:=Q;dsimp only at X hy V;subst X;have Y:k<mm.L.length:=Yo;refine aH<|aD (aG ?_);iterate 2 refine Yx ?_
  refine aC<|aS Yf (aR ?_);refine aH (aJ ?_);refine aH<|aD ?_;iterate 3 refine Yx ?_
  refine Yq (bK (b:=false) _ _ δ Yf Yf (Xf f) _) ?_;iterate 3 refine Yx ?_
  refine Yq (bK (b:=false) _ _ δ Yf Yf (Xf l) _) ?_;refine Yq (aM _ _ _ δ Yf Yf _) ?_;refine aC<|aO Yf (aR ?_);refine aD ?_;iterate 4 refine Yx ?_
  refine bI δ Yw (λK hK=>?_);have R:wI 100 #[jX n nv,ε mo L.length mc,iY (i:Int),iY 2,iY (many:Int)] W λe w'=>e=.returned (fstV (fL n.id n.fr L (i:Int) 2 (many:Int)))/\nS W w':=oG n _ mo mc L (i:Int) 2 (many:Int) _ (hmr.below kB) hN;rw[c] at R;refine pY _ 100 _ _ _ _ _ _ δ Yf Yf Yf (aL _ _) Yf (pQ _ _ _ _ _ _) R ?_;rintro e w7 ⟨rfl,d⟩;have n7:=d.size;have z:=Z.below d;have O:=bO J d;refine⟨_,δ,?_⟩;refine hK _ _ ?_;iterate 5 refine Yx ?_
  refine aC<|aD<|Yx ?_;refine aC<|aS Yf ?_;refine aI ?_;iterate 3 refine Yx ?_
  refine Yq (dF _ _ δ (a:=ca) (n:=mm.L.length) (cap:=a1) Yf Yf (i:=k) δ Y _) ?_;refine Yq (dG _ δ Yf (hy _ (kB.trans (d.mono Yo)) k Y)) ?_;refine bI δ Yw (λK hK=>BP _ _ δ Yf (λw8 m8 q z8=>hK _ _ ?_));have C:=z.below q;have P:=bO O q;refine bI δ Yw (λK hK=>?_);refine⟨mF _ _ _ δ w1.heap.size Yo v _ _ Yf P _ 1 1 _ Yf (Ab ⟨_,δ,λi hi=>by rw[kC,Ah];exact m8.cell hi⟩) (λi _=>rfl) Yo ?_⟩;intro v9 w9 F t;have n9:=t.size;have D:=C.same (t.block _ Yo);refine hK _ _ ?_;refine Yx ?_;refine fK<|aI ?_;iterate 3 refine Yx ?_
  exact aU ⟨4-(i+1),Yo,i+1,_,Yo,Yo,YA,YB,Yb,Yb,Yb,Yb,Yb,Yf,(Ye δ).trans YC,D,by rw[(aEG (T:=λj=>kY n (L.map Lm.m) j k many) Yo Yo (aCj c)),Ag,Cb];exact F,(((kB.trans (d.mono Yo)).trans (q.mono Yo)).trans (t.mono Yo)),Yo⟩
 refine aH<|aD (aG ?_);iterate 2 refine Yx ?_
 refine aC<|aO Yf (bL (dQ ?_));refine aD ?_;obtain rfl:i=4:=Yo;rw[aPS (T:=λj=>kY n (L.map Lm.m) j k many) hI4 hs4 Yo] at J;obtain⟨ao,S,rfl,a3⟩:=dU J;refine Yx ?_;refine bI δ Yw (λK hK=>eB _ 164 _ _ _ δ Yf (aL _ _) (aCL _ _ _) (VH ao 3 S (gL [h,kY n (L.map Lm.m) (o1 I s) k many,kY n (L.map Lm.m) (o2 I s) k many]) 0 _ Yo (wH J)) ?_);rintro e w' ⟨m,hm,rfl,rfl⟩;have em:=aEk hm (aDR _);refine⟨_,δ,hK _ _ ?_⟩;refine Yx ?_;refine aC<|aQ<|aN YB (bS rfl Yf) ⟨by unfold yS;rw[θ o,em,hI];rfl,kB⟩
end
end Go.Proofs.YthimcecbgpamdaaGreatDoor
