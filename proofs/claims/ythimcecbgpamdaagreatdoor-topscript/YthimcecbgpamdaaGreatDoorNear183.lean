import Derived.Test.YthimcecbgpamdaaGreatDoorNear140
set_option maxHeartbeats 4000000
namespace Go.Proofs.YthimcecbgpamdaaGreatDoor
open Go.RowKit
variable{i:Nat}
theorem aDy{f:Nat->Int}{n:Nat}(hi:i<n):gL ((List.range n).map f) i=f i:=by
 unfold gL;rw[List.getD_eq_getElem?_getD,List.getElem?_map,List.getElem?_range hi];rfl
theorem Y8(ao:Option Addr)(len cap:Nat)(g:Nat->Nat)(w:World)(hg:∀i,g i<256)(hl:len<=140737488351232)(hc:len<=cap)(hr:Sr w ao len cap (bF g)):Calls Tryz.prog 191 #[.slice ao len cap] w λe w'=>∃mo mc M,e=.returned (.slice mo M.length mc)/\M.map Lm.m=sQ len g/\OwnM w' w.heap.size (.slice mo M.length mc) M/\Below w.heap.size w w':=by
 refine bB Tryz.func191 rfl 14 rfl Yd (λA hs hd hb=>?_);have b0:A.eval (.tmp 0)=.slice ao len cap:=hb 0 _ rfl;clear hb;have H:=Cx.start w;refine aD (aG ?_);repeat first|refine qa ?_|refine aC ?_|refine aD ?_
 refine kX (LB ao len cap g w hg hl hc hr) ?_;rintro e w1 ⟨E,v,hE,rfl,o1,k1⟩;obtain⟨a1,c1,rfl,hc1⟩:=dY o1;refine⟨.tuple #[aP (qN (dN E (g 1):Nat) (dN E (g 2):Nat) (dN E (dR g):Nat) (.slice a1 (dN E (g 7)) c1)) 0 4,.int .i64 E],rfl,?_⟩;replace H:=H.add k1 (fF _ _ _ _ _ _) o1 (λj e=>(o1.lt j e).1);repeat refine qa ?_
 refine kR H ?_;intro w2 H z2;refine jB H.a0 bX (gU _ _ _ _ _ _) ?_;intro w3 H z3;repeat first|refine qa ?_|refine aC ?_|refine aD ?_|refine aH ?_
 refine iB (λh=>?_) (λh=>?_)
 .have hE0:E≠0:=Xu h;repeat first|refine qa ?_|refine aC ?_|refine aD ?_|refine aH ?_
  exact aN (fC (aK YB (bL rfl Qv) ⟨none,0,[],rfl,by unfold sQ;rw[aKo hE hE0];rfl,OwnM.nil _ _,H.bel⟩))
 .have hE0:E=0:=by simpa using h
  subst hE0;repeat first|refine qa ?_|refine aC ?_|refine aD ?_|refine aH ?_|refine aS ?_
  have hdc:=U4.2 hE;refine bJ rfl Yw (λK hK=>?_);have hln:((List.range (g 7)).map (dV g)).length=g 7:=by rw[List.length_map,List.length_range]
  refine QS _ _ rfl (c:=⟨⟨(g 1:Nat),(g 2:Nat),(dR g:Nat),(List.range (g 7)).map (dV g)⟩,a1,c1⟩) (Eq.trans Qv (by unfold sW lmV;rw[hln];rfl)) ?_;intro w4 m4 k4 z4;refine hK _ _ ?_;clear hK K;have ho:=bM H.o1 k4;repeat first|refine qa ?_|refine aC ?_
  refine aN (aK YB (bL rfl Qv) ⟨_,_,[⟨⟨(g 1:Nat),(g 2:Nat),(dR g:Nat),(List.range (g 7)).map (dV g)⟩,a1,c1⟩],rfl,by unfold sQ;rw[hdc];rfl,⟨?_,λc hc=>?_⟩,(H.call k4).bel⟩)
  .exact OZ m4 (by have:=H.size;omega)
  .simp only[List.mem_cons,List.not_mem_nil,or_false] at hc;subst hc;unfold LY lmV;dsimp only;rw[hln,jF (λi hi=>show iF (gL ((List.range (g 7)).map (dV g))) i=iF (dV g) i by unfold iF;rw[aDy hi])];exact ho
theorem GK(bad wo ph:Int)(l:List Ly):(uD bad wo ph l).length<=l.length:=by
 unfold uD
 induction l with
 |nil=>exact Xr _
 |cons y l ih=>
  rw[List.flatMap_cons,List.length_append,List.length_cons];have:(if y.ph=ph/\y.wo=wo then (sQ y.n y.g).filter λm=>decide (m.F=bad) else []).length<=1:=by
   split
   .refine Nat.le_trans (List.length_filter_le _ _) ?_;unfold sQ;split<;>simp
   .exact Xz _
  omega
theorem RA(m:Ms)(ao:Option Addr)(cap:Nat)(w:World)(hm:MsOK m)(hc:m.L.length<=cap)(hr:Sr w ao m.L.length cap (iF (gL m.L))):Calls Tryz.prog 132 #[lsV m (.slice ao m.L.length cap)] w λe w'=>∃mo mc M,e=.returned (.slice mo M.length mc)/\M.map Lm.m=yY m/\OwnM w' w.heap.size (.slice mo M.length mc) M/\Below w.heap.size w w':=by
 refine bB Tryz.func132 rfl 14 rfl Yd (λA hs hd hb=>?_);have b0:A.eval (.tmp 0)=aP (qN m.K m.F m.R (.slice ao m.L.length cap)) 0 4:=hb 0 _ rfl;clear hb;have hn:=hm.n;have H:=Cx.start w;refine aD (aG ?_);refine lJ H ?_;intro w1 H z1;repeat first|refine qa ?_|refine aC ?_|refine aD ?_
 refine kX (I7 m.K m.F m.R ao m.L.length cap (gL m.L) w1 hm.K hm.F hm.R hm.L Yo hc (hr.below H.bel)) ?_;rintro e w2 ⟨v,rfl,o2,k2⟩;obtain⟨a2,c2,rfl,hc2⟩:=dY o2;refine⟨_,rfl,?_⟩;replace H:=H.add k2 (fF _ _ _ _ _ _) o2 (λj e=>(o2.lt j e).1);repeat first|refine qa ?_|refine aC ?_|refine aD ?_|refine aH ?_
 refine iB (λh=>?_) (λh=>?_)
 .have hE0:wrongM m.K m.F m.R m.L.length≠0:=Xu h;repeat first|refine qa ?_|refine aC ?_|refine aD ?_|refine aH ?_
  exact aN (fC (aK YB (bL rfl Qv) ⟨none,0,[],rfl,by unfold yY;rw[if_neg hE0];rfl,OwnM.nil _ _,H.bel⟩))
 .have hE0:wrongM m.K m.F m.R m.L.length=0:=by simpa using h
  have eL:wX m.K m.F m.R m.L.length=12+8*m.L.length:=by unfold wX;rw[if_pos hE0]
  repeat first|refine qa ?_|refine aC ?_|refine aD ?_|refine aH ?_|refine aS ?_
  have hsr:Sr w2 a2 (wX m.K m.F m.R m.L.length) c2 (bF (enS m.K m.F m.R m.L.length (gL m.L))):=by
   obtain⟨a3,c3,e,hs3,_⟩:=kK o2
   cases e
   exact hs3
  refine kX (Y8 a2 (wX m.K m.F m.R m.L.length) c2 _ w2 (ZZ _ _ _ _ _) Yo hc2 hsr) ?_;rintro e w3 ⟨mo,mc,M,rfl,hM,oM,k3⟩;refine⟨_,rfl,?_⟩;replace H:=H.call k3;repeat first|refine qa ?_|refine aC ?_|refine aD ?_
  refine aN (aK YB (bL rfl Qv) ⟨mo,mc,M,rfl,?_,oM.base (by have:=k2.size;omega),H.bel⟩);rw[hM];unfold sQ yY;obtain⟨e1,e2,e3,e4,e5⟩:=aDl (f:=gL m.L) hE0 hm.L;rw[eL,U4.2 (aKr hE0),if_pos rfl,if_pos hE0,e1,e2,e3,e4];obtain⟨K,F,R,L⟩:=m
  congr 2
  refine List.ext_getElem? (λi=>?_);rw[List.getElem?_map];rcases Nat.lt_or_ge i L.length with c|c
  .rw[List.getElem?_range c,List.getElem?_eq_getElem c];show some (dV _ i)=_
   rw[e5 i c];unfold gL;rw[List.getD_eq_getElem?_getD,List.getElem?_eq_getElem c];rfl
  .rw[List.getElem?_eq_none c,List.getElem?_eq_none (by simpa using c)];rfl
variable{bad:Int}
theorem BA{wo ph:Int}{l:List Ly}{y:Ly}(h:l[i]?=some y):uD bad wo ph (l.take (i+1))=uD bad wo ph (l.take i)++(if y.ph=ph/\y.wo=wo then (sQ y.n y.g).filter λm=>decide (m.F=bad) else []):=by
 unfold uD;rw[List.take_add_one,h,List.flatMap_append];simp
theorem TW(n:Nat)(g:Nat->Nat):(sQ n g).length<=1:=by
 unfold sQ;split<;>simp
theorem WM(b:Nat)(fr:Int)(nd:Nat->Nd)(v:Nat->Value)(bad:Int)(lo:Option Addr)(lc:Nat)(LL:List Lj)(bx:Nat->Value)(wo ph:Int)(w:World)(G0:Vh 104 w b 303 303 (wN fr nd v bad (.slice lo LL.length lc) bx))(hj:JRd w lo LL)(hl:LL.length<=400):Calls Tryz.prog 131 #[.pointer (some ⟨b,0,none⟩),.int .i64 wo,.int .i64 ph] w λe w'=>∃mo mc M,e=.returned (.slice mo M.length mc)/\M.map Lm.m=uD bad wo ph (LL.map Lj.y)/\OwnM w' w.heap.size (.slice mo M.length mc) M/\Below w.heap.size w w':=by
 refine bB Tryz.func131 rfl 53 rfl Yd (λA hs hd hb=>?_);have b0:A.eval (.tmp 0)=.pointer (some ⟨b,0,none⟩):=hb 0 _ rfl;have b1:A.eval (.tmp 1)=.int .i64 wo:=hb 1 _ rfl;have b2:A.eval (.tmp 2)=.int .i64 ph:=hb 2 _ rfl;clear hb;have H:=Cx.start w;refine aD (aG ?_);repeat first|refine qa ?_|refine aC ?_|refine aD ?_|refine aH ?_
 refine aM ?_;refine cO (λr A W=>∃(i:Nat) (u:Value) (M:List Lm),i<=LL.length/\LL.length-i<=r/\A.tmps.size=53/\A.defers=[]/\A.eval (.tmp 0)=.pointer (some ⟨b,0,none⟩)/\A.eval (.tmp 1)=.int .i64 wo/\A.eval (.tmp 2)=.int .i64 ph/\A.eval (.tmp 15)=.slice lo LL.length lc/\A.eval (.tmp 16)=.int .i64 (LL.length:Int)/\A.eval (.tmp 17)=.int .i64 (i:Int)/\A.eval (.tmp 7)=u/\M.map Lm.m=uD bad wo ph ((LL.map Lj.y).take i)/\Cx w W [oZ w.heap.size u M]) LL.length
  ⟨0,_,[],Xz _,Yo,YA,YB,Qv,Qv,Qv,Qv,Qv,Qv,Qv,rfl,H.add (Below.refl _ _) (oZ _ _ _) (OwnM.nil _ _) (zP (OwnM.nil w _))⟩ (λr B W hI=>?_)
 clear b0 b1 b2 hs hd H;obtain⟨i,u,M,hi,hr,hs,hd,b0,b1,b2,b15,b16,b17,b7,hM,H⟩:=hI;have hMl:M.length<=400:=by
  have h1:=congrArg List.length hM;have h2:=GK bad wo ph ((LL.map Lj.y).take i);rw[List.length_map] at h1;rw[List.length_take,List.length_map] at h2;omega
 refine aD (aG ?_);repeat first|refine qa ?_|refine aC ?_|refine aD ?_|refine aH ?_
 refine iB (λh=>?_) (λh=>?_)
 .have hin:i<LL.length:=by have:=Xu h;omega
  have hc:=List.getElem?_eq_getElem hin;obtain⟨cc,ec⟩:∃cc,cc=LL[i]:=⟨_,rfl⟩;rw[<-ec] at hc;have hy:(LL.map Lj.y)[i]?=some cc.y:=by rw[List.getElem?_map,hc];rfl
  obtain⟨pb,po,rfl,hcell⟩:=hj.1 Yo;have hcell:=hcell i cc hc;have hlb:=hj.2 cc (by rw[ec];exact List.getElem_mem hin);refine aS<|aH (aM ?_);refine aD<|qa ?_;refine qg (qE (g:=JK cc) ManyK.out (λk hk=>aU (hcell k hk) H.bel) rfl Qv) ?_;refine kR H ?_;intro w1 H z1;refine jB H.a0 bX (UT _ _ _ _ _) ?_;intro w2 H z2;refine aC<|aH<|aD ?_;iterate 3 refine qa ?_
  by_cases h1:cc.y.ph=ph
  .refine qg (dC (b:=false) _ _ rfl Qv Qv (Xf (λe=>e h1)) _) ?_;iterate 4 refine qa ?_
   by_cases h2:cc.y.wo=wo
   .refine qg (dC (b:=false) _ _ rfl Qv Qv (Xf (λe=>e h2)) _) ?_;refine qg (aZ _ _ _ rfl Qv Qv _) ?_;refine aC<|aLA rfl (aS ?_);refine aD ?_;iterate 2 refine qa ?_
    refine kX (Y8 cc.ao cc.y.n cc.cap cc.y.g _ hlb.2.2.2 hlb.2.2.1 hlb.2.1 (hlb.1.below H.bel)) ?_;rintro e w3 ⟨mo,mc,M1,rfl,hM1,oM1,k3⟩;refine⟨_,rfl,?_⟩;have hs2:=H.size;replace H:=H.tl.add k3 (oZ w.heap.size _ M1) (oM1.base hs2) (λj e=>zP oM1 j e);repeat first|refine qa ?_|refine aC ?_|refine aD ?_
    have hl1:M1.length<=1:=by
     have h3:=congrArg List.length hM1;rw[List.length_map] at h3;have:=TW cc.y.n cc.y.g;omega
    refine aM ?_;refine cO (λr A W=>∃(j:Nat) (u:Value) (M2:List Lm),j<=M1.length/\M1.length-j<=r/\A.tmps.size=53/\A.defers=[]/\A.eval (.tmp 0)=.pointer (some ⟨b,0,none⟩)/\A.eval (.tmp 1)=.int .i64 wo/\A.eval (.tmp 2)=.int .i64 ph/\A.eval (.tmp 15)=.slice (some ⟨pb,po,none⟩) LL.length lc/\A.eval (.tmp 16)=.int .i64 (LL.length:Int)/\A.eval (.tmp 17)=.int .i64 (i:Int)/\A.eval (.tmp 33)=.slice mo M1.length mc/\A.eval (.tmp 34)=.int .i64 (M1.length:Int)/\A.eval (.tmp 35)=.int .i64 (j:Int)/\A.eval (.tmp 7)=u/\M2.map Lm.m=uD bad wo ph ((LL.map Lj.y).take i)++((sQ cc.y.n cc.y.g).take j).filter (λm=>decide (m.F=bad))/\Cx w W (oZ w.heap.size u M2::if j=0 then [oZ w.heap.size (.slice mo M1.length mc) M1] else [])) M1.length
     ⟨0,_,M,Xz _,Yo,YA,YB,Qv,Qv,Qv,Qv,Qv,Qv,Qv,Qv,Qv,Qv,by rw[hM];exact (List.append_nil _).symm,H.perm (List.Perm.swap _ _ _)⟩ (λr2 B2 W2 hI=>?_)
    clear b0 b1 b2 b15 b16 b17 b7 hs hd H;obtain⟨j,u2,M2,hj1,hr2,hs,hd,b0,b1,b2,b15,b16,b17,b33,b34,b35,b7,hM2,H⟩:=hI;have hM2l:M2.length<=400+1:=by
     have h3:=congrArg List.length hM2;rw[List.length_append,List.length_map, <-hM,List.length_map] at h3;have h4:=List.length_filter_le (λm:Ms=>decide (m.F=bad)) ((sQ cc.y.n cc.y.g).take j);rw[List.length_take] at h4;have:=TW cc.y.n cc.y.g;omega
    refine aD (aG ?_);repeat first|refine qa ?_|refine aC ?_|refine aD ?_|refine aH ?_
    refine iB (λh=>?_) (λh=>?_)
    .have hjn:j<M1.length:=by have:=Xu h;omega
     obtain rfl:j=0:=Yo;obtain⟨c1,rfl⟩:∃c1,M1=[c1]:=by
      match M1,hjn,hl1 with
      |[c1],_,_=>exact⟨c1,rfl⟩
     have hdm:sQ cc.y.n cc.y.g=[c1.m]:=hM1.symm;rw[if_pos rfl] at H;have hO:OwnM W2 w.heap.size (.slice mo 1 mc) [c1]:=H.o1;have hln:c1.m.L.length<=24:=by
      have:=(ZN hlb.2.2.2 c1.m (by rw[hdm];exact List.mem_cons_self)).n;exact this
     obtain⟨pm,qm,rfl,hcm⟩:=(hO.rd (λc hc=>by simp at hc;subst hc;omega)).1 (Nat.succ_pos 0);have hcm:=hcm 0 c1 rfl;refine aS<|aH (aM ?_);refine aD<|qa ?_;refine qg (qE (g:=sW c1) ManyK.out hcm rfl Qv) ?_;refine kR H ?_;intro w5 H z5;refine jB H.a0 bX (qA _) ?_;intro w6 H z6;refine aC<|aH ?_;replace H:=H.drew;have hS:Its [bE 79 W2.heap.size 4 4 (sW c1),bE 104 b 303 303 (wN fr nd v bad (.slice (some ⟨pb,po,none⟩) LL.length lc) bx)] w6.drew:=Its.cons H.o0 (Its.cons (Vh.below G0 H.bel) (Its.nil _));refine eU (S:=Its [bE 79 W2.heap.size 4 4 (sW c1),bE 104 b 303 303 (wN fr nd v bad (.slice (some ⟨pb,po,none⟩) LL.length lc) bx)]) (.mv 0 (.rd 1 (.mv 2 (.mv 3 (.mv 4 (.rd 5 (.mv 6 .fin))))))) [] Yl Yl ?_;repeat first|refine qj ?_|refine qr hS ?_
     refine fI<|iB (λhq=>?_) (λhq=>?_)
     .have hF:c1.m.F=bad:=Xu hq;refine aJ ?_;iterate 2 refine qa ?_
      refine bJ rfl Yw (λK hK=>QS _ _ rfl (c:=c1) Qv (λw7 m7 k7 z7=>hK _ _ ?_));replace H:=aIi H.tl k7 m7;refine XA H (by show M2.length+1<=_;omega) ?_;intro u8 w8 H;refine qa ?_;refine fG<|aJ ?_;repeat refine qa ?_
      exact bD ⟨0,Yo,1,_,M2++[c1],Xr _,Nat.le_of_eq (Nat.sub_self _),YA,YB,Qv,Qv,Qv,Qv,Qv,Qv,Qv,Qv,Qv,Qv,by rw[List.map_append,hM2,hdm,List.append_assoc];simp[hF],H⟩
     .have hF:c1.m.F≠bad:=Xg hq;refine iU<|aJ ?_;repeat refine qa ?_
      exact bD ⟨0,Yo,1,_,M2,Xr _,Nat.le_of_eq (Nat.sub_self _),YA,YB,Qv,Qv,Qv,Qv,Qv,Qv,Qv,Qv,Qv,Qv,by rw[hM2,hdm];simp[hF],H.tl.sub (List.Sublist.cons_cons _ (List.nil_sublist _))⟩
    .obtain rfl:j=M1.length:=by have:=Xg h;omega
     refine bY (QV ?_);refine aJ ?_;repeat refine qa ?_
     exact bD ⟨LL.length-(i+1),Yo,i+1,_,M2,Yo,Yo,YA,YB,Qv,Qv,Qv,Qv,Qv,Eq.trans Qv YC,Qv,by
      have e:(sQ cc.y.n cc.y.g).take M1.length=sQ cc.y.n cc.y.g:=List.take_of_length_le (by rw[<-hM1,List.length_map];exact Xr _);rw[BA hy,if_pos ⟨h1,h2⟩,hM2,e],H.sub (List.Sublist.cons_cons _ (List.nil_sublist _))⟩
   .refine qg (dC (b:=true) _ _ rfl Qv Qv (Xt h2) _) ?_;refine qg (aZ _ _ _ rfl Qv Qv _) ?_;refine aC<|X0 rfl ?_;refine bY (aMl ?_);refine aJ ?_;repeat refine qa ?_
    exact bD ⟨LL.length-(i+1),Yo,i+1,_,M,Yo,Yo,YA,YB,Qv,Qv,Qv,Qv,Qv,Eq.trans Qv YC,Qv,by rw[BA hy,if_neg (λe=>h2 e.2),List.append_nil];exact hM,H.tl⟩
  .refine qg (dC (b:=true) _ _ rfl Qv Qv (Xt h1) _) ?_;refine qa ?_;iterate 4 refine gM ?_
   refine qg (aO _ _ _ rfl Qv Qv _) ?_;refine aC<|X0 rfl ?_;refine bY (aMl ?_);refine aJ ?_;repeat refine qa ?_
   exact bD ⟨LL.length-(i+1),Yo,i+1,_,M,Yo,Yo,YA,YB,Qv,Qv,Qv,Qv,Qv,Eq.trans Qv YC,Qv,by rw[BA hy,if_neg (λe=>h1 e.1),List.append_nil];exact hM,H.tl⟩
 .obtain rfl:i=LL.length:=by have:=Xg h;omega
  refine bY (eY ?_);refine aD ?_;repeat first|refine qa ?_|refine aC ?_|refine aD ?_|refine aH ?_
  have hO:OwnM W w.heap.size u M:=H.o0;obtain⟨mo,mc,rfl,hmc⟩:=dY hO.1;rw[List.take_of_length_le (by rw[List.length_map];exact Xr _)] at hM;exact aN (aK YB (bL rfl Qv) ⟨mo,mc,M,rfl,hM,hO,H.bel⟩)
theorem VQ(m:Ms):(yY m).length<=1:=by
 unfold yY;split<;>simp
theorem FO{x:Ip}(h:x.ly.length<=400)(told:Nat->Ms)(wo ph:Nat):∀k,(oJ x told wo ph k).length<=400*k
 |0=>Xr _
 |k+1=>by
  have ih:=FO h told wo ph k;show (oJ x told wo ph k++_).length<=_
  rw[List.length_append];have:(if k=wo then [] else if (k:Int)=x.bad then uD x.bad wo ph x.ly else yY (told k)).length<=400:=by
   split
   .exact Xz _
   .split
    .exact Nat.le_trans (GK _ _ _ _) h
    .exact Nat.le_trans (VQ _) Yc
  omega
theorem XO(x:Ip)(b:Nat)(fr:Int)(nd:Nat->Nd)(v:Nat->Value)(lo:Option Addr)(lc:Nat)(LL:List Lj)(bx:Nat->Value)(wo ph:Nat)(told:Nat->Ms)(ta:Nat->Option Addr×Nat)(w:World)(G0:Vh 104 w b 303 303 (wN fr nd v x.bad (.slice lo LL.length lc) bx))(hx:x.ly=LL.map Lj.y)(hj:JRd w lo LL)(hl:LL.length<=400)(_:wo<4)(ht:∀j:Nat,j<4->(j:Int)≠x.bad->MsOK (told j)/\(told j).L.length<=(ta j).2/\Sr w (ta j).1 (told j).L.length (ta j).2 (iF (gL (told j).L))):Calls Tryz.prog 74 #[.pointer (some ⟨b,0,none⟩),.int .i64 (wo:Int),.int .i64 (ph:Int),aP (G8 told (λj=>gN (ta j) (told j).L.length)) 0 16] w λe w'=>∃mo mc M,e=.returned (.slice mo M.length mc)/\M.map Lm.m=oJ x told wo ph 4/\OwnM w' w.heap.size (.slice mo M.length mc) M/\Below w.heap.size w w':=by
 refine bB Tryz.func74 rfl 39 rfl Yd (λA hs hd hb=>?_);have b0:A.eval (.tmp 0)=.pointer (some ⟨b,0,none⟩):=hb 0 _ rfl;have b1:A.eval (.tmp 1)=.int .i64 (wo:Int):=hb 1 _ rfl;have b2:A.eval (.tmp 2)=.int .i64 (ph:Int):=hb 2 _ rfl;have b3:A.eval (.tmp 3)=aP (G8 told (λj=>gN (ta j) (told j).L.length)) 0 16:=hb 3 _ rfl;clear hb;have H:=Cx.start w;refine aD (aG ?_);refine lJ H ?_;intro w1 H z1;repeat first|refine qa ?_|refine aC ?_|refine aD ?_|refine aH ?_
 refine aM ?_;refine cO (λr A W=>∃(i:Nat) (u:Value) (M:List Lm),i<=4/\4-i<=r/\A.tmps.size=39/\A.defers=[]/\A.eval (.tmp 0)=.pointer (some ⟨b,0,none⟩)/\A.eval (.tmp 1)=.int .i64 (wo:Int)/\A.eval (.tmp 2)=.int .i64 (ph:Int)/\A.eval (.tmp 12)=aP (G8 told (λj=>gN (ta j) (told j).L.length)) 0 16/\A.eval (.tmp 13)=.int .i64 (i:Int)/\A.eval (.tmp 9)=u/\M.map Lm.m=oJ x told wo ph i/\Cx w W [oZ w.heap.size u M]) 4
  ⟨0,_,[],Xz _,Yo,YA,YB,Qv,Qv,Qv,Qv,Qv,Qv,rfl,H.tl.add (Below.refl _ _) (oZ _ _ _) (OwnM.nil _ _) (λj e=>zP (OwnM.nil w1 w1.heap.size) j e)⟩ (λr B W hI=>?_)
 clear b0 b1 b2 b3 hs hd H;obtain⟨i,u,M,hi,hr,hs,hd,b0,b1,b2,b12,b13,b9,hM,H⟩:=hI;have hMl:M.length<=400*i:=by
  have h1:=congrArg List.length hM;rw[List.length_map] at h1;rw[h1];exact FO (by rw[hx,List.length_map];exact hl) told wo ph i
 refine aD (aG ?_);repeat first|refine qa ?_|refine aC ?_|refine aD ?_|refine aH ?_
 refine iB (λh=>?_) (λh=>?_)
 .have hin:i<4:=by have:=Xu h;omega
  refine aS<|aH (aM ?_);refine aD<|qa ?_;refine qg (Eq.trans (jQ _ _ _ _ rfl ArrK.out ManyK.out Qv rfl Qv rfl hin _) (by rw[lK (λj hj=>aLc told (λj=>gN (ta j) (told j).L.length) hj)])) ?_;refine kR H ?_;intro w2 H z2;refine qa ?_;refine jB H.a0 bX (gU _ _ _ _ _ _) ?_;intro w3 H z3;repeat first|refine qa ?_|refine aC ?_|refine aD ?_
  refine aM<|aD ?_;repeat first|refine qa ?_|refine aC ?_
  refine iB (λh1=>?_) (λh1=>?_)
  .have e1:i=wo:=by have:=Xu h1;omega
   refine aKc<|aJ ?_;repeat refine qa ?_
   exact bD ⟨4-(i+1),Yo,i+1,_,M,Yo,Yo,YA,YB,Qv,Qv,Qv,Qv,Eq.trans Qv YC,Qv,by rw[hM];show _=oJ x told wo ph i++_;rw[if_pos e1,List.append_nil],H.tl⟩
  .have e1:i≠wo:=by have:=Xg h1;omega
   refine aD ?_;repeat first|refine qa ?_|refine aC ?_
   refine iB (λh2=>?_) (λh2=>?_)
   .have e2:(i:Int)=x.bad:=Xu h2;refine aJ ?_;iterate 4 refine qa ?_
    have hsz:=H.size;refine aLz (WM b fr nd v x.bad lo lc LL bx (wo:Int) (ph:Int) _ (Vh.below G0 H.bel) (hj.below H.bel) hl) ?_;rintro e w4 ⟨mo,mc,M1,rfl,hM1,oM1,k4⟩;refine⟨_,rfl,?_⟩;replace H:=(H.tl.add k4 (oZ w.heap.size _ M1) (oM1.base hsz) (λj e=>zP oM1 j e)).perm (List.Perm.swap _ _ _);have hl1:M1.length<=400:=by
     have h3:=congrArg List.length hM1;rw[List.length_map] at h3;have h4:=GK x.bad wo ph (LL.map Lj.y);rw[List.length_map] at h4;omega
    refine XA H Yo ?_;intro u5 w5 H;refine qa ?_;refine aAC<|aJ ?_;repeat refine qa ?_
    exact bD ⟨4-(i+1),Yo,i+1,_,M++M1,Yo,Yo,YA,YB,Qv,Qv,Qv,Qv,Eq.trans Qv YC,Qv,by rw[List.map_append,hM,hM1];show _=oJ x told wo ph i++_;rw[if_neg e1,if_pos e2,hx],H⟩
   .have e2:(i:Int)≠x.bad:=Xg h2;obtain⟨t1,t2,t3⟩:=ht i hin e2;refine aJ ?_;iterate 2 refine qa ?_
    have hsz:=H.size;refine kX (RA (told i) (ta i).1 (ta i).2 _ t1 t2 (t3.below H.bel)) ?_;rintro e w4 ⟨mo,mc,M1,rfl,hM1,oM1,k4⟩;refine⟨_,rfl,?_⟩;replace H:=(H.tl.add k4 (oZ w.heap.size _ M1) (oM1.base hsz) (λj e=>zP oM1 j e)).perm (List.Perm.swap _ _ _);have hl1:M1.length<=1:=by
     have h3:=congrArg List.length hM1;rw[List.length_map] at h3;have h4:=VQ (told i);omega
    refine XA H Yo ?_;intro u5 w5 H;refine qa ?_;refine aAC<|aJ ?_;repeat refine qa ?_
    exact bD ⟨4-(i+1),Yo,i+1,_,M++M1,Yo,Yo,YA,YB,Qv,Qv,Qv,Qv,Eq.trans Qv YC,Qv,by rw[List.map_append,hM,hM1];show _=oJ x told wo ph i++_;rw[if_neg e1,if_neg e2],H⟩
 .obtain rfl:i=4:=by have:=Xg h;omega
  refine bY (eY ?_);refine aD ?_;repeat first|refine qa ?_|refine aC ?_|refine aD ?_|refine aH ?_
  have hO:OwnM W w.heap.size u M:=H.o0;obtain⟨mo,mc,rfl,hmc⟩:=dY hO.1;exact aN (aK YB (bL rfl Qv) ⟨mo,mc,M,rfl,hM,hO,H.bel⟩)
def CZ(f:Nat->It):It:=⟨λw=>∀i,i<4->(f i).p w,λk=>∃i,i<4/\(f i).foot k,λh e i hi=>(f i).ok (h i hi) (λk h1 h2=>e k h1 ⟨i,hi,h2⟩),λh ⟨i,hi,e⟩=>(f i).lt (h i hi) e⟩
variable{l:List It}{w w0:World}
theorem Cx.wk{x y:It}(H:Cx w0 w (x::l))(h1:x.p w->y.p w)(h2:∀k,y.foot k->x.foot k):Cx w0 w (y::l):=by
 obtain⟨d1,d2⟩:=List.pairwise_cons.1 H.dis;refine⟨H.bel,λz hz=>?_,λz hz j hj=>?_,List.pairwise_cons.2 ⟨λz hz j h3=>d1 z hz j (h2 j h3),d2⟩⟩
 .rcases List.mem_cons.1 hz with rfl|hz
  .exact h1 H.o0
  .exact H.it z (List.mem_cons_of_mem _ hz)
 .rcases List.mem_cons.1 hz with rfl|hz
  .exact H.up x List.mem_cons_self j (h2 j hj)
  .exact H.up z (List.mem_cons_of_mem _ hz) j hj
variable{α:Type}
theorem vG{g:α->It}{D:Nat->α}{y:α}(i:Nat)(H:Cx w0 w (g y::CZ (λj=>g (D j))::l)):Cx w0 w (CZ (λj=>g (dH D i y j))::l):=by
 refine H.merge.wk (λh j hj=>?_) (λk hk=>?_)
 .show (g (dH D i y j)).p w
  by_cases e:j=i
  .rw[e,bZ];exact h.1
  .rw[dD _ _ e];exact h.2 j hj
 .obtain⟨j,hj,hk⟩:=hk;have hk:(g (dH D i y j)).foot k:=hk;by_cases e:j=i
  .rw[e,bZ] at hk;exact Or.inl hk
  .rw[dD _ _ e] at hk;exact Or.inr ⟨j,hj,hk⟩
abbrev Ad:=Option Addr×Nat
def I9(B:Nat)(d:Nd×Ad):It:=fF B 4 1 (gN d.2 d.1.vA.length) d.1.vA.length (rowV (tF (bA d.1)) d.1.vA.length)
def tlJ(B:Nat)(d:Ms×Ad):It:=fF B 3 1 (gN d.2 d.1.L.length) d.1.L.length (rowV (iF (gL d.1.L)) d.1.L.length)
def bxJ(B:Nat)(d:List Lm×Ad):It:=oZ B (gN d.2 d.1.length) d.1
def lN(B:Nat)(D:Nat->Nd×Ad):It:=CZ (λi=>I9 B (D i))
def JY(B:Nat)(T:Nat->Ms×Ad):It:=CZ (λi=>tlJ B (T i))
def yG(B:Nat)(X:Nat->List Lm×Ad):It:=CZ (λi=>bxJ B (X i))
def iQ(fr:Int)(D:Nat->Nd×Ad)(bad:Int)(lv:Value)(X:Nat->List Lm×Ad):Nat->Value:=wN fr (λi=>(D i).1) (λi=>gN (D i).2 (D i).1.vA.length) bad lv (λi=>gN (X i).2 (X i).1.length)
def xD(T:Nat->Ms×Ad):Nat->Value:=G8 (λi=>(T i).1) (λi=>gN (T i).2 (T i).1.L.length)
def jU(fr:Int)(D:Nat->Nd×Ad):Nat->Value:=pR fr (λi=>(D i).1) (λi=>gN (D i).2 (D i).1.vA.length)
theorem wK{β:Type}(f:α->β)(D:Nat->α)(i:Nat)(y:α):(λj=>f (dH D i y j))=dH (λj=>f (D j)) i (f y):=by
 funext j
 unfold dH;split<;>rfl
theorem aCv(fr:Int)(D:Nat->Nd×Ad)(bad:Int)(lv:Value)(X:Nat->List Lm×Ad)(hi:i<4)(d:Nd×Ad):∀j,j<303->stP (iQ fr D bad lv X) (1+i*74) 74 (ndF d.1 (gN d.2 d.1.vA.length)) j=iQ fr (dH D i d) bad lv X j:=by
 unfold iQ;rw[wK (λd:Nd×Ad=>d.1),wK (λd:Nd×Ad=>gN d.2 d.1.vA.length)];exact aJO _ _ _ _ _ _ hi _ _
theorem aMh(fr:Int)(D:Nat->Nd×Ad)(bad:Int)(lv:Value)(X:Nat->List Lm×Ad)(i:Nat)(d:List Lm×Ad):∀j,j<303->eQ (iQ fr D bad lv X) (299+i) (gN d.2 d.1.length) j=iQ fr D bad lv (dH X i d) j:=by
 unfold iQ;rw[wK (λd:List Lm×Ad=>gN d.2 d.1.length)];exact aMf _ _ _ _ _ _ _ _
theorem aHW(T:Nat->Ms×Ad)(i:Nat)(d:Ms×Ad):∀j,j<16->stP (xD T) (i*4) 4 (qN d.1.K d.1.F d.1.R (gN d.2 d.1.L.length)) j=xD (dH T i d) j:=by
 unfold xD;rw[wK (λd:Ms×Ad=>d.1),wK (λd:Ms×Ad=>gN d.2 d.1.L.length)];exact aHU _ _ _ _ _
theorem aGT(fr:Int)(D:Nat->Nd×Ad)(i:Nat)(d:Nd×Ad):∀j,j<297->stP (jU fr D) (1+i*74) 74 (ndF d.1 (gN d.2 d.1.vA.length)) j=jU fr (dH D i d) j:=by
 unfold jU;rw[wK (λd:Nd×Ad=>d.1),wK (λd:Nd×Ad=>gN d.2 d.1.vA.length)];exact TT _ _ _ _ _ _
theorem nX(fr:Int)(D:Nat->Nd×Ad):∀j,j<297->(jU fr D j).oneCell'=true:=TS _ _ _ _
theorem aHV(T:Nat->Ms×Ad):∀j,j<16->(xD T j).oneCell'=true:=aHT _ _ _
section
variable {P:Program} {Q:Exit->Act->World->Prop} {J:Act->World->Prop} {a:Act} {w:World} {x:Code} {id:Nat} {fn:Func} {R:Ending->World->Prop}
theorem aMZ(h:Q .normal a w):Nx P x (Exit.then J (Exit.inBlock id Q)) (.exit id) a w:=by
 show (if id=id then _ else _)
 rw[if_pos rfl];exact h
theorem aKs(hd:a.defers=[])(hr:fn.results=#[])(h:R (.returned (.tuple #[])) w):bodyPost P fn R .normal a w:=⟨hd,.tuple #[],by simp[results,hr],h⟩
variable{caps:Array Value}
theorem aFT{o:Oper}{K:Act->World->Prop}(c x y:Operand)(T:Array TypeId)(ho:o.op=.call { callee:=.value c,args:=#[x,y],argTypes:=T })(n:Nat)[E:EntK P n]{u v:Value}(hc:a.eval c=.func (.func n) #[] caps)(hx:a.eval x=u)(hy:a.eval y=v)(hk:Calls P n (#[u,v]++caps) w R)(h:∀e w',R e w'->∃r,e=.returned r/\K (a.put o.dst r) w'):WpI P o a w K Q:=by
 refine⟨?_⟩;have e:(execOp a.eval o).run P w=.ok (.enter n (#[u,v]++caps)) w:=by
  unfold execOp;rw[ho];simp only[resolve,invoke,Sem.run_bind,List.map_toArray,List.map_cons,List.map_nil,hc,hx,hy];have:=E.out (#[u,v]++caps) w;go_simp
 unfold Oper.wp;rw[e,Oper.upon_enter];refine hk.mono ?_;intro e w' hr;obtain⟨r,rfl,hh⟩:=h e w' hr;exact hh
end
theorem aFt(x:Ip)(b:Nat)(fr:Int)(D:Nat->Nd×Ad)(lo:Option Addr)(lc:Nat)(LL:List Lj)(X:Nat->List Lm×Ad)(ph:Nat)(T:Nat->Ms×Ad)(w0 w:World)(l:List It)(H:Cx w0 w (bE 104 b 303 303 (iQ fr D x.bad (.slice lo LL.length lc) X)::yG w0.heap.size X::JY w0.heap.size T::l))(hx:x.ly=LL.map Lj.y)(hj:JRd w0 lo LL)(hl:LL.length<=400)(hT:∀j:Nat,j<4->(j:Int)≠x.bad->MsOK (T j).1):Calls Tryz.prog 34 #[.pointer (some ⟨b,0,none⟩),.int .i64 (ph:Int),aP (xD T) 0 16] w λe w'=>e=.returned (.tuple #[])/\∃X',(∀i,i<4->(X' i).1.map Lm.m=oJ x (λj=>(T j).1) i ph 4)/\Cx w0 w' (bE 104 b 303 303 (iQ fr D x.bad (.slice lo LL.length lc) X')::yG w0.heap.size X'::JY w0.heap.size T::l):=by
 refine bB Tryz.func34 rfl 21 rfl Yd (λA hs hd hb=>?_);have b0:A.eval (.tmp 0)=.pointer (some ⟨b,0,none⟩):=hb 0 _ rfl;have b1:A.eval (.tmp 1)=.int .i64 (ph:Int):=hb 1 _ rfl;have b2:A.eval (.tmp 2)=aP (xD T) 0 16:=hb 2 _ rfl;clear hb;refine aD (aG ?_);refine lJ H ?_;intro w1 H z1;repeat first|refine qa ?_|refine aC ?_|refine aD ?_
 refine aM ?_;refine cO (λr A W=>∃(i:Nat) (X':Nat->List Lm×Ad),i<=4/\4-i<=r/\A.tmps.size=21/\A.defers=[]/\A.eval (.tmp 0)=.pointer (some ⟨b,0,none⟩)/\A.eval (.tmp 1)=.int .i64 (ph:Int)/\A.eval (.tmp 5)=.pointer (some ⟨w.heap.size,0,none⟩)/\A.eval (.tmp 7)=.int .i64 (i:Int)/\(∀j,j<i->(X' j).1.map Lm.m=oJ x (λj=>(T j).1) j ph 4)/\Cx w0 W (bE 98 w.heap.size 16 16 (xD T)::bE 104 b 303 303 (iQ fr D x.bad (.slice lo LL.length lc) X')::yG w0.heap.size X'::JY w0.heap.size T::l)) 4
  ⟨0,X,Xz _,Yo,YA,YB,Qv,Qv,Qv,Qv,λj h=>absurd h (Nat.not_lt_zero j),H⟩ (λr B W hI=>?_)
 clear b0 b1 b2 hs hd H;obtain⟨i,X',hi,hr,hs,hd,b0,b1,b5,b7,hX,H⟩:=hI;refine aD (aG ?_);repeat first|refine qa ?_|refine aC ?_|refine aD ?_|refine aH ?_
 refine iB (λh=>?_) (λh=>?_)
 .have hin:i<4:=by have:=Xu h;omega
  refine aS<|aH (aM ?_);refine aD ?_;repeat first|refine qa ?_|refine aC ?_
  replace H:=H.drew;have hS:Its [bE 98 w.heap.size 16 16 (xD T)] W.drew:=Its.cons H.o0 (Its.nil _);refine eU (S:=Its [bE 98 w.heap.size 16 16 (xD T)]) (.mv 0 (.mv 1 (.mv 2 (.mv 3 (.mv 4 (.rd 5 (.mv 7 (.mv 8 (.go 6 (.mv 9 (.go 10 .fin))))))))))) [10] Yl Yl ?_;repeat first|refine qj ?_|refine qr hS ?_
  refine bR rfl rfl Yw (λK hK=>?_);have hsz:=H.size;refine qH _ 74 _ _ _ _ _ rfl Qv Qv Qv Qv (EntK.out _ _) (XO x b fr _ _ lo lc LL _ i ph (λj=>(T j).1) (λj=>(T j).2) _ H.v1 hx (hj.below H.bel) hl hin (λj h4 hb=>?_)) ?_
  .have ho:World.ownsRow _ _ _ _ _ _ _:=H.o3 j h4;obtain⟨a3,c3,e,hs3,hc3⟩:=kK ho;obtain⟨e1,e2⟩:(T j).2.1=a3/\(T j).2.2=c3:=by cases e;exact⟨rfl,rfl⟩
   exact⟨hT j h4 hb,by rw[e2];exact hc3,by rw[e1,e2];exact hs3⟩
  .rintro e w2 ⟨mo,mc,M1,rfl,hM1,oM1,k2⟩;replace H:=H.add k2 (bxJ w0.heap.size (M1,(mo,mc))) (oM1.base hsz) (λj e=>zP oM1 j e);refine⟨_,rfl,hK _ _ (λ_ _=>Its.cons H.o1 (Its.nil _)) ?_⟩;clear hK K;repeat refine qj ?_
   refine dS rfl Yw (λK hK=>kL _ _ _ _ rfl OneK.out Qv Qv H.v2 Yo rfl rfl rfl (λw3 m3 k3 z3=>hK _ (λh=>absurd h Yc) ?_));replace H:=H.a2.s k3 (m3.congr (λj hj=>Eq.trans (by rw[show 0+299+i*1=299+i by omega];rfl) (aMh fr D x.bad (.slice lo LL.length lc) X' i (M1,(mo,mc)) j hj)));refine vN<|aJ ?_;repeat refine qa ?_
   exact bD ⟨4-(i+1),Yo,i+1,_,Yo,Yo,YA,YB,Qv,Qv,Qv,Eq.trans Qv YC,λj hj=>(by
    by_cases e:j=i
    .rw[e,bZ];exact hM1
    .rw[dD _ _ e];exact hX j Yo),(vG (g:=bxJ w0.heap.size) i H.f3.f1).b2⟩
 .obtain rfl:i=4:=by have:=Xg h;omega
  refine bY (aMZ ?_);exact aKs YB rfl ⟨rfl,X',hX,H.tl⟩
def zN(D:Nat->Nd×Ad)(j:Nat):Value:=ndF (D (j/74)).1 (gN (D (j/74)).2 (D (j/74)).1.vA.length) (j%74)
variable{j:Nat}
theorem GQ(D:Nat->Nd×Ad)(hj:j<74):zN D (i*74+j)=ndF (D i).1 (gN (D i).2 (D i).1.vA.length) j:=by
 unfold zN;rw[show (i*74+j)/74=i by omega,show (i*74+j)%74=j by omega]
theorem aJP(fr:Int)(D:Nat->Nd×Ad)(bad:Int)(lv:Value)(X:Nat->List Lm×Ad)(hj:j<296):iQ fr D bad lv X (0+0+1+j)=zN D j:=by
 unfold iQ;rw[yX Yo];unfold pR zN;rw[if_neg Yo,show 0+0+1+j-1=j by omega]
theorem TU(fr:Int)(D:Nat->Nd×Ad)(hj:j<296):jU fr D (0+1+j)=zN D j:=by
 unfold jU pR zN;rw[if_neg Yo,show 0+1+j-1=j by omega]
theorem aMg(fr:Int)(D:Nat->Nd×Ad)(bad:Int)(lv:Value)(X:Nat->List Lm×Ad)(_:i<4):iQ fr D bad lv X (299+i)=gN (X i).2 (X i).1.length:=by
 unfold iQ wN;rw[if_neg Yo,if_neg Yo,if_neg Yo,Nat.add_sub_cancel_left]
def emI:It:=⟨λ_=>True,λ_=>False,λh _=>h,λ_ e=>e.elim⟩
theorem Cx.add2{w':World}(H:Cx w0 w l)(k:Below w.heap.size w w')(x y:It)(hx:x.p w')(hy:y.p w')(fx:∀j,x.foot j->w.heap.size<=j)(fy:∀j,y.foot j->w.heap.size<=j)(hd:∀j,x.foot j->¬y.foot j):Cx w0 w' (x::y::l):=by
 have H2:=H.add k y hy fy;have hs:=H.size;refine⟨H2.bel,λz hz=>?_,λz hz j hj=>?_,List.pairwise_cons.2 ⟨λz hz j h1 h2=>?_,H2.dis⟩⟩
 .rcases List.mem_cons.1 hz with rfl|hz
  .exact hx
  .exact H2.it z hz
 .rcases List.mem_cons.1 hz with rfl|hz
  .have:=fx j hj;omega
  .exact H2.up z hz j hj
 .rcases List.mem_cons.1 hz with rfl|hz
  .exact hd j h1 h2
  .have h3:=fx j h1;have h4:=z.lt (H.it z hz) h2;omega
def PvC(w0:World)(bad:Int)(n:Nat)(caps:Array Value)(N:Nat->Nd->List Ms->Nd)(M:Nat->Nd->List Ms->Ms)(Ys:Nat->It->Prop)(Dn:Nat->Nd)(Bn:Nat->List Ms):Prop:=∀(i:Nat) (nd:Nd) (ao:Option Addr) (c:Nat) (mo:Option Addr) (mc:Nat) (L:List Lm) (w:World) (y:It) (l:List It),i<4->(i:Int)≠bad->nd=Dn i->L.map Lm.m=Bn i->nd.id=(i:Nat)->NdOK nd->xU w nd ao c->MRd w mo L->L.length<=1600->L.length<=mc->(∀m,m∈L->MsOK m.m)->Ys i y->Cx w0 w (y::l)->
 Calls Tryz.prog n (#[lS nd (.slice ao nd.vA.length c),.slice mo L.length mc]++caps) w λe w'=>∃(a1 a2:Ad) (y':It),Ys (i+1) y'/\e=.returned (.tuple #[lS (N i nd (L.map Lm.m)) (gN a1 (N i nd (L.map Lm.m)).vA.length),lsV (M i nd (L.map Lm.m)) (gN a2 (M i nd (L.map Lm.m)).L.length)])/\Cx w0 w' (I9 w0.heap.size (N i nd (L.map Lm.m),a1)::tlJ w0.heap.size (M i nd (L.map Lm.m),a2)::y'::l)
variable{n:Nd}
theorem PN{w':World}(H:Cx w0 w l)(k:Below w.heap.size w w'){m:Ms}{a1 a2:Ad}(h1:nU w.heap.size w' n a1.1 a1.2)(h2:LD w.heap.size w' m a2.1 a2.2):Cx w0 w' (I9 w0.heap.size (n,a1)::tlJ w0.heap.size (m,a2)::l):=by
 have hs:=H.size;refine H.add2 k _ _ (dJ h1 hs) (dJ h2 hs) (λj e=>(h1.lt j e).1) (λj e=>(h2.lt j e).1) (λj e1 e2=>?_);obtain⟨u1,g1⟩:=rT h1 e1;obtain⟨u2,g2⟩:=rT h2 e2;rw[g1] at g2
 cases g2
variable{Bn:Nat->List Ms}{Dn:Nat->Nd}
theorem aEl{fn:Nat}{N:Nd->List Ms->Nd}{M:Nd->List Ms->Ms}(h:FI N M fn):PvC w0 bad fn #[] (λ_=>N) (λ_=>M) (λ_ y=>y=emI) Dn Bn:=by
 intro i nd ao c mo mc L w y l hi _ _ _ _ hok hag hmr hl hlc hms hy H;refine (h nd ao c mo mc L w hok hag hmr Yo hlc (λm hm=>(hms m hm).L)).mono ?_;rintro e w' ⟨a',c',a2,c2,rfl,g1,g2,g3⟩;exact⟨(a',c'),(a2,c2),y,hy,rfl,PN H g3 g1 g2⟩
def JC(bad:Int)(N:Nat->Nd->List Ms->Nd)(D:Nat->Nd×Ad)(X:Nat->List Lm×Ad)(i:Nat):Nd:=if (i:Int)=bad then (D i).1 else N i (D i).1 ((X i).1.map Lm.m)
def ZX(bad:Int)(M:Nat->Nd->List Ms->Ms)(D:Nat->Nd×Ad)(X:Nat->List Lm×Ad)(i:Nat):Ms:=if (i:Int)=bad then jG else M i (D i).1 ((X i).1.map Lm.m)
theorem MS(b:Nat)(fr:Int)(D:Nat->Nd×Ad)(bad:Int)(lv:Value)(X:Nat->List Lm×Ad)(n:Nat)(caps:Array Value)(N:Nat->Nd->List Ms->Nd)(M:Nat->Nd->List Ms->Ms)(Ys:Nat->It->Prop)(w0 w:World)(y0:It)(l:List It)[EntK Tryz.prog n](hp:PvC w0 bad n caps N M Ys (λi=>(D i).1) (λi=>(X i).1.map Lm.m))(hy0:Ys 0 y0)(hXp:∀i:Nat,(i:Int)=bad->∀y,Ys i y->Ys (i+1) y)(hid:∀i,i<4->(D i).1.id=(i:Nat))(hok:∀i,i<4->NdOK (D i).1)(hX:∀i,i<4->(X i).1.length<=1600/\∀c,c∈(X i).1->MsOK c.m)(H:Cx w0 w (lN w0.heap.size D::y0::bE 104 b 303 303 (iQ fr D bad lv X)::yG w0.heap.size X::l)):Calls Tryz.prog 35 #[.pointer (some ⟨b,0,none⟩),.func (.func n) #[] caps] w λe w'=>∃(D':Nat->Nd×Ad) (T:Nat->Ms×Ad) (y':It),Ys 4 y'/\e=.returned (aP (xD T) 0 16)/\(∀i,i<4->(D' i).1=JC bad N D X i)/\(∀i,i<4->(T i).1=ZX bad M D X i)/\Cx w0 w' (JY w0.heap.size T::lN w0.heap.size D'::y'::bE 104 b 303 303 (iQ fr D' bad lv X)::yG w0.heap.size X::l):=by
 refine bB Tryz.func35 rfl 45 rfl Yd (λA hs hd hb=>?_);have b0:A.eval (.tmp 0)=.pointer (some ⟨b,0,none⟩):=hb 0 _ rfl;have b1:A.eval (.tmp 1)=.func (.func n) #[] caps:=hb 1 _ rfl;clear hb;refine aD (aG ?_);refine kR H ?_;intro w1 H z1;refine aC<|aD<|kR H ?_;intro w2 H z2;refine aC<|aH<|aD ?_;iterate 4 refine qa ?_
 refine qg (Eq.trans (aV _ _ rfl ManyK.out Qv H.v4 Yo) (by rw[lK (λj hj=>aJP fr D bad lv X hj)])) ?_;repeat first|refine qa ?_|refine aC ?_
 refine aM ?_;refine cO (λr A W => ∃ (i : Nat) (D' : Nat -> Nd × Ad) (T : Nat -> Ms × Ad) (y : It), Ys i y /\ i <= 4 /\ 4 - i <= r /\ A.tmps.size = 45 /\ A.defers = [] /\ A.eval (.tmp 0) = .pointer (some ⟨b, 0, none⟩) /\ A.eval (.tmp 1) = .func (.func n) #[] caps /\ A.eval (.tmp 4) = .pointer (some ⟨w.heap.size, 0, none⟩) /\ A.eval (.tmp 5) = .pointer (some ⟨w1.heap.size, 0, none⟩) /\ A.eval (.tmp 12) = aP (zN D) 0 296 /\ A.eval (.tmp 13) = .int .i64 (i : Int) /\
   (∀j,j<4->(D' j).1=if j<i then JC bad N D X j else (D j).1)/\(∀j,i<=j->D' j=D j)/\(∀j,j<4->(T j).1=if j<i then ZX bad M D X j else jG)/\
   Cx w0 W (JY w0.heap.size T::lN w0.heap.size D'::y::bE 98 w1.heap.size 16 16 (xD T)::bE 98 w.heap.size 16 16 (xD (λ_=>(jG,(none,0))))::bE 104 b 303 303 (iQ fr D' bad lv X)::yG w0.heap.size X::l)) 4
  ⟨0,D,λ_=>(jG,(none,0)),y0,hy0,Xz _,Yo,YA,YB,Qv,Qv,Qv,Qv,Qv,Qv,λj _=>(if_neg (Nat.not_lt_zero j)).symm,λ_ _=>rfl,λj _=>(if_neg (Nat.not_lt_zero j)).symm,
   (H.add (Below.refl _ _) (JY w0.heap.size (λ_=>(jG,(none,0)))) (λ_ _=>World.ownsRow_nil _ _ _ _) (λj ⟨_,_,e⟩=>absurd e (λe=>nomatch e))).f4.f4.f2⟩ (λr B W hI=>?_)
 clear b0 b1 hs hd H;obtain⟨i,D',T,y,hy,hi,hr,hs,hd,b0,b1,b4,b5,b12,b13,hD,hDr,hT,H⟩:=hI;refine aD (aG ?_);repeat first|refine qa ?_|refine aC ?_|refine aD ?_|refine aH ?_
 refine iB (λh=>?_) (λh=>?_)
 .have hin:i<4:=by have:=Xu h;omega
  refine aS<|aH (aM ?_);refine aD<|qa ?_;refine qg (Eq.trans (jQ _ _ _ _ rfl ArrK.out ManyK.out Qv rfl Qv rfl hin _) (by rw[lK (λj hj=>GQ D hj)])) ?_;refine kR H ?_;intro w3 H z3;refine qa ?_;refine jB H.a0 bX (dA _ _ _ _) ?_;intro w4 H z4;repeat first|refine qa ?_|refine aC ?_|refine aD ?_
  refine iB (λh1=>?_) (λh1=>?_)
  .have e1:(i:Int)≠bad:=Xu h1;replace H:=H.drew;have hS:Its [bE 43 W.heap.size 74 74 (ndF (D i).1 (gN (D i).2 (D i).1.vA.length)),bE 104 b 303 303 (iQ fr D' bad lv X)] w4.drew:=Its.cons H.o0 (Its.cons H.o6 (Its.nil _));have hXi:=hX i hin;have hAg:xU w4.drew (D i).1 (D i).2.1 (D i).2.2:=by
    have ho:World.ownsRow _ _ _ _ _ _ _:=H.o2 i hin;obtain⟨a3,c3,e,hs3,_⟩:=kK ho;rw[hDr i (Xr _)] at e hs3
    cases e
    exact hs3
   have hBx:OwnM w4.drew w0.heap.size (gN (X i).2 (X i).1.length) (X i).1:=H.o7 i hin;have hBc:(X i).1.length<=(X i).2.2:=by
    obtain⟨a3,c3,e,h3⟩:=dY hBx.1
    cases e
    exact h3
   refine eU (S:=Its [bE 43 W.heap.size 74 74 (ndF (D i).1 (gN (D i).2 (D i).1.vA.length)),bE 104 b 303 303 (iQ fr D' bad lv X)]) (.mv 0 (.mv 1 (.mv 2 (.mv 3 (.rd 4 (.mv 5 (.mv 6 (.mv 7 (.mv 8 (.mv 9 (.rd 10 (.mv 15 (.mv 16 (.mv 17 (.go 11 (.mv 12 (.mv 13 (.mv 14 (.mv 18 (.go 19 (.mv 20 (.go 21 .fin)))))))))))))))))))))) [19,21] Yl Yl ?_;iterate 10 first|refine qj ?_|refine qr hS ?_
   refine Yr rfl hS (λ_ H=>Eq.trans (aR _ _ rfl OneK.out Qv H.v1 Yo rfl) (by rw[show 0+299+i*1=299+i by omega,aMg _ _ _ _ _ hin])) ?_;repeat refine qj ?_
   refine bR rfl rfl Yw (λK hK=>aFT _ _ _ _ rfl n Qv Qv Qv (hp i (D i).1 (D i).2.1 (D i).2.2 (X i).2.1 (X i).2.2 (X i).1 _ _ _ hin e1 rfl rfl (hid i hin) (hok i hin) hAg (hBx.rd (λc hc=>by have:=(hXi.2 c hc).n;omega)) hXi.1 hBc hXi.2 hy H.f3) ?_);rintro e w5 ⟨a1,a2,y2,hy2,rfl,H⟩;refine⟨_,rfl,hK _ _ (λ_ _=>Its.cons H.o3 (Its.cons H.o8 (Its.nil _))) ?_⟩;repeat refine qj ?_
   refine dS rfl Yw (λK hK=>aW _ _ _ _ rfl ManyK.out Qv Qv H.v8 Yo (dA _ _ _ _) rfl (λw6 m6 k6 z6=>hK _ (λh=>absurd h Yc) ?_));replace H:=H.a8.s k6 (m6.congr (λj hj=>Eq.trans (by rw[show 0+0+1+i*74=1+i*74 by omega];rfl) (aCv fr D' bad lv X hin (N i (D i).1 ((X i).1.map Lm.m),a1) j hj)));repeat refine qj ?_
   refine dS rfl Yw (λK hK=>aW _ _ _ _ rfl ManyK.out Qv Qv H.v6 Yo (gU _ _ _ _ _ _) rfl (λw7 m7 k7 z7=>hK _ (λh=>absurd h Yc) ?_));replace H:=H.a6.s k7 (m7.congr (λj hj=>Eq.trans (by rw[show 0+i*4=i*4 by omega];rfl) (aHW T i (M i (D i).1 ((X i).1.map Lm.m),a2) j hj)));refine vN<|aJ ?_;repeat refine qa ?_
   refine bD ⟨4-(i+1),Yo,i+1,dH D' i (N i (D i).1 ((X i).1.map Lm.m),a1),dH T i (M i (D i).1 ((X i).1.map Lm.m),a2),y2,hy2,Yo,Yo,YA,YB,Qv,Qv,Qv,Qv,Qv,Eq.trans Qv YC,λj hj=>?_,λj hj=>(dD _ _ Yo).trans (hDr j Yo),λj hj=>?_,
    (vG (g:=tlJ w0.heap.size) i (vG (g:=I9 w0.heap.size) i H.f5.f1).f4.f2).f3.tl⟩
   .by_cases e:j=i
    .rw[e,bZ,if_pos Yo];unfold JC;rw[if_neg e1]
    .rw[dD _ _ e,hD j hj];by_cases e2:j<i
     .rw[if_pos e2,if_pos Yo]
     .rw[if_neg e2,if_neg Yo]
   .by_cases e:j=i
    .rw[e,bZ,if_pos Yo];unfold ZX;rw[if_neg e1]
    .rw[dD _ _ e,hT j hj];by_cases e2:j<i
     .rw[if_pos e2,if_pos Yo]
     .rw[if_neg e2,if_neg Yo]
  .have e1:(i:Int)=bad:=by have:=Xg h1;omega
   refine iU<|aJ ?_;repeat refine qa ?_
   refine bD ⟨4-(i+1),Yo,i+1,D',T,y,hXp i e1 y hy,Yo,Yo,YA,YB,Qv,Qv,Qv,Qv,Qv,Eq.trans Qv YC,λj hj=>?_,λj hj=>hDr j Yo,λj hj=>?_,H.tl⟩
   .rw[hD j hj];by_cases e:j=i
    .rw[if_neg Yo,if_pos Yo];unfold JC;rw[e,if_pos e1]
    .by_cases e2:j<i
     .rw[if_pos e2,if_pos Yo]
     .rw[if_neg e2,if_neg Yo]
   .rw[hT j hj];by_cases e:j=i
    .rw[if_neg Yo,if_pos Yo];unfold ZX;rw[e,if_pos e1]
    .by_cases e2:j<i
     .rw[if_pos e2,if_pos Yo]
     .rw[if_neg e2,if_neg Yo]
 .obtain rfl:i=4:=by have:=Xg h;omega
  refine bY (eY ?_);refine aD<|qa ?_;refine jB H.a4 bX (aHV T) ?_;intro w5 H z5;refine aC<|aN (aK YB (qV rfl Qv ManyK.out H.v4 (Xr _)) ⟨D',T,y,hy,rfl,λj hj=>?_,λj hj=>?_,H.f4.tl.f3.tl⟩)
  .rw[hD j hj,if_pos hj]
  .rw[hT j hj,if_pos hj]
variable{f:Operand->Value}{o:Oper}
theorem aBp(ho:o.op=.build 38 #[])(w:World):(execOp f o).run Tryz.prog w=.ok (.value (aP (λ_=>iV 0) 0 12)) w:=by
 unfold execOp;rw[ho];go_simp
 rfl
theorem OQ:aNm 69:=by
 intro n ao c frame rd w hok hag hfr hrd;have hag:Sr w ao n.vA.length c (tF (bA n)):=hag;refine bB Tryz.func69 rfl 31 rfl Yd (λA hs hd hb=>?_);have b0:A.eval (.tmp 0)=lS n (.slice ao n.vA.length c):=hb 0 _ rfl;have b1:A.eval (.tmp 1)=.int .i64 frame:=hb 1 _ rfl;have b2:A.eval (.tmp 2)=aP (λa=>iV (rd a)) 0 3:=hb 2 _ rfl;clear hb;refine aD (aG ?_);refine Zb (λw1 m1 k1 z1=>?_);have sr1:=hag.below k1;refine Zb (λw2 m2 k2 z2=>?_);have mn2:=m1.below k2;have sr2:=sr1.below k2;refine Za nT (λw3 m3 k3 z3=>?_);have mn3:=mn2.below k3;have mrd3:=m2.below k3;have sr3:=sr2.below k3;refine Za nE (λw4 m4 k4 z4=>?_);have mn4:=mn3.below k4;have mrd4:=mrd3.below k4;have mr4:=m3.below k4;have sr4:=sr3.below k4;refine aC<|aD<|Yx ?_;refine bJ rfl Yw (λK hK=>aX _ 119 _ _ rfl Yf (nY _ _) (uQ n ao c _ sr4 hok.vA) ?_);rintro e w5 ⟨a3,c3,rfl,o5,k5⟩;have n5:=k5.size;have mn5:=mn4.below k5;have mrd5:=mrd4.below k5;have mr5:=mr4.below k5;have mq5:=m4.below k5;refine⟨_,rfl,hK _ _ ?_⟩;refine Zs bG mn5 (dA _ _ _ _) (λw6 mm6 k6 z6=>?_);have mn6:=Vh.congr mm6 (dX _ _);have mrd6:=mrd5.kept k6 Yo;have mr6:=mr5.kept k6 Yo;have mq6:=mq5.kept k6 Yo;have ow6:=bN o5 k6 (λe=>by have e1:=(o5.lt _ e).1;have e2:=(o5.lt _ e).2;omega);refine aC<|aH<|aD ?_;iterate 2 refine Yx ?_
 refine bJ rfl Yw (λK hK=>aX _ 65 _ _ rfl Yf (fO _ _) (iL n.id _) ?_);rintro e w7 ⟨rfl,k7⟩;have n7:=k7.size;have mn7:=mn6.below k7;have mrd7:=mrd6.below k7;have mr7:=mr6.below k7;have mq7:=mq6.below k7;have ow7:=bM ow6 k7;refine⟨_,rfl,hK _ _ ?_⟩;refine Yx ?_;refine aC ?_;have kA:Below w.heap.size w w7:=(aF (((((k1).trans (k2.mono Yo)).trans (k3.mono Yo)).trans (k4.mono Yo)).trans (k5.mono Yo)) k6 Yo Yo).trans (k7.mono Yo);refine oO (t:=jV n.id) ((Ye rfl).trans (by rw[Bool.not_not])) (λhno=>?_) (λhno=>?_)
 .refine aD<|Yx ?_;refine Yq (rU rfl _) ?_;refine Zs bG mr7 (dA _ _ _ _) (λw8 mm8 k8 z8=>?_);have mr8:=Vh.congr mm8 (dX _ _);have mn8:=mn7.kept k8 Yo;have mrd8:=mrd7.kept k8 Yo;have mq8:=mq7.kept k8 Yo;have ow8:=bN ow7 k8 (λe=>by have e1:=(o5.lt _ e).1;have e2:=(o5.lt _ e).2;omega);refine Zs dZ mq8 (gU _ _ _ _ _ _) (λw9 mm9 k9 z9=>?_);have mq9:=Vh.congr mm9 (fB _ _);have mn9:=mn8.kept k9 Yo;have mrd9:=mrd8.kept k9 Yo;have mr9:=mr8.kept k9 Yo;have ow9:=bN ow8 k9 (λe=>by have e1:=(o5.lt _ e).1;have e2:=(o5.lt _ e).2;omega);refine aC<|aN ?_;simp only[Nx,Exit.then];refine aK YB (jK rfl Yf Yf bG dZ mr9 (Xr _) mq9 (Xr _)) ⟨a3,c3,none,0,?_,dJ ow9 Yo,?_,?_⟩
  .unfold pO oN;rw[if_pos hno,if_pos hno];rfl
  .unfold LD oN;rw[if_pos hno];exact World.ownsRow_nil _ _ _ _
  .exact aF (aF kA k8 Yo Yo) k9 Yo Yo
 .obtain⟨h0,h3⟩:=vP hno;obtain⟨I,hI⟩:∃I:Nat,n.id=(I:Int):=⟨n.id.toNat,Yo⟩;have hi4:I<4:=Yo;refine aS<|aD ?_;iterate 2 refine Yx ?_
  refine kV Yw (λK hK=>kL _ _ _ _ rfl iZ Yf Yf mn7 Yc rfl rfl rfl (λw8 mm8 k8 z8=>hK _ ?_));have mn8:=Vh.congr mm8 (aLY _ _ _);have mrd8:=mrd7.kept k8 Yo;have mr8:=mr7.kept k8 Yo;have mq8:=mq7.kept k8 Yo;have ow8:=bN ow7 k8 (λe=>by have e1:=(o5.lt _ e).1;have e2:=(o5.lt _ e).2;omega);refine aC<|aD<|Yq (aBp rfl _) ?_;refine Yx ?_;refine Zs sZ mn8 (λj hj=>rfl) (λw9 mm9 k9 z9=>?_);have mn9:=Vh.congr mm9 (aLX _ _ (λ_ _=>0));have mrd9:=mrd8.kept k9 Yo;have mr9:=mr8.kept k9 Yo;have mq9:=mq8.kept k9 Yo;have ow9:=bN ow8 k9 (λe=>by have e1:=(o5.lt _ e).1;have e2:=(o5.lt _ e).2;omega);refine aC<|aD ?_;iterate 2 refine Yx ?_
  refine Yq (aV _ _ rfl lV Yf mrd9 Yc) ?_;refine Yx ?_;refine Yq (bQ _ _ _ _ rfl Tryz.underlying38 lV.size Yf Yf hI hi4 _) ?_;refine Zs lV mn9 (λj hj=>rfl) (λw10 mm10 k10 z10=>?_);have mn10:=Vh.congr mm10 (QK _ _ rd I hi4);have mrd10:=mrd9.kept k10 Yo;have mr10:=mr9.kept k10 Yo;have mq10:=mq9.kept k10 Yo;have ow10:=bN ow9 k10 (λe=>by have e1:=(o5.lt _ e).1;have e2:=(o5.lt _ e).2;omega);refine aC<|aD<|Yq (aEH rfl _) ?_;refine Yx ?_;refine Zs sJ mn10 (λj hj=>rfl) (λw11 mm11 k11 z11=>?_);have mn11:=Vh.congr mm11 (aLZ _ _ (λ_=>0));have mrd11:=mrd10.kept k11 Yo;have mr11:=mr10.kept k11 Yo;have mq11:=mq10.kept k11 Yo;have ow11:=bN ow10 k11 (λe=>by have e1:=(o5.lt _ e).1;have e2:=(o5.lt _ e).2;omega);refine aC<|aH ?_;have hS0:(λW=>Vh 43 W w.heap.size 74 74 (ndF { n with fr:=frame,di:=λs a=>if s=I then rd a else 0,he:=λ_=>0 } (.slice a3 n.vA.length c3))) w11.drew:=mn11;have mn0:Vh _ w11.drew _ _ _ _:=mn11;have mrd0:Vh _ w11.drew _ _ _ _:=mrd11;have mr0:Vh _ w11.drew _ _ _ _:=mr11;have mq0:Vh _ w11.drew _ _ _ _:=mq11;have ow0:=(show World.ownsRow w11.drew _ _ _ _ _ _ from ow11);have ez:w11.drew.heap.size=w11.heap.size:=rfl;refine eU (S:=λW=>Vh 43 W w.heap.size 74 74 (ndF { n with fr:=frame,di:=λs a=>if s=I then rd a else 0,he:=λ_=>0 } (.slice a3 n.vA.length c3))) (.rd 0 (.rd 1 (.mv 2 (.go 3 (.go 4 (.go 5 .fin)))))) [] Yl Yl ?_;refine Yr rfl hS0 (λ_ hS=>aV _ _ rfl bG Yf hS Yc) ?_;refine Yr rfl hS0 (λ_ hS=>aV _ _ rfl bG Yf hS Yc) ?_;refine Yk rfl (λ_=>tJ _ rfl Yf _) ?_;refine bR rfl rfl Yw (λK hK=>gT _ 120 _ _ _ _ rfl Yf (aI _ _) Yf (nG _ _ _ _) (sD { n with fr:=frame,di:=λs a=>if s=I then rd a else 0,he:=λ_=>0 } (.slice a3 n.vA.length c3) 1 (some ⟨w1.heap.size,0,none⟩) 3 3 rd _ (Or.inr ⟨_,rfl,λi hi=>by rw[add_at,Nat.zero_add];exact mrd0.cell hi⟩) Yc) ?_);rintro e w12 ⟨a2,c2,rfl,ov12,k12⟩;have n12:=k12.size;have mn12:=hS0.below k12;have mrd12:=mrd0.below k12;have mr12:=mr0.below k12;have mq12:=mq0.below k12;have ow12:=bM ow0 k12;have hS12:(λW=>Vh 43 W w.heap.size 74 74 (ndF { n with fr:=frame,di:=λs a=>if s=I then rd a else 0,he:=λ_=>0 } (.slice a3 n.vA.length c3))) w12:=mn12;refine⟨_,rfl,hK _ _ (λ_ _=>hS12) ?_⟩;refine dS rfl Yw (λK hK=>?_);refine aW _ _ _ _ rfl bG Yf Yf mr12 Yc (dA _ _ _ _) rfl ?_;intro w13 mm13 k13 z13;have mr13:=Vh.congr mm13 (dX _ _);have mn13:=mn12.kept k13 Yo;have mrd13:=mrd12.kept k13 Yo;have mq13:=mq12.kept k13 Yo;have ow13:=bN ow12 k13 (λe=>by have e1:=(o5.lt _ e).1;have e2:=(o5.lt _ e).2;omega);have ov13:=jC ov12 k13 Yo;have hS13:(λW=>Vh 43 W w.heap.size 74 74 (ndF { n with fr:=frame,di:=λs a=>if s=I then rd a else 0,he:=λ_=>0 } (.slice a3 n.vA.length c3))) w13:=mn13;refine hK _ (λ_ _=>hS13) ?_;clear hK K;refine dS rfl Yw (λK hK=>?_);refine aW _ _ _ _ rfl dZ Yf Yf mq13 Yc (gU _ _ _ _ _ _) rfl ?_;intro w14 mm14 k14 z14;have mq14:=Vh.congr mm14 (fB _ _);have mn14:=mn13.kept k14 Yo;have mrd14:=mrd13.kept k14 Yo;have mr14:=mr13.kept k14 Yo;have ow14:=bN ow13 k14 (λe=>by have e1:=(o5.lt _ e).1;have e2:=(o5.lt _ e).2;omega);have ov14:=jC ov13 k14 Yo;have hS14:(λW=>Vh 43 W w.heap.size 74 74 (ndF { n with fr:=frame,di:=λs a=>if s=I then rd a else 0,he:=λ_=>0 } (.slice a3 n.vA.length c3))) w14:=mn14;refine hK _ (λ_ _=>hS14) ?_;clear hK K;refine fI<|aN ?_;have e1:pO n frame rd={ n with fr:=frame,di:=λs a=>if s=I then rd a else 0,he:=λ_=>0 }:=by
   unfold pO;rw[if_neg (by rw[hno];decide)]
   congr 1
   funext s a
   rw[hI];by_cases c:s=I
   .rw[if_pos c,if_pos Yo]
   .rw[if_neg c,if_neg Yo]
  have e2:oN n frame rd=⟨1,n.id,frame,[rd 0,rd 1,rd 2]⟩:=by unfold oN;rw[if_neg (by rw[hno];decide)]
  rw[e1,e2];refine aK YB (jK rfl Yf Yf bG dZ mr14 (Xr _) mq14 (Xr _)) ⟨a3,c3,a2,c2,rfl,dJ ow14 Yo,dJ ov14 Yo,aF (aF ((aY (aF (aF (aF (aF (kA) k8 Yo Yo) k9 Yo Yo) k10 Yo Yo) k11 Yo Yo)).trans (k12.mono Yo)) k13 Yo Yo) k14 Yo Yo⟩
theorem aKM{k l:List Int}(h:k.length=l.length)(hg:∀j,j<k.length->gL k j=gL l j):k=l:=by
 refine List.ext_getElem h (λj h1 h2=>?_);have:=hg j h1;unfold gL at this;rw[List.getD_eq_getElem?_getD,List.getElem?_eq_getElem h1,List.getD_eq_getElem?_getD,List.getElem?_eq_getElem h2] at this;exact this
theorem vB(x y:Value)(w:World):(callFunc 193 #[x,y]).run Tryz.prog w=.ok (.enter 193 #[x,y]) w:=Yh
theorem zL(k l:List Int)(ao bo:Option Addr)(ac bc:Nat)(w:World)(hk:k.length<=140737488351232)(hka:Sr w ao k.length ac (iF (gL k)))(hlb:Sr w bo l.length bc (iF (gL l))):Calls Tryz.prog 193 #[.slice ao k.length ac,.slice bo l.length bc] w λe w'=>e=.returned (.bool (decide (k=l)))/\Below w.heap.size w w':=by
 refine bB Tryz.func193 rfl 26 rfl Yd (λA hs hd hb=>?_);have b0:A.eval (.tmp 0)=.slice ao k.length ac:=hb 0 _ rfl;have b1:A.eval (.tmp 1)=.slice bo l.length bc:=hb 1 _ rfl;clear hb;refine aD (aG ?_);refine Yx ?_;refine aC<|aH<|aD ?_;by_cases hne:k.length=l.length
 .refine Yp ?_;iterate 3 refine Yx ?_
  refine Yq (dC (b:=false) _ _ rfl Yf Yf (Xf Yo) _) ?_;refine aC<|aQ Yf (aS ?_);refine aH<|aD ?_;iterate 3 refine Yx ?_
  refine aC<|aM<|cO (λq A W=>∃i:Nat,i<=k.length/\k.length-i<=q/\A.tmps.size=26/\A.defers=[]/\A.eval (.tmp 0)=.slice ao k.length ac/\A.eval (.tmp 1)=.slice bo l.length bc/\A.eval (.tmp 12)=.int .i64 ((k.length:Nat):Int)/\A.eval (.tmp 13)=.int .i64 (i:Int)/\(∀j,j<i->gL k j=gL l j)/\Below w.heap.size w W) k.length ⟨0,Xz _,Yo,YA,YB,Yb,Yb,Yf,Yf,λj h=>absurd h Yo,Below.refl _ _⟩ (λq B W hI2=>?_);clear b0 b1 hs hd;obtain⟨i,hi,hr2,hs,hd,b0,b1,b12,b13,hal,kB⟩:=hI2;by_cases hin:i<k.length
  .obtain⟨x,rfl,hx⟩:∃x,ao=some x/\∀i,i<k.length->w.cell? (x.add i)=some (.int .i64 (gL k i)):=by
    rcases hka with ⟨_,e,_⟩|⟨x,e,hc⟩
    .omega
    .exact⟨x,e,λi hi=>hc i hi⟩
   obtain⟨y,rfl,hy⟩:∃y,bo=some y/\∀i,i<l.length->w.cell? (y.add i)=some (.int .i64 (gL l i)):=by
    rcases hlb with ⟨_,e,_⟩|⟨y,e,hc⟩
    .omega
    .exact⟨y,e,λi hi=>hc i hi⟩
   by_cases hd2:gL k i=gL l i
   .refine aD (aG ?_);refine Yx ?_;refine aC<|aH (aT Yf (aS ?_));refine aH (aM ?_);refine aD ?_;iterate 2 refine Yx ?_
    refine aC<|aH ?_;have hS0:(λZ=>Z.cell? (x.add i)=some (.int .i64 (gL k i))/\Z.cell? (y.add i)=some (.int .i64 (gL l i))) W.drew:=⟨aU (hx i hin) (aY kB),aU (hy i Yo) (aY kB)⟩;have ez:W.drew.heap.size=W.heap.size:=rfl;refine eU (S:=λZ=>Z.cell? (x.add i)=some (.int .i64 (gL k i))/\Z.cell? (y.add i)=some (.int .i64 (gL l i))) (.mv 0 (.mv 1 (.mv 2 (.rd 3 (.mv 4 (.mv 5 (.mv 6 (.rd 7 (.mv 8 .fin))))))))) [] Yl Yl ?_;iterate 2 refine Yj ?_
    refine Yk rfl (λ_=>fQ _ _ rfl (a:=x) (n:=k.length) (cap:=ac) Yf Yf (i:=i) rfl Yo _) ?_;refine Yr rfl hS0 (λ_ hS=>fT _ rfl Yf hS.1) ?_;iterate 2 refine Yj ?_
    refine Yk rfl (λ_=>fQ _ _ rfl (a:=y) (n:=l.length) (cap:=bc) Yf Yf (i:=i) rfl Yo _) ?_;refine Yr rfl hS0 (λ_ hS=>fT _ rfl Yf hS.2) ?_;refine Yk rfl (λ_=>dC (b:=false) _ _ rfl Yf Yf (Xf (λe=>e hd2)) _) ?_;refine fI<|aQ Yf (iU ?_);refine aJ ?_;iterate 2 refine Yx ?_
    exact bD ⟨k.length-(i+1),Yo,i+1,Yo,Yo,YA,YB,Yb,Yb,Yb,(Ye rfl).trans YC,(λj hj=>by
     by_cases e:j=i
     .rw[e];exact hd2
     .exact hal j Yo),aY kB⟩
   .refine aD (aG ?_);refine Yx ?_;refine aC<|aH (aT Yf (aS ?_));refine aH (aM ?_);refine aD ?_;iterate 2 refine Yx ?_
    refine aC<|aH ?_;have hS0:(λZ=>Z.cell? (x.add i)=some (.int .i64 (gL k i))/\Z.cell? (y.add i)=some (.int .i64 (gL l i))) W.drew:=⟨aU (hx i hin) (aY kB),aU (hy i Yo) (aY kB)⟩;have ez:W.drew.heap.size=W.heap.size:=rfl;refine eU (S:=λZ=>Z.cell? (x.add i)=some (.int .i64 (gL k i))/\Z.cell? (y.add i)=some (.int .i64 (gL l i))) (.mv 0 (.mv 1 (.mv 2 (.rd 3 (.mv 4 (.mv 5 (.mv 6 (.rd 7 (.mv 8 .fin))))))))) [] Yl Yl ?_;iterate 2 refine Yj ?_
    refine Yk rfl (λ_=>fQ _ _ rfl (a:=x) (n:=k.length) (cap:=ac) Yf Yf (i:=i) rfl Yo _) ?_;refine Yr rfl hS0 (λ_ hS=>fT _ rfl Yf hS.1) ?_;iterate 2 refine Yj ?_
    refine Yk rfl (λ_=>fQ _ _ rfl (a:=y) (n:=l.length) (cap:=bc) Yf Yf (i:=i) rfl Yo _) ?_;refine Yr rfl hS0 (λ_ hS=>fT _ rfl Yf hS.2) ?_;refine Yk rfl (λ_=>dC (b:=true) _ _ rfl Yf Yf (Xt hd2) _) ?_;refine fI<|aT Yf ?_;refine aD<|Yx ?_;refine aC<|aN ?_;simp only[Nx,Exit.inBlock,Exit.then];refine aK YB (bL rfl Yf) ⟨?_,aY kB⟩;rw[Xf (λe=>hd2 (by rw[e]))]
  .refine aD (aG ?_);refine Yx ?_;refine aC<|aH (aQ Yf (bY (eY ?_)));refine aD<|Yx ?_;refine aC<|aN (aK YB (bL rfl Yf) ⟨?_,kB⟩);rw[Xt (aKM hne (λj hj=>hal j Yo))]
 .refine Yp ?_;iterate 3 refine Yx ?_
  refine Yq (dC (b:=true) _ _ rfl Yf Yf (Xt Yo) _) ?_;refine aC<|aT Yf ?_;refine aD<|Yx ?_;refine aC<|aN ?_;simp only[Nx,Exit.then];refine aK YB (bL rfl Yf) ⟨?_,Below.refl _ _⟩;rw[Xf (λe=>hne (by rw[e]))]
def eX(id fr:Int)(L:List Lm)(kind many:Int)(s:Nat):Value:=match fL id fr L (s:Int) kind many with|some c=>lmV c|none=>.slice none 0 0
theorem aHA(id fr:Int)(L:List Lm)(kind many:Int):∀j,j<4->(eX id fr L kind many j).oneCell'=true:=by
 intro j _;unfold eX lmV;split<;>rfl
variable{L:List Lm}{c:Lm}
theorem nS(hc:L[i]?=some c):L.take (i+1)=L.take i++[c]:=by rw[List.take_add_one,hc];rfl
variable{fr kind many:Int}
theorem FY{id s:Int}:fL id fr (L++[c]) s kind many=(fL id fr L s kind many).or (if jN id fr s kind many c.m then some c else none):=by simp[fL]
theorem uP{id:Int}(h:∀s:Nat,s<4->jN id fr (s:Int) kind many c.m=false\/(fL id fr L (s:Int) kind many).isSome=true):∀j,j<4->eX id fr L kind many j=eX id fr (L++[c]) kind many j:=by grind [eX,FY]
theorem aKP{id:Int}{f:Nat}(hF:c.m.F=(f:Int))(hn:fL id fr L (f:Int) kind many=none)(hfit:jN id fr (f:Int) kind many c.m=true):∀j,j<4->eQ (eX id fr L kind many) (0+f*1) (lmV c) j=eX id fr (L++[c]) kind many j:=by
 intro j hj;by_cases e:j=0+f*1
 .subst e;rw[kS];unfold eX;rw[FY,Nat.zero_add,Nat.mul_one,hn,hfit];rfl
 .rw[gP _ _ e];unfold eX;rw[FY];have e2:jN id fr (j:Int) kind many c.m=false:=by unfold jN;rw[Xf (show ¬c.m.F=(j:Int) by omega)];simp
  rw[e2]
  cases fL id fr L (j:Int) kind many<;>rfl
theorem vL(n:Nd)(nv:Value)(mo:Option Addr)(mc:Nat)(L:List Lm)(kind many:Int)(w:World)(hr:MRd w mo L)(hN:L.length<=140737488351232)(hm:0<many):Calls Tryz.prog 121 #[lS n nv,.slice mo L.length mc,.int .i64 kind,.int .i64 many] w λe w'=>e=.returned (aP (eX n.id n.fr L kind many) 0 4)/\Below w.heap.size w w':=by
 refine bB Tryz.func121 rfl 65 rfl Yd (λA hs hd hb=>?_);have b0:=hb 0 _ rfl;have b1:=hb 1 _ rfl;have b2:=hb 2 _ rfl;have b3:=hb 3 _ rfl;clear hb;refine aD (aG ?_);refine Zb (λw1 m1 k1 z1=>?_);refine Za aCD (λw2 m2 k2 z2=>?_);have mn2:=m1.below k2;refine aC<|aD<|Za aCD (λw3 m3 k3 z3=>?_);have mn3:=mn2.below k3;have mr3:=m2.below k3;refine aC<|aH<|aD<|Yx ?_;refine Yq (aEX _ rfl Yf _) ?_;refine Yx ?_;refine aC<|aM<|cO (λr a W=>∃i:Nat,i<=L.length/\L.length-i<=r/\a.tmps.size=65/\a.defers=[]/\a.eval (.tmp 2)=.int .i64 kind/\a.eval (.tmp 3)=.int .i64 many/\a.eval (.tmp 4)=.pointer (some ⟨w.heap.size,0,none⟩)/\a.eval (.tmp 8)=.pointer (some ⟨w1.heap.size,0,none⟩)/\a.eval (.tmp 9)=.pointer (some ⟨w2.heap.size,0,none⟩)/\a.eval (.tmp 13)=.slice mo L.length mc/\a.eval (.tmp 14)=.int .i64 (L.length:Int)/\a.eval (.tmp 15)=.int .i64 (i:Int)/\Vh 43 W w.heap.size 74 74 (ndF n nv)/\Vh 178 W w1.heap.size 4 4 (λ_=>.slice none 0 0)/\Vh 178 W w2.heap.size 4 4 (eX n.id n.fr (L.take i) kind many)/\Below w.heap.size w W/\w3.heap.size<=W.heap.size) L.length ⟨0,Xz _,Yo,YA,YB,Yb,Yb,Yf,Yf,Yf,Yf,Yf,Yf,mn3,mr3,m3,(k1.trans (k2.mono Yo)).trans (k3.mono Yo),Yo⟩ (λr B W hI=>?_);clear b0 b1 b2 b3 hs hd;obtain⟨i,hi,hr2,hs,hd,b2,b3,b4,b8,b9,b13,b14,b15,mn,mr,mh,kB,hW⟩:=hI;by_cases hin:i<L.length
 .have hc:=List.getElem?_eq_getElem hin;obtain⟨c,ec⟩:∃c,c=L[i]:=⟨_,rfl⟩;rw[<-ec] at hc;obtain⟨bl,of,rfl,hq⟩:=(hr.below kB).1 Yo;have hcell:=hq i c hc;by_cases h1:c.m.K=kind
  .by_cases h2:c.m.R=n.fr
   .by_cases h3:(c.m.L.length:Int)=many
    .rcases h4:jV c.m.F with _|_
     .obtain⟨f,hF,hf4⟩:∃f:Nat,c.m.F=(f:Int)/\f<4:=⟨c.m.F.toNat,by have:=vP h4;omega,by have:=vP h4;omega⟩;by_cases h5:c.m.F≠n.id
      .rcases hfl:fL n.id n.fr (L.take i) (f:Int) kind many with _|c2
       .have hfit:jN n.id n.fr (f:Int) kind many c.m=true:=by unfold jN;rw[Xt hF,Xt h5,Xt h1,Xt h2,Xt h3];rfl
        have hho:eX n.id n.fr (L.take i) kind many (0+f*1)=.slice none 0 0:=by unfold eX;rw[Nat.zero_add,Nat.mul_one,hfl]
        refine aD (aG ?_);refine Yx ?_;refine aC<|aH (aT Yf (aS ?_));refine aH (aM ?_);refine aD<|Yq (rY _ _ rfl Yb Yb rfl hin _) ?_;refine Yq (pK _ rfl Yf hcell) ?_;refine Za nE (λw4 m4 k4 z4=>?_);have mn4:=mn.below k4;have mr4:=mr.below k4;have mh4:=mh.below k4;refine Zs dZ m4 (qA _) (λw5 mm5 k5 z5=>?_);have mm5:=Vh.congr mm5 (fB _ _);have mn5:=mn4.kept k5 Yo;have mr5:=mr4.kept k5 Yo;have mh5:=mh4.kept k5 Yo;refine aC<|aD ?_;iterate 3 refine Yx ?_
        refine Yq (bT (b:=true) _ _ rfl Yf Yf (Xt h1) _) ?_;iterate 5 refine Yx ?_
        refine Yq (bT (b:=true) _ _ rfl Yf Yf (Xt h2) _) ?_;refine Yq (aO _ _ _ rfl Yf Yf _) ?_;iterate 5 refine Yx ?_
        refine Yq (bT (b:=true) _ _ rfl Yf Yf (Xt h3) _) ?_;refine Yq (aO _ _ _ rfl Yf Yf _) ?_;refine Yx ?_;refine aC<|aD ?_;iterate 4 refine Yx ?_
        refine bJ rfl (eH (j:=1) rfl rfl rfl Yf) (λK hK=>?_);have C1:=iL c.m.F w5;rw[h4] at C1;refine aX _ 65 _ _ rfl Yf (fO _ _) C1 ?_;rintro e w6 ⟨rfl,k6⟩;have n6:=k6.size;have mn6:=mn5.below k6;have mr6:=mr5.below k6;have mh6:=mh5.below k6;have mm6:=mm5.below k6;refine⟨_,rfl,?_⟩;refine hK _ _ ?_;clear hK K;refine Yq (aO _ _ _ rfl Yf Yf _) ?_;iterate 5 refine Yx ?_
        refine Yq (dC (b:=true) _ _ rfl Yf Yf (Xt h5) _) ?_;refine Yq (aO _ _ _ rfl Yf Yf _) ?_;iterate 3 refine Yx ?_
        refine Yq (bQ _ _ _ _ rfl Tryz.underlying178 iT.size Yb Yf hF hf4 _) ?_;refine Yq (aR _ _ rfl iT Yf mh6 Yo hho) ?_;refine Yx ?_;refine Yq (bT (b:=true) _ _ rfl Yf (aI _ _) (Xt rfl) _) ?_;refine Yq (aO _ _ _ rfl Yf Yf _) ?_;refine aC<|aT Yf ?_;refine aJ ?_;iterate 4 refine Yx ?_
        refine Yq (bQ _ _ _ _ rfl Tryz.underlying178 iT.size Yb Yf hF hf4 _) ?_;refine kV Yw (λK hK=>kL _ _ _ _ rfl iT Yf Yf mh6 Yo rfl rfl rfl (λw7 mm7 k7 z7=>hK _ ?_));have mh7:=Vh.congr mm7 (aKP hF hfl hfit);have mn7:=mn6.kept k7 Yo;have mr7:=mr6.kept k7 Yo;have mm7:=mm6.kept k7 Yo;refine fG<|aJ ?_;iterate 2 refine Yx ?_
        exact bD ⟨L.length-(i+1),Yo,i+1,Yo,Yo,YA,YB,Yb,Yb,Yb,Yb,Yb,Yb,Yb,(Ye rfl).trans YC,mn7,mr7,by rw[nS hc];exact mh7,aF ((aF (kB.trans (k4.mono Yo)) k5 Yo Yo).trans (k6.mono Yo)) k7 Yo Yo,Yo⟩
       .have hkeep:∀s:Nat,s<4->jN n.id n.fr (s:Int) kind many c.m=false\/(fL n.id n.fr (L.take i) (s:Int) kind many).isSome=true:=λs hs=>by
         by_cases e:s=f
         .right;rw[e,hfl];rfl
         .left;unfold jN;rw[Xf (show ¬c.m.F=(s:Int) by omega)];simp
        obtain⟨_,cfit⟩:=vF hfl;have clen:=uO cfit;have hho:eX n.id n.fr (L.take i) kind many (0+f*1)=.slice c2.ao c2.m.L.length c2.cap:=by unfold eX;rw[Nat.zero_add,Nat.mul_one,hfl];rfl
        refine aD (aG ?_);refine Yx ?_;refine aC<|aH (aT Yf (aS ?_));refine aH (aM ?_);refine aD<|Yq (rY _ _ rfl Yb Yb rfl hin _) ?_;refine Yq (pK _ rfl Yf hcell) ?_;refine Za nE (λw4 m4 k4 z4=>?_);have mn4:=mn.below k4;have mr4:=mr.below k4;have mh4:=mh.below k4;refine Zs dZ m4 (qA _) (λw5 mm5 k5 z5=>?_);have mm5:=Vh.congr mm5 (fB _ _);have mn5:=mn4.kept k5 Yo;have mr5:=mr4.kept k5 Yo;have mh5:=mh4.kept k5 Yo;refine aC<|aD ?_;iterate 3 refine Yx ?_
        refine Yq (bT (b:=true) _ _ rfl Yf Yf (Xt h1) _) ?_;iterate 5 refine Yx ?_
        refine Yq (bT (b:=true) _ _ rfl Yf Yf (Xt h2) _) ?_;refine Yq (aO _ _ _ rfl Yf Yf _) ?_;iterate 5 refine Yx ?_
        refine Yq (bT (b:=true) _ _ rfl Yf Yf (Xt h3) _) ?_;refine Yq (aO _ _ _ rfl Yf Yf _) ?_;refine Yx ?_;refine aC<|aD ?_;iterate 4 refine Yx ?_
        refine bJ rfl (eH (j:=1) rfl rfl rfl Yf) (λK hK=>?_);have C1:=iL c.m.F w5;rw[h4] at C1;refine aX _ 65 _ _ rfl Yf (fO _ _) C1 ?_;rintro e w6 ⟨rfl,k6⟩;have n6:=k6.size;have mn6:=mn5.below k6;have mr6:=mr5.below k6;have mh6:=mh5.below k6;have mm6:=mm5.below k6;refine⟨_,rfl,?_⟩;refine hK _ _ ?_;clear hK K;refine Yq (aO _ _ _ rfl Yf Yf _) ?_;iterate 5 refine Yx ?_
        refine Yq (dC (b:=true) _ _ rfl Yf Yf (Xt h5) _) ?_;refine Yq (aO _ _ _ rfl Yf Yf _) ?_;iterate 3 refine Yx ?_
        refine Yq (bQ _ _ _ _ rfl Tryz.underlying178 iT.size Yb Yf hF hf4 _) ?_;refine Yq (aR _ _ rfl iT Yf mh6 Yo hho) ?_;refine Yx ?_;refine Yq (bT (b:=false) _ _ rfl Yf (aI _ _) (Xf Yo) _) ?_;refine Yq (aO _ _ _ rfl Yf Yf _) ?_;refine aC<|aQ Yf (iU ?_);refine aJ ?_;iterate 2 refine Yx ?_
        exact bD ⟨L.length-(i+1),Yo,i+1,Yo,Yo,YA,YB,Yb,Yb,Yb,Yb,Yb,Yb,Yb,(Ye rfl).trans YC,mn6,mr6,by rw[nS hc];exact Vh.congr mh6 (uP hkeep),(aF (kB.trans (k4.mono Yo)) k5 Yo Yo).trans (k6.mono Yo),Yo⟩
      .have hkeep:∀s:Nat,s<4->jN n.id n.fr (s:Int) kind many c.m=false\/(fL n.id n.fr (L.take i) (s:Int) kind many).isSome=true:=λs hs=>Or.inl (by unfold jN;rw[Xf (show ¬c.m.F≠n.id from h5)];simp)
       refine aD (aG ?_);refine Yx ?_;refine aC<|aH (aT Yf (aS ?_));refine aH (aM ?_);refine aD<|Yq (rY _ _ rfl Yb Yb rfl hin _) ?_;refine Yq (pK _ rfl Yf hcell) ?_;refine Za nE (λw4 m4 k4 z4=>?_);have mn4:=mn.below k4;have mr4:=mr.below k4;have mh4:=mh.below k4;refine Zs dZ m4 (qA _) (λw5 mm5 k5 z5=>?_);have mm5:=Vh.congr mm5 (fB _ _);have mn5:=mn4.kept k5 Yo;have mr5:=mr4.kept k5 Yo;have mh5:=mh4.kept k5 Yo;refine aC<|aD ?_;iterate 3 refine Yx ?_
       refine Yq (bT (b:=true) _ _ rfl Yf Yf (Xt h1) _) ?_;iterate 5 refine Yx ?_
       refine Yq (bT (b:=true) _ _ rfl Yf Yf (Xt h2) _) ?_;refine Yq (aO _ _ _ rfl Yf Yf _) ?_;iterate 5 refine Yx ?_
       refine Yq (bT (b:=true) _ _ rfl Yf Yf (Xt h3) _) ?_;refine Yq (aO _ _ _ rfl Yf Yf _) ?_;refine Yx ?_;refine aC<|aD ?_;iterate 4 refine Yx ?_
       refine bJ rfl (eH (j:=1) rfl rfl rfl Yf) (λK hK=>?_);have C1:=iL c.m.F w5;rw[h4] at C1;refine aX _ 65 _ _ rfl Yf (fO _ _) C1 ?_;rintro e w6 ⟨rfl,k6⟩;have n6:=k6.size;have mn6:=mn5.below k6;have mr6:=mr5.below k6;have mh6:=mh5.below k6;have mm6:=mm5.below k6;refine⟨_,rfl,?_⟩;refine hK _ _ ?_;clear hK K;refine Yq (aO _ _ _ rfl Yf Yf _) ?_;iterate 5 refine Yx ?_
       refine Yq (dC (b:=false) _ _ rfl Yf Yf (Xf h5) _) ?_;refine Yq (aO _ _ _ rfl Yf Yf _) ?_;refine Yx ?_;iterate 6 refine Yu ?_
       refine Yq (aZ _ _ _ rfl Yf (aI _ _) _) ?_;refine aC<|aQ Yf (iU ?_);refine aJ ?_;iterate 2 refine Yx ?_
       exact bD ⟨L.length-(i+1),Yo,i+1,Yo,Yo,YA,YB,Yb,Yb,Yb,Yb,Yb,Yb,Yb,(Ye rfl).trans YC,mn6,mr6,by rw[nS hc];exact Vh.congr mh6 (uP hkeep),(aF (kB.trans (k4.mono Yo)) k5 Yo Yo).trans (k6.mono Yo),Yo⟩
     .have hkeep:∀s:Nat,s<4->jN n.id n.fr (s:Int) kind many c.m=false\/(fL n.id n.fr (L.take i) (s:Int) kind many).isSome=true:=λs hs=>Or.inl (by unfold jN;rw[Xf (show ¬c.m.F=(s:Int) from λe=>by rw[e] at h4;unfold jV at h4;simp at h4;omega)];simp)
      refine aD (aG ?_);refine Yx ?_;refine aC<|aH (aT Yf (aS ?_));refine aH (aM ?_);refine aD<|Yq (rY _ _ rfl Yb Yb rfl hin _) ?_;refine Yq (pK _ rfl Yf hcell) ?_;refine Za nE (λw4 m4 k4 z4=>?_);have mn4:=mn.below k4;have mr4:=mr.below k4;have mh4:=mh.below k4;refine Zs dZ m4 (qA _) (λw5 mm5 k5 z5=>?_);have mm5:=Vh.congr mm5 (fB _ _);have mn5:=mn4.kept k5 Yo;have mr5:=mr4.kept k5 Yo;have mh5:=mh4.kept k5 Yo;refine aC<|aD ?_;iterate 3 refine Yx ?_
      refine Yq (bT (b:=true) _ _ rfl Yf Yf (Xt h1) _) ?_;iterate 5 refine Yx ?_
      refine Yq (bT (b:=true) _ _ rfl Yf Yf (Xt h2) _) ?_;refine Yq (aO _ _ _ rfl Yf Yf _) ?_;iterate 5 refine Yx ?_
      refine Yq (bT (b:=true) _ _ rfl Yf Yf (Xt h3) _) ?_;refine Yq (aO _ _ _ rfl Yf Yf _) ?_;refine Yx ?_;refine aC<|aD ?_;iterate 4 refine Yx ?_
      refine bJ rfl (eH (j:=1) rfl rfl rfl Yf) (λK hK=>?_);have C1:=iL c.m.F w5;rw[h4] at C1;refine aX _ 65 _ _ rfl Yf (fO _ _) C1 ?_;rintro e w6 ⟨rfl,k6⟩;have n6:=k6.size;have mn6:=mn5.below k6;have mr6:=mr5.below k6;have mh6:=mh5.below k6;have mm6:=mm5.below k6;refine⟨_,rfl,?_⟩;refine hK _ _ ?_;clear hK K;refine Yq (aO _ _ _ rfl Yf Yf _) ?_;refine Yx ?_;iterate 5 refine Yu ?_
      refine Yq (aZ _ _ _ rfl Yf (aI _ _) _) ?_;refine Yx ?_;iterate 6 refine Yu ?_
      refine Yq (aZ _ _ _ rfl Yf (aI _ _) _) ?_;refine aC<|aQ Yf (iU ?_);refine aJ ?_;iterate 2 refine Yx ?_
      exact bD ⟨L.length-(i+1),Yo,i+1,Yo,Yo,YA,YB,Yb,Yb,Yb,Yb,Yb,Yb,Yb,(Ye rfl).trans YC,mn6,mr6,by rw[nS hc];exact Vh.congr mh6 (uP hkeep),(aF (kB.trans (k4.mono Yo)) k5 Yo Yo).trans (k6.mono Yo),Yo⟩
    .have hkeep:∀s:Nat,s<4->jN n.id n.fr (s:Int) kind many c.m=false\/(fL n.id n.fr (L.take i) (s:Int) kind many).isSome=true:=λs hs=>Or.inl (by unfold jN;rw[Xf (show ¬(c.m.L.length:Int)=many from h3)];simp)
     refine aD (aG ?_);refine Yx ?_;refine aC<|aH (aT Yf (aS ?_));refine aH (aM ?_);refine aD<|Yq (rY _ _ rfl Yb Yb rfl hin _) ?_;refine Yq (pK _ rfl Yf hcell) ?_;refine Za nE (λw4 m4 k4 z4=>?_);have mn4:=mn.below k4;have mr4:=mr.below k4;have mh4:=mh.below k4;refine Zs dZ m4 (qA _) (λw5 mm5 k5 z5=>?_);have mm5:=Vh.congr mm5 (fB _ _);have mn5:=mn4.kept k5 Yo;have mr5:=mr4.kept k5 Yo;have mh5:=mh4.kept k5 Yo;refine aC<|aD ?_;iterate 3 refine Yx ?_
     refine Yq (bT (b:=true) _ _ rfl Yf Yf (Xt h1) _) ?_;iterate 5 refine Yx ?_
     refine Yq (bT (b:=true) _ _ rfl Yf Yf (Xt h2) _) ?_;refine Yq (aO _ _ _ rfl Yf Yf _) ?_;iterate 5 refine Yx ?_
     refine Yq (bT (b:=false) _ _ rfl Yf Yf (Xf h3) _) ?_;refine Yq (aO _ _ _ rfl Yf Yf _) ?_;refine Yx ?_;refine aC<|aD ?_;iterate 2 refine Yx ?_
     iterate 3 refine Yu ?_
     refine Yq (aZ _ _ _ rfl Yf (aI _ _) _) ?_;refine Yx ?_;iterate 5 refine Yu ?_
     refine Yq (aZ _ _ _ rfl Yf (aI _ _) _) ?_;refine Yx ?_;iterate 6 refine Yu ?_
     refine Yq (aZ _ _ _ rfl Yf (aI _ _) _) ?_;refine aC<|aQ Yf (iU ?_);refine aJ ?_;iterate 2 refine Yx ?_
     exact bD ⟨L.length-(i+1),Yo,i+1,Yo,Yo,YA,YB,Yb,Yb,Yb,Yb,Yb,Yb,Yb,(Ye rfl).trans YC,mn5,mr5,by rw[nS hc];exact Vh.congr mh5 (uP hkeep),aF (kB.trans (k4.mono Yo)) k5 Yo Yo,Yo⟩
   .have hkeep:∀s:Nat,s<4->jN n.id n.fr (s:Int) kind many c.m=false\/(fL n.id n.fr (L.take i) (s:Int) kind many).isSome=true:=λs hs=>Or.inl (by unfold jN;rw[Xf (show ¬c.m.R=n.fr from h2)];simp)
    refine aD (aG ?_);refine Yx ?_;refine aC<|aH (aT Yf (aS ?_));refine aH (aM ?_);refine aD<|Yq (rY _ _ rfl Yb Yb rfl hin _) ?_;refine Yq (pK _ rfl Yf hcell) ?_;refine Za nE (λw4 m4 k4 z4=>?_);have mn4:=mn.below k4;have mr4:=mr.below k4;have mh4:=mh.below k4;refine Zs dZ m4 (qA _) (λw5 mm5 k5 z5=>?_);have mm5:=Vh.congr mm5 (fB _ _);have mn5:=mn4.kept k5 Yo;have mr5:=mr4.kept k5 Yo;have mh5:=mh4.kept k5 Yo;refine aC<|aD ?_;iterate 3 refine Yx ?_
    refine Yq (bT (b:=true) _ _ rfl Yf Yf (Xt h1) _) ?_;iterate 5 refine Yx ?_
    refine Yq (bT (b:=false) _ _ rfl Yf Yf (Xf h2) _) ?_;refine Yq (aO _ _ _ rfl Yf Yf _) ?_;refine Yx ?_;iterate 5 refine Yu ?_
    refine Yq (aZ _ _ _ rfl Yf (aI _ _) _) ?_;refine Yx ?_;refine aC<|aD ?_;iterate 2 refine Yx ?_
    iterate 3 refine Yu ?_
    refine Yq (aZ _ _ _ rfl Yf (aI _ _) _) ?_;refine Yx ?_;iterate 5 refine Yu ?_
    refine Yq (aZ _ _ _ rfl Yf (aI _ _) _) ?_;refine Yx ?_;iterate 6 refine Yu ?_
    refine Yq (aZ _ _ _ rfl Yf (aI _ _) _) ?_;refine aC<|aQ Yf (iU ?_);refine aJ ?_;iterate 2 refine Yx ?_
    exact bD ⟨L.length-(i+1),Yo,i+1,Yo,Yo,YA,YB,Yb,Yb,Yb,Yb,Yb,Yb,Yb,(Ye rfl).trans YC,mn5,mr5,by rw[nS hc];exact Vh.congr mh5 (uP hkeep),aF (kB.trans (k4.mono Yo)) k5 Yo Yo,Yo⟩
  .have hkeep:∀s:Nat,s<4->jN n.id n.fr (s:Int) kind many c.m=false\/(fL n.id n.fr (L.take i) (s:Int) kind many).isSome=true:=λs hs=>Or.inl (by unfold jN;rw[Xf (show ¬c.m.K=kind from h1)];simp)
   refine aD (aG ?_);refine Yx ?_;refine aC<|aH (aT Yf (aS ?_));refine aH (aM ?_);refine aD<|Yq (rY _ _ rfl Yb Yb rfl hin _) ?_;refine Yq (pK _ rfl Yf hcell) ?_;refine Za nE (λw4 m4 k4 z4=>?_);have mn4:=mn.below k4;have mr4:=mr.below k4;have mh4:=mh.below k4;refine Zs dZ m4 (qA _) (λw5 mm5 k5 z5=>?_);have mm5:=Vh.congr mm5 (fB _ _);have mn5:=mn4.kept k5 Yo;have mr5:=mr4.kept k5 Yo;have mh5:=mh4.kept k5 Yo;refine aC<|aD ?_;iterate 3 refine Yx ?_
   refine Yq (bT (b:=false) _ _ rfl Yf Yf (Xf h1) _) ?_;refine Yx ?_;iterate 5 refine Yu ?_
   refine Yq (aZ _ _ _ rfl Yf (aI _ _) _) ?_;refine Yx ?_;iterate 5 refine Yu ?_
   refine Yq (aZ _ _ _ rfl Yf (aI _ _) _) ?_;refine Yx ?_;refine aC<|aD ?_;iterate 2 refine Yx ?_
   iterate 3 refine Yu ?_
   refine Yq (aZ _ _ _ rfl Yf (aI _ _) _) ?_;refine Yx ?_;iterate 5 refine Yu ?_
   refine Yq (aZ _ _ _ rfl Yf (aI _ _) _) ?_;refine Yx ?_;iterate 6 refine Yu ?_
   refine Yq (aZ _ _ _ rfl Yf (aI _ _) _) ?_;refine aC<|aQ Yf (iU ?_);refine aJ ?_;iterate 2 refine Yx ?_
   exact bD ⟨L.length-(i+1),Yo,i+1,Yo,Yo,YA,YB,Yb,Yb,Yb,Yb,Yb,Yb,Yb,(Ye rfl).trans YC,mn5,mr5,by rw[nS hc];exact Vh.congr mh5 (uP hkeep),aF (kB.trans (k4.mono Yo)) k5 Yo Yo,Yo⟩
 .refine aD (aG ?_);refine Yx ?_;obtain rfl:i=L.length:=Yo;rw[List.take_length] at mh;refine aC<|aH (aQ Yf (bY (eY ?_)));refine aD<|Yx ?_;refine Zs DL mr (aHA _ _ _ _ _) (λw4 mm4 k4 z4=>?_);have mr4:=Vh.congr mm4 (fB _ _);have mn4:=mn.kept k4 Yo;have mh4:=mh.kept k4 Yo;refine aC<|aN (aK YB (qV rfl Yb DL mr4 (Xr _)) ⟨rfl,aF kB k4 Yo Yo⟩)
theorem MV(x:Value)(w:World):(callFunc 134 #[x]).run Tryz.prog w=.ok (.enter 134 #[x]) w:=Yh
def kT(n:Nd)(L:List Lm)(p q:Nat):Option Lm:=match fL n.id n.fr L (p:Int) 5 24,fL n.id n.fr L (q:Int) 5 24 with|some a,some b=>if a.m.L=b.m.L then some a else none|_,_=>none
def yD(n:Nd)(L:List Lm):Option Lm:=prs.findSome? λp=>kT n L p.1 p.2
def VT:Option Lm->Value
 |some c=>lmV c
 |none=>.slice none 0 0
theorem aCM(h:∀p q,p<q->q<4->kT n L p q=none):yD n L=none:=by
 unfold yD;rw[List.findSome?_eq_none_iff];intro p hp;unfold prs at hp;simp only[List.mem_cons,List.not_mem_nil,or_false] at hp;rcases hp with rfl|rfl|rfl|rfl|rfl|rfl<;>exact h _ _ Yc Yc
theorem YT{k:Nat}(hik:i<k)(hk:k<4)(h:kT n L i k=some c)(hb:∀p q,p<q->q<4->(p<i\/(p=i/\q<k))->kT n L p q=none):yD n L=some c:=by
 unfold yD prs
 match i,k,hik,hk with
 |0,1,_,_=>simp only[List.findSome?,h]
 |0,2,_,_=>simp only[List.findSome?,hb 0 1 Yc Yc Yo,h]
 |0,3,_,_=>simp only[List.findSome?,hb 0 1 Yc Yc Yo,hb 0 2 Yc Yc Yo,h]
 |1,2,_,_=>simp only[List.findSome?,hb 0 1 Yc Yc Yo,hb 0 2 Yc Yc Yo,hb 0 3 Yc Yc Yo,h]
 |1,3,_,_=>simp only[List.findSome?,hb 0 1 Yc Yc Yo,hb 0 2 Yc Yc Yo,hb 0 3 Yc Yc Yo,hb 1 2 Yc Yc Yo,h]
 |2,3,_,_=>simp only[List.findSome?,hb 0 1 Yc Yc Yo,hb 0 2 Yc Yc Yo,hb 0 3 Yc Yc Yo,hb 1 2 Yc Yc Yo,hb 1 3 Yc Yc Yo,h]
 |i+3,k,h1,h2=>exact absurd h1 Yo
def sO(i:Nat):Nat:=if 4=i then 0 else i
theorem EA(h:i≠4):sO i=i:=if_neg (Ne.symm h)
section
variable {f:Operand->Value} {o:Oper}
variable{z:Int}
theorem aEK(x y:Operand)(ho:o.op=.slice 178 x (some y) none none){b:Nat}(hx:f x=.pointer (some ⟨b,0,none⟩))(hy:f y=.int .i64 z)(hz:z=(i:Int))(hi:i<=4)(w:World):(execOp f o).run Tryz.prog w=.ok (.value (.slice (some ⟨b,sO i,none⟩) (4-i) (4-i))) w:=by
 subst hz;have:i=0\/i=1\/i=2\/i=3\/i=4:=Yo;unfold execOp;rw[ho];simp only[Option.map_some,Option.map_none];rw[hx,hy];clear hx hy ho hi;rcases this with rfl|rfl|rfl|rfl|rfl<;>go_simp<;>rfl
variable{ao:Option Addr}
theorem aBH(x:Operand)(ho:o.op=.call { callee:=.builtin .len,args:=#[x],argTypes:=#[235] }){n c:Nat}(hx:f x=.slice ao n c)(w:World):(execOp f o).run Tryz.prog w=.ok (.value (.int .i64 ((n:Nat):Int))) w:=by
 unfold execOp;rw[ho];dsimp only;go_simp
theorem zY(x y:Operand)(ho:o.op=.indexAddr 235 x y){b off n cap:Nat}(hx:f x=.slice (some ⟨b,off,none⟩) n cap)(hy:f y=.int .i64 z)(hz:z=(i:Int))(hi:i<n)(w:World):(execOp f o).run Tryz.prog w=.ok (.value (.pointer (some ⟨b,off+i,none⟩))) w:=by
 subst hz;have hi2:(i:Int)<n:=Yo;unfold execOp;rw[ho];dsimp only;rw[hx,hy];go_simp
end
theorem YR(n:Nd)(mo:Option Addr)(L:List Lm)(w:World)(hmr:MRd w mo L):Calls Tryz.prog 134 #[aP (eX n.id n.fr L 5 24) 0 4] w λe w'=>e=.returned (VT (yD n L))/\Below w.heap.size w w':=by
 refine bB Tryz.func134 rfl 31 rfl Yd (λA hs hd hb=>?_);have b0:A.eval (.tmp 0)=aP (eX n.id n.fr L 5 24) 0 4:=hb 0 _ rfl;clear hb;refine aD (aG ?_);refine Zb (λw1 m1 k1 z1=>?_);refine Yx ?_;refine aC<|aH<|aD ?_;iterate 2 refine Yx ?_
 refine aC<|aM<|cO (λq A W=>∃i:Nat,i<=4/\4-i<=q/\A.tmps.size=31/\A.defers=[]/\A.eval (.tmp 1)=.pointer (some ⟨w.heap.size,0,none⟩)/\A.eval (.tmp 7)=aP (eX n.id n.fr L 5 24) 0 4/\A.eval (.tmp 8)=.int .i64 (i:Int)/\(∀p q,p<q->q<4->p<i->kT n L p q=none)/\Vh 178 W w.heap.size 4 4 (eX n.id n.fr L 5 24)/\Below w.heap.size w W/\w1.heap.size<=W.heap.size) 4 ⟨0,Yo,Yo,YA,YB,Yf,Yf,Yf,λp q _ _ h=>absurd h Yo,m1,k1,Yo⟩ (λq B W hI2=>?_);clear b0 hs hd;obtain⟨i,hi,hr2,hs,hd,b1,b7,b8,hno,mh,kB,hW⟩:=hI2;by_cases hin:i<4
 .refine aD (aG ?_);refine Yx ?_;refine aC<|aH (aT Yf (aS ?_));refine aH (aM ?_);refine aD<|Yx ?_;refine Yq (jP _ _ _ _ rfl Tryz.underlying178 iT Yb Yb rfl hin _) ?_;iterate 2 refine Yx ?_
  refine aC<|aD ?_;iterate 2 refine Yx ?_
  refine Yq (aEK (i:=i+1) _ _ rfl Yb Yf YC Yo _) ?_;refine Yq (aBH _ rfl Yf _) ?_;refine Yx ?_;refine aC<|aM<|cO (λq A W=>∃x:Nat,x<=3-i/\3-i-x<=q/\A.tmps.size=31/\A.defers=[]/\A.eval (.tmp 1)=.pointer (some ⟨w.heap.size,0,none⟩)/\A.eval (.tmp 7)=aP (eX n.id n.fr L 5 24) 0 4/\A.eval (.tmp 8)=.int .i64 (i:Int)/\A.eval (.tmp 3)=.int .i64 (i:Int)/\A.eval (.tmp 4)=eX n.id n.fr L 5 24 i/\A.eval (.tmp 14)=.slice (some ⟨w.heap.size,sO (i+1),none⟩) (4-(i+1)) (4-(i+1))/\A.eval (.tmp 15)=.int .i64 ((4-(i+1):Nat):Int)/\A.eval (.tmp 16)=.int .i64 (x:Int)/\(∀p q,p<q->q<4->(p<i\/(p=i/\q<i+1+x))->kT n L p q=none)/\Vh 178 W w.heap.size 4 4 (eX n.id n.fr L 5 24)/\Below w.heap.size w W/\w1.heap.size<=W.heap.size) (3-i) ⟨0,Yo,Yo,YA,YB,Yb,Yb,Yb,Yf,Yf,Yf,Yf,Yf,(λp q h1 h2 h3=>hno p q h1 h2 Yo),mh,kB,hW⟩ (λq3 B3 W3 hI3=>?_);clear b1 b7 b8 hs hd mh hno;obtain⟨x,hx,hr3,hs,hd,b1,b7,b8,b3,b4,b14,b15,b16,hno,mh,kB3,hW3⟩:=hI3;by_cases hin3:x<3-i
  .have hi3:i+1≠4:=Yo;have hin3b:x<4-(i+1):=Yo;have esO:sO (i+1)+x=i+1+x:=by rw[EA hi3]
   have b4r:=b4;rcases hfi:fL n.id n.fr L (i:Int) 5 24 with _|ci
   .have b4:B3.eval (.tmp 4)=.slice none 0 0:=b4.trans (by unfold eX;rw[hfi]);have hpk:kT n L i (i+1+x)=none:=by unfold kT;rw[hfi]
    obtain⟨ok,hok⟩:∃v,eX n.id n.fr L 5 24 (sO (i+1)+x)=v:=⟨_,rfl⟩;refine aD (aG ?_);refine Yx ?_;refine aC<|aH (aT Yf (aS ?_));refine aH (aM ?_);refine aD<|Yq (zY _ _ rfl Yb Yb rfl hin3b _) ?_;refine Yq (aR _ _ rfl iT Yf mh (by rw[EA hi3];omega) hok) ?_;refine Yx ?_;refine aC<|aD ?_;iterate 2 refine Yx ?_
    refine Yq (fV (b:=false) _ _ rfl Yf (aI _ _) (Xf Yo) _) ?_;refine Yx ?_;iterate 3 refine Yu ?_
    refine Yq (aZ _ _ _ rfl Yf (aI _ _) _) ?_;refine aC<|aQ Yf (iU ?_);refine aJ ?_;iterate 2 refine Yx ?_
    exact bD ⟨3-i-(x+1),Yo,x+1,Yo,Yo,YA,YB,Yb,Yb,Yb,Yb,(vE rfl b4r),Yb,Yb,(Ye rfl).trans YC,(λp q h1 h2 h3=>by
     by_cases e:p=i/\q=i+1+x
     .rw[e.1,e.2];exact hpk
     .exact hno p q h1 h2 Yo),mh,kB3,Yo⟩
   .obtain⟨mci,fci⟩:=vF hfi;have lci:=uO fci;have b4:B3.eval (.tmp 4)=.slice ci.ao ci.m.L.length ci.cap:=b4.trans (by unfold eX;rw[hfi];rfl);rcases hfk:fL n.id n.fr L ((i+1+x:Nat):Int) 5 24 with _|ck
    .have hok:eX n.id n.fr L 5 24 (sO (i+1)+x)=.slice none 0 0:=by rw[esO];unfold eX;rw[hfk]
     have hpk:kT n L i (i+1+x)=none:=by unfold kT;rw[hfi,hfk]
     have hnil:¬ci.m.L=[]:=λe=>by rw[e] at lci;exact absurd lci Yc
     refine aD (aG ?_);refine Yx ?_;refine aC<|aH (aT Yf (aS ?_));refine aH (aM ?_);refine aD<|Yq (zY _ _ rfl Yb Yb rfl hin3b _) ?_;refine Yq (aR _ _ rfl iT Yf mh (by rw[EA hi3];omega) hok) ?_;refine Yx ?_;refine aC<|aD ?_;iterate 2 refine Yx ?_
     refine Yq (fV (b:=true) _ _ rfl Yf (aI _ _) (Xt Yo) _) ?_;iterate 3 refine Yx ?_
     refine bJ rfl (eH (j:=3) rfl rfl rfl Yf) (λK hK=>?_);have C21:=zL ci.m.L [] ci.ao none ci.cap 0 W3 (by have:=(hmr.2 ci mci).2.2;omega) ((hmr.2 ci mci).below kB3).1 (Or.inl ⟨rfl,rfl,rfl⟩);rw[Xf hnil] at C21;refine dL _ 193 _ _ _ rfl Yf Yf (vB _ _ _) C21 ?_;rintro e w21 ⟨rfl,k21⟩;have n21:=k21.size;have mh21:=mh.below k21;refine⟨_,rfl,?_⟩;refine hK _ _ ?_;clear hK K;refine Yq (aO _ _ _ rfl Yf Yf _) ?_;refine aC<|aQ Yf (iU ?_);refine aJ ?_;iterate 2 refine Yx ?_
     exact bD ⟨3-i-(x+1),Yo,x+1,Yo,Yo,YA,YB,Yb,Yb,Yb,Yb,(vE rfl b4r),Yb,Yb,(Ye rfl).trans YC,(λp q h1 h2 h3=>by
      by_cases e:p=i/\q=i+1+x
      .rw[e.1,e.2];exact hpk
      .exact hno p q h1 h2 Yo),mh21,kB3.trans (k21.mono Yo),Yo⟩
    .obtain⟨mck,fck⟩:=vF hfk;have hok:eX n.id n.fr L 5 24 (sO (i+1)+x)=.slice ck.ao ck.m.L.length ck.cap:=by rw[esO];unfold eX;rw[hfk];rfl
     by_cases he:ci.m.L=ck.m.L
     .have hpk:kT n L i (i+1+x)=some ci:=by unfold kT;rw[hfi,hfk];exact if_pos he
      refine aD (aG ?_);refine Yx ?_;refine aC<|aH (aT Yf (aS ?_));refine aH (aM ?_);refine aD<|Yq (zY _ _ rfl Yb Yb rfl hin3b _) ?_;refine Yq (aR _ _ rfl iT Yf mh (by rw[EA hi3];omega) hok) ?_;refine Yx ?_;refine aC<|aD ?_;iterate 2 refine Yx ?_
      refine Yq (fV (b:=true) _ _ rfl Yf (aI _ _) (Xt Yo) _) ?_;iterate 3 refine Yx ?_
      refine bJ rfl (eH (j:=3) rfl rfl rfl Yf) (λK hK=>?_);have C21:=zL ci.m.L ck.m.L ci.ao ck.ao ci.cap ck.cap W3 (by have:=(hmr.2 ci mci).2.2;omega) ((hmr.2 ci mci).below kB3).1 ((hmr.2 ck mck).below kB3).1;rw[Xt he] at C21;refine dL _ 193 _ _ _ rfl Yf Yf (vB _ _ _) C21 ?_;rintro e w21 ⟨rfl,k21⟩;have n21:=k21.size;have mh21:=mh.below k21;refine⟨_,rfl,?_⟩;refine hK _ _ ?_;clear hK K;refine Yq (aO _ _ _ rfl Yf Yf _) ?_;refine aC<|aT Yf ?_;refine aD ?_;iterate 2 refine Yx ?_
      refine aC<|aN ?_;simp only[Nx,Exit.inBlock,Exit.then];refine aK YB (bL rfl Yf) ⟨?_,kB3.trans (k21.mono Yo)⟩;unfold VT;rw[YT (show i<i+1+x by omega) Yo hpk (λp q h1 h2 h3=>hno p q h1 h2 h3)];rfl
     .have hpk:kT n L i (i+1+x)=none:=by unfold kT;rw[hfi,hfk];exact if_neg he
      refine aD (aG ?_);refine Yx ?_;refine aC<|aH (aT Yf (aS ?_));refine aH (aM ?_);refine aD<|Yq (zY _ _ rfl Yb Yb rfl hin3b _) ?_;refine Yq (aR _ _ rfl iT Yf mh (by rw[EA hi3];omega) hok) ?_;refine Yx ?_;refine aC<|aD ?_;iterate 2 refine Yx ?_
      refine Yq (fV (b:=true) _ _ rfl Yf (aI _ _) (Xt Yo) _) ?_;iterate 3 refine Yx ?_
      refine bJ rfl (eH (j:=3) rfl rfl rfl Yf) (λK hK=>?_);have C21:=zL ci.m.L ck.m.L ci.ao ck.ao ci.cap ck.cap W3 (by have:=(hmr.2 ci mci).2.2;omega) ((hmr.2 ci mci).below kB3).1 ((hmr.2 ck mck).below kB3).1;rw[Xf he] at C21;refine dL _ 193 _ _ _ rfl Yf Yf (vB _ _ _) C21 ?_;rintro e w21 ⟨rfl,k21⟩;have n21:=k21.size;have mh21:=mh.below k21;refine⟨_,rfl,?_⟩;refine hK _ _ ?_;clear hK K;refine Yq (aO _ _ _ rfl Yf Yf _) ?_;refine aC<|aQ Yf (iU ?_);refine aJ ?_;iterate 2 refine Yx ?_
      exact bD ⟨3-i-(x+1),Yo,x+1,Yo,Yo,YA,YB,Yb,Yb,Yb,Yb,(vE rfl b4r),Yb,Yb,(Ye rfl).trans YC,(λp q h1 h2 h3=>by
       by_cases e:p=i/\q=i+1+x
       .rw[e.1,e.2];exact hpk
       .exact hno p q h1 h2 Yo),mh21,kB3.trans (k21.mono Yo),Yo⟩
  .refine aD (aG ?_);refine Yx ?_;refine aC<|aH (aQ Yf (bY (QV ?_)));refine aJ ?_;iterate 2 refine Yx ?_
   exact bD ⟨4-(i+1),Yo,i+1,Yo,Yo,YA,YB,Yb,Yb,(Ye rfl).trans YC,(λp q h1 h2 h3=>hno p q h1 h2 Yo),mh,kB3,hW3⟩
 .refine aD (aG ?_);refine Yx ?_;refine aC<|aH (aQ Yf (bY (eY ?_)));refine aD<|Yx ?_;refine aC<|aN (aK YB (bL rfl Yf) ⟨?_,kB⟩);unfold VT;rw[aCM (λp q h1 h2=>hno p q h1 h2 Yo)]
def uX(n:Nd)(l:List Ms):Nd:=if jV n.id then dW else gF n l
def aNd(fn:Nat):Prop:=∀(n:Nd) (ao:Option Addr) (c:Nat) (mo:Option Addr) (mc:Nat) (L:List Lm) (w:World),NdOK n->xU w n ao c->MRd w mo L->L.length<=140737488351232->L.length<=mc->(∀m,m∈L->∀i,R64 (gL m.m.L i))->
 Calls Tryz.prog fn #[lS n (.slice ao n.vA.length c),.slice mo L.length mc] w λe w'=>∃a' c',e=.returned (.tuple #[lS (gF n (L.map Lm.m)) (.slice a' (gF n (L.map Lm.m)).vA.length c'),aP (gH (uX n (L.map Lm.m))) 0 14])/\nU w.heap.size w' (gF n (L.map Lm.m)) a' c'/\Below w.heap.size w w'
def cloT(n:Nd)(L:List Lm):Nd:=match yD n L with|some c=>if unOK c.m.L then { n with ax:=unA c.m.L,rl:=unR c.m.L } else n|none=>n
theorem aGZ(n:Nd)(L:List Lm):(cloT n L).vA=n.vA:=by
 unfold cloT;split
 .split<;>rfl
 .rfl
theorem aEe(n:Nd)(L:List Lm)(p:Nat×Nat):DU n (L.map Lm.m) p=(kT n L p.1 p.2).map (λc=>c.m.L):=by
 unfold DU kT;have h1:=nZ n L p.1 5 24;have h2:=nZ n L p.2 5 24;rw[show ((24:Nat):Int)=24 from rfl] at h1 h2;rw[<-h1, <-h2]
 cases fL n.id n.fr L (p.1:Int) 5 24 with
 |none=>rfl
 |some a=>
  cases fL n.id n.fr L (p.2:Int) 5 24 with
  |none=>rfl
  |some b=>
   show (if a.m.L=b.m.L then some a.m.L else none)=Option.map _ (if a.m.L=b.m.L then some a else none)
   split<;>rfl
theorem aDq{β γ:Type}(g:α->Option β)(f:β->γ)(l:List α):l.findSome? (λp=>(g p).map f)=(l.findSome? g).map f:=by
 induction l with
 |nil=>rfl
 |cons x l ih=>
  rw[List.findSome?_cons,List.findSome?_cons]
  cases g x with
  |none=>exact ih
  |some b=>rfl
theorem aGJ(n:Nd)(L:List Lm):prs.findSome? (DU n (L.map Lm.m))=(yD n L).map (λc=>c.m.L):=by
 unfold yD;rw[<-aDq]
 congr 1
 funext p
 exact aEe n L p
theorem IV{l:List Ms}(hno:jV n.id=false)(h:¬(n.vS=true/\n.vX≠n.dg)):gF n l=n:=by
 unfold gF MM;rw[if_neg (by rw[hno];decide),if_neg h]
theorem aCY(hno:jV n.id=false)(h:n.vS=true/\n.vX≠n.dg):gF n (L.map Lm.m)=cloT n L:=by
 unfold gF MM cloT;rw[if_neg (by rw[hno];decide),if_pos h,aGJ]
 cases yD n L<;>rfl
theorem aEf{p q:Nat}(h:kT n L p q=some c):c∈L/\c.m.L.length=24:=by
 unfold kT at h
 cases h1:fL n.id n.fr L (p:Int) 5 24 with
 |none=>rw[h1] at h;cases h
 |some a=>
  rw[h1] at h
  cases h2:fL n.id n.fr L (q:Int) 5 24 with
  |none=>rw[h2] at h;cases h
  |some b=>
   rw[h2] at h;dsimp only at h;split at h
   .cases h
    obtain⟨m,f⟩:=vF h1;exact⟨m,by have:=uO f;omega⟩
   .cases h
theorem aGK(h:yD n L=some c):c∈L/\c.m.L.length=24:=by
 unfold yD at h;obtain⟨p,_,hp⟩:=List.exists_of_findSome?_eq_some h;exact aEf hp
variable{mo:Option Addr}
theorem aGL(hmr:MRd w mo L):∃(to:Option Addr) (tc:Nat) (v:List Int),VT (yD n L)=.slice to v.length tc/\Sr w to v.length tc (iF (gL v))/\v.length<=tc/\movN n v=cloT n L:=by
 cases h:yD n L with
 |none=>exact⟨none,0,[],rfl,Or.inl ⟨rfl,rfl,rfl⟩,Xr _,by unfold movN cloT;rw[h];rfl⟩
 |some c=>
  obtain⟨m,hl⟩:=aGK h;refine⟨c.ao,c.cap,c.m.L,rfl,(hmr.2 c m).1,(hmr.2 c m).2.1,?_⟩;unfold movN cloT;rw[h,Xt hl,Bool.true_and]
theorem OM:aNd 76:=by
 intro n ao c mo mc L w hok hag hmr hN hmc hRL;have hag:Sr w ao n.vA.length c (tF (bA n)):=hag;refine bB Tryz.func76 rfl 34 rfl Yd (λA hs hd hb=>?_);have b0:A.eval (.tmp 0)=lS n (.slice ao n.vA.length c):=hb 0 _ rfl;have b1:A.eval (.tmp 1)=.slice mo L.length mc:=hb 1 _ rfl;clear hb;refine aD (aG ?_);refine Zb (λw1 m1 k1 z1=>?_);have sr1:=hag.below k1;refine Za nT (λw2 m2 k2 z2=>?_);have mn2:=m1.below k2;have sr2:=sr1.below k2;refine Za U3 (λw3 m3 k3 z3=>?_);have mn3:=mn2.below k3;have mr3:=m2.below k3;have sr3:=sr2.below k3;refine aC<|aD<|Yx ?_;refine bJ rfl Yw (λK hK=>aX _ 119 _ _ rfl Yf (nY _ _) (uQ n ao c _ sr3 hok.vA) ?_);rintro e w4 ⟨a3,c3,rfl,o4,k4⟩;have n4:=k4.size;have mn4:=mn3.below k4;have mr4:=mr3.below k4;have mq4:=m3.below k4;refine⟨_,rfl,hK _ _ ?_⟩;refine Zs bG mn4 (dA _ _ _ _) (λw5 mm5 k5 z5=>?_);have mn5:=Vh.congr mm5 (dX _ _);have mr5:=mr4.kept k5 Yo;have mq5:=mq4.kept k5 Yo;have ow5:=bN o4 k5 YD;refine aC<|aH<|aD ?_;iterate 2 refine Yx ?_
 refine bJ rfl Yw (λK hK=>aX _ 65 _ _ rfl Yf (fO _ _) (iL n.id _) ?_);rintro e w6 ⟨rfl,k6⟩;have n6:=k6.size;have mn6:=mn5.below k6;have mr6:=mr5.below k6;have mq6:=mq5.below k6;have ow6:=bM ow5 k6;refine⟨_,rfl,hK _ _ ?_⟩;refine Yx ?_;refine aC ?_;have kA:Below w.heap.size w w6:=(aF ((((k1).trans (k2.mono Yo)).trans (k3.mono Yo)).trans (k4.mono Yo)) k5 Yo Yo).trans (k6.mono Yo);refine oO (t:=jV n.id) ((Ye rfl).trans (by rw[Bool.not_not])) (λhno=>?_) (λhno=>?_)
 .refine aD<|Yx ?_;refine Yq (XI rfl _) ?_;refine Zs bG mr6 (dA _ _ _ _) (λw7 mm7 k7 z7=>?_);have mr7:=Vh.congr mm7 (dX _ _);have mn7:=mn6.kept k7 Yo;have mq7:=mq6.kept k7 Yo;have ow7:=bN ow6 k7 YD;refine Zs nA mq7 (mE _ _) (λw8 mm8 k8 z8=>?_);have mq8:=Vh.congr mm8 (qF _ _);have mn8:=mn7.kept k8 Yo;have mr8:=mr7.kept k8 Yo;have ow8:=bN ow7 k8 YD;refine aC<|aN ?_;simp only[Nx,Exit.then];have e1:gF n (L.map Lm.m)=n:=by unfold gF;rw[if_pos hno]
  have e2:uX n (L.map Lm.m)=dW:=by unfold uX;rw[if_pos hno]
  rw[e1,e2];refine aK YB (jK rfl Yf Yf bG nA mr8 (Xr _) mq8 (Xr _)) ⟨a3,c3,rfl,dJ ow8 Yo,aF (aF kA k7 Yo Yo) k8 Yo Yo⟩
 .rcases hvs:n.vS with _|_
  .refine aS<|aH<|aD ?_;iterate 2 refine Yx ?_
   refine Yq (aR (v:=.bool false) _ _ rfl tX Yf mn6 Yc (by show Value.bool n.vS=_;rw[hvs])) ?_;refine Yx ?_;iterate 6 refine Yu ?_
   refine Yq (aZ _ _ _ rfl Yf (aI _ _) _) ?_;refine aC<|aQ Yf (aS ?_);have eN:gF n (L.map Lm.m)=n:=IV hno (by rintro⟨h,_⟩;rw[hvs] at h;cases h);have evA:n.vA=n.vA:=rfl;refine aH ?_;have kD:Below w.heap.size w w6.drew:=aY (kA);have hS0:(λW=>Vh 43 W w.heap.size 74 74 (ndF n (.slice a3 n.vA.length c3))) w6.drew:=mn6;have mn0:Vh _ w6.drew _ _ _ _:=mn6;have mr0:Vh _ w6.drew _ _ _ _:=mr6;have mq0:Vh _ w6.drew _ _ _ _:=mq6;have ow0:=(show World.ownsRow w6.drew _ _ _ _ _ _ from ow6);have ez:w6.drew.heap.size=w6.heap.size:=rfl;refine eU (S:=λW=>Vh 43 W w.heap.size 74 74 (ndF n (.slice a3 n.vA.length c3))) (.rd 0 (.rd 1 (.go 2 (.go 3 (.go 4 .fin))))) [] Yl Yl ?_;refine Yr rfl hS0 (λ_ hS=>aV _ _ rfl bG Yf hS Yc) ?_;refine Yr rfl hS0 (λ_ hS=>aV _ _ rfl bG Yf hS Yc) ?_;refine bR rfl rfl Yw (λK hK=>aX _ 135 _ _ rfl Yf (tO _ _) (zW n (.slice a3 n.vA.length c3) _) ?_);rintro e w7 ⟨rfl,k7⟩;have n7:=k7.size;have mn7:=hS0.below k7;have mr7:=mr0.below k7;have mq7:=mq0.below k7;have ow7:=bM ow0 k7;have hS7:(λW=>Vh 43 W w.heap.size 74 74 (ndF n (.slice a3 n.vA.length c3))) w7:=mn7;refine⟨_,rfl,hK _ _ (λ_ _=>hS7) ?_⟩;refine dS rfl Yw (λK hK=>?_);refine aW _ _ _ _ rfl bG Yf Yf mr7 Yc (dA _ _ _ _) rfl ?_;intro w8 mm8 k8 z8;have mr8:=Vh.congr mm8 (dX _ _);have mn8:=mn7.kept k8 Yo;have mq8:=mq7.kept k8 Yo;have ow8:=bN ow7 k8 YD;have hS8:(λW=>Vh 43 W w.heap.size 74 74 (ndF n (.slice a3 n.vA.length c3))) w8:=mn8;refine hK _ (λ_ _=>hS8) ?_;clear hK K;refine dS rfl Yw (λK hK=>?_);refine aW _ _ _ _ rfl nA Yf Yf mq8 Yc (mE _ _) rfl ?_;intro w9 mm9 k9 z9;have mq9:=Vh.congr mm9 (qF _ _);have mn9:=mn8.kept k9 Yo;have mr9:=mr8.kept k9 Yo;have ow9:=bN ow8 k9 YD;have hS9:(λW=>Vh 43 W w.heap.size 74 74 (ndF n (.slice a3 n.vA.length c3))) w9:=mn9;refine hK _ (λ_ _=>hS9) ?_;clear hK K;have e2:uX n (L.map Lm.m)=gF n (L.map Lm.m):=by unfold uX;rw[if_neg (by rw[hno];decide)]
   refine fI<|aN ?_;rw[e2,eN];refine aK YB (jK rfl Yf Yf bG nA mr9 (Xr _) mq9 (Xr _)) ⟨a3,c3,by rw[evA];rfl,?_,aF (aF (kD.trans (k7.mono Yo)) k8 Yo Yo) k9 Yo Yo⟩;unfold nU bA;rw[evA];exact dJ ow9 Yo
  .by_cases hvd:n.vX≠n.dg
   .refine aS<|aH<|aD ?_;iterate 2 refine Yx ?_
    refine Yq (aR (v:=.bool true) _ _ rfl tX Yf mn6 Yc (by show Value.bool n.vS=_;rw[hvs])) ?_;iterate 6 refine Yx ?_
    refine Yq (dC (b:=true) _ _ rfl Yf Yf (Xt hvd) _) ?_;refine Yq (aO _ _ _ rfl Yf Yf _) ?_;refine aC<|aT Yf ?_;have kA0:Below w.heap.size w w6.drew:=aY kA;have hS0:(λW=>Vh 43 W w.heap.size 74 74 (ndF n (.slice a3 n.vA.length c3))) w6.drew:=mn6;have mn0:Vh _ w6.drew _ _ _ _:=mn6;have mr0:Vh _ w6.drew _ _ _ _:=mr6;have mq0:Vh _ w6.drew _ _ _ _:=mq6;have ow0:=(show World.ownsRow w6.drew _ _ _ _ _ _ from ow6);have ez:w6.drew.heap.size=w6.heap.size:=rfl;refine eU (S:=λW=>Vh 43 W w.heap.size 74 74 (ndF n (.slice a3 n.vA.length c3))) (.rd 0 (.rd 1 (.mv 2 (.go 3 (.go 4 (.go 5 (.go 6 .fin))))))) [6] Yl Yl ?_;refine Yr rfl hS0 (λ_ hS=>aV _ _ rfl bG Yf hS Yc) ?_;refine Yr rfl hS0 (λ_ hS=>aV _ _ rfl bG Yf hS Yc) ?_;refine Yj ?_;refine bR rfl rfl Yw (λK hK=>qH _ 121 _ _ _ _ _ rfl Yf Yf (aI _ _) (aI _ _) (oV _ _ _ _ _) (vL n _ mo mc L 5 24 _ (hmr.below kA0) hN Yc) ?_);rintro e w7 ⟨rfl,k7⟩;have n7:=k7.size;have mn7:=hS0.below k7;have mr7:=mr0.below k7;have mq7:=mq0.below k7;have ow7:=bM ow0 k7;have hS7:(λW=>Vh 43 W w.heap.size 74 74 (ndF n (.slice a3 n.vA.length c3))) w7:=mn7;refine⟨_,rfl,hK _ _ (λ_ _=>hS7) ?_⟩;refine bR rfl rfl Yw (λK hK=>aX _ 134 _ _ rfl Yf (MV _ _) (YR n mo L _ (hmr.below (kA0.trans (k7.mono Yo)))) ?_);rintro e w8 ⟨rfl,k8⟩;have n8:=k8.size;have mn8:=mn7.below k8;have mr8:=mr7.below k8;have mq8:=mq7.below k8;have ow8:=bM ow7 k8;have hS8:(λW=>Vh 43 W w.heap.size 74 74 (ndF n (.slice a3 n.vA.length c3))) w8:=mn8;obtain⟨to,tc,v,ev,hsr,htl,hmv⟩:=aGL (n:=n) (hmr.below ((kA0.trans (k7.mono Yo)).trans (k8.mono Yo)));refine⟨_,rfl,hK _ _ (λ_ _=>hS8) ?_⟩;refine bR rfl rfl Yw (λK hK=>dL _ 133 _ _ _ rfl Yf ((Ye rfl).trans ev) (MX _ _ _) (aAM n (.slice a3 n.vA.length c3) v to tc _ rfl hsr htl) ?_);rintro e w9 ⟨rfl,k9⟩;have n9:=k9.size;have mn9:=mn8.below k9;have mr9:=mr8.below k9;have mq9:=mq8.below k9;have ow9:=bM ow8 k9;have hS9:(λW=>Vh 43 W w.heap.size 74 74 (ndF n (.slice a3 n.vA.length c3))) w9:=mn9;refine⟨_,rfl,hK _ _ (λ_ _=>hS9) ?_⟩;refine dS rfl Yw (λK hK=>aW _ _ _ _ rfl bG (f:=ndF (movN n v) (.slice a3 n.vA.length c3)) Yf Yf mn9 Yc (dA _ _ _ _) rfl (λw10 mm10 k10 z10=>hK _ (λh=>absurd h Yc) ?_));have mn10:Vh 43 w10 w.heap.size 74 74 (ndF (cloT n L) (.slice a3 n.vA.length c3)):=by rw[<-hmv];exact Vh.congr mm10 (dX _ _)
    have mr10:=mr9.kept k10 Yo;have mq10:=mq9.kept k10 Yo;have ow10:=bN ow9 k10 YD;refine fI ?_;clear hS0 mr0 mq0 ow0;have eN:gF n (L.map Lm.m)=cloT n L:=aCY hno ⟨hvs,hvd⟩;have evA:(cloT n L).vA=n.vA:=aGZ n L;refine aH ?_;have kD:Below w.heap.size w w10.drew:=aY (aF (((kA0.trans (k7.mono Yo)).trans (k8.mono Yo)).trans (k9.mono Yo)) k10 Yo Yo);have hS0:(λW=>Vh 43 W w.heap.size 74 74 (ndF (cloT n L) (.slice a3 n.vA.length c3))) w10.drew:=mn10;have mn0:Vh _ w10.drew _ _ _ _:=mn10;have mr0:Vh _ w10.drew _ _ _ _:=mr10;have mq0:Vh _ w10.drew _ _ _ _:=mq10;have ow0:=(show World.ownsRow w10.drew _ _ _ _ _ _ from ow10);have ez:w10.drew.heap.size=w10.heap.size:=rfl;refine eU (S:=λW=>Vh 43 W w.heap.size 74 74 (ndF (cloT n L) (.slice a3 n.vA.length c3))) (.rd 0 (.rd 1 (.go 2 (.go 3 (.go 4 .fin))))) [] Yl Yl ?_;refine Yr rfl hS0 (λ_ hS=>aV _ _ rfl bG Yf hS Yc) ?_;refine Yr rfl hS0 (λ_ hS=>aV _ _ rfl bG Yf hS Yc) ?_;refine bR rfl rfl Yw (λK hK=>aX _ 135 _ _ rfl Yf (tO _ _) (zW (cloT n L) (.slice a3 n.vA.length c3) _) ?_);rintro e w11 ⟨rfl,k11⟩;have n11:=k11.size;have mn11:=hS0.below k11;have mr11:=mr0.below k11;have mq11:=mq0.below k11;have ow11:=bM ow0 k11;have hS11:(λW=>Vh 43 W w.heap.size 74 74 (ndF (cloT n L) (.slice a3 n.vA.length c3))) w11:=mn11;refine⟨_,rfl,hK _ _ (λ_ _=>hS11) ?_⟩;refine dS rfl Yw (λK hK=>?_);refine aW _ _ _ _ rfl bG Yf Yf mr11 Yc (dA _ _ _ _) rfl ?_;intro w12 mm12 k12 z12;have mr12:=Vh.congr mm12 (dX _ _);have mn12:=mn11.kept k12 Yo;have mq12:=mq11.kept k12 Yo;have ow12:=bN ow11 k12 YD;have hS12:(λW=>Vh 43 W w.heap.size 74 74 (ndF (cloT n L) (.slice a3 n.vA.length c3))) w12:=mn12;refine hK _ (λ_ _=>hS12) ?_;clear hK K;refine dS rfl Yw (λK hK=>?_);refine aW _ _ _ _ rfl nA Yf Yf mq12 Yc (mE _ _) rfl ?_;intro w13 mm13 k13 z13;have mq13:=Vh.congr mm13 (qF _ _);have mn13:=mn12.kept k13 Yo;have mr13:=mr12.kept k13 Yo;have ow13:=bN ow12 k13 YD;have hS13:(λW=>Vh 43 W w.heap.size 74 74 (ndF (cloT n L) (.slice a3 n.vA.length c3))) w13:=mn13;refine hK _ (λ_ _=>hS13) ?_;clear hK K;have e2:uX n (L.map Lm.m)=gF n (L.map Lm.m):=by unfold uX;rw[if_neg (by rw[hno];decide)]
    refine fI<|aN ?_;rw[e2,eN];refine aK YB (jK rfl Yf Yf bG nA mr13 (Xr _) mq13 (Xr _)) ⟨a3,c3,by rw[evA];rfl,?_,aF (aF (kD.trans (k11.mono Yo)) k12 Yo Yo) k13 Yo Yo⟩;unfold nU bA;rw[evA];exact dJ ow13 Yo
   .have hvd:n.vX=n.dg:=Classical.not_not.1 hvd;refine aS<|aH<|aD ?_;iterate 2 refine Yx ?_
    refine Yq (aR (v:=.bool true) _ _ rfl tX Yf mn6 Yc (by show Value.bool n.vS=_;rw[hvs])) ?_;iterate 6 refine Yx ?_
    refine Yq (dC (b:=false) _ _ rfl Yf Yf (Xf (λe=>e hvd)) _) ?_;refine Yq (aO _ _ _ rfl Yf Yf _) ?_;refine aC<|aQ Yf (aS ?_);have eN:gF n (L.map Lm.m)=n:=IV hno (by exact λh=>h.2 hvd);have evA:n.vA=n.vA:=rfl;refine aH ?_;have kD:Below w.heap.size w w6.drew:=aY (kA);have hS0:(λW=>Vh 43 W w.heap.size 74 74 (ndF n (.slice a3 n.vA.length c3))) w6.drew:=mn6;have mn0:Vh _ w6.drew _ _ _ _:=mn6;have mr0:Vh _ w6.drew _ _ _ _:=mr6;have mq0:Vh _ w6.drew _ _ _ _:=mq6;have ow0:=(show World.ownsRow w6.drew _ _ _ _ _ _ from ow6);have ez:w6.drew.heap.size=w6.heap.size:=rfl;refine eU (S:=λW=>Vh 43 W w.heap.size 74 74 (ndF n (.slice a3 n.vA.length c3))) (.rd 0 (.rd 1 (.go 2 (.go 3 (.go 4 .fin))))) [] Yl Yl ?_;refine Yr rfl hS0 (λ_ hS=>aV _ _ rfl bG Yf hS Yc) ?_;refine Yr rfl hS0 (λ_ hS=>aV _ _ rfl bG Yf hS Yc) ?_;refine bR rfl rfl Yw (λK hK=>aX _ 135 _ _ rfl Yf (tO _ _) (zW n (.slice a3 n.vA.length c3) _) ?_);rintro e w7 ⟨rfl,k7⟩;have n7:=k7.size;have mn7:=hS0.below k7;have mr7:=mr0.below k7;have mq7:=mq0.below k7;have ow7:=bM ow0 k7;have hS7:(λW=>Vh 43 W w.heap.size 74 74 (ndF n (.slice a3 n.vA.length c3))) w7:=mn7;refine⟨_,rfl,hK _ _ (λ_ _=>hS7) ?_⟩;refine dS rfl Yw (λK hK=>?_);refine aW _ _ _ _ rfl bG Yf Yf mr7 Yc (dA _ _ _ _) rfl ?_;intro w8 mm8 k8 z8;have mr8:=Vh.congr mm8 (dX _ _);have mn8:=mn7.kept k8 Yo;have mq8:=mq7.kept k8 Yo;have ow8:=bN ow7 k8 YD;have hS8:(λW=>Vh 43 W w.heap.size 74 74 (ndF n (.slice a3 n.vA.length c3))) w8:=mn8;refine hK _ (λ_ _=>hS8) ?_;clear hK K;refine dS rfl Yw (λK hK=>?_);refine aW _ _ _ _ rfl nA Yf Yf mq8 Yc (mE _ _) rfl ?_;intro w9 mm9 k9 z9;have mq9:=Vh.congr mm9 (qF _ _);have mn9:=mn8.kept k9 Yo;have mr9:=mr8.kept k9 Yo;have ow9:=bN ow8 k9 YD;have hS9:(λW=>Vh 43 W w.heap.size 74 74 (ndF n (.slice a3 n.vA.length c3))) w9:=mn9;refine hK _ (λ_ _=>hS9) ?_;clear hK K;have e2:uX n (L.map Lm.m)=gF n (L.map Lm.m):=by unfold uX;rw[if_neg (by rw[hno];decide)]
    refine fI<|aN ?_;rw[e2,eN];refine aK YB (jK rfl Yf Yf bG nA mr9 (Xr _) mq9 (Xr _)) ⟨a3,c3,by rw[evA];rfl,?_,aF (aF (kD.trans (k7.mono Yo)) k8 Yo Yo) k9 Yo Yo⟩;unfold nU bA;rw[evA];exact dJ ow9 Yo
theorem VG(n:Nd)(fr:Int)(rd:Nat->Int):(pO n fr rd).vA=n.vA:=by
 unfold pO;split<;>rfl
theorem aMn{m:Nd}(h:n.vA=m.vA):bA n=bA m:=by
 unfold bA;rw[h]
variable{ao:Option Addr}{c:Nat}
theorem aCI{B:Nat}{m:Nd}(h:nU B w n ao c)(e:m.vA=n.vA):nU B w m ao c:=by
 unfold nU at h ⊢;rw[e,aMn e];exact h
def qU(rd:Nat->Nat->Int)(j:Nat):Value:=iV (rd (j/3) (j%3))
theorem aIw(rd:Nat->Nat->Int)(hj:j<3):qU rd (0+i*3+j)=iV (rd i j):=by
 unfold qU;rw[show (0+i*3+j)/3=i by omega,show (0+i*3+j)%3=j by omega]
def Y7(fb rb:Nat)(fr:Int)(rd:Nat->Nat->Int):It:=(bE 3 fb 1 1 (λ_=>iV fr)).and (bE 38 rb 12 12 (qU rd))
theorem aCd(w0:World)(bad:Int)(fb rb:Nat)(fr:Int)(rd:Nat->Nat->Int)(hfr:R64 fr)(hrd:∀s a,R64 (rd s a))(Dn:Nat->Nd)(Bn:Nat->List Ms):PvC w0 bad 68 #[.pointer (some ⟨fb,0,none⟩),.pointer (some ⟨rb,0,none⟩)] (λi n _=>pO n fr (rd i)) (λi n _=>oN n fr (rd i)) (λ_ y=>y=Y7 fb rb fr rd) Dn Bn:=by
 intro i nd ao c mo mc L w y l hi _ _ _ hid hok hag _ _ _ _ hy H;subst hy;refine bB Tryz.func68 rfl 17 rfl Yd (λA hs hd hb=>?_);have b0:A.eval (.tmp 0)=aP (ndF nd (.slice ao nd.vA.length c)) 0 74:=hb 0 _ rfl;have b2:A.eval (.tmp 2)=.pointer (some ⟨fb,0,none⟩):=hb 2 _ rfl;have b3:A.eval (.tmp 3)=.pointer (some ⟨rb,0,none⟩):=hb 3 _ rfl;clear hb;refine aD (aG ?_);refine bJ rfl Yw (λK hK=>X9 _ _ _ rfl Qv Yd (λw1 m1 k1 z1=>hK _ _ ?_));replace H:=H.add k1 (bE _ _ _ _ _) m1 (λj e=>Nat.le_of_eq e.symm);refine bJ rfl Yw (λK hK=>gQ _ _ rfl ZerK.out Yd (λw2 m2 k2 z2=>hK _ _ ?_));replace H:=H.add k2 (bE _ _ _ _ _) m2 (λj e=>Nat.le_of_eq e.symm);refine bJ rfl Yw (λK hK=>gQ _ _ rfl ZerK.out Yd (λw3 m3 k3 z3=>hK _ _ ?_));replace H:=H.add k3 (bE _ _ _ _ _) m3 (λj e=>Nat.le_of_eq e.symm);refine aC<|aH ?_;have kA:Below w.heap.size w w3:=(k1.trans (k2.mono Yo)).trans (k3.mono Yo);replace H:=H.drew;have hcp:(Y7 fb rb fr rd).p w3.drew:=H.o3;have hS:Its [bE 43 w.heap.size 74 74 (ndF nd (.slice ao nd.vA.length c)),bE 3 fb 1 1 (λ_=>iV fr),bE 38 rb 12 12 (qU rd)] w3.drew:=Its.cons H.o2 (Its.cons hcp.1 (Its.cons hcp.2 (Its.nil _)));refine eU (S:=Its [bE 43 w.heap.size 74 74 (ndF nd (.slice ao nd.vA.length c)),bE 3 fb 1 1 (λ_=>iV fr),bE 38 rb 12 12 (qU rd)]) (.rd 0 (.rd 1 (.mv 2 (.rd 3 (.mv 4 (.rd 5 (.go 6 (.mv 7 (.mv 8 (.go 9 (.go 10 .fin))))))))))) [9,10] Yl Yl ?_;iterate 4 first|refine qj ?_|refine qr hS ?_
 refine bS rfl rfl (λ_ _ _ h=>h) Yw (λw=>bQ _ _ _ _ rfl ArrK.out SizK.out Qv Qv hid hi w) ?_;refine Yr rfl hS (λ_ H=>Eq.trans (aV _ _ rfl ManyK.out Qv H.v2 Yo) (by rw[lK (λj hj=>aIw rd hj)])) ?_;refine bR rfl rfl Yw (λK hK=>gT _ 69 _ _ _ _ rfl Qv Qv Qv (EntK.out _ _) (OQ nd ao c fr (rd i) _ hok (hag.below (aY kA)) hfr (hrd i)) ?_);rintro e w4 ⟨a',c',a2,c2,rfl,g1,g2,k4⟩;replace H:=PN (n:=pO nd fr (rd i)) (a1:=(a',c')) (a2:=(a2,c2)) H k4 (aCI g1 (VG _ _ _)) g2;refine⟨.tuple #[lS (pO nd fr (rd i)) (gN (a',c') nd.vA.length),lsV (oN nd fr (rd i)) (gN (a2,c2) (oN nd fr (rd i)).L.length)],rfl,hK _ _ (λ_ _=>Its.cons H.o4 (Its.cons (show Vh _ _ _ _ _ _ from H.o5.1) (Its.cons (show Vh _ _ _ _ _ _ from H.o5.2) (Its.nil _)))) ?_⟩;repeat refine qj ?_
 refine dS rfl Yw (λK hK=>aW _ _ _ _ rfl ManyK.out Qv Qv H.v3 Yo (dA _ _ _ _) rfl (λw6 m6 k6 z6=>hK _ (λh=>absurd h Yc) ?_));replace H:=H.a3.s k6 (m6.congr bX);refine dS rfl Yw (λK hK=>aW _ _ _ _ rfl ManyK.out Qv Qv H.v2 Yo (gU _ _ _ _ _ _) rfl (λw7 m7 k7 z7=>hK _ (λh=>absurd h Yc) ?_));replace H:=H.a2.s k7 (m7.congr bX);refine fI<|aN (aK YB (jK rfl Qv Qv ManyK.out ManyK.out H.v3 (Xr _) H.v2 (Xr _)) ⟨(a',c'),(a2,c2),_,rfl,?_,H.f2.tl.f2.tl.f2.tl⟩);rw[VG];rfl
theorem NL(bad:Int)(i:Nat):P6 bad (i+1)=P6 bad i++(if (i:Int)=bad then [] else [i]):=by
 unfold P6;rw[List.range_succ,List.filter_append]
 congr 1
 by_cases h:(i:Int)=bad
 .rw[if_pos h];simp[h]
 .rw[if_neg h];simp[h]
def PY(B rv:Nat)(v:Value)(L:List Nd):It:=(bE 48 rv 1 1 (λ_=>v)).and (fF B 57 14 v L.length (kG gH 14 L))
def lX(bad:Int)(Dn:Nat->Nd)(Bn:Nat->List Ms)(k:Nat):List Nd:=(P6 bad k).map λi=>gF (Dn i) (Bn i)
theorem aGV(bad:Int)(Dn:Nat->Nd)(Bn:Nat->List Ms)(k:Nat):(lX bad Dn Bn k).length<=k:=by grind [lX,P6]
theorem aCX(h:(i:Int)≠bad):lX bad Dn Bn (i+1)=lX bad Dn Bn i++[gF (Dn i) (Bn i)]:=by
 unfold lX;rw[NL,if_neg h,List.map_append];rfl
theorem aGU(h:(i:Int)=bad):lX bad Dn Bn (i+1)=lX bad Dn Bn i:=by
 unfold lX;rw[NL,if_pos h,List.append_nil]
theorem ZI(w0:World)(bad:Int)(rv:Nat)(Dn:Nat->Nd)(Bn:Nat->List Ms):PvC w0 bad 75 #[.pointer (some ⟨rv,0,none⟩)] (λ_ n l=>gF n l) (λ_ _ _=>jG) (λi y=>∃v,y=PY w0.heap.size rv v (lX bad Dn Bn i)) Dn Bn:=by
 intro i nd ao c mo mc L w y l hi hbad hDn hBn hid hok hag hmr hl hlc hms ⟨v,hy⟩ H;subst hy;refine bB Tryz.func75 rfl 21 rfl Yd (λA hs hd hb=>?_);have b0:A.eval (.tmp 0)=aP (ndF nd (.slice ao nd.vA.length c)) 0 74:=hb 0 _ rfl;have b1:A.eval (.tmp 1)=.slice mo L.length mc:=hb 1 _ rfl;have b2:A.eval (.tmp 2)=.pointer (some ⟨rv,0,none⟩):=hb 2 _ rfl;clear hb;refine aD (aG ?_);refine bJ rfl Yw (λK hK=>X9 _ _ _ rfl Qv Yd (λw1 m1 k1 z1=>hK _ _ ?_));replace H:=H.add k1 (bE _ _ _ _ _) m1 (λj e=>Nat.le_of_eq e.symm);refine bJ rfl Yw (λK hK=>gQ _ _ rfl ZerK.out Yd (λw2 m2 k2 z2=>hK _ _ ?_));replace H:=H.add k2 (bE _ _ _ _ _) m2 (λj e=>Nat.le_of_eq e.symm);refine bJ rfl Yw (λK hK=>gQ _ _ rfl ZerK.out Yd (λw3 m3 k3 z3=>hK _ _ ?_));replace H:=H.add k3 (bE _ _ _ _ _) m3 (λj e=>Nat.le_of_eq e.symm);have kA:Below w.heap.size w w3:=(k1.trans (k2.mono Yo)).trans (k3.mono Yo);refine aC<|aD ?_;iterate 2 refine qa ?_
 refine gX (OM nd ao c mo mc L w3 hok (hag.below kA) (hmr.below kA) Yo hlc (λm hm=>(hms m hm).L)) ?_;rintro e w4 ⟨a',c',rfl,g1,k4⟩;have hsz:=H.size;replace H:=H.add k4 (I9 w0.heap.size (gF nd (L.map Lm.m),(a',c'))) (dJ g1 hsz) (λj e=>(g1.lt j e).1);have ecr:uX nd (L.map Lm.m)=gF nd (L.map Lm.m):=by
  unfold uX;rw[if_neg (by rw[hid,mD hi];decide)]
 rw[ecr];refine⟨_,rfl,?_⟩;iterate 3 refine qa ?_
 refine kR H ?_;intro w5 H z5;refine kR H ?_;intro w6 H z6;refine jB H.a1 bX (dA _ _ _ _) ?_;intro w7 H z7;refine jB H.a0 bX (mE _ _) ?_;intro w8 H z8;refine aC<|aD ?_;have hrv:(PY w0.heap.size rv v (lX bad Dn Bn i)).p w8:=H.o6;have hsz8:=H.size;refine qg (aR _ _ rfl OneK.out Qv hrv.1 Yo rfl) ?_;refine qa ?_;refine bJ rfl Yw (λK hK=>VO SlcK.out ManyK.out ZerK.out Yc Yc rfl Qv (λw9 m9 k9 z9=>hK _ _ ?_));replace H:=H.call k9;have hrv:(PY w0.heap.size rv v (lX bad Dn Bn i)).p w9:=H.o6;have hln:=aGV bad Dn Bn i;refine bJ rfl Yw (λK hK=>?_);refine F5 rfl inferInstance H.size Qv Qv hrv.2 (X3 (QA (B:=w0.heap.size) (F:=gH) (x:=gF nd (L.map Lm.m)) m9 Yo)) (IA (λx _=>mE x 3)) Ym Yo ?_;intro v' w10 o10 g10 f10;have hvar:Vh 48 w9 rv 1 1 (λ_=>v):=hrv.1;have napart:∀k,v.ownBlock=some k->k≠rv:=λk hk e=>by
  obtain⟨u1,hu1⟩:=rT hrv.2 hk;obtain⟨u2,hu2,_⟩:=hvar;rw[e,hu2] at hu1
  cases hu1
 have hvar10:Vh 48 w10 rv 1 1 (λ_=>v):=hvar.same (g10.block rv hvar.lt (λe=>napart rv e.symm rfl));replace H:=H.a6.put (y:=((bE 48 rv 1 1 (λ_=>v)).and (fF w0.heap.size 57 14 v' ((lX bad Dn Bn i).length+1) (kG gH 14 (lX bad Dn Bn i)++kG gH 14 [gF nd (L.map Lm.m)])))) ⟨g10.os,g10.tape,g10.output,g10.size,λj h5 h6=>g10.block j h5 (λe=>h6 (Or.inr e.symm)),⟨hvar10,o10⟩,λj hj=>by
  rcases hj with hj|hj
  .exact Or.inl (Or.inl hj)
  .rcases f10 j hj with h|h
   .exact Or.inl (Or.inr h)
   .exact Or.inr h⟩
 refine hK _ _ ?_;clear hK K;have napart2:∀k,v'.ownBlock=some k->k≠rv:=λk hk e=>by
  obtain⟨u1,hu1⟩:=rT o10 hk;obtain⟨u2,hu2,_⟩:=hvar10;rw[e,hu2] at hu1
  cases hu1
 obtain⟨va,vc,rfl,hvc⟩:=dY o10;refine kV Yw (λK hK=>?_);refine kL _ _ _ _ rfl OneK.out Qv Qv hvar10 Yo rfl rfl rfl ?_;intro w11 m11 k11 z11;replace H:=H.a6.put (y:=(PY w0.heap.size rv (.slice va ((lX bad Dn Bn i).length+1) vc) (lX bad Dn Bn (i+1)))) ⟨k11.os,k11.tape,k11.output,k11.size,λj h5 h6=>k11.block j h5 (λe=>h6 (Or.inl e)),⟨m11.congr (λj hj=>by
  obtain rfl:j=0:=Yo;exact kS _ _ _),by
   have e1:lX bad Dn Bn (i+1)=lX bad Dn Bn i++[gF nd (L.map Lm.m)]:=by rw[aCX hbad,hDn,hBn]
   show World.ownsRow _ _ _ _ _ (lX bad Dn Bn (i+1)).length (kG gH 14 (lX bad Dn Bn (i+1)))
   rw[e1,List.length_append,GY];exact bN o10 k11 (λe=>napart2 rv e rfl)⟩,λj hj=>Or.inl hj⟩
 refine hK _ ?_;clear hK K;refine aC<|aD<|qa ?_;refine qg (rU rfl _) ?_;refine jB H.a4 bX (dA _ _ _ _) ?_;intro w12 H z12;refine jB H.a3 bX (gU _ _ _ _ _ _) ?_;intro w13 H z13;refine aC<|aN (aK YB (jK rfl Qv Qv ManyK.out ManyK.out H.v4 (Xr _) H.v3 (Xr _)) ⟨(a',c'),(none,0),PY w0.heap.size rv (.slice va ((lX bad Dn Bn i).length+1) vc) (lX bad Dn Bn (i+1)),⟨_,rfl⟩,rfl,?_⟩);exact (H.tl.tl.f1.tl.f1.tl.f1.tl.add (Below.refl _ _) (tlJ w0.heap.size (jG,(none,0))) (World.ownsRow_nil _ _ _ _) (λj e=>nomatch e)).f1
variable{P:Program}{u:Value}
theorem aFe(fn:Fn)(x:Operand)(ho:o.op=.makeFunc fn #[] #[x])(hx:f x=u)(w:World):(execOp f o).run P w=.ok (.value (.func fn #[] #[u])) w:=VD fn _ ho (by simp[hx]) w
variable{v:Value}
theorem aFf(fn:Fn)(x y:Operand)(ho:o.op=.makeFunc fn #[] #[x,y])(hx:f x=u)(hy:f y=v)(w:World):(execOp f o).run P w=.ok (.value (.func fn #[] #[u,v])) w:=VD fn _ ho (by simp[hx,hy]) w
theorem WC(b:Nat)(fr:Int)(D:Nat->Nd×Ad)(bad:Int)(lv:Value)(X:Nat->List Lm×Ad)(w0 w:World)(l:List It)(hid:∀i,i<4->(D i).1.id=(i:Nat))(hok:∀i,i<4->NdOK (D i).1)(hX:∀i,i<4->(X i).1.length<=1600/\∀c,c∈(X i).1->MsOK c.m)(H:Cx w0 w (lN w0.heap.size D::bE 104 b 303 303 (iQ fr D bad lv X)::yG w0.heap.size X::l)):Calls Tryz.prog 36 #[.pointer (some ⟨b,0,none⟩)] w λe w'=>∃(D':Nat->Nd×Ad) (v:Value),e=.returned v/\(∀i,i<4->(D' i).1=JC bad (λ_ n l=>gF n l) D X i)/\Cx w0 w' (fF w0.heap.size 57 14 v (lX bad (λi=>(D i).1) (λi=>(X i).1.map Lm.m) 4).length (kG gH 14 (lX bad (λi=>(D i).1) (λi=>(X i).1.map Lm.m) 4))::lN w0.heap.size D'::bE 104 b 303 303 (iQ fr D' bad lv X)::yG w0.heap.size X::l):=by
 refine bB Tryz.func36 rfl 8 rfl Yd (λA hs hd hb=>?_);have b0:A.eval (.tmp 0)=.pointer (some ⟨b,0,none⟩):=hb 0 _ rfl;clear hb;refine aD (aG ?_);repeat first|refine qa ?_|refine aC ?_|refine aD ?_
 refine aMO H ?_;intro w1 H z1;repeat first|refine qa ?_|refine aC ?_|refine aD ?_
 refine qg (aFe _ _ rfl Qv _) ?_;replace H:=(H.add (Below.refl _ _) (fF w0.heap.size 57 14 (.slice none 0 0) 0 []) (World.ownsRow_nil _ _ _ _) (λj e=>nomatch e)).f1.merge;refine gX (MS b fr D bad lv X 75 #[.pointer (some ⟨w.heap.size,0,none⟩)] (λ_ n l=>gF n l) (λ_ _ _=>jG) (λi y=>∃v,y=PY w0.heap.size w.heap.size v (lX bad (λi=>(D i).1) (λi=>(X i).1.map Lm.m) i)) w0 w1 _ l (ZI w0 bad w.heap.size _ _) ⟨.slice none 0 0,rfl⟩ (λi hi y hy=>by obtain⟨v,rfl⟩:=hy;exact⟨v,by rw[aGU hi]⟩) hid hok hX H.f1) ?_;rintro e w2 ⟨D',T,y',⟨v,rfl⟩,rfl,hD,_,H⟩;refine⟨_,rfl,?_⟩;refine aC<|aD ?_;have hrv:(PY w0.heap.size w.heap.size v (lX bad (λi=>(D i).1) (λi=>(X i).1.map Lm.m) 4)).p w2:=H.o2;refine qg (aR _ _ rfl OneK.out Qv hrv.1 Yo rfl) ?_;repeat first|refine qa ?_|refine aC ?_
 exact aN (aK YB (bL rfl Qv) ⟨D',v,rfl,hD,H.tl.f1.wk (λh=>h.2) (λk hk=>Or.inr hk)⟩)
def iD(g:Nat->Value)(N:Nat):Array Value:=((List.range N).map g).toArray
theorem sM(g:Nat->Value)(n:Nat):(aP g 0 n).cells=iD g n:=by
 unfold aP iD;show ((List.range n).map λj=>g (0+j)).toArray=_
 congr 1
 exact List.map_congr_left λj _=>by rw[Nat.zero_add]
theorem Y6(g:Nat->Value)(N:Nat):(iD g N).size=N:=by simp[iD]
theorem IU(g:Nat->Value)(N i:Nat):(iD g N)[i]?=if i<N then some (g i) else none:=by
 unfold iD;by_cases h:i<N
 .rw[if_pos h];simp[h]
 .rw[if_neg h];simp[h]
variable{g:Nat->Value}{n:Nat}{place:Nat->Option (Nat×Nat)}
theorem CX{off N:Nat}{f:Nat->Value}(hp:place i=some (off,n))(hv:v.cells=iD f n)(hN:off+n<=N)(rest:List (Nat×Value)):Instr.fill place (iD g N) ((i,v)::rest)=Instr.fill place (iD (stP g off n f) N) rest:=by
 rw[Instr.fill];simp only[hp,hv,Y6];rw[if_neg (by simp;omega)]
 congr 1
 obtain⟨h1,h2⟩:=AU off ((List.range n).map f) 0 (iD g N) (by rw[Y6,List.length_map,List.length_range];omega);have e1:Array.foldl (λcs x=>cs.setIfInBounds (off+x.2) x.1) (iD g N) (iD f n).zipIdx=(((List.range n).map f).zipIdx 0).foldl (λa p=>a.setIfInBounds (off+p.2) p.1) (iD g N):=by
  rw[<-Array.foldl_toList];unfold iD;simp
 rw[e1];refine Array.ext_getElem? (λj=>?_);rw[h2 j,IU,IU,List.length_map,List.length_range];unfold stP;by_cases c:off+0<=j/\j<off+0+n
 .rw[if_pos c,if_pos (show j<N by omega),if_pos Yo,List.getElem?_map,List.getElem?_range Yo,Nat.add_zero];rfl
 .rw[if_neg c];by_cases d:j<N
  .rw[if_pos d,if_pos d,if_neg Yo]
  .rw[if_neg d,if_neg d]
variable{fields:Array Field}{parts:Array (Nat×Operand)}{places:Array (Nat×Nat)}
theorem PQ{t:TypeId}{N:Nat}{z:Nat->Value}(hu:P.underlying t=some (.struct fields))(hz:∀w,(zeroValue t).run P w=.ok (aP z 0 N) w)(hpl:∀w,(fields.mapM λ(f:Field)=>do pure (f.offset, <-sizeOf f.type):Sem (Array (Nat×Nat))).run P w=.ok places w)(ho:o.op=.build t parts)(hf:Instr.fill (places[·]?) (iD z N) (parts.map λp=>(p.1,f p.2)).toList=some (iD g N))(w:World):(execOp f o).run P w=.ok (.value (aP g 0 N)) w:=by
 unfold execOp;simp only[ho,Instr.build,Sem.run_bind,hz,Result.andThen_ok,run_underlying hu,hpl,sM];rw[show (Array.map (λx=>match x with|(i,x)=>(i,f x)) parts).toList=(parts.map λp=>(p.1,f p.2)).toList from rfl,hf];show Result.ok (Next.value (Value.agg (iD g N))) w=_
 congr 3
 have:=sM g N;unfold aP iD at*;exact this.symm
variable{D:Nat->Nd×Ad}
theorem aHB(hi:i<4)(h:(D i).1.id≠(i:Nat)):¬((D 0).1.id=0/\(D 1).1.id=1/\(D 2).1.id=2/\(D 3).1.id=3):=by grind
theorem RB(x:Ip)(fr:Int)(D:Nat->Nd×Ad)(lo:Option Addr)(lc:Nat)(w:World):Calls Tryz.prog 31 #[aP (jU fr D) 0 297,aP (lY x.rd x.bad (.slice lo x.ly.length lc)) 0 14] w λe w'=>e=.returned (.int .i64 (bU x ⟨fr,λi=>(D i).1⟩))/\Below w.heap.size w w':=by
 refine bB Tryz.func31 rfl 40 rfl Yd (λA hs hd hb=>?_);have b0:A.eval (.tmp 0)=aP (jU fr D) 0 297:=hb 0 _ rfl;have b1:A.eval (.tmp 1)=aP (lY x.rd x.bad (.slice lo x.ly.length lc)) 0 14:=hb 1 _ rfl;clear hb;have H:=Cx.start w;refine aD (aG ?_);refine lJ H ?_;intro w1 H z1;refine lJ H ?_;intro w2 H z2;refine qa ?_;refine aC<|aH<|aD ?_;iterate 2 refine qa ?_
 by_cases c1:x.bad< -1
 .refine qg (iC (b:=true) _ _ rfl Qv Qv (Xt c1) _) ?_;refine qa ?_;iterate 3 refine gM ?_
  refine qg (aO _ _ _ rfl Qv Qv _) ?_;refine qa ?_;iterate 3 refine gM ?_
  refine qg (aO _ _ _ rfl Qv Qv _) ?_;refine qa ?_;iterate 3 refine gM ?_
  refine qg (aO _ _ _ rfl Qv Qv _) ?_;refine aC<|X0 rfl ?_;repeat first|refine qa ?_|refine aC ?_|refine aD ?_
  exact aN (fC (aK YB (bL rfl Qv) ⟨by unfold bU;rw[if_pos (Or.inl c1)],H.bel⟩))
 refine qg (iC (b:=false) _ _ rfl Qv Qv (Xf c1) _) ?_;iterate 3 refine qa ?_
 by_cases c2:4<=x.bad
 .refine qg (fU (b:=true) _ _ rfl Qv Qv (Xt c2) _) ?_;refine qg (aZ _ _ _ rfl Qv Qv _) ?_;refine qa ?_;iterate 3 refine gM ?_
  refine qg (aO _ _ _ rfl Qv Qv _) ?_;refine qa ?_;iterate 3 refine gM ?_
  refine qg (aO _ _ _ rfl Qv Qv _) ?_;refine aC<|X0 rfl ?_;repeat first|refine qa ?_|refine aC ?_|refine aD ?_
  exact aN (fC (aK YB (bL rfl Qv) ⟨by unfold bU;rw[if_pos (Or.inr (Or.inl c2))],H.bel⟩))
 refine qg (fU (b:=false) _ _ rfl Qv Qv (Xf c2) _) ?_;refine qg (aZ _ _ _ rfl Qv Qv _) ?_;iterate 3 refine qa ?_
 by_cases c3:fr<0
 .refine qg (iC (b:=true) _ _ rfl Qv Qv (Xt c3) _) ?_;refine qg (aZ _ _ _ rfl Qv Qv _) ?_;refine qa ?_;iterate 3 refine gM ?_
  refine qg (aO _ _ _ rfl Qv Qv _) ?_;refine aC<|X0 rfl ?_;repeat first|refine qa ?_|refine aC ?_|refine aD ?_
  exact aN (fC (aK YB (bL rfl Qv) ⟨by unfold bU;rw[if_pos (Or.inr (Or.inr (Or.inl c3)))],H.bel⟩))
 refine qg (iC (b:=false) _ _ rfl Qv Qv (Xf c3) _) ?_;refine qg (aZ _ _ _ rfl Qv Qv _) ?_;iterate 3 refine qa ?_
 by_cases c4:1073741823<fr
 .refine qg (fV (b:=true) _ _ rfl Qv Qv (Xt c4) _) ?_;refine qg (aZ _ _ _ rfl Qv Qv _) ?_;refine aC<|X0 rfl ?_;repeat first|refine qa ?_|refine aC ?_|refine aD ?_
  exact aN (fC (aK YB (bL rfl Qv) ⟨by unfold bU;rw[if_pos (Or.inr (Or.inr (Or.inr c4)))],H.bel⟩))
 refine qg (fV (b:=false) _ _ rfl Qv Qv (Xf c4) _) ?_;refine qg (aZ _ _ _ rfl Qv Qv _) ?_;refine aC<|aLA rfl (aS ?_);have eR:¬(x.bad< -1\/4<=x.bad\/fr<0\/1073741823<fr):=Yo;refine aH<|aD ?_;repeat first|refine qa ?_|refine aC ?_
 refine iB (λh=>?_) (λh=>?_)
 .have c5:400<x.ly.length:=by have:=Xu h;omega
  repeat first|refine qa ?_|refine aC ?_|refine aD ?_
  exact aN (fC (aK YB (bL rfl Qv) ⟨by unfold bU;rw[if_neg eR,if_pos c5],H.bel⟩))
 have c5:¬400<x.ly.length:=by have:=Xg h;omega
 refine aS<|aH<|aD<|qa ?_;refine qg (Eq.trans (aV _ _ rfl ManyK.out Qv H.v1 Yo) (by rw[lK (λj hj=>TU fr D hj)])) ?_;repeat first|refine qa ?_|refine aC ?_
 refine aM ?_;refine cO (λr A W=>∃i:Nat,i<=4/\4-i<=r/\A.tmps.size=40/\A.defers=[]/\A.eval (.tmp 30)=aP (zN D) 0 296/\A.eval (.tmp 31)=.int .i64 (i:Int)/\(∀j,j<i->(D j).1.id=(j:Nat))/\Cx w W []) 4
  ⟨0,Xz _,Yo,YA,YB,Qv,Qv,λj h=>absurd h (Nat.not_lt_zero j),H.tl.tl⟩ (λr B W hI=>?_)
 clear b0 b1 hs hd H;obtain⟨i,hi,hr,hs,hd,b30,b31,hD,H⟩:=hI;refine aD (aG ?_);repeat first|refine qa ?_|refine aC ?_|refine aD ?_|refine aH ?_
 refine iB (λh=>?_) (λh=>?_)
 .have hin:i<4:=by have:=Xu h;omega
  refine aS<|aH (aM ?_);refine aD<|qa ?_;refine qg (Eq.trans (jQ _ _ _ _ rfl ArrK.out ManyK.out Qv rfl Qv rfl hin _) (by rw[lK (λj hj=>GQ D hj)])) ?_;refine kR H ?_;intro w3 H z3;refine qa ?_;refine jB H.a0 bX (dA _ _ _ _) ?_;intro w4 H z4;repeat first|refine qa ?_|refine aC ?_|refine aD ?_
  refine iB (λh1=>?_) (λh1=>?_)
  .have e1:(D i).1.id≠(i:Nat):=Xu h1;repeat first|refine qa ?_|refine aC ?_|refine aD ?_
   exact aN (yA (fC (aLC (yA (fC (aK YB (bL rfl Qv) ⟨by unfold bU;rw[if_neg eR,if_neg c5,if_neg (aHB hin e1)],H.bel⟩))))))
  .have e1:(D i).1.id=(i:Nat):=by have:=Xg h1;simpa using this
   refine iU<|aJ ?_;repeat refine qa ?_
   exact bD ⟨4-(i+1),Yo,i+1,Yo,Yo,YA,YB,Qv,Eq.trans Qv YC,λj hj=>(by
    by_cases e:j=i
    .rw[e];exact e1
    .exact hD j Yo),H.tl⟩
 .obtain rfl:i=4:=by have:=Xg h;omega
  refine bY (eY ?_);refine aD ?_;repeat first|refine qa ?_|refine aC ?_
  exact aN (aK YB (bL rfl Qv) ⟨by unfold bU;rw[if_neg eR,if_neg c5,if_pos ⟨hD 0 Yo,hD 1 Yo,hD 2 Yo,hD 3 Yo⟩],H.bel⟩)
variable{lo:Option Addr}
theorem aEJ{p q r:Operand}(ho:o.op=.build 104 #[(0,p),(1,q),(2,r)]){lc:Nat}(hp:f p=aP (jU fr D) 0 297)(hq:f q=.int .i64 bad)(hr:f r=.slice lo n lc)(w:World):(execOp f o).run Tryz.prog w=.ok (.value (aP (iQ fr D bad (.slice lo n lc) (λ_=>([],(none,0)))) 0 303)) w:=by
 refine PQ (z:=iQ 0 (λ_=>(dW,(none,0))) 0 (.slice none 0 0) (λ_=>([],(none,0)))) (places:=#[(0,297),(297,1),(298,1),(299,4)]) Tryz.underlying104 (λw=>Yl) (λw=>Yl) ho ?_ w;rw[show (Array.map (λp:Nat×Operand=>(p.1,f p.2)) #[(0,p),(1,q),(2,r)]).toList=[(0,f p),(1,f q),(2,f r)] by simp];rw[hp,hq,hr,CX (off:=0) (n:=297) rfl (sM _ _) Yc,CX (off:=297) (n:=1) (f:=λ_=>.int .i64 bad) rfl rfl Yc,CX (off:=298) (n:=1) (f:=λ_=>.slice lo n lc) rfl rfl Yc];refine congrArg some ?_;unfold iD;refine congrArg List.toArray (List.map_congr_left λj hj=>?_);have hj:=List.mem_range.1 hj;by_cases c1:j<297
 .rw[mG _ _ Yo,mG _ _ Yo];have:=mF (iQ 0 (λ_=>(dW,(none,0))) 0 (.slice none 0 0) (λ_=>([],(none,0)))) (o:=0) (jU fr D) c1;rw[Nat.zero_add] at this;rw[this];exact (yX c1).symm
 .by_cases c2:j=297
  .subst c2;rw[mG _ _ Yo];rfl
  .by_cases c3:j=298
   .subst c3;rfl
   .rw[mG _ _ Yo,mG _ _ Yo,mG _ _ Yo];unfold iQ wN;rw[if_neg c1,if_neg c1,if_neg c2,if_neg c2,if_neg c3,if_neg c3]
theorem aFS(fr:Int)(D:Nat->Nd×Ad)(bad:Int)(lv:Value)(X:Nat->List Lm×Ad)(hi:i<4)(a:Ad):∀j,j<303->eQ (iQ fr D bad lv X) (1+i*74+73) (gN a (D i).1.vA.length) j=iQ fr (dH D i ((D i).1,a)) bad lv X j:=by
 intro j hj;rw[<-aCv fr D bad lv X hi ((D i).1,a) j hj];unfold stP;by_cases c:1+i*74<=j/\j<1+i*74+74
 .rw[if_pos c];have e:=OG (D i).1 (gN (D i).2 (D i).1.vA.length) (gN a (D i).1.vA.length) (j-(1+i*74)) Yo;rw[<-e];unfold eQ;have hb:iQ fr D bad lv X j=ndF (D i).1 (gN (D i).2 (D i).1.vA.length) (j-(1+i*74)):=by
   unfold iQ;rw[yX Yo];have:=aKh fr (λi=>(D i).1) (λi=>gN (D i).2 (D i).1.vA.length) (i:=i) (j:=j-(1+i*74)) Yo;rw[show 1+i*74+(j-(1+i*74))=j by omega] at this;exact this
  by_cases d:j=1+i*74+73
  .rw[if_pos d,if_pos Yo]
  .rw[if_neg d,if_neg Yo,hb]
 .rw[if_neg c,gP _ _ Yo]
theorem aLM(h:Sr w ao n c g):TM w 1 (.slice ao n c) n (rowV g n):=by
 rcases h with ⟨rfl,rfl,rfl⟩|⟨y,rfl,hc⟩
 .exact Or.inl ⟨rfl,rfl,rfl⟩
 .refine Or.inr ⟨y,c,rfl,vY g n,λj u hj=>?_⟩;rcases Nat.lt_or_ge j n with h|h
  .rw[iE g h] at hj;cases hj;exact hc j h
  .rw[iP g h] at hj;cases hj
theorem VW(x:Ip)(fr:Int)(D:Nat->Nd×Ad)(lo:Option Addr)(lc:Nat)(w0 w:World)(l:List It)(hag:∀i,i<4->xU w0 (D i).1 (D i).2.1 (D i).2.2)(hok:∀i,i<4->NdOK (D i).1)(H:Cx w0 w l):Calls Tryz.prog 32 #[aP (jU fr D) 0 297,aP (lY x.rd x.bad (.slice lo x.ly.length lc)) 0 14] w λe w'=>∃(b:Nat) (D':Nat->Nd×Ad),e=.returned (.pointer (some ⟨b,0,none⟩))/\(∀i,i<4->(D' i).1=(D i).1)/\Cx w0 w' (lN w0.heap.size D'::bE 104 b 303 303 (iQ fr D' x.bad (.slice lo x.ly.length lc) (λ_=>([],(none,0))))::l):=by
 refine bB Tryz.func32 rfl 35 rfl Yd (λA hs hd hb=>?_);have b0:A.eval (.tmp 0)=aP (jU fr D) 0 297:=hb 0 _ rfl;have b1:A.eval (.tmp 1)=aP (lY x.rd x.bad (.slice lo x.ly.length lc)) 0 14:=hb 1 _ rfl;clear hb;refine aD (aG ?_);refine lJ H ?_;intro w1 H z1;refine lJ H ?_;intro w2 H z2;repeat first|refine qa ?_|refine aC ?_|refine aD ?_
 refine qg (aEJ (fr:=fr) (D:=D) rfl Qv Qv Qv _) ?_;refine lJ H ?_;intro w3 H z3;refine qa ?_;refine aC<|aH<|aD<|qa ?_;refine qg (Eq.trans (aV _ _ rfl ManyK.out Qv H.v2 Yo) (by rw[lK (λj hj=>TU fr D hj)])) ?_;repeat first|refine qa ?_|refine aC ?_
 refine aM ?_;refine cO (λr A W => ∃ (i : Nat) (D' E : Nat -> Nd × Ad), i <= 4 /\ 4 - i <= r /\ A.tmps.size = 35 /\ A.defers = [] /\ A.eval (.tmp 5) = .pointer (some ⟨w2.heap.size, 0, none⟩) /\ A.eval (.tmp 16) = aP (zN D) 0 296 /\ A.eval (.tmp 17) = .int .i64 (i : Int) /\ (∀ j, j < 4 -> (D' j).1 = (D j).1) /\ (∀ j, j < i -> E j = D' j) /\
   Cx w0 W (lN w0.heap.size E::bE 104 w2.heap.size 303 303 (iQ fr D' x.bad (.slice lo x.ly.length lc) (λ_=>([],(none,0))))::l)) 4
  ⟨0,D,λ_=>(dW,(none,0)),Xz _,Yo,YA,YB,Qv,Qv,Qv,λ_ _=>rfl,λj h=>absurd h (Nat.not_lt_zero j),H.f1.tl.f1.tl.add (Below.refl _ _) (lN w0.heap.size (λ_=>(dW,(none,0)))) (λ_ _=>World.ownsRow_nil _ _ _ _) (λj ⟨_,_,e⟩=>absurd e (λe=>nomatch e))⟩ (λr B W hI=>?_)
 clear b0 b1 hs hd H;obtain⟨i,D',E,hi,hr,hs,hd,b5,b16,b17,hD,hE,H⟩:=hI;refine aD (aG ?_);repeat first|refine qa ?_|refine aC ?_|refine aD ?_|refine aH ?_
 refine iB (λh=>?_) (λh=>?_)
 .have hin:i<4:=by have:=Xu h;omega
  refine aS<|aH (aM ?_);refine aD<|qa ?_;refine qg (Eq.trans (jQ _ _ _ _ rfl ArrK.out ManyK.out Qv rfl Qv rfl hin _) (by rw[lK (λj hj=>GQ D hj)])) ?_;refine kR H ?_;intro w3 H z3;refine qa ?_;refine jB H.a0 bX (dA _ _ _ _) ?_;intro w4 H z4;refine aC ?_;replace H:=H.drew;have hS:Its [bE 43 W.heap.size 74 74 (ndF (D i).1 (gN (D i).2 (D i).1.vA.length))] w4.drew:=Its.cons H.o0 (Its.nil _);refine eU (S:=Its [bE 43 W.heap.size 74 74 (ndF (D i).1 (gN (D i).2 (D i).1.vA.length))]) (.mv 0 (.mv 1 (.mv 2 (.mv 3 (.rd 4 (.mv 6 (.mv 7 (.mv 8 (.go 5 (.mv 9 (.mv 10 (.mv 11 (.go 12 .fin))))))))))))) [12] Yl Yl ?_;repeat first|refine qj ?_|refine qr hS ?_
  refine bR rfl rfl Yw (λK hK=>?_);have hvA:=(hok i hin).vA;refine F5 rfl inferInstance H.size Qv Qv (World.ownsRow_nil _ _ _ _) (aLM ((hag i hin).below H.bel)) (mV _ _ (λ_ _=>rfl)) Ym Yo ?_;intro v' w5 o5 g5 f5;rw[Nat.zero_add,List.nil_append] at o5;obtain⟨a5,c5,rfl,hc5⟩:=dY o5;have k5:Below w4.drew.heap.size w4.drew w5:=⟨g5.os,g5.tape,g5.output,g5.size,λk hk=>g5.block k hk (λe=>nomatch e)⟩;replace H:=H.add k5 (I9 w0.heap.size ((D i).1,(a5,c5))) o5 (λj e=>(f5 j e).resolve_left (λe=>nomatch e));refine hK _ _ (λ_ _=>Its.cons H.o1 (Its.nil _)) ?_;clear hK K;repeat refine qj ?_
  refine dS rfl Yw (λK hK=>kL _ _ _ _ rfl OneK.out Qv Qv H.v3 Yo rfl rfl rfl (λw6 m6 k6 z6=>hK _ (λh=>absurd h Yc) ?_));replace H:=H.a3.s k6 (m6.congr (λj hj=>Eq.trans (by rw[show 0+0+1+i*74+71+2=1+i*74+73 by omega,hD i hin];rfl) (aFS fr D' x.bad (.slice lo x.ly.length lc) (λ_=>([],(none,0))) hin (a5,c5) j hj)));refine vN<|aJ ?_;repeat refine qa ?_
  refine bD ⟨4-(i+1),Yo,i+1,dH D' i ((D' i).1,(a5,c5)),dH E i ((D i).1,(a5,c5)),Yo,Yo,YA,YB,Qv,Qv,Eq.trans Qv YC,λj hj=>?_,λj hj=>?_,vG (g:=I9 w0.heap.size) i H.f1.tl⟩
  .by_cases e:j=i
   .rw[e,bZ];exact hD i hin
   .rw[dD _ _ e];exact hD j hj
  .by_cases e:j=i
   .rw[e,bZ,bZ,hD i hin]
   .rw[dD _ _ e,dD _ _ e];exact hE j Yo
 .obtain rfl:i=4:=by have:=Xg h;omega
  refine bY (eY ?_);refine aD ?_;repeat first|refine qa ?_|refine aC ?_
  refine aN (aK YB (bL rfl Qv) ⟨w2.heap.size,D',rfl,hD,H.wk (λh j hj=>?_) (λk ⟨j,hj,hk⟩=>⟨j,hj,?_⟩)⟩)
  .have this:(I9 w0.heap.size (E j)).p W:=h j hj;rw[hE j hj] at this;exact this
  .show (I9 w0.heap.size (E j)).foot k
   rw[hE j hj];exact hk
def pE(fb rb:Nat)(k:Nat):Value:=if k=0 then .func (.func 68) #[] #[.pointer (some ⟨fb,0,none⟩),.pointer (some ⟨rb,0,none⟩)] else if k=1 then .func (.func 70) #[] #[] else if k=2 then .func (.func 71) #[] #[] else if k=3 then .func (.func 72) #[] #[] else .func (.func 73) #[] #[]
variable{Q:Exit->Act->World->Prop}
theorem aFZ(w:World){a:Act}{K:Act->World->Prop}{x:Operand}(ho:o.op=.buildSlice 93 5 #[(0,x),(1,.func 70),(2,.func 71),(3,.func 72),(4,.func 73)]){fb rb:Nat}(hx:a.eval x=pE fb rb 0)(h:∀w',Vh 96 w' w.heap.size 5 5 (pE fb rb)->Below w.heap.size w w'->w'.heap.size=w.heap.size+1->K (a.put o.dst (.slice (some ⟨w.heap.size,0,none⟩) 5 5)) w'):WpI Tryz.prog o a w K Q:=by
 have hh:=h (w.alloc (.cells #[pE fb rb 0,pE fb rb 1,pE fb rb 2,pE fb rb 3,pE fb rb 4] 96)) (Vh.of_row (pE fb rb) 5 Yc (by show (w.heap.push _)[w.heap.size]?=_;rw[Array.getElem?_push_size];rfl)) (bK _ _) (dG _ _);have e:(execOp a.eval o).run Tryz.prog w=.ok (.value (.slice (some ⟨w.heap.size,0,none⟩) 5 5)) (w.alloc (.cells #[pE fb rb 0,pE fb rb 1,pE fb rb 2,pE fb rb 3,pE fb rb 4] 96)):=by
  have e1:a.eval (.func 70)=pE fb rb 1:=rfl;have e2:a.eval (.func 71)=pE fb rb 2:=rfl;have e3:a.eval (.func 72)=pE fb rb 3:=rfl;have e4:a.eval (.func 73)=pE fb rb 4:=rfl;clear hh h;generalize a.eval=f at hx e1 e2 e3 e4;unfold pE at*;unfold execOp;rw[ho];simp only[List.map_toArray,List.map_cons,List.map_nil];rw[hx,e1,e2,e3,e4];go_simp
 refine⟨?_⟩;unfold Oper.wp;rw[e];exact hh
theorem WW(fr:Int)(rd:Nat->Nat->Int)(w0 w:World)(l:List It)(H:Cx w0 w l):Calls Tryz.prog 33 #[.int .i64 fr,aP (qU rd) 0 12] w λe w'=>∃fb rb pb,e=.returned (.slice (some ⟨pb,0,none⟩) 5 5)/\Cx w0 w' (bE 96 pb 5 5 (pE fb rb)::Y7 fb rb fr rd::l):=by
 refine bB Tryz.func33 rfl 9 rfl Yd (λA hs hd hb=>?_);have b0:A.eval (.tmp 0)=.int .i64 fr:=hb 0 _ rfl;have b1:A.eval (.tmp 1)=aP (qU rd) 0 12:=hb 1 _ rfl;clear hb;refine aD (aG ?_);refine aLx H ?_;intro w1 H z1;refine lJ H ?_;intro w2 H z2;repeat first|refine qa ?_|refine aC ?_|refine aD ?_
 refine qg (aFf _ _ _ rfl Qv Qv _) ?_;repeat first|refine qa ?_|refine aC ?_|refine aD ?_
 refine bJ rfl Yw (λK hK=>aFZ _ (fb:=w.heap.size) (rb:=w1.heap.size) rfl (Eq.trans Qv rfl) (λw3 m3 k3 z3=>hK _ _ ?_));replace H:=H.add k3 (bE _ _ _ _ _) m3 (λj e=>Nat.le_of_eq e.symm);repeat first|refine qa ?_|refine aC ?_
 exact aN (aK YB (bL rfl Qv) ⟨w.heap.size,w1.heap.size,_,rfl,H.f2.f2.f1.merge.b1⟩)
theorem aNa(w:World):(zeroValue 37).run Tryz.prog w=.ok (aP (λ_=>iV 0) 0 3) w:=Yl
theorem aFy(g:Nat->Value)(h:Nat->Value):∀j,j<3->stP g 0 3 h j=h j:=λj hj=>by
 have:=mF g (o:=0) (n:=3) h hj
 rwa [Nat.zero_add] at this
theorem aEU(x:Operand)(ho:o.op=.call { callee:=.builtin .len,args:=#[x],argTypes:=#[181] })(hx:f x=.slice ao n c)(w:World):(execOp f o).run Tryz.prog w=.ok (.value (.int .i64 ((n:Nat):Int))) w:=by
 unfold execOp;rw[ho];dsimp only;go_simp
theorem aIJ(x y:Operand)(ho:o.op=.indexAddr 181 x y){b off cap:Nat}{z:Int}(hx:f x=.slice (some ⟨b,off,none⟩) n cap)(hy:f y=.int .i64 z)(hz:z=(i:Int))(hi:i<n)(w:World):(execOp f o).run Tryz.prog w=.ok (.value (.pointer (some ⟨b,off+i*3,none⟩))) w:=by
 subst hz;have hi2:(i:Int)<n:=Yo;unfold execOp;rw[ho];dsimp only;rw[hx,hy];go_simp
theorem aAe{d:Nat->Nat->Int}:rowV (iF (λj=>d (j/3) (j%3))) (3*i)++rowV (λk=>iV (d i k)) 3=rowV (iF (λj=>d (j/3) (j%3))) (3*(i+1)):=by
 rw[nH];refine jF (λj hj=>?_);by_cases c:j<3*i
 .rw[if_pos c]
 .rw[if_neg c];show iV (d i (j-3*i))=iV (d (j/3) (j%3))
  rw[show j/3=i by omega,show j%3=j-3*i by omega]
theorem aDr(b o N cap:Nat)(t:TypeId)(g:Nat->Value)(d:Nat->Nat->Int)(w:World)(hm:Vh t w b N cap g)(ho:o+12<=N)(hg:∀i k,i<4->k<3->g (o+i*3+k)=iV (d i k)):Calls Tryz.prog 122 #[.slice (some ⟨b,o,none⟩) 4 4] w λe w'=>∃a2 c2,e=.returned (.slice a2 12 c2)/\w'.ownsRow w.heap.size 3 1 (.slice a2 12 c2) 12 (rowV (iF (λj=>d (j/3) (j%3))) 12)/\Below w.heap.size w w':=by
 refine bB Tryz.func122 rfl 17 rfl Yd (λA hs hd hb=>?_);have b0:=hb 0 _ rfl;clear hb;refine aD (aG ?_);refine Yx ?_;refine aC<|aD<|Yx ?_;refine aC<|aH<|aD<|Yx ?_;refine Yq (aEU _ rfl Yf _) ?_;refine Yx ?_;refine aC<|aM<|cO (λr a W=>∃(i:Nat) (v:Value),i<=4/\4-i<=r/\a.tmps.size=17/\a.defers=[]/\a.eval (.tmp 6)=.slice (some ⟨b,o,none⟩) 4 4/\a.eval (.tmp 7)=.int .i64 ((4:Nat):Int)/\a.eval (.tmp 8)=.int .i64 (i:Int)/\a.eval (.tmp 3)=v/\W.ownsRow w.heap.size 3 1 v (3*i) (rowV (iF (λj=>d (j/3) (j%3))) (3*i))/\Below w.heap.size w W) 4 ⟨0,_,Yo,Yo,YA,YB,Yf,Yf,Yf,Yf,World.ownsRow_nil _ _ _ _,Below.refl _ _⟩ (λr B W hI=>?_);clear b0 hs hd;obtain⟨i,v,hi,hr2,hs,hd,b6,b7,b8,b3,ov,kB⟩:=hI;have hWs:=kB.size;have hbl:=hm.lt;by_cases hin:i<4
 .refine aD (aG ?_);refine Yx ?_;refine aC<|aH (aT Yf (aS ?_));refine aH (aM ?_);refine aD<|Yq (aIJ _ _ rfl Yb Yb rfl hin _) ?_;refine Yq (cZ (h:=λk=>iV (d i k)) _ _ rfl lV Yf (hm.below kB) Yo (λk hk=>hg i k hin hk)) ?_;refine Za aNa (λw1 m1 k1 z1=>?_);have ov1:=bM ov k1;refine Zs lV m1 (λj hj=>rfl) (λw2 mm2 k2 z2=>?_);have mrow2:=Vh.congr mm2 (aFy _ _);have ov2:=bN ov1 k2 (λe=>by have e2:=(ov.lt _ e).2;omega);refine aC<|aJ<|Yx ?_;refine Yq (tJ _ rfl Yf _) ?_;refine bJ rfl Yw (λK hK=>?_);refine⟨sG _ _ _ rfl w.heap.size Yo v _ _ Yf ov2 _ 3 3 _ Yf (Or.inr ⟨_,rfl,λi hi=>by rw[add_at,Nat.zero_add];exact mrow2.cell hi⟩) (λi _=>rfl) Yo ?_⟩;intro v3 w3 ov3 k3;have n3:=k3.size;rw[aAe] at ov3;refine hK _ _ ?_;clear hK K;refine Yx ?_;refine fG<|aJ ?_;iterate 2 refine Yx ?_
  exact bD ⟨4-(i+1),Yo,i+1,_,Yo,Yo,YA,YB,Yb,Yb,(Ye rfl).trans YC,Yf,ov3,(aF (kB.trans (k1.mono Yo)) k2 Yo Yo).trans (k3.mono Yo)⟩
 .refine aD (aG ?_);refine Yx ?_;obtain rfl:i=4:=Yo;refine aC<|aH (aQ Yf (bY (eY ?_)));refine aD ?_;iterate 2 refine Yx ?_
  obtain⟨a2,c2,rfl,hc2⟩:=dY ov;refine aC ?_;exact aN (aK YB (bL rfl Yf) ⟨a2,c2,rfl,ov,kB⟩)
end Go.Proofs.YthimcecbgpamdaaGreatDoor
