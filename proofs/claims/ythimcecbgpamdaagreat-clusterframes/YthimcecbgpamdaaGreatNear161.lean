import Derived.Test.YthimcecbgpamdaaGreatNear123
set_option maxHeartbeats 4000000
namespace Go.Proofs.YthimcecbgpamdaaGreat
open Go.RowKit
variable{i:Nat}
theorem TT{f:Nat->Int}{n:Nat}(hi:i<n):gL ((List.range n).map f) i=f i:=by
 unfold gL;rw[List.getD_eq_getElem?_getD,List.getElem?_map,List.getElem?_range hi];rfl
theorem DI(ao:Option Addr)(len cap:Nat)(g:Nat->Nat)(w:World)(hg:∀i,g i<256)(hl:len<=140737488351232)(hc:len<=cap)(hr:Sr w ao len cap (bF g)):Calls Tryz.prog 106 #[.slice ao len cap] w λe w'=>∃mo mc M,e=.returned (.slice mo M.length mc)/\M.map Lm.m=sS len g/\OwnM w' w.heap.size (.slice mo M.length mc) M/\Below w.heap.size w w':=by
 refine bO Tryz.func106 rfl 14 rfl Yd (λA hs hd hb=>?_);have b0:A.eval (.tmp 0)=.slice ao len cap:=hb 0 _ rfl;clear hb;have H:=Cx.start w;refine aD (aG ?_);repeat first|refine qa ?_|refine aC ?_|refine aD ?_
 refine mO (PM ao len cap g w hg hl hc hr) ?_;rintro e w1 ⟨E,v,hE,rfl,o1,k1⟩;obtain⟨a1,c1,rfl,hc1⟩:=dP o1;refine⟨.tuple #[aN (msF (dN E (g 1):Nat) (dN E (g 2):Nat) (dN E (dR g):Nat) (.slice a1 (dN E (g 7)) c1)) 0 4,.int .i64 E],rfl,?_⟩;replace H:=H.add k1 (gB _ _ _ _ _ _) o1 (λj e=>(o1.lt j e).1);repeat refine qa ?_
 refine gJ H ?_;intro w2 H z2;refine fJ H.a0 aV (eY _ _ _ _ _ _) ?_;intro w3 H z3;repeat first|refine qa ?_|refine aC ?_|refine aD ?_|refine aH ?_
 refine fB (λh=>?_) (λh=>?_)
 .have hE0:E≠0:=Xu h;repeat first|refine qa ?_|refine aC ?_|refine aD ?_|refine aH ?_
  exact aW (lY (aP YB (dW rfl Qv) ⟨none,0,[],rfl,by unfold sS;rw[aCL hE hE0];rfl,OwnM.nil _ _,H.bel⟩))
 .have hE0:E=0:=by simpa using h
  subst hE0;repeat first|refine qa ?_|refine aC ?_|refine aD ?_|refine aH ?_|refine aU ?_
  have hdc:=zR.2 hE;refine bI rfl Yw (λK hK=>?_);have hln:((List.range (g 7)).map (dV g)).length=g 7:=by rw[List.length_map,List.length_range]
  refine Q8 _ _ rfl (c:=⟨⟨(g 1:Nat),(g 2:Nat),(dR g:Nat),(List.range (g 7)).map (dV g)⟩,a1,c1⟩) (Eq.trans Qv (by unfold tJ lmV;rw[hln];rfl)) ?_;intro w4 m4 k4 z4;refine hK _ _ ?_;clear hK K;have ho:=bK H.o1 k4;repeat first|refine qa ?_|refine aC ?_
  refine aW (aP YB (dW rfl Qv) ⟨_,_,[⟨⟨(g 1:Nat),(g 2:Nat),(dR g:Nat),(List.range (g 7)).map (dV g)⟩,a1,c1⟩],rfl,by unfold sS;rw[hdc];rfl,⟨?_,λc hc=>?_⟩,(H.call k4).bel⟩)
  .exact FZ m4 (by have:=H.size;omega)
  .simp only[List.mem_cons,List.not_mem_nil,or_false] at hc;subst hc;unfold WC lmV;dsimp only;rw[hln,gZ (λi hi=>show iF (gL ((List.range (g 7)).map (dV g))) i=iF (dV g) i by unfold iF;rw[TT hi])];exact ho
theorem CY(bad wo ph:Int)(l:List Ly):(zC bad wo ph l).length<=l.length:=by
 unfold zC
 induction l with
 |nil=>exact Xr _
 |cons y l ih=>
  rw[List.flatMap_cons,List.length_append,List.length_cons];have:(if y.ph=ph/\y.wo=wo then (sS y.n y.g).filter λm=>decide (m.F=bad) else []).length<=1:=by
   split
   .refine Nat.le_trans (List.length_filter_le _ _) ?_;unfold sS;split<;>simp
   .exact Xz _
  omega
theorem XI(m:Ms)(ao:Option Addr)(cap:Nat)(w:World)(hm:MsOK m)(hc:m.L.length<=cap)(hr:Sr w ao m.L.length cap (iF (gL m.L))):Calls Tryz.prog 72 #[lsV m (.slice ao m.L.length cap)] w λe w'=>∃mo mc M,e=.returned (.slice mo M.length mc)/\M.map Lm.m=BS m/\OwnM w' w.heap.size (.slice mo M.length mc) M/\Below w.heap.size w w':=by
 refine bO Tryz.func72 rfl 14 rfl Yd (λA hs hd hb=>?_);have b0:A.eval (.tmp 0)=aN (msF m.K m.F m.R (.slice ao m.L.length cap)) 0 4:=hb 0 _ rfl;clear hb;have hn:=hm.n;have H:=Cx.start w;refine aD (aG ?_);refine iH H ?_;intro w1 H z1;repeat first|refine qa ?_|refine aC ?_|refine aD ?_
 refine mO (PR m.K m.F m.R ao m.L.length cap (gL m.L) w1 hm.K hm.F hm.R hm.L Yo hc (hr.below H.bel)) ?_;rintro e w2 ⟨v,rfl,o2,k2⟩;obtain⟨a2,c2,rfl,hc2⟩:=dP o2;refine⟨_,rfl,?_⟩;replace H:=H.add k2 (gB _ _ _ _ _ _) o2 (λj e=>(o2.lt j e).1);repeat first|refine qa ?_|refine aC ?_|refine aD ?_|refine aH ?_
 refine fB (λh=>?_) (λh=>?_)
 .have hE0:bW m.K m.F m.R m.L.length≠0:=Xu h;repeat first|refine qa ?_|refine aC ?_|refine aD ?_|refine aH ?_
  exact aW (lY (aP YB (dW rfl Qv) ⟨none,0,[],rfl,by unfold BS;rw[if_neg hE0];rfl,OwnM.nil _ _,H.bel⟩))
 .have hE0:bW m.K m.F m.R m.L.length=0:=by simpa using h
  have eL:C8 m.K m.F m.R m.L.length=12+8*m.L.length:=by unfold C8;rw[if_pos hE0]
  repeat first|refine qa ?_|refine aC ?_|refine aD ?_|refine aH ?_|refine aU ?_
  have hsr:Sr w2 a2 (C8 m.K m.F m.R m.L.length) c2 (bF (enS m.K m.F m.R m.L.length (gL m.L))):=by
   obtain⟨a3,c3,e,hs3,_⟩:=iT o2
   cases e
   exact hs3
  refine mO (DI a2 (C8 m.K m.F m.R m.L.length) c2 _ w2 (aCC _ _ _ _ _) Yo hc2 hsr) ?_;rintro e w3 ⟨mo,mc,M,rfl,hM,oM,k3⟩;refine⟨_,rfl,?_⟩;replace H:=H.call k3;repeat first|refine qa ?_|refine aC ?_|refine aD ?_
  refine aW (aP YB (dW rfl Qv) ⟨mo,mc,M,rfl,?_,oM.base (by have:=k2.size;omega),H.bel⟩);rw[hM];unfold sS BS;obtain⟨e1,e2,e3,e4,e5⟩:=SB (f:=gL m.L) hE0 hm.L;rw[eL,zR.2 (aCE hE0),if_pos rfl,if_pos hE0,e1,e2,e3,e4];obtain⟨K,F,R,L⟩:=m
  congr 2
  refine List.ext_getElem? (λi=>?_);rw[List.getElem?_map];rcases Nat.lt_or_ge i L.length with c|c
  .rw[List.getElem?_range c,List.getElem?_eq_getElem c];show some (dV _ i)=_
   rw[e5 i c];unfold gL;rw[List.getD_eq_getElem?_getD,List.getElem?_eq_getElem c];rfl
  .rw[List.getElem?_eq_none c,List.getElem?_eq_none (by simpa using c)];rfl
variable{bad:Int}
theorem qK{wo ph:Int}{l:List Ly}{y:Ly}(h:l[i]?=some y):zC bad wo ph (l.take (i+1))=zC bad wo ph (l.take i)++(if y.ph=ph/\y.wo=wo then (sS y.n y.g).filter λm=>decide (m.F=bad) else []):=by
 unfold zC;rw[List.take_add_one,h,List.flatMap_append];simp
theorem aAA(n:Nat)(g:Nat->Nat):(sS n g).length<=1:=by
 unfold sS;split<;>simp
theorem aBo(b:Nat)(fr:Int)(nd:Nat->Nd)(v:Nat->Value)(bad:Int)(lo:Option Addr)(lc:Nat)(LL:List Lj)(bx:Nat->Value)(wo ph:Int)(w:World)(G0:Vh 74 w b 303 303 (xH fr nd v bad (.slice lo LL.length lc) bx))(hj:JRd w lo LL)(hl:LL.length<=400):Calls Tryz.prog 71 #[.pointer (some ⟨b,0,none⟩),.int .i64 wo,.int .i64 ph] w λe w'=>∃mo mc M,e=.returned (.slice mo M.length mc)/\M.map Lm.m=zC bad wo ph (LL.map Lj.y)/\OwnM w' w.heap.size (.slice mo M.length mc) M/\Below w.heap.size w w':=by
 refine bO Tryz.func71 rfl 53 rfl Yd (λA hs hd hb=>?_);have b0:A.eval (.tmp 0)=.pointer (some ⟨b,0,none⟩):=hb 0 _ rfl;have b1:A.eval (.tmp 1)=.int .i64 wo:=hb 1 _ rfl;have b2:A.eval (.tmp 2)=.int .i64 ph:=hb 2 _ rfl;clear hb;have H:=Cx.start w;refine aD (aG ?_);repeat first|refine qa ?_|refine aC ?_|refine aD ?_|refine aH ?_
 refine aK ?_;refine bX (λr A W=>∃(i:Nat) (u:Value) (M:List Lm),i<=LL.length/\LL.length-i<=r/\A.tmps.size=53/\A.defers=[]/\A.eval (.tmp 0)=.pointer (some ⟨b,0,none⟩)/\A.eval (.tmp 1)=.int .i64 wo/\A.eval (.tmp 2)=.int .i64 ph/\A.eval (.tmp 15)=.slice lo LL.length lc/\A.eval (.tmp 16)=.int .i64 (LL.length:Int)/\A.eval (.tmp 17)=.int .i64 (i:Int)/\A.eval (.tmp 7)=u/\M.map Lm.m=zC bad wo ph ((LL.map Lj.y).take i)/\Cx w W [oC w.heap.size u M]) LL.length
  ⟨0,_,[],Xz _,Yo,YA,YB,Qv,Qv,Qv,Qv,Qv,Qv,Qv,rfl,H.add (Below.refl _ _) (oC _ _ _) (OwnM.nil _ _) (xX (OwnM.nil w _))⟩ (λr B W hI=>?_)
 clear b0 b1 b2 hs hd H;obtain⟨i,u,M,hi,hr,hs,hd,b0,b1,b2,b15,b16,b17,b7,hM,H⟩:=hI;have hMl:M.length<=400:=by
  have h1:=congrArg List.length hM;have h2:=CY bad wo ph ((LL.map Lj.y).take i);rw[List.length_map] at h1;rw[List.length_take,List.length_map] at h2;omega
 refine aD (aG ?_);repeat first|refine qa ?_|refine aC ?_|refine aD ?_|refine aH ?_
 refine fB (λh=>?_) (λh=>?_)
 .have hin:i<LL.length:=by have:=Xu h;omega
  have hc:=List.getElem?_eq_getElem hin;obtain⟨cc,ec⟩:∃cc,cc=LL[i]:=⟨_,rfl⟩;rw[<-ec] at hc;have hy:(LL.map Lj.y)[i]?=some cc.y:=by rw[List.getElem?_map,hc];rfl
  obtain⟨pb,po,rfl,hcell⟩:=hj.1 Yo;have hcell:=hcell i cc hc;have hlb:=hj.2 cc (by rw[ec];exact List.getElem_mem hin);refine aU<|aH (aK ?_);refine aD<|qa ?_;refine qg (iM (g:=Y7 cc) ManyK.out (λk hk=>aM (hcell k hk) H.bel) rfl Qv) ?_;refine gJ H ?_;intro w1 H z1;refine fJ H.a0 aV (CW _ _ _ _ _) ?_;intro w2 H z2;refine aC<|aH<|aD ?_;iterate 3 refine qa ?_
  by_cases h1:cc.y.ph=ph
  .refine qg (dY (b:=false) _ _ rfl Qv Qv (Xf (λe=>e h1)) _) ?_;iterate 4 refine qa ?_
   by_cases h2:cc.y.wo=wo
   .refine qg (dY (b:=false) _ _ rfl Qv Qv (Xf (λe=>e h2)) _) ?_;refine qg (aO _ _ _ rfl Qv Qv _) ?_;refine aC<|yV rfl (aU ?_);refine aD ?_;iterate 2 refine qa ?_
    refine mO (DI cc.ao cc.y.n cc.cap cc.y.g _ hlb.2.2.2 hlb.2.2.1 hlb.2.1 (hlb.1.below H.bel)) ?_;rintro e w3 ⟨mo,mc,M1,rfl,hM1,oM1,k3⟩;refine⟨_,rfl,?_⟩;have hs2:=H.size;replace H:=H.tl.add k3 (oC w.heap.size _ M1) (oM1.base hs2) (λj e=>xX oM1 j e);repeat first|refine qa ?_|refine aC ?_|refine aD ?_
    have hl1:M1.length<=1:=by
     have h3:=congrArg List.length hM1;rw[List.length_map] at h3;have:=aAA cc.y.n cc.y.g;omega
    refine aK ?_;refine bX (λr A W=>∃(j:Nat) (u:Value) (M2:List Lm),j<=M1.length/\M1.length-j<=r/\A.tmps.size=53/\A.defers=[]/\A.eval (.tmp 0)=.pointer (some ⟨b,0,none⟩)/\A.eval (.tmp 1)=.int .i64 wo/\A.eval (.tmp 2)=.int .i64 ph/\A.eval (.tmp 15)=.slice (some ⟨pb,po,none⟩) LL.length lc/\A.eval (.tmp 16)=.int .i64 (LL.length:Int)/\A.eval (.tmp 17)=.int .i64 (i:Int)/\A.eval (.tmp 33)=.slice mo M1.length mc/\A.eval (.tmp 34)=.int .i64 (M1.length:Int)/\A.eval (.tmp 35)=.int .i64 (j:Int)/\A.eval (.tmp 7)=u/\M2.map Lm.m=zC bad wo ph ((LL.map Lj.y).take i)++((sS cc.y.n cc.y.g).take j).filter (λm=>decide (m.F=bad))/\Cx w W (oC w.heap.size u M2::if j=0 then [oC w.heap.size (.slice mo M1.length mc) M1] else [])) M1.length
     ⟨0,_,M,Xz _,Yo,YA,YB,Qv,Qv,Qv,Qv,Qv,Qv,Qv,Qv,Qv,Qv,by rw[hM];exact (List.append_nil _).symm,H.perm (List.Perm.swap _ _ _)⟩ (λr2 B2 W2 hI=>?_)
    clear b0 b1 b2 b15 b16 b17 b7 hs hd H;obtain⟨j,u2,M2,hj1,hr2,hs,hd,b0,b1,b2,b15,b16,b17,b33,b34,b35,b7,hM2,H⟩:=hI;have hM2l:M2.length<=400+1:=by
     have h3:=congrArg List.length hM2;rw[List.length_append,List.length_map, <-hM,List.length_map] at h3;have h4:=List.length_filter_le (λm:Ms=>decide (m.F=bad)) ((sS cc.y.n cc.y.g).take j);rw[List.length_take] at h4;have:=aAA cc.y.n cc.y.g;omega
    refine aD (aG ?_);repeat first|refine qa ?_|refine aC ?_|refine aD ?_|refine aH ?_
    refine fB (λh=>?_) (λh=>?_)
    .have hjn:j<M1.length:=by have:=Xu h;omega
     obtain rfl:j=0:=Yo;obtain⟨c1,rfl⟩:∃c1,M1=[c1]:=by
      match M1,hjn,hl1 with
      |[c1],_,_=>exact⟨c1,rfl⟩
     have hdm:sS cc.y.n cc.y.g=[c1.m]:=hM1.symm;rw[if_pos rfl] at H;have hO:OwnM W2 w.heap.size (.slice mo 1 mc) [c1]:=H.o1;have hln:c1.m.L.length<=24:=by
      have:=(aEU hlb.2.2.2 c1.m (by rw[hdm];exact List.mem_cons_self)).n;exact this
     obtain⟨pm,qm,rfl,hcm⟩:=(hO.rd (λc hc=>by simp at hc;subst hc;omega)).1 (Nat.succ_pos 0);have hcm:=hcm 0 c1 rfl;refine aU<|aH (aK ?_);refine aD<|qa ?_;refine qg (iM (g:=tJ c1) ManyK.out hcm rfl Qv) ?_;refine gJ H ?_;intro w5 H z5;refine fJ H.a0 aV (kX _) ?_;intro w6 H z6;refine aC<|aH ?_;replace H:=H.drew;have hS:Its [vhI 67 W2.heap.size 4 4 (tJ c1),vhI 74 b 303 303 (xH fr nd v bad (.slice (some ⟨pb,po,none⟩) LL.length lc) bx)] w6.drew:=Its.cons H.o0 (Its.cons (Vh.below G0 H.bel) (Its.nil _));refine fG (S:=Its [vhI 67 W2.heap.size 4 4 (tJ c1),vhI 74 b 303 303 (xH fr nd v bad (.slice (some ⟨pb,po,none⟩) LL.length lc) bx)]) (.mv 0 (.rd 1 (.mv 2 (.mv 3 (.mv 4 (.rd 5 (.mv 6 .fin))))))) [] Yl Yl ?_;repeat first|refine qj ?_|refine qr hS ?_
     refine fV<|fB (λhq=>?_) (λhq=>?_)
     .have hF:c1.m.F=bad:=Xu hq;refine aI ?_;iterate 2 refine qa ?_
      refine bI rfl Yw (λK hK=>Q8 _ _ rfl (c:=c1) Qv (λw7 m7 k7 z7=>hK _ _ ?_));replace H:=aJy H.tl k7 m7;refine KM H (by show M2.length+1<=_;omega) ?_;intro u8 w8 H;refine qa ?_;refine fD<|aI ?_;repeat refine qa ?_
      exact aS ⟨0,Yo,1,_,M2++[c1],Xr _,Nat.le_of_eq (Nat.sub_self _),YA,YB,Qv,Qv,Qv,Qv,Qv,Qv,Qv,Qv,Qv,Qv,by rw[List.map_append,hM2,hdm,List.append_assoc];simp[hF],H⟩
     .have hF:c1.m.F≠bad:=Xg hq;refine fM<|aI ?_;repeat refine qa ?_
      exact aS ⟨0,Yo,1,_,M2,Xr _,Nat.le_of_eq (Nat.sub_self _),YA,YB,Qv,Qv,Qv,Qv,Qv,Qv,Qv,Qv,Qv,Qv,by rw[hM2,hdm];simp[hF],H.tl.sub (List.Sublist.cons_cons _ (List.nil_sublist _))⟩
    .obtain rfl:j=M1.length:=by have:=Xg h;omega
     refine bQ (D5 ?_);refine aI ?_;repeat refine qa ?_
     exact aS ⟨LL.length-(i+1),Yo,i+1,_,M2,Yo,Yo,YA,YB,Qv,Qv,Qv,Qv,Qv,Eq.trans Qv YC,Qv,by
      have e:(sS cc.y.n cc.y.g).take M1.length=sS cc.y.n cc.y.g:=List.take_of_length_le (by rw[<-hM1,List.length_map];exact Xr _);rw[qK hy,if_pos ⟨h1,h2⟩,hM2,e],H.sub (List.Sublist.cons_cons _ (List.nil_sublist _))⟩
   .refine qg (dY (b:=true) _ _ rfl Qv Qv (Xt h2) _) ?_;refine qg (aO _ _ _ rfl Qv Qv _) ?_;refine aC<|yI rfl ?_;refine bQ (yX ?_);refine aI ?_;repeat refine qa ?_
    exact aS ⟨LL.length-(i+1),Yo,i+1,_,M,Yo,Yo,YA,YB,Qv,Qv,Qv,Qv,Qv,Eq.trans Qv YC,Qv,by rw[qK hy,if_neg (λe=>h2 e.2),List.append_nil];exact hM,H.tl⟩
  .refine qg (dY (b:=true) _ _ rfl Qv Qv (Xt h1) _) ?_;refine qa ?_;iterate 4 refine fU ?_
   refine qg (aL _ _ _ rfl Qv Qv _) ?_;refine aC<|yI rfl ?_;refine bQ (yX ?_);refine aI ?_;repeat refine qa ?_
   exact aS ⟨LL.length-(i+1),Yo,i+1,_,M,Yo,Yo,YA,YB,Qv,Qv,Qv,Qv,Qv,Eq.trans Qv YC,Qv,by rw[qK hy,if_neg (λe=>h1 e.1),List.append_nil];exact hM,H.tl⟩
 .obtain rfl:i=LL.length:=by have:=Xg h;omega
  refine bQ (dU ?_);refine aD ?_;repeat first|refine qa ?_|refine aC ?_|refine aD ?_|refine aH ?_
  have hO:OwnM W w.heap.size u M:=H.o0;obtain⟨mo,mc,rfl,hmc⟩:=dP hO.1;rw[List.take_of_length_le (by rw[List.length_map];exact Xr _)] at hM;exact aW (aP YB (dW rfl Qv) ⟨mo,mc,M,rfl,hM,hO,H.bel⟩)
theorem aAJ(m:Ms):(BS m).length<=1:=by
 unfold BS;split<;>simp
theorem CX{x:Ip}(h:x.ly.length<=400)(told:Nat->Ms)(wo ph:Nat):∀k,(mQ x told wo ph k).length<=400*k
 |0=>Xr _
 |k+1=>by
  have ih:=CX h told wo ph k;show (mQ x told wo ph k++_).length<=_
  rw[List.length_append];have:(if k=wo then [] else if (k:Int)=x.bad then zC x.bad wo ph x.ly else BS (told k)).length<=400:=by
   split
   .exact Xz _
   .split
    .exact Nat.le_trans (CY _ _ _ _) h
    .exact Nat.le_trans (aAJ _) Yc
  omega
theorem aCd(x:Ip)(b:Nat)(fr:Int)(nd:Nat->Nd)(v:Nat->Value)(lo:Option Addr)(lc:Nat)(LL:List Lj)(bx:Nat->Value)(wo ph:Nat)(told:Nat->Ms)(ta:Nat->Option Addr×Nat)(w:World)(G0:Vh 74 w b 303 303 (xH fr nd v x.bad (.slice lo LL.length lc) bx))(hx:x.ly=LL.map Lj.y)(hj:JRd w lo LL)(hl:LL.length<=400)(_:wo<4)(ht:∀j:Nat,j<4->(j:Int)≠x.bad->MsOK (told j)/\(told j).L.length<=(ta j).2/\Sr w (ta j).1 (told j).L.length (ta j).2 (iF (gL (told j).L))):Calls Tryz.prog 38 #[.pointer (some ⟨b,0,none⟩),.int .i64 (wo:Int),.int .i64 (ph:Int),aN (U9 told (λj=>slV (ta j) (told j).L.length)) 0 16] w λe w'=>∃mo mc M,e=.returned (.slice mo M.length mc)/\M.map Lm.m=mQ x told wo ph 4/\OwnM w' w.heap.size (.slice mo M.length mc) M/\Below w.heap.size w w':=by
 refine bO Tryz.func38 rfl 39 rfl Yd (λA hs hd hb=>?_);have b0:A.eval (.tmp 0)=.pointer (some ⟨b,0,none⟩):=hb 0 _ rfl;have b1:A.eval (.tmp 1)=.int .i64 (wo:Int):=hb 1 _ rfl;have b2:A.eval (.tmp 2)=.int .i64 (ph:Int):=hb 2 _ rfl;have b3:A.eval (.tmp 3)=aN (U9 told (λj=>slV (ta j) (told j).L.length)) 0 16:=hb 3 _ rfl;clear hb;have H:=Cx.start w;refine aD (aG ?_);refine iH H ?_;intro w1 H z1;repeat first|refine qa ?_|refine aC ?_|refine aD ?_|refine aH ?_
 refine aK ?_;refine bX (λr A W=>∃(i:Nat) (u:Value) (M:List Lm),i<=4/\4-i<=r/\A.tmps.size=39/\A.defers=[]/\A.eval (.tmp 0)=.pointer (some ⟨b,0,none⟩)/\A.eval (.tmp 1)=.int .i64 (wo:Int)/\A.eval (.tmp 2)=.int .i64 (ph:Int)/\A.eval (.tmp 12)=aN (U9 told (λj=>slV (ta j) (told j).L.length)) 0 16/\A.eval (.tmp 13)=.int .i64 (i:Int)/\A.eval (.tmp 9)=u/\M.map Lm.m=mQ x told wo ph i/\Cx w W [oC w.heap.size u M]) 4
  ⟨0,_,[],Xz _,Yo,YA,YB,Qv,Qv,Qv,Qv,Qv,Qv,rfl,H.tl.add (Below.refl _ _) (oC _ _ _) (OwnM.nil _ _) (λj e=>xX (OwnM.nil w1 w1.heap.size) j e)⟩ (λr B W hI=>?_)
 clear b0 b1 b2 b3 hs hd H;obtain⟨i,u,M,hi,hr,hs,hd,b0,b1,b2,b12,b13,b9,hM,H⟩:=hI;have hMl:M.length<=400*i:=by
  have h1:=congrArg List.length hM;rw[List.length_map] at h1;rw[h1];exact CX (by rw[hx,List.length_map];exact hl) told wo ph i
 refine aD (aG ?_);repeat first|refine qa ?_|refine aC ?_|refine aD ?_|refine aH ?_
 refine fB (λh=>?_) (λh=>?_)
 .have hin:i<4:=by have:=Xu h;omega
  refine aU<|aH (aK ?_);refine aD<|qa ?_;refine qg (Eq.trans (lD _ _ _ _ rfl ArrK.out ManyK.out Qv rfl Qv rfl hin _) (by rw[jG (λj hj=>aMh told (λj=>slV (ta j) (told j).L.length) hj)])) ?_;refine gJ H ?_;intro w2 H z2;refine qa ?_;refine fJ H.a0 aV (eY _ _ _ _ _ _) ?_;intro w3 H z3;repeat first|refine qa ?_|refine aC ?_|refine aD ?_
  refine aK<|aD ?_;repeat first|refine qa ?_|refine aC ?_
  refine fB (λh1=>?_) (λh1=>?_)
  .have e1:i=wo:=by have:=Xu h1;omega
   refine aMS<|aI ?_;repeat refine qa ?_
   exact aS ⟨4-(i+1),Yo,i+1,_,M,Yo,Yo,YA,YB,Qv,Qv,Qv,Qv,Eq.trans Qv YC,Qv,by rw[hM];show _=mQ x told wo ph i++_;rw[if_pos e1,List.append_nil],H.tl⟩
  .have e1:i≠wo:=by have:=Xg h1;omega
   refine aD ?_;repeat first|refine qa ?_|refine aC ?_
   refine fB (λh2=>?_) (λh2=>?_)
   .have e2:(i:Int)=x.bad:=Xu h2;refine aI ?_;iterate 4 refine qa ?_
    have hsz:=H.size;refine aNs (aBo b fr nd v x.bad lo lc LL bx (wo:Int) (ph:Int) _ (Vh.below G0 H.bel) (hj.below H.bel) hl) ?_;rintro e w4 ⟨mo,mc,M1,rfl,hM1,oM1,k4⟩;refine⟨_,rfl,?_⟩;replace H:=(H.tl.add k4 (oC w.heap.size _ M1) (oM1.base hsz) (λj e=>xX oM1 j e)).perm (List.Perm.swap _ _ _);have hl1:M1.length<=400:=by
     have h3:=congrArg List.length hM1;rw[List.length_map] at h3;have h4:=CY x.bad wo ph (LL.map Lj.y);rw[List.length_map] at h4;omega
    refine KM H Yo ?_;intro u5 w5 H;refine qa ?_;refine aDU<|aI ?_;repeat refine qa ?_
    exact aS ⟨4-(i+1),Yo,i+1,_,M++M1,Yo,Yo,YA,YB,Qv,Qv,Qv,Qv,Eq.trans Qv YC,Qv,by rw[List.map_append,hM,hM1];show _=mQ x told wo ph i++_;rw[if_neg e1,if_pos e2,hx],H⟩
   .have e2:(i:Int)≠x.bad:=Xg h2;obtain⟨t1,t2,t3⟩:=ht i hin e2;refine aI ?_;iterate 2 refine qa ?_
    have hsz:=H.size;refine mO (XI (told i) (ta i).1 (ta i).2 _ t1 t2 (t3.below H.bel)) ?_;rintro e w4 ⟨mo,mc,M1,rfl,hM1,oM1,k4⟩;refine⟨_,rfl,?_⟩;replace H:=(H.tl.add k4 (oC w.heap.size _ M1) (oM1.base hsz) (λj e=>xX oM1 j e)).perm (List.Perm.swap _ _ _);have hl1:M1.length<=1:=by
     have h3:=congrArg List.length hM1;rw[List.length_map] at h3;have h4:=aAJ (told i);omega
    refine KM H Yo ?_;intro u5 w5 H;refine qa ?_;refine aDU<|aI ?_;repeat refine qa ?_
    exact aS ⟨4-(i+1),Yo,i+1,_,M++M1,Yo,Yo,YA,YB,Qv,Qv,Qv,Qv,Eq.trans Qv YC,Qv,by rw[List.map_append,hM,hM1];show _=mQ x told wo ph i++_;rw[if_neg e1,if_neg e2],H⟩
 .obtain rfl:i=4:=by have:=Xg h;omega
  refine bQ (dU ?_);refine aD ?_;repeat first|refine qa ?_|refine aC ?_|refine aD ?_|refine aH ?_
  have hO:OwnM W w.heap.size u M:=H.o0;obtain⟨mo,mc,rfl,hmc⟩:=dP hO.1;exact aW (aP YB (dW rfl Qv) ⟨mo,mc,M,rfl,hM,hO,H.bel⟩)
def M9(f:Nat->It):It:=⟨λw=>∀i,i<4->(f i).p w,λk=>∃i,i<4/\(f i).foot k,λh e i hi=>(f i).ok (h i hi) (λk h1 h2=>e k h1 ⟨i,hi,h2⟩),λh ⟨i,hi,e⟩=>(f i).lt (h i hi) e⟩
variable{w w0:World}{l:List It}
theorem Cx.wk{x y:It}(H:Cx w0 w (x::l))(h1:x.p w->y.p w)(h2:∀k,y.foot k->x.foot k):Cx w0 w (y::l):=by
 obtain⟨d1,d2⟩:=List.pairwise_cons.1 H.dis;refine⟨H.bel,λz hz=>?_,λz hz j hj=>?_,List.pairwise_cons.2 ⟨λz hz j h3=>d1 z hz j (h2 j h3),d2⟩⟩
 .rcases List.mem_cons.1 hz with rfl|hz
  .exact h1 H.o0
  .exact H.it z (List.mem_cons_of_mem _ hz)
 .rcases List.mem_cons.1 hz with rfl|hz
  .exact H.up x List.mem_cons_self j (h2 j hj)
  .exact H.up z (List.mem_cons_of_mem _ hz) j hj
variable{α:Type}
theorem mJ{g:α->It}{D:Nat->α}{y:α}(i:Nat)(H:Cx w0 w (g y::M9 (λj=>g (D j))::l)):Cx w0 w (M9 (λj=>g (dS D i y j))::l):=by
 refine H.merge.wk (λh j hj=>?_) (λk hk=>?_)
 .show (g (dS D i y j)).p w
  by_cases e:j=i
  .rw[e,dD];exact h.1
  .rw[bZ _ _ e];exact h.2 j hj
 .obtain⟨j,hj,hk⟩:=hk;have hk:(g (dS D i y j)).foot k:=hk;by_cases e:j=i
  .rw[e,dD] at hk;exact Or.inl hk
  .rw[bZ _ _ e] at hk;exact Or.inr ⟨j,hj,hk⟩
abbrev Ad:=Option Addr×Nat
def vU(B:Nat)(d:Nd×Ad):It:=gB B 4 1 (slV d.2 d.1.vA.length) d.1.vA.length (rowV (tF (bA d.1)) d.1.vA.length)
def tlJ(B:Nat)(d:Ms×Ad):It:=gB B 3 1 (slV d.2 d.1.L.length) d.1.L.length (rowV (iF (gL d.1.L)) d.1.L.length)
def bxJ(B:Nat)(d:List Lm×Ad):It:=oC B (slV d.2 d.1.length) d.1
def lX(B:Nat)(D:Nat->Nd×Ad):It:=M9 (λi=>vU B (D i))
def OP(B:Nat)(T:Nat->Ms×Ad):It:=M9 (λi=>tlJ B (T i))
def A9(B:Nat)(X:Nat->List Lm×Ad):It:=M9 (λi=>bxJ B (X i))
def jT(fr:Int)(D:Nat->Nd×Ad)(bad:Int)(lv:Value)(X:Nat->List Lm×Ad):Nat->Value:=xH fr (λi=>(D i).1) (λi=>slV (D i).2 (D i).1.vA.length) bad lv (λi=>slV (X i).2 (X i).1.length)
def yJ(T:Nat->Ms×Ad):Nat->Value:=U9 (λi=>(T i).1) (λi=>slV (T i).2 (T i).1.L.length)
def gF(fr:Int)(D:Nat->Nd×Ad):Nat->Value:=pO fr (λi=>(D i).1) (λi=>slV (D i).2 (D i).1.vA.length)
theorem vL{β:Type}(f:α->β)(D:Nat->α)(i:Nat)(y:α):(λj=>f (dS D i y j))=dS (λj=>f (D j)) i (f y):=by
 funext j
 unfold dS;split<;>rfl
theorem aEs(fr:Int)(D:Nat->Nd×Ad)(bad:Int)(lv:Value)(X:Nat->List Lm×Ad)(hi:i<4)(d:Nd×Ad):∀j,j<303->stP (jT fr D bad lv X) (1+i*74) 74 (ndF d.1 (slV d.2 d.1.vA.length)) j=jT fr (dS D i d) bad lv X j:=by
 unfold jT;rw[vL (λd:Nd×Ad=>d.1),vL (λd:Nd×Ad=>slV d.2 d.1.vA.length)];exact aKm _ _ _ _ _ _ hi _ _
theorem aNa(fr:Int)(D:Nat->Nd×Ad)(bad:Int)(lv:Value)(X:Nat->List Lm×Ad)(i:Nat)(d:List Lm×Ad):∀j,j<303->stW (jT fr D bad lv X) (299+i) (slV d.2 d.1.length) j=jT fr D bad lv (dS X i d) j:=by
 unfold jT;rw[vL (λd:List Lm×Ad=>slV d.2 d.1.length)];exact aMa _ _ _ _ _ _ _ _
theorem aJO(T:Nat->Ms×Ad)(i:Nat)(d:Ms×Ad):∀j,j<16->stP (yJ T) (i*4) 4 (msF d.1.K d.1.F d.1.R (slV d.2 d.1.L.length)) j=yJ (dS T i d) j:=by
 unfold yJ;rw[vL (λd:Ms×Ad=>d.1),vL (λd:Ms×Ad=>slV d.2 d.1.L.length)];exact aKI _ _ _ _ _
theorem aAi(fr:Int)(D:Nat->Nd×Ad)(i:Nat)(d:Nd×Ad):∀j,j<297->stP (gF fr D) (1+i*74) 74 (ndF d.1 (slV d.2 d.1.vA.length)) j=gF fr (dS D i d) j:=by
 unfold gF;rw[vL (λd:Nd×Ad=>d.1),vL (λd:Nd×Ad=>slV d.2 d.1.vA.length)];exact aAb _ _ _ _ _ _
theorem sW(fr:Int)(D:Nat->Nd×Ad):∀j,j<297->(gF fr D j).oneCell'=true:=zN _ _ _ _
theorem aJe(T:Nat->Ms×Ad):∀j,j<16->(yJ T j).oneCell'=true:=aKV _ _ _
section
variable {P:Program} {Q:Exit->Act->World->Prop} {J:Act->World->Prop} {a:Act} {w:World} {x:Code} {id:Nat} {fn:Func} {R:Ending->World->Prop}
theorem aNP(h:Q .normal a w):Nx P x (Exit.then J (Exit.inBlock id Q)) (.exit id) a w:=by
 show (if id=id then _ else _)
 rw[if_pos rfl];exact h
theorem aNt(hd:a.defers=[])(hr:fn.results=#[])(h:R (.returned (.tuple #[])) w):bodyPost P fn R .normal a w:=⟨hd,.tuple #[],by simp[results,hr],h⟩
variable{caps:Array Value}
theorem aGh{o:Oper}{K:Act->World->Prop}(c x y:Operand)(T:Array TypeId)(ho:o.op=.call { callee:=.value c,args:=#[x,y],argTypes:=T })(n:Nat)[E:EntK P n]{u v:Value}(hc:a.eval c=.func (.func n) #[] caps)(hx:a.eval x=u)(hy:a.eval y=v)(hk:Calls P n (#[u,v]++caps) w R)(h:∀e w',R e w'->∃r,e=.returned r/\K (a.put o.dst r) w'):WpI P o a w K Q:=by
 refine⟨?_⟩;have e:(execOp a.eval o).run P w=.ok (.enter n (#[u,v]++caps)) w:=by
  unfold execOp;rw[ho];simp only[resolve,invoke,Sem.run_bind,List.map_toArray,List.map_cons,List.map_nil,hc,hx,hy];have:=E.out (#[u,v]++caps) w;go_simp
 unfold Oper.wp;rw[e,Oper.upon_enter];refine hk.mono ?_;intro e w' hr;obtain⟨r,rfl,hh⟩:=h e w' hr;exact hh
end
theorem aGy(x:Ip)(b:Nat)(fr:Int)(D:Nat->Nd×Ad)(lo:Option Addr)(lc:Nat)(LL:List Lj)(X:Nat->List Lm×Ad)(ph:Nat)(T:Nat->Ms×Ad)(w0 w:World)(l:List It)(H:Cx w0 w (vhI 74 b 303 303 (jT fr D x.bad (.slice lo LL.length lc) X)::A9 w0.heap.size X::OP w0.heap.size T::l))(hx:x.ly=LL.map Lj.y)(hj:JRd w0 lo LL)(hl:LL.length<=400)(hT:∀j:Nat,j<4->(j:Int)≠x.bad->MsOK (T j).1):Calls Tryz.prog 17 #[.pointer (some ⟨b,0,none⟩),.int .i64 (ph:Int),aN (yJ T) 0 16] w λe w'=>e=.returned (.tuple #[])/\∃X',(∀i,i<4->(X' i).1.map Lm.m=mQ x (λj=>(T j).1) i ph 4)/\Cx w0 w' (vhI 74 b 303 303 (jT fr D x.bad (.slice lo LL.length lc) X')::A9 w0.heap.size X'::OP w0.heap.size T::l):=by
 refine bO Tryz.func17 rfl 21 rfl Yd (λA hs hd hb=>?_);have b0:A.eval (.tmp 0)=.pointer (some ⟨b,0,none⟩):=hb 0 _ rfl;have b1:A.eval (.tmp 1)=.int .i64 (ph:Int):=hb 1 _ rfl;have b2:A.eval (.tmp 2)=aN (yJ T) 0 16:=hb 2 _ rfl;clear hb;refine aD (aG ?_);refine iH H ?_;intro w1 H z1;repeat first|refine qa ?_|refine aC ?_|refine aD ?_
 refine aK ?_;refine bX (λr A W=>∃(i:Nat) (X':Nat->List Lm×Ad),i<=4/\4-i<=r/\A.tmps.size=21/\A.defers=[]/\A.eval (.tmp 0)=.pointer (some ⟨b,0,none⟩)/\A.eval (.tmp 1)=.int .i64 (ph:Int)/\A.eval (.tmp 5)=.pointer (some ⟨w.heap.size,0,none⟩)/\A.eval (.tmp 7)=.int .i64 (i:Int)/\(∀j,j<i->(X' j).1.map Lm.m=mQ x (λj=>(T j).1) j ph 4)/\Cx w0 W (vhI 68 w.heap.size 16 16 (yJ T)::vhI 74 b 303 303 (jT fr D x.bad (.slice lo LL.length lc) X')::A9 w0.heap.size X'::OP w0.heap.size T::l)) 4
  ⟨0,X,Xz _,Yo,YA,YB,Qv,Qv,Qv,Qv,λj h=>absurd h (Nat.not_lt_zero j),H⟩ (λr B W hI=>?_)
 clear b0 b1 b2 hs hd H;obtain⟨i,X',hi,hr,hs,hd,b0,b1,b5,b7,hX,H⟩:=hI;refine aD (aG ?_);repeat first|refine qa ?_|refine aC ?_|refine aD ?_|refine aH ?_
 refine fB (λh=>?_) (λh=>?_)
 .have hin:i<4:=by have:=Xu h;omega
  refine aU<|aH (aK ?_);refine aD ?_;repeat first|refine qa ?_|refine aC ?_
  replace H:=H.drew;have hS:Its [vhI 68 w.heap.size 16 16 (yJ T)] W.drew:=Its.cons H.o0 (Its.nil _);refine fG (S:=Its [vhI 68 w.heap.size 16 16 (yJ T)]) (.mv 0 (.mv 1 (.mv 2 (.mv 3 (.mv 4 (.rd 5 (.mv 7 (.mv 8 (.go 6 (.mv 9 (.go 10 .fin))))))))))) [10] Yl Yl ?_;repeat first|refine qj ?_|refine qr hS ?_
  refine dC rfl rfl Yw (λK hK=>?_);have hsz:=H.size;refine nW _ 38 _ _ _ _ _ rfl Qv Qv Qv Qv (EntK.out _ _) (aCd x b fr _ _ lo lc LL _ i ph (λj=>(T j).1) (λj=>(T j).2) _ H.v1 hx (hj.below H.bel) hl hin (λj h4 hb=>?_)) ?_
  .have ho:World.ownsRow _ _ _ _ _ _ _:=H.o3 j h4;obtain⟨a3,c3,e,hs3,hc3⟩:=iT ho;obtain⟨e1,e2⟩:(T j).2.1=a3/\(T j).2.2=c3:=by cases e;exact⟨rfl,rfl⟩
   exact⟨hT j h4 hb,by rw[e2];exact hc3,by rw[e1,e2];exact hs3⟩
  .rintro e w2 ⟨mo,mc,M1,rfl,hM1,oM1,k2⟩;replace H:=H.add k2 (bxJ w0.heap.size (M1,(mo,mc))) (oM1.base hsz) (λj e=>xX oM1 j e);refine⟨_,rfl,hK _ _ (λ_ _=>Its.cons H.o1 (Its.nil _)) ?_⟩;clear hK K;repeat refine qj ?_
   refine dK rfl Yw (λK hK=>iC _ _ _ _ rfl OneK.out Qv Qv H.v2 Yo rfl rfl rfl (λw3 m3 k3 z3=>hK _ (λh=>absurd h Yc) ?_));replace H:=H.a2.s k3 (m3.congr (λj hj=>Eq.trans (by rw[show 0+299+i*1=299+i by omega];rfl) (aNa fr D x.bad (.slice lo LL.length lc) X' i (M1,(mo,mc)) j hj)));refine nT<|aI ?_;repeat refine qa ?_
   exact aS ⟨4-(i+1),Yo,i+1,_,Yo,Yo,YA,YB,Qv,Qv,Qv,Eq.trans Qv YC,λj hj=>(by
    by_cases e:j=i
    .rw[e,dD];exact hM1
    .rw[bZ _ _ e];exact hX j Yo),(mJ (g:=bxJ w0.heap.size) i H.f3.f1).b2⟩
 .obtain rfl:i=4:=by have:=Xg h;omega
  refine bQ (aNP ?_);exact aNt YB rfl ⟨rfl,X',hX,H.tl⟩
def J2(D:Nat->Nd×Ad)(j:Nat):Value:=ndF (D (j/74)).1 (slV (D (j/74)).2 (D (j/74)).1.vA.length) (j%74)
variable{j:Nat}
theorem LZ(D:Nat->Nd×Ad)(hj:j<74):J2 D (i*74+j)=ndF (D i).1 (slV (D i).2 (D i).1.vA.length) j:=by
 unfold J2;rw[show (i*74+j)/74=i by omega,show (i*74+j)%74=j by omega]
theorem aJM(fr:Int)(D:Nat->Nd×Ad)(bad:Int)(lv:Value)(X:Nat->List Lm×Ad)(hj:j<296):jT fr D bad lv X (0+0+1+j)=J2 D j:=by
 unfold jT;rw[zH Yo];unfold pO J2;rw[if_neg Yo,show 0+0+1+j-1=j by omega]
theorem aAL(fr:Int)(D:Nat->Nd×Ad)(hj:j<296):gF fr D (0+1+j)=J2 D j:=by
 unfold gF pO J2;rw[if_neg Yo,show 0+1+j-1=j by omega]
theorem aLJ(fr:Int)(D:Nat->Nd×Ad)(bad:Int)(lv:Value)(X:Nat->List Lm×Ad)(_:i<4):jT fr D bad lv X (299+i)=slV (X i).2 (X i).1.length:=by
 unfold jT xH;rw[if_neg Yo,if_neg Yo,if_neg Yo,Nat.add_sub_cancel_left]
def emI:It:=⟨λ_=>True,λ_=>False,λh _=>h,λ_ e=>e.elim⟩
theorem Cx.add2{w':World}(H:Cx w0 w l)(k:Below w.heap.size w w')(x y:It)(hx:x.p w')(hy:y.p w')(fx:∀j,x.foot j->w.heap.size<=j)(fy:∀j,y.foot j->w.heap.size<=j)(hd:∀j,x.foot j->¬y.foot j):Cx w0 w' (x::y::l):=by
 have H2:=H.add k y hy fy;have hs:=H.size;refine⟨H2.bel,λz hz=>?_,λz hz j hj=>?_,List.pairwise_cons.2 ⟨λz hz j h1 h2=>?_,H2.dis⟩⟩
 .rcases List.mem_cons.1 hz with rfl|hz
  .exact hx
  .exact H2.it z hz
 .rcases List.mem_cons.1 hz with rfl|hz
  .have:=fx j hj;omega
  .exact H2.up z hz j hj
 .rcases List.mem_cons.1 hz with rfl|hz
  .exact hd j h1 h2
  .have h3:=fx j h1;have h4:=z.lt (H.it z hz) h2;omega
def PvC(w0:World)(bad:Int)(n:Nat)(caps:Array Value)(N:Nat->Nd->List Ms->Nd)(M:Nat->Nd->List Ms->Ms)(Ys:Nat->It->Prop)(Dn:Nat->Nd)(Bn:Nat->List Ms):Prop:=∀(i:Nat) (nd:Nd) (ao:Option Addr) (c:Nat) (mo:Option Addr) (mc:Nat) (L:List Lm) (w:World) (y:It) (l:List It),i<4->(i:Int)≠bad->nd=Dn i->L.map Lm.m=Bn i->nd.id=(i:Nat)->NdOK nd->nJ w nd ao c->MRd w mo L->L.length<=1600->L.length<=mc->(∀m,m∈L->MsOK m.m)->Ys i y->Cx w0 w (y::l)->
 Calls Tryz.prog n (#[iI nd (.slice ao nd.vA.length c),.slice mo L.length mc]++caps) w λe w'=>∃(a1 a2:Ad) (y':It),Ys (i+1) y'/\e=.returned (.tuple #[iI (N i nd (L.map Lm.m)) (slV a1 (N i nd (L.map Lm.m)).vA.length),lsV (M i nd (L.map Lm.m)) (slV a2 (M i nd (L.map Lm.m)).L.length)])/\Cx w0 w' (vU w0.heap.size (N i nd (L.map Lm.m),a1)::tlJ w0.heap.size (M i nd (L.map Lm.m),a2)::y'::l)
variable{n:Nd}
theorem I1{w':World}(H:Cx w0 w l)(k:Below w.heap.size w w'){m:Ms}{a1 a2:Ad}(h1:pR w.heap.size w' n a1.1 a1.2)(h2:M0 w.heap.size w' m a2.1 a2.2):Cx w0 w' (vU w0.heap.size (n,a1)::tlJ w0.heap.size (m,a2)::l):=by
 have hs:=H.size;refine H.add2 k _ _ (bY h1 hs) (bY h2 hs) (λj e=>(h1.lt j e).1) (λj e=>(h2.lt j e).1) (λj e1 e2=>?_);obtain⟨u1,g1⟩:=uR h1 e1;obtain⟨u2,g2⟩:=uR h2 e2;rw[g1] at g2
 cases g2
variable{Bn:Nat->List Ms}{Dn:Nat->Nd}
theorem aFr{fn:Nat}{N:Nd->List Ms->Nd}{M:Nd->List Ms->Ms}(h:xN N M fn):PvC w0 bad fn #[] (λ_=>N) (λ_=>M) (λ_ y=>y=emI) Dn Bn:=by
 intro i nd ao c mo mc L w y l hi _ _ _ _ hok hag hmr hl hlc hms hy H;refine (h nd ao c mo mc L w hok hag hmr Yo hlc (λm hm=>(hms m hm).L)).mono ?_;rintro e w' ⟨a',c',a2,c2,rfl,g1,g2,g3⟩;exact⟨(a',c'),(a2,c2),y,hy,rfl,I1 H g3 g1 g2⟩
def OW(bad:Int)(N:Nat->Nd->List Ms->Nd)(D:Nat->Nd×Ad)(X:Nat->List Lm×Ad)(i:Nat):Nd:=if (i:Int)=bad then (D i).1 else N i (D i).1 ((X i).1.map Lm.m)
def doM(bad:Int)(M:Nat->Nd->List Ms->Ms)(D:Nat->Nd×Ad)(X:Nat->List Lm×Ad)(i:Nat):Ms:=if (i:Int)=bad then jD else M i (D i).1 ((X i).1.map Lm.m)
theorem UJ(b:Nat)(fr:Int)(D:Nat->Nd×Ad)(bad:Int)(lv:Value)(X:Nat->List Lm×Ad)(n:Nat)(caps:Array Value)(N:Nat->Nd->List Ms->Nd)(M:Nat->Nd->List Ms->Ms)(Ys:Nat->It->Prop)(w0 w:World)(y0:It)(l:List It)[EntK Tryz.prog n](hp:PvC w0 bad n caps N M Ys (λi=>(D i).1) (λi=>(X i).1.map Lm.m))(hy0:Ys 0 y0)(hXp:∀i:Nat,(i:Int)=bad->∀y,Ys i y->Ys (i+1) y)(hid:∀i,i<4->(D i).1.id=(i:Nat))(hok:∀i,i<4->NdOK (D i).1)(hX:∀i,i<4->(X i).1.length<=1600/\∀c,c∈(X i).1->MsOK c.m)(H:Cx w0 w (lX w0.heap.size D::y0::vhI 74 b 303 303 (jT fr D bad lv X)::A9 w0.heap.size X::l)):Calls Tryz.prog 18 #[.pointer (some ⟨b,0,none⟩),.func (.func n) #[] caps] w λe w'=>∃(D':Nat->Nd×Ad) (T:Nat->Ms×Ad) (y':It),Ys 4 y'/\e=.returned (aN (yJ T) 0 16)/\(∀i,i<4->(D' i).1=OW bad N D X i)/\(∀i,i<4->(T i).1=doM bad M D X i)/\Cx w0 w' (OP w0.heap.size T::lX w0.heap.size D'::y'::vhI 74 b 303 303 (jT fr D' bad lv X)::A9 w0.heap.size X::l):=by
 refine bO Tryz.func18 rfl 45 rfl Yd (λA hs hd hb=>?_);have b0:A.eval (.tmp 0)=.pointer (some ⟨b,0,none⟩):=hb 0 _ rfl;have b1:A.eval (.tmp 1)=.func (.func n) #[] caps:=hb 1 _ rfl;clear hb;refine aD (aG ?_);refine gJ H ?_;intro w1 H z1;refine aC<|aD<|gJ H ?_;intro w2 H z2;refine aC<|aH<|aD ?_;iterate 4 refine qa ?_
 refine qg (Eq.trans (aX _ _ rfl ManyK.out Qv H.v4 Yo) (by rw[jG (λj hj=>aJM fr D bad lv X hj)])) ?_;repeat first|refine qa ?_|refine aC ?_
 refine aK ?_;refine bX (λr A W => ∃ (i : Nat) (D' : Nat -> Nd × Ad) (T : Nat -> Ms × Ad) (y : It), Ys i y /\ i <= 4 /\ 4 - i <= r /\ A.tmps.size = 45 /\ A.defers = [] /\ A.eval (.tmp 0) = .pointer (some ⟨b, 0, none⟩) /\ A.eval (.tmp 1) = .func (.func n) #[] caps /\ A.eval (.tmp 4) = .pointer (some ⟨w.heap.size, 0, none⟩) /\ A.eval (.tmp 5) = .pointer (some ⟨w1.heap.size, 0, none⟩) /\ A.eval (.tmp 12) = aN (J2 D) 0 296 /\ A.eval (.tmp 13) = .int .i64 (i : Int) /\
   (∀j,j<4->(D' j).1=if j<i then OW bad N D X j else (D j).1)/\(∀j,i<=j->D' j=D j)/\(∀j,j<4->(T j).1=if j<i then doM bad M D X j else jD)/\
   Cx w0 W (OP w0.heap.size T::lX w0.heap.size D'::y::vhI 68 w1.heap.size 16 16 (yJ T)::vhI 68 w.heap.size 16 16 (yJ (λ_=>(jD,(none,0))))::vhI 74 b 303 303 (jT fr D' bad lv X)::A9 w0.heap.size X::l)) 4
  ⟨0,D,λ_=>(jD,(none,0)),y0,hy0,Xz _,Yo,YA,YB,Qv,Qv,Qv,Qv,Qv,Qv,λj _=>(if_neg (Nat.not_lt_zero j)).symm,λ_ _=>rfl,λj _=>(if_neg (Nat.not_lt_zero j)).symm,
   (H.add (Below.refl _ _) (OP w0.heap.size (λ_=>(jD,(none,0)))) (λ_ _=>World.ownsRow_nil _ _ _ _) (λj ⟨_,_,e⟩=>absurd e (λe=>nomatch e))).f4.f4.f2⟩ (λr B W hI=>?_)
 clear b0 b1 hs hd H;obtain⟨i,D',T,y,hy,hi,hr,hs,hd,b0,b1,b4,b5,b12,b13,hD,hDr,hT,H⟩:=hI;refine aD (aG ?_);repeat first|refine qa ?_|refine aC ?_|refine aD ?_|refine aH ?_
 refine fB (λh=>?_) (λh=>?_)
 .have hin:i<4:=by have:=Xu h;omega
  refine aU<|aH (aK ?_);refine aD<|qa ?_;refine qg (Eq.trans (lD _ _ _ _ rfl ArrK.out ManyK.out Qv rfl Qv rfl hin _) (by rw[jG (λj hj=>LZ D hj)])) ?_;refine gJ H ?_;intro w3 H z3;refine qa ?_;refine fJ H.a0 aV (bP _ _ _ _) ?_;intro w4 H z4;repeat first|refine qa ?_|refine aC ?_|refine aD ?_
  refine fB (λh1=>?_) (λh1=>?_)
  .have e1:(i:Int)≠bad:=Xu h1;replace H:=H.drew;have hS:Its [vhI 37 W.heap.size 74 74 (ndF (D i).1 (slV (D i).2 (D i).1.vA.length)),vhI 74 b 303 303 (jT fr D' bad lv X)] w4.drew:=Its.cons H.o0 (Its.cons H.o6 (Its.nil _));have hXi:=hX i hin;have hAg:nJ w4.drew (D i).1 (D i).2.1 (D i).2.2:=by
    have ho:World.ownsRow _ _ _ _ _ _ _:=H.o2 i hin;obtain⟨a3,c3,e,hs3,_⟩:=iT ho;rw[hDr i (Xr _)] at e hs3
    cases e
    exact hs3
   have hBx:OwnM w4.drew w0.heap.size (slV (X i).2 (X i).1.length) (X i).1:=H.o7 i hin;have hBc:(X i).1.length<=(X i).2.2:=by
    obtain⟨a3,c3,e,h3⟩:=dP hBx.1
    cases e
    exact h3
   refine fG (S:=Its [vhI 37 W.heap.size 74 74 (ndF (D i).1 (slV (D i).2 (D i).1.vA.length)),vhI 74 b 303 303 (jT fr D' bad lv X)]) (.mv 0 (.mv 1 (.mv 2 (.mv 3 (.rd 4 (.mv 5 (.mv 6 (.mv 7 (.mv 8 (.mv 9 (.rd 10 (.mv 15 (.mv 16 (.mv 17 (.go 11 (.mv 12 (.mv 13 (.mv 14 (.mv 18 (.go 19 (.mv 20 (.go 21 .fin)))))))))))))))))))))) [19,21] Yl Yl ?_;iterate 10 first|refine qj ?_|refine qr hS ?_
   refine Yr rfl hS (λ_ H=>Eq.trans (aY _ _ rfl OneK.out Qv H.v1 Yo rfl) (by rw[show 0+299+i*1=299+i by omega,aLJ _ _ _ _ _ hin])) ?_;repeat refine qj ?_
   refine dC rfl rfl Yw (λK hK=>aGh _ _ _ _ rfl n Qv Qv Qv (hp i (D i).1 (D i).2.1 (D i).2.2 (X i).2.1 (X i).2.2 (X i).1 _ _ _ hin e1 rfl rfl (hid i hin) (hok i hin) hAg (hBx.rd (λc hc=>by have:=(hXi.2 c hc).n;omega)) hXi.1 hBc hXi.2 hy H.f3) ?_);rintro e w5 ⟨a1,a2,y2,hy2,rfl,H⟩;refine⟨_,rfl,hK _ _ (λ_ _=>Its.cons H.o3 (Its.cons H.o8 (Its.nil _))) ?_⟩;repeat refine qj ?_
   refine dK rfl Yw (λK hK=>aR _ _ _ _ rfl ManyK.out Qv Qv H.v8 Yo (bP _ _ _ _) rfl (λw6 m6 k6 z6=>hK _ (λh=>absurd h Yc) ?_));replace H:=H.a8.s k6 (m6.congr (λj hj=>Eq.trans (by rw[show 0+0+1+i*74=1+i*74 by omega];rfl) (aEs fr D' bad lv X hin (N i (D i).1 ((X i).1.map Lm.m),a1) j hj)));repeat refine qj ?_
   refine dK rfl Yw (λK hK=>aR _ _ _ _ rfl ManyK.out Qv Qv H.v6 Yo (eY _ _ _ _ _ _) rfl (λw7 m7 k7 z7=>hK _ (λh=>absurd h Yc) ?_));replace H:=H.a6.s k7 (m7.congr (λj hj=>Eq.trans (by rw[show 0+i*4=i*4 by omega];rfl) (aJO T i (M i (D i).1 ((X i).1.map Lm.m),a2) j hj)));refine nT<|aI ?_;repeat refine qa ?_
   refine aS ⟨4-(i+1),Yo,i+1,dS D' i (N i (D i).1 ((X i).1.map Lm.m),a1),dS T i (M i (D i).1 ((X i).1.map Lm.m),a2),y2,hy2,Yo,Yo,YA,YB,Qv,Qv,Qv,Qv,Qv,Eq.trans Qv YC,λj hj=>?_,λj hj=>(bZ _ _ Yo).trans (hDr j Yo),λj hj=>?_,
    (mJ (g:=tlJ w0.heap.size) i (mJ (g:=vU w0.heap.size) i H.f5.f1).f4.f2).f3.tl⟩
   .by_cases e:j=i
    .rw[e,dD,if_pos Yo];unfold OW;rw[if_neg e1]
    .rw[bZ _ _ e,hD j hj];by_cases e2:j<i
     .rw[if_pos e2,if_pos Yo]
     .rw[if_neg e2,if_neg Yo]
   .by_cases e:j=i
    .rw[e,dD,if_pos Yo];unfold doM;rw[if_neg e1]
    .rw[bZ _ _ e,hT j hj];by_cases e2:j<i
     .rw[if_pos e2,if_pos Yo]
     .rw[if_neg e2,if_neg Yo]
  .have e1:(i:Int)=bad:=by have:=Xg h1;omega
   refine fM<|aI ?_;repeat refine qa ?_
   refine aS ⟨4-(i+1),Yo,i+1,D',T,y,hXp i e1 y hy,Yo,Yo,YA,YB,Qv,Qv,Qv,Qv,Qv,Eq.trans Qv YC,λj hj=>?_,λj hj=>hDr j Yo,λj hj=>?_,H.tl⟩
   .rw[hD j hj];by_cases e:j=i
    .rw[if_neg Yo,if_pos Yo];unfold OW;rw[e,if_pos e1]
    .by_cases e2:j<i
     .rw[if_pos e2,if_pos Yo]
     .rw[if_neg e2,if_neg Yo]
   .rw[hT j hj];by_cases e:j=i
    .rw[if_neg Yo,if_pos Yo];unfold doM;rw[e,if_pos e1]
    .by_cases e2:j<i
     .rw[if_pos e2,if_pos Yo]
     .rw[if_neg e2,if_neg Yo]
 .obtain rfl:i=4:=by have:=Xg h;omega
  refine bQ (dU ?_);refine aD<|qa ?_;refine fJ H.a4 aV (aJe T) ?_;intro w5 H z5;refine aC<|aW (aP YB (pQ rfl Qv ManyK.out H.v4 (Xr _)) ⟨D',T,y,hy,rfl,λj hj=>?_,λj hj=>?_,H.f4.tl.f3.tl⟩)
  .rw[hD j hj,if_pos hj]
  .rw[hT j hj,if_pos hj]
variable{o:Oper}{f:Operand->Value}
theorem aDN(ho:o.op=.build 32 #[])(w:World):(execOp f o).run Tryz.prog w=.ok (.value (aN (λ_=>iV 0) 0 12)) w:=by
 unfold execOp;rw[ho];go_simp
 rfl
theorem WK:aMZ 33:=by
 intro n ao c frame rd w hok hag hfr hrd;have hag:Sr w ao n.vA.length c (tF (bA n)):=hag;refine bO Tryz.func33 rfl 31 rfl Yd (λA hs hd hb=>?_);have b0:A.eval (.tmp 0)=iI n (.slice ao n.vA.length c):=hb 0 _ rfl;have b1:A.eval (.tmp 1)=.int .i64 frame:=hb 1 _ rfl;have b2:A.eval (.tmp 2)=aN (λa=>iV (rd a)) 0 3:=hb 2 _ rfl;clear hb;refine aD (aG ?_);refine Zb (λw1 m1 k1 z1=>?_);have sr1:=hag.below k1;refine Zb (λw2 m2 k2 z2=>?_);have mn2:=m1.below k2;have sr2:=sr1.below k2;refine Za nD (λw3 m3 k3 z3=>?_);have mn3:=mn2.below k3;have mrd3:=m2.below k3;have sr3:=sr2.below k3;refine Za jH (λw4 m4 k4 z4=>?_);have mn4:=mn3.below k4;have mrd4:=mrd3.below k4;have mr4:=m3.below k4;have sr4:=sr3.below k4;refine aC<|aD<|Yx ?_;refine bI rfl Yw (λK hK=>bN _ 58 _ _ rfl Yf (qN _ _) (wN n ao c _ sr4 hok.vA) ?_);rintro e w5 ⟨a3,c3,rfl,o5,k5⟩;have n5:=k5.size;have mn5:=mn4.below k5;have mrd5:=mrd4.below k5;have mr5:=mr4.below k5;have mq5:=m4.below k5;refine⟨_,rfl,hK _ _ ?_⟩;refine Zs bJ mn5 (bP _ _ _ _) (λw6 mm6 k6 z6=>?_);have mn6:=Vh.congr mm6 (eX _ _);have mrd6:=mrd5.kept k6 Yo;have mr6:=mr5.kept k6 Yo;have mq6:=mq5.kept k6 Yo;have ow6:=bR o5 k6 (λe=>by have e1:=(o5.lt _ e).1;have e2:=(o5.lt _ e).2;omega);refine aC<|aH<|aD ?_;iterate 2 refine Yx ?_
 refine bI rfl Yw (λK hK=>bN _ 59 _ _ rfl Yf (iP _ _) (kQ n.id _) ?_);rintro e w7 ⟨rfl,k7⟩;have n7:=k7.size;have mn7:=mn6.below k7;have mrd7:=mrd6.below k7;have mr7:=mr6.below k7;have mq7:=mq6.below k7;have ow7:=bK ow6 k7;refine⟨_,rfl,hK _ _ ?_⟩;refine Yx ?_;refine aC ?_;have kA:Below w.heap.size w w7:=(aF (((((k1).trans (k2.mono Yo)).trans (k3.mono Yo)).trans (k4.mono Yo)).trans (k5.mono Yo)) k6 Yo Yo).trans (k7.mono Yo);refine lL (t:=jJ n.id) ((Ye rfl).trans (by rw[Bool.not_not])) (λhno=>?_) (λhno=>?_)
 .refine aD<|Yx ?_;refine Yq (mH rfl _) ?_;refine Zs bJ mr7 (bP _ _ _ _) (λw8 mm8 k8 z8=>?_);have mr8:=Vh.congr mm8 (eX _ _);have mn8:=mn7.kept k8 Yo;have mrd8:=mrd7.kept k8 Yo;have mq8:=mq7.kept k8 Yo;have ow8:=bR ow7 k8 (λe=>by have e1:=(o5.lt _ e).1;have e2:=(o5.lt _ e).2;omega);refine Zs dQ mq8 (eY _ _ _ _ _ _) (λw9 mm9 k9 z9=>?_);have mq9:=Vh.congr mm9 (dZ _ _);have mn9:=mn8.kept k9 Yo;have mrd9:=mrd8.kept k9 Yo;have mr9:=mr8.kept k9 Yo;have ow9:=bR ow8 k9 (λe=>by have e1:=(o5.lt _ e).1;have e2:=(o5.lt _ e).2;omega);refine aC<|aW ?_;simp only[Nx,Exit.then];refine aP YB (gG rfl Yf Yf bJ dQ mr9 (Xr _) mq9 (Xr _)) ⟨a3,c3,none,0,?_,bY ow9 Yo,?_,?_⟩
  .unfold senN kV;rw[if_pos hno,if_pos hno];rfl
  .unfold M0 kV;rw[if_pos hno];exact World.ownsRow_nil _ _ _ _
  .exact aF (aF kA k8 Yo Yo) k9 Yo Yo
 .obtain⟨h0,h3⟩:=qJ hno;obtain⟨I,hI⟩:∃I:Nat,n.id=(I:Int):=⟨n.id.toNat,Yo⟩;have hi4:I<4:=Yo;refine aU<|aD ?_;iterate 2 refine Yx ?_
  refine jZ Yw (λK hK=>iC _ _ _ _ rfl fZ Yf Yf mn7 Yc rfl rfl rfl (λw8 mm8 k8 z8=>hK _ ?_));have mn8:=Vh.congr mm8 (aEE _ _ _);have mrd8:=mrd7.kept k8 Yo;have mr8:=mr7.kept k8 Yo;have mq8:=mq7.kept k8 Yo;have ow8:=bR ow7 k8 (λe=>by have e1:=(o5.lt _ e).1;have e2:=(o5.lt _ e).2;omega);refine aC<|aD<|Yq (aDN rfl _) ?_;refine Yx ?_;refine Zs mY mn8 (λj hj=>rfl) (λw9 mm9 k9 z9=>?_);have mn9:=Vh.congr mm9 (aEC _ _ (λ_ _=>0));have mrd9:=mrd8.kept k9 Yo;have mr9:=mr8.kept k9 Yo;have mq9:=mq8.kept k9 Yo;have ow9:=bR ow8 k9 (λe=>by have e1:=(o5.lt _ e).1;have e2:=(o5.lt _ e).2;omega);refine aC<|aD ?_;iterate 2 refine Yx ?_
  refine Yq (aX _ _ rfl kG Yf mrd9 Yc) ?_;refine Yx ?_;refine Yq (bD _ _ _ _ rfl Tryz.underlying32 kG.size Yf Yf hI hi4 _) ?_;refine Zs kG mn9 (λj hj=>rfl) (λw10 mm10 k10 z10=>?_);have mn10:=Vh.congr mm10 (FY _ _ rd I hi4);have mrd10:=mrd9.kept k10 Yo;have mr10:=mr9.kept k10 Yo;have mq10:=mq9.kept k10 Yo;have ow10:=bR ow9 k10 (λe=>by have e1:=(o5.lt _ e).1;have e2:=(o5.lt _ e).2;omega);refine aC<|aD<|Yq (WQ rfl _) ?_;refine Yx ?_;refine Zs qM mn10 (λj hj=>rfl) (λw11 mm11 k11 z11=>?_);have mn11:=Vh.congr mm11 (aFc _ _ (λ_=>0));have mrd11:=mrd10.kept k11 Yo;have mr11:=mr10.kept k11 Yo;have mq11:=mq10.kept k11 Yo;have ow11:=bR ow10 k11 (λe=>by have e1:=(o5.lt _ e).1;have e2:=(o5.lt _ e).2;omega);refine aC<|aH ?_;have hS0:(λW=>Vh 37 W w.heap.size 74 74 (ndF { n with fr:=frame,di:=λs a=>if s=I then rd a else 0,he:=λ_=>0 } (.slice a3 n.vA.length c3))) w11.drew:=mn11;have mn0:Vh _ w11.drew _ _ _ _:=mn11;have mrd0:Vh _ w11.drew _ _ _ _:=mrd11;have mr0:Vh _ w11.drew _ _ _ _:=mr11;have mq0:Vh _ w11.drew _ _ _ _:=mq11;have ow0:=(show World.ownsRow w11.drew _ _ _ _ _ _ from ow11);have ez:w11.drew.heap.size=w11.heap.size:=rfl;refine fG (S:=λW=>Vh 37 W w.heap.size 74 74 (ndF { n with fr:=frame,di:=λs a=>if s=I then rd a else 0,he:=λ_=>0 } (.slice a3 n.vA.length c3))) (.rd 0 (.rd 1 (.mv 2 (.go 3 (.go 4 (.go 5 .fin)))))) [] Yl Yl ?_;refine Yr rfl hS0 (λ_ hS=>aX _ _ rfl bJ Yf hS Yc) ?_;refine Yr rfl hS0 (λ_ hS=>aX _ _ rfl bJ Yf hS Yc) ?_;refine Yk rfl (λ_=>yK _ rfl Yf _) ?_;refine dC rfl rfl Yw (λK hK=>iD _ 60 _ _ _ _ rfl Yf (aJ _ _) Yf (oU _ _ _ _) (uU { n with fr:=frame,di:=λs a=>if s=I then rd a else 0,he:=λ_=>0 } (.slice a3 n.vA.length c3) 1 (some ⟨w1.heap.size,0,none⟩) 3 3 rd _ (Or.inr ⟨_,rfl,λi hi=>by rw[add_at,Nat.zero_add];exact mrd0.cell hi⟩) Yc) ?_);rintro e w12 ⟨a2,c2,rfl,ov12,k12⟩;have n12:=k12.size;have mn12:=hS0.below k12;have mrd12:=mrd0.below k12;have mr12:=mr0.below k12;have mq12:=mq0.below k12;have ow12:=bK ow0 k12;have hS12:(λW=>Vh 37 W w.heap.size 74 74 (ndF { n with fr:=frame,di:=λs a=>if s=I then rd a else 0,he:=λ_=>0 } (.slice a3 n.vA.length c3))) w12:=mn12;refine⟨_,rfl,hK _ _ (λ_ _=>hS12) ?_⟩;refine dK rfl Yw (λK hK=>?_);refine aR _ _ _ _ rfl bJ Yf Yf mr12 Yc (bP _ _ _ _) rfl ?_;intro w13 mm13 k13 z13;have mr13:=Vh.congr mm13 (eX _ _);have mn13:=mn12.kept k13 Yo;have mrd13:=mrd12.kept k13 Yo;have mq13:=mq12.kept k13 Yo;have ow13:=bR ow12 k13 (λe=>by have e1:=(o5.lt _ e).1;have e2:=(o5.lt _ e).2;omega);have ov13:=gT ov12 k13 Yo;have hS13:(λW=>Vh 37 W w.heap.size 74 74 (ndF { n with fr:=frame,di:=λs a=>if s=I then rd a else 0,he:=λ_=>0 } (.slice a3 n.vA.length c3))) w13:=mn13;refine hK _ (λ_ _=>hS13) ?_;clear hK K;refine dK rfl Yw (λK hK=>?_);refine aR _ _ _ _ rfl dQ Yf Yf mq13 Yc (eY _ _ _ _ _ _) rfl ?_;intro w14 mm14 k14 z14;have mq14:=Vh.congr mm14 (dZ _ _);have mn14:=mn13.kept k14 Yo;have mrd14:=mrd13.kept k14 Yo;have mr14:=mr13.kept k14 Yo;have ow14:=bR ow13 k14 (λe=>by have e1:=(o5.lt _ e).1;have e2:=(o5.lt _ e).2;omega);have ov14:=gT ov13 k14 Yo;have hS14:(λW=>Vh 37 W w.heap.size 74 74 (ndF { n with fr:=frame,di:=λs a=>if s=I then rd a else 0,he:=λ_=>0 } (.slice a3 n.vA.length c3))) w14:=mn14;refine hK _ (λ_ _=>hS14) ?_;clear hK K;refine fV<|aW ?_;have e1:senN n frame rd={ n with fr:=frame,di:=λs a=>if s=I then rd a else 0,he:=λ_=>0 }:=by
   unfold senN;rw[if_neg (by rw[hno];decide)]
   congr 1
   funext s a
   rw[hI];by_cases c:s=I
   .rw[if_pos c,if_pos Yo]
   .rw[if_neg c,if_neg Yo]
  have e2:kV n frame rd=⟨1,n.id,frame,[rd 0,rd 1,rd 2]⟩:=by unfold kV;rw[if_neg (by rw[hno];decide)]
  rw[e1,e2];refine aP YB (gG rfl Yf Yf bJ dQ mr14 (Xr _) mq14 (Xr _)) ⟨a3,c3,a2,c2,rfl,bY ow14 Yo,bY ov14 Yo,aF (aF ((aT (aF (aF (aF (aF (kA) k8 Yo Yo) k9 Yo Yo) k10 Yo Yo) k11 Yo Yo)).trans (k12.mono Yo)) k13 Yo Yo) k14 Yo Yo⟩
theorem aEF{k l:List Int}(h:k.length=l.length)(hg:∀j,j<k.length->gL k j=gL l j):k=l:=by
 refine List.ext_getElem h (λj h1 h2=>?_);have:=hg j h1;unfold gL at this;rw[List.getD_eq_getElem?_getD,List.getElem?_eq_getElem h1,List.getD_eq_getElem?_getD,List.getElem?_eq_getElem h2] at this;exact this
theorem xE(x y:Value)(w:World):(callFunc 109 #[x,y]).run Tryz.prog w=.ok (.enter 109 #[x,y]) w:=Yh
theorem L9(k l:List Int)(ao bo:Option Addr)(ac bc:Nat)(w:World)(hk:k.length<=140737488351232)(hka:Sr w ao k.length ac (iF (gL k)))(hlb:Sr w bo l.length bc (iF (gL l))):Calls Tryz.prog 109 #[.slice ao k.length ac,.slice bo l.length bc] w λe w'=>e=.returned (.bool (decide (k=l)))/\Below w.heap.size w w':=by
 refine bO Tryz.func109 rfl 26 rfl Yd (λA hs hd hb=>?_);have b0:A.eval (.tmp 0)=.slice ao k.length ac:=hb 0 _ rfl;have b1:A.eval (.tmp 1)=.slice bo l.length bc:=hb 1 _ rfl;clear hb;refine aD (aG ?_);refine Yx ?_;refine aC<|aH<|aD ?_;by_cases hne:k.length=l.length
 .refine Yp ?_;iterate 3 refine Yx ?_
  refine Yq (dY (b:=false) _ _ rfl Yf Yf (Xf Yo) _) ?_;refine aC<|bH Yf (aU ?_);refine aH<|aD ?_;iterate 3 refine Yx ?_
  refine aC<|aK<|bX (λq A W=>∃i:Nat,i<=k.length/\k.length-i<=q/\A.tmps.size=26/\A.defers=[]/\A.eval (.tmp 0)=.slice ao k.length ac/\A.eval (.tmp 1)=.slice bo l.length bc/\A.eval (.tmp 12)=.int .i64 ((k.length:Nat):Int)/\A.eval (.tmp 13)=.int .i64 (i:Int)/\(∀j,j<i->gL k j=gL l j)/\Below w.heap.size w W) k.length ⟨0,Xz _,Yo,YA,YB,Yb,Yb,Yf,Yf,λj h=>absurd h Yo,Below.refl _ _⟩ (λq B W hI2=>?_);clear b0 b1 hs hd;obtain⟨i,hi,hr2,hs,hd,b0,b1,b12,b13,hal,kB⟩:=hI2;by_cases hin:i<k.length
  .obtain⟨x,rfl,hx⟩:∃x,ao=some x/\∀i,i<k.length->w.cell? (x.add i)=some (.int .i64 (gL k i)):=by
    rcases hka with ⟨_,e,_⟩|⟨x,e,hc⟩
    .omega
    .exact⟨x,e,λi hi=>hc i hi⟩
   obtain⟨y,rfl,hy⟩:∃y,bo=some y/\∀i,i<l.length->w.cell? (y.add i)=some (.int .i64 (gL l i)):=by
    rcases hlb with ⟨_,e,_⟩|⟨y,e,hc⟩
    .omega
    .exact⟨y,e,λi hi=>hc i hi⟩
   by_cases hd2:gL k i=gL l i
   .refine aD (aG ?_);refine Yx ?_;refine aC<|aH (bE Yf (aU ?_));refine aH (aK ?_);refine aD ?_;iterate 2 refine Yx ?_
    refine aC<|aH ?_;have hS0:(λZ=>Z.cell? (x.add i)=some (.int .i64 (gL k i))/\Z.cell? (y.add i)=some (.int .i64 (gL l i))) W.drew:=⟨aM (hx i hin) (aT kB),aM (hy i Yo) (aT kB)⟩;have ez:W.drew.heap.size=W.heap.size:=rfl;refine fG (S:=λZ=>Z.cell? (x.add i)=some (.int .i64 (gL k i))/\Z.cell? (y.add i)=some (.int .i64 (gL l i))) (.mv 0 (.mv 1 (.mv 2 (.rd 3 (.mv 4 (.mv 5 (.mv 6 (.rd 7 (.mv 8 .fin))))))))) [] Yl Yl ?_;iterate 2 refine Yj ?_
    refine Yk rfl (λ_=>cK _ _ rfl (a:=x) (n:=k.length) (cap:=ac) Yf Yf (i:=i) rfl Yo _) ?_;refine Yr rfl hS0 (λ_ hS=>cO _ rfl Yf hS.1) ?_;iterate 2 refine Yj ?_
    refine Yk rfl (λ_=>cK _ _ rfl (a:=y) (n:=l.length) (cap:=bc) Yf Yf (i:=i) rfl Yo _) ?_;refine Yr rfl hS0 (λ_ hS=>cO _ rfl Yf hS.2) ?_;refine Yk rfl (λ_=>dY (b:=false) _ _ rfl Yf Yf (Xf (λe=>e hd2)) _) ?_;refine fV<|bH Yf (fM ?_);refine aI ?_;iterate 2 refine Yx ?_
    exact aS ⟨k.length-(i+1),Yo,i+1,Yo,Yo,YA,YB,Yb,Yb,Yb,(Ye rfl).trans YC,(λj hj=>by
     by_cases e:j=i
     .rw[e];exact hd2
     .exact hal j Yo),aT kB⟩
   .refine aD (aG ?_);refine Yx ?_;refine aC<|aH (bE Yf (aU ?_));refine aH (aK ?_);refine aD ?_;iterate 2 refine Yx ?_
    refine aC<|aH ?_;have hS0:(λZ=>Z.cell? (x.add i)=some (.int .i64 (gL k i))/\Z.cell? (y.add i)=some (.int .i64 (gL l i))) W.drew:=⟨aM (hx i hin) (aT kB),aM (hy i Yo) (aT kB)⟩;have ez:W.drew.heap.size=W.heap.size:=rfl;refine fG (S:=λZ=>Z.cell? (x.add i)=some (.int .i64 (gL k i))/\Z.cell? (y.add i)=some (.int .i64 (gL l i))) (.mv 0 (.mv 1 (.mv 2 (.rd 3 (.mv 4 (.mv 5 (.mv 6 (.rd 7 (.mv 8 .fin))))))))) [] Yl Yl ?_;iterate 2 refine Yj ?_
    refine Yk rfl (λ_=>cK _ _ rfl (a:=x) (n:=k.length) (cap:=ac) Yf Yf (i:=i) rfl Yo _) ?_;refine Yr rfl hS0 (λ_ hS=>cO _ rfl Yf hS.1) ?_;iterate 2 refine Yj ?_
    refine Yk rfl (λ_=>cK _ _ rfl (a:=y) (n:=l.length) (cap:=bc) Yf Yf (i:=i) rfl Yo _) ?_;refine Yr rfl hS0 (λ_ hS=>cO _ rfl Yf hS.2) ?_;refine Yk rfl (λ_=>dY (b:=true) _ _ rfl Yf Yf (Xt hd2) _) ?_;refine fV<|bE Yf ?_;refine aD<|Yx ?_;refine aC<|aW ?_;simp only[Nx,Exit.inBlock,Exit.then];refine aP YB (dW rfl Yf) ⟨?_,aT kB⟩;rw[Xf (λe=>hd2 (by rw[e]))]
  .refine aD (aG ?_);refine Yx ?_;refine aC<|aH (bH Yf (bQ (dU ?_)));refine aD<|Yx ?_;refine aC<|aW (aP YB (dW rfl Yf) ⟨?_,kB⟩);rw[Xt (aEF hne (λj hj=>hal j Yo))]
 .refine Yp ?_;iterate 3 refine Yx ?_
  refine Yq (dY (b:=true) _ _ rfl Yf Yf (Xt Yo) _) ?_;refine aC<|bE Yf ?_;refine aD<|Yx ?_;refine aC<|aW ?_;simp only[Nx,Exit.then];refine aP YB (dW rfl Yf) ⟨?_,Below.refl _ _⟩;rw[Xf (λe=>hne (by rw[e]))]
theorem KV(k l:List Int)(ao bo:Option Addr)(ac bc:Nat)(w:World)(hk:k.length<=140737488351232)(hka:Sr w ao k.length ac (iF (gL k)))(hlb:Sr w bo l.length bc (iF (gL l))):Calls Tryz.prog 52 #[.slice ao k.length ac,.slice bo l.length bc] w λe w'=>e=.returned (.bool (decide (k=l)))/\Below w.heap.size w w':=by
 refine bO Tryz.func52 rfl 26 rfl Yd (λA hs hd hb=>?_);have b0:A.eval (.tmp 0)=.slice ao k.length ac:=hb 0 _ rfl;have b1:A.eval (.tmp 1)=.slice bo l.length bc:=hb 1 _ rfl;clear hb;refine aD (aG ?_);refine Yx ?_;refine aC<|aH<|aD ?_;by_cases hne:k.length=l.length
 .refine Yp ?_;iterate 3 refine Yx ?_
  refine Yq (dY (b:=false) _ _ rfl Yf Yf (Xf Yo) _) ?_;refine aC<|bH Yf (aU ?_);refine aH<|aD ?_;iterate 3 refine Yx ?_
  refine aC<|aK<|bX (λq A W=>∃i:Nat,i<=k.length/\k.length-i<=q/\A.tmps.size=26/\A.defers=[]/\A.eval (.tmp 0)=.slice ao k.length ac/\A.eval (.tmp 1)=.slice bo l.length bc/\A.eval (.tmp 12)=.int .i64 ((k.length:Nat):Int)/\A.eval (.tmp 13)=.int .i64 (i:Int)/\(∀j,j<i->gL k j=gL l j)/\Below w.heap.size w W) k.length ⟨0,Xz _,Yo,YA,YB,Yb,Yb,Yf,Yf,λj h=>absurd h Yo,Below.refl _ _⟩ (λq B W hI2=>?_);clear b0 b1 hs hd;obtain⟨i,hi,hr2,hs,hd,b0,b1,b12,b13,hal,kB⟩:=hI2;by_cases hin:i<k.length
  .obtain⟨x,rfl,hx⟩:∃x,ao=some x/\∀i,i<k.length->w.cell? (x.add i)=some (.int .i64 (gL k i)):=by
    rcases hka with ⟨_,e,_⟩|⟨x,e,hc⟩
    .omega
    .exact⟨x,e,λi hi=>hc i hi⟩
   obtain⟨y,rfl,hy⟩:∃y,bo=some y/\∀i,i<l.length->w.cell? (y.add i)=some (.int .i64 (gL l i)):=by
    rcases hlb with ⟨_,e,_⟩|⟨y,e,hc⟩
    .omega
    .exact⟨y,e,λi hi=>hc i hi⟩
   by_cases hd2:gL k i=gL l i
   .refine aD (aG ?_);refine Yx ?_;refine aC<|aH (bE Yf (aU ?_));refine aH (aK ?_);refine aD ?_;iterate 2 refine Yx ?_
    refine aC<|aH ?_;have hS0:(λZ=>Z.cell? (x.add i)=some (.int .i64 (gL k i))/\Z.cell? (y.add i)=some (.int .i64 (gL l i))) W.drew:=⟨aM (hx i hin) (aT kB),aM (hy i Yo) (aT kB)⟩;have ez:W.drew.heap.size=W.heap.size:=rfl;refine fG (S:=λZ=>Z.cell? (x.add i)=some (.int .i64 (gL k i))/\Z.cell? (y.add i)=some (.int .i64 (gL l i))) (.mv 0 (.mv 1 (.mv 2 (.rd 3 (.mv 4 (.mv 5 (.mv 6 (.rd 7 (.mv 8 .fin))))))))) [] Yl Yl ?_;iterate 2 refine Yj ?_
    refine Yk rfl (λ_=>cK _ _ rfl (a:=x) (n:=k.length) (cap:=ac) Yf Yf (i:=i) rfl Yo _) ?_;refine Yr rfl hS0 (λ_ hS=>cO _ rfl Yf hS.1) ?_;iterate 2 refine Yj ?_
    refine Yk rfl (λ_=>cK _ _ rfl (a:=y) (n:=l.length) (cap:=bc) Yf Yf (i:=i) rfl Yo _) ?_;refine Yr rfl hS0 (λ_ hS=>cO _ rfl Yf hS.2) ?_;refine Yk rfl (λ_=>dY (b:=false) _ _ rfl Yf Yf (Xf (λe=>e hd2)) _) ?_;refine fV<|bH Yf (fM ?_);refine aI ?_;iterate 2 refine Yx ?_
    exact aS ⟨k.length-(i+1),Yo,i+1,Yo,Yo,YA,YB,Yb,Yb,Yb,(Ye rfl).trans YC,(λj hj=>by
     by_cases e:j=i
     .rw[e];exact hd2
     .exact hal j Yo),aT kB⟩
   .refine aD (aG ?_);refine Yx ?_;refine aC<|aH (bE Yf (aU ?_));refine aH (aK ?_);refine aD ?_;iterate 2 refine Yx ?_
    refine aC<|aH ?_;have hS0:(λZ=>Z.cell? (x.add i)=some (.int .i64 (gL k i))/\Z.cell? (y.add i)=some (.int .i64 (gL l i))) W.drew:=⟨aM (hx i hin) (aT kB),aM (hy i Yo) (aT kB)⟩;have ez:W.drew.heap.size=W.heap.size:=rfl;refine fG (S:=λZ=>Z.cell? (x.add i)=some (.int .i64 (gL k i))/\Z.cell? (y.add i)=some (.int .i64 (gL l i))) (.mv 0 (.mv 1 (.mv 2 (.rd 3 (.mv 4 (.mv 5 (.mv 6 (.rd 7 (.mv 8 .fin))))))))) [] Yl Yl ?_;iterate 2 refine Yj ?_
    refine Yk rfl (λ_=>cK _ _ rfl (a:=x) (n:=k.length) (cap:=ac) Yf Yf (i:=i) rfl Yo _) ?_;refine Yr rfl hS0 (λ_ hS=>cO _ rfl Yf hS.1) ?_;iterate 2 refine Yj ?_
    refine Yk rfl (λ_=>cK _ _ rfl (a:=y) (n:=l.length) (cap:=bc) Yf Yf (i:=i) rfl Yo _) ?_;refine Yr rfl hS0 (λ_ hS=>cO _ rfl Yf hS.2) ?_;refine Yk rfl (λ_=>dY (b:=true) _ _ rfl Yf Yf (Xt hd2) _) ?_;refine fV<|bE Yf ?_;refine aD<|Yx ?_;refine aC<|aW ?_;simp only[Nx,Exit.inBlock,Exit.then];refine aP YB (dW rfl Yf) ⟨?_,aT kB⟩;rw[Xf (λe=>hd2 (by rw[e]))]
  .refine aD (aG ?_);refine Yx ?_;refine aC<|aH (bH Yf (bQ (dU ?_)));refine aD<|Yx ?_;refine aC<|aW (aP YB (dW rfl Yf) ⟨?_,kB⟩);rw[Xt (aEF hne (λj hj=>hal j Yo))]
 .refine Yp ?_;iterate 3 refine Yx ?_
  refine Yq (dY (b:=true) _ _ rfl Yf Yf (Xt Yo) _) ?_;refine aC<|bE Yf ?_;refine aD<|Yx ?_;refine aC<|aW ?_;simp only[Nx,Exit.then];refine aP YB (dW rfl Yf) ⟨?_,Below.refl _ _⟩;rw[Xf (λe=>hne (by rw[e]))]
def gN(id fr:Int)(L:List Lm)(kind many:Int)(s:Nat):Value:=match fL id fr L (s:Int) kind many with|some c=>lmV c|none=>.slice none 0 0
theorem aKG(id fr:Int)(L:List Lm)(kind many:Int):∀j,j<4->(gN id fr L kind many j).oneCell'=true:=by
 intro j _;unfold gN lmV;split<;>rfl
variable{L:List Lm}{c:Lm}
theorem qA(hc:L[i]?=some c):L.take (i+1)=L.take i++[c]:=by rw[List.take_add_one,hc];rfl
variable{kind fr many:Int}
theorem MJ{id s:Int}:fL id fr (L++[c]) s kind many=(fL id fr L s kind many).or (if iG id fr s kind many c.m then some c else none):=by simp[fL]
theorem wM{id:Int}(h:∀s:Nat,s<4->iG id fr (s:Int) kind many c.m=false\/(fL id fr L (s:Int) kind many).isSome=true):∀j,j<4->gN id fr L kind many j=gN id fr (L++[c]) kind many j:=by grind [gN,MJ]
theorem aMo{id:Int}{f:Nat}(hF:c.m.F=(f:Int))(hn:fL id fr L (f:Int) kind many=none)(hfit:iG id fr (f:Int) kind many c.m=true):∀j,j<4->stW (gN id fr L kind many) (0+f*1) (lmV c) j=gN id fr (L++[c]) kind many j:=by
 intro j hj;by_cases e:j=0+f*1
 .subst e;rw[jP];unfold gN;rw[MJ,Nat.zero_add,Nat.mul_one,hn,hfit];rfl
 .rw[gW _ _ e];unfold gN;rw[MJ];have e2:iG id fr (j:Int) kind many c.m=false:=by unfold iG;rw[Xf (show ¬c.m.F=(j:Int) by omega)];simp
  rw[e2]
  cases fL id fr L (j:Int) kind many<;>rfl
theorem xP(n:Nd)(nv:Value)(mo:Option Addr)(mc:Nat)(L:List Lm)(kind many:Int)(w:World)(hr:MRd w mo L)(hN:L.length<=140737488351232)(hm:0<many):Calls Tryz.prog 61 #[iI n nv,.slice mo L.length mc,.int .i64 kind,.int .i64 many] w λe w'=>e=.returned (aN (gN n.id n.fr L kind many) 0 4)/\Below w.heap.size w w':=by
 refine bO Tryz.func61 rfl 65 rfl Yd (λA hs hd hb=>?_);have b0:=hb 0 _ rfl;have b1:=hb 1 _ rfl;have b2:=hb 2 _ rfl;have b3:=hb 3 _ rfl;clear hb;refine aD (aG ?_);refine Zb (λw1 m1 k1 z1=>?_);refine Za aEV (λw2 m2 k2 z2=>?_);have mn2:=m1.below k2;refine aC<|aD<|Za aEV (λw3 m3 k3 z3=>?_);have mn3:=mn2.below k3;have mr3:=m2.below k3;refine aC<|aH<|aD<|Yx ?_;refine Yq (VC _ rfl Yf _) ?_;refine Yx ?_;refine aC<|aK<|bX (λr a W=>∃i:Nat,i<=L.length/\L.length-i<=r/\a.tmps.size=65/\a.defers=[]/\a.eval (.tmp 2)=.int .i64 kind/\a.eval (.tmp 3)=.int .i64 many/\a.eval (.tmp 4)=.pointer (some ⟨w.heap.size,0,none⟩)/\a.eval (.tmp 8)=.pointer (some ⟨w1.heap.size,0,none⟩)/\a.eval (.tmp 9)=.pointer (some ⟨w2.heap.size,0,none⟩)/\a.eval (.tmp 13)=.slice mo L.length mc/\a.eval (.tmp 14)=.int .i64 (L.length:Int)/\a.eval (.tmp 15)=.int .i64 (i:Int)/\Vh 37 W w.heap.size 74 74 (ndF n nv)/\Vh 120 W w1.heap.size 4 4 (λ_=>.slice none 0 0)/\Vh 120 W w2.heap.size 4 4 (gN n.id n.fr (L.take i) kind many)/\Below w.heap.size w W/\w3.heap.size<=W.heap.size) L.length ⟨0,Xz _,Yo,YA,YB,Yb,Yb,Yf,Yf,Yf,Yf,Yf,Yf,mn3,mr3,m3,(k1.trans (k2.mono Yo)).trans (k3.mono Yo),Yo⟩ (λr B W hI=>?_);clear b0 b1 b2 b3 hs hd;obtain⟨i,hi,hr2,hs,hd,b2,b3,b4,b8,b9,b13,b14,b15,mn,mr,mh,kB,hW⟩:=hI;by_cases hin:i<L.length
 .have hc:=List.getElem?_eq_getElem hin;obtain⟨c,ec⟩:∃c,c=L[i]:=⟨_,rfl⟩;rw[<-ec] at hc;obtain⟨bl,of,rfl,hq⟩:=(hr.below kB).1 Yo;have hcell:=hq i c hc;by_cases h1:c.m.K=kind
  .by_cases h2:c.m.R=n.fr
   .by_cases h3:(c.m.L.length:Int)=many
    .rcases h4:jJ c.m.F with _|_
     .obtain⟨f,hF,hf4⟩:∃f:Nat,c.m.F=(f:Int)/\f<4:=⟨c.m.F.toNat,by have:=qJ h4;omega,by have:=qJ h4;omega⟩;by_cases h5:c.m.F≠n.id
      .rcases hfl:fL n.id n.fr (L.take i) (f:Int) kind many with _|c2
       .have hfit:iG n.id n.fr (f:Int) kind many c.m=true:=by unfold iG;rw[Xt hF,Xt h5,Xt h1,Xt h2,Xt h3];rfl
        have hho:gN n.id n.fr (L.take i) kind many (0+f*1)=.slice none 0 0:=by unfold gN;rw[Nat.zero_add,Nat.mul_one,hfl]
        refine aD (aG ?_);refine Yx ?_;refine aC<|aH (bE Yf (aU ?_));refine aH (aK ?_);refine aD<|Yq (lV _ _ rfl Yb Yb rfl hin _) ?_;refine Yq (kJ _ rfl Yf hcell) ?_;refine Za jH (λw4 m4 k4 z4=>?_);have mn4:=mn.below k4;have mr4:=mr.below k4;have mh4:=mh.below k4;refine Zs dQ m4 (kX _) (λw5 mm5 k5 z5=>?_);have mm5:=Vh.congr mm5 (dZ _ _);have mn5:=mn4.kept k5 Yo;have mr5:=mr4.kept k5 Yo;have mh5:=mh4.kept k5 Yo;refine aC<|aD ?_;iterate 3 refine Yx ?_
        refine Yq (bL (b:=true) _ _ rfl Yf Yf (Xt h1) _) ?_;iterate 5 refine Yx ?_
        refine Yq (bL (b:=true) _ _ rfl Yf Yf (Xt h2) _) ?_;refine Yq (aL _ _ _ rfl Yf Yf _) ?_;iterate 5 refine Yx ?_
        refine Yq (bL (b:=true) _ _ rfl Yf Yf (Xt h3) _) ?_;refine Yq (aL _ _ _ rfl Yf Yf _) ?_;refine Yx ?_;refine aC<|aD ?_;iterate 4 refine Yx ?_
        refine bI rfl (dB (j:=1) rfl rfl rfl Yf) (λK hK=>?_);have C1:=kQ c.m.F w5;rw[h4] at C1;refine bN _ 59 _ _ rfl Yf (iP _ _) C1 ?_;rintro e w6 ⟨rfl,k6⟩;have n6:=k6.size;have mn6:=mn5.below k6;have mr6:=mr5.below k6;have mh6:=mh5.below k6;have mm6:=mm5.below k6;refine⟨_,rfl,?_⟩;refine hK _ _ ?_;clear hK K;refine Yq (aL _ _ _ rfl Yf Yf _) ?_;iterate 5 refine Yx ?_
        refine Yq (dY (b:=true) _ _ rfl Yf Yf (Xt h5) _) ?_;refine Yq (aL _ _ _ rfl Yf Yf _) ?_;iterate 3 refine Yx ?_
        refine Yq (bD _ _ _ _ rfl Tryz.underlying120 kF.size Yb Yf hF hf4 _) ?_;refine Yq (aY _ _ rfl kF Yf mh6 Yo hho) ?_;refine Yx ?_;refine Yq (bL (b:=true) _ _ rfl Yf (aJ _ _) (Xt rfl) _) ?_;refine Yq (aL _ _ _ rfl Yf Yf _) ?_;refine aC<|bE Yf ?_;refine aI ?_;iterate 4 refine Yx ?_
        refine Yq (bD _ _ _ _ rfl Tryz.underlying120 kF.size Yb Yf hF hf4 _) ?_;refine jZ Yw (λK hK=>iC _ _ _ _ rfl kF Yf Yf mh6 Yo rfl rfl rfl (λw7 mm7 k7 z7=>hK _ ?_));have mh7:=Vh.congr mm7 (aMo hF hfl hfit);have mn7:=mn6.kept k7 Yo;have mr7:=mr6.kept k7 Yo;have mm7:=mm6.kept k7 Yo;refine fD<|aI ?_;iterate 2 refine Yx ?_
        exact aS ⟨L.length-(i+1),Yo,i+1,Yo,Yo,YA,YB,Yb,Yb,Yb,Yb,Yb,Yb,Yb,(Ye rfl).trans YC,mn7,mr7,by rw[qA hc];exact mh7,aF ((aF (kB.trans (k4.mono Yo)) k5 Yo Yo).trans (k6.mono Yo)) k7 Yo Yo,Yo⟩
       .have hkeep:∀s:Nat,s<4->iG n.id n.fr (s:Int) kind many c.m=false\/(fL n.id n.fr (L.take i) (s:Int) kind many).isSome=true:=λs hs=>by
         by_cases e:s=f
         .right;rw[e,hfl];rfl
         .left;unfold iG;rw[Xf (show ¬c.m.F=(s:Int) by omega)];simp
        obtain⟨_,cfit⟩:=nS hfl;have clen:=sJ cfit;have hho:gN n.id n.fr (L.take i) kind many (0+f*1)=.slice c2.ao c2.m.L.length c2.cap:=by unfold gN;rw[Nat.zero_add,Nat.mul_one,hfl];rfl
        refine aD (aG ?_);refine Yx ?_;refine aC<|aH (bE Yf (aU ?_));refine aH (aK ?_);refine aD<|Yq (lV _ _ rfl Yb Yb rfl hin _) ?_;refine Yq (kJ _ rfl Yf hcell) ?_;refine Za jH (λw4 m4 k4 z4=>?_);have mn4:=mn.below k4;have mr4:=mr.below k4;have mh4:=mh.below k4;refine Zs dQ m4 (kX _) (λw5 mm5 k5 z5=>?_);have mm5:=Vh.congr mm5 (dZ _ _);have mn5:=mn4.kept k5 Yo;have mr5:=mr4.kept k5 Yo;have mh5:=mh4.kept k5 Yo;refine aC<|aD ?_;iterate 3 refine Yx ?_
        refine Yq (bL (b:=true) _ _ rfl Yf Yf (Xt h1) _) ?_;iterate 5 refine Yx ?_
        refine Yq (bL (b:=true) _ _ rfl Yf Yf (Xt h2) _) ?_;refine Yq (aL _ _ _ rfl Yf Yf _) ?_;iterate 5 refine Yx ?_
        refine Yq (bL (b:=true) _ _ rfl Yf Yf (Xt h3) _) ?_;refine Yq (aL _ _ _ rfl Yf Yf _) ?_;refine Yx ?_;refine aC<|aD ?_;iterate 4 refine Yx ?_
        refine bI rfl (dB (j:=1) rfl rfl rfl Yf) (λK hK=>?_);have C1:=kQ c.m.F w5;rw[h4] at C1;refine bN _ 59 _ _ rfl Yf (iP _ _) C1 ?_;rintro e w6 ⟨rfl,k6⟩;have n6:=k6.size;have mn6:=mn5.below k6;have mr6:=mr5.below k6;have mh6:=mh5.below k6;have mm6:=mm5.below k6;refine⟨_,rfl,?_⟩;refine hK _ _ ?_;clear hK K;refine Yq (aL _ _ _ rfl Yf Yf _) ?_;iterate 5 refine Yx ?_
        refine Yq (dY (b:=true) _ _ rfl Yf Yf (Xt h5) _) ?_;refine Yq (aL _ _ _ rfl Yf Yf _) ?_;iterate 3 refine Yx ?_
        refine Yq (bD _ _ _ _ rfl Tryz.underlying120 kF.size Yb Yf hF hf4 _) ?_;refine Yq (aY _ _ rfl kF Yf mh6 Yo hho) ?_;refine Yx ?_;refine Yq (bL (b:=false) _ _ rfl Yf (aJ _ _) (Xf Yo) _) ?_;refine Yq (aL _ _ _ rfl Yf Yf _) ?_;refine aC<|bH Yf (fM ?_);refine aI ?_;iterate 2 refine Yx ?_
        exact aS ⟨L.length-(i+1),Yo,i+1,Yo,Yo,YA,YB,Yb,Yb,Yb,Yb,Yb,Yb,Yb,(Ye rfl).trans YC,mn6,mr6,by rw[qA hc];exact Vh.congr mh6 (wM hkeep),(aF (kB.trans (k4.mono Yo)) k5 Yo Yo).trans (k6.mono Yo),Yo⟩
      .have hkeep:∀s:Nat,s<4->iG n.id n.fr (s:Int) kind many c.m=false\/(fL n.id n.fr (L.take i) (s:Int) kind many).isSome=true:=λs hs=>Or.inl (by unfold iG;rw[Xf (show ¬c.m.F≠n.id from h5)];simp)
       refine aD (aG ?_);refine Yx ?_;refine aC<|aH (bE Yf (aU ?_));refine aH (aK ?_);refine aD<|Yq (lV _ _ rfl Yb Yb rfl hin _) ?_;refine Yq (kJ _ rfl Yf hcell) ?_;refine Za jH (λw4 m4 k4 z4=>?_);have mn4:=mn.below k4;have mr4:=mr.below k4;have mh4:=mh.below k4;refine Zs dQ m4 (kX _) (λw5 mm5 k5 z5=>?_);have mm5:=Vh.congr mm5 (dZ _ _);have mn5:=mn4.kept k5 Yo;have mr5:=mr4.kept k5 Yo;have mh5:=mh4.kept k5 Yo;refine aC<|aD ?_;iterate 3 refine Yx ?_
       refine Yq (bL (b:=true) _ _ rfl Yf Yf (Xt h1) _) ?_;iterate 5 refine Yx ?_
       refine Yq (bL (b:=true) _ _ rfl Yf Yf (Xt h2) _) ?_;refine Yq (aL _ _ _ rfl Yf Yf _) ?_;iterate 5 refine Yx ?_
       refine Yq (bL (b:=true) _ _ rfl Yf Yf (Xt h3) _) ?_;refine Yq (aL _ _ _ rfl Yf Yf _) ?_;refine Yx ?_;refine aC<|aD ?_;iterate 4 refine Yx ?_
       refine bI rfl (dB (j:=1) rfl rfl rfl Yf) (λK hK=>?_);have C1:=kQ c.m.F w5;rw[h4] at C1;refine bN _ 59 _ _ rfl Yf (iP _ _) C1 ?_;rintro e w6 ⟨rfl,k6⟩;have n6:=k6.size;have mn6:=mn5.below k6;have mr6:=mr5.below k6;have mh6:=mh5.below k6;have mm6:=mm5.below k6;refine⟨_,rfl,?_⟩;refine hK _ _ ?_;clear hK K;refine Yq (aL _ _ _ rfl Yf Yf _) ?_;iterate 5 refine Yx ?_
       refine Yq (dY (b:=false) _ _ rfl Yf Yf (Xf h5) _) ?_;refine Yq (aL _ _ _ rfl Yf Yf _) ?_;refine Yx ?_;iterate 6 refine Yu ?_
       refine Yq (aO _ _ _ rfl Yf (aJ _ _) _) ?_;refine aC<|bH Yf (fM ?_);refine aI ?_;iterate 2 refine Yx ?_
       exact aS ⟨L.length-(i+1),Yo,i+1,Yo,Yo,YA,YB,Yb,Yb,Yb,Yb,Yb,Yb,Yb,(Ye rfl).trans YC,mn6,mr6,by rw[qA hc];exact Vh.congr mh6 (wM hkeep),(aF (kB.trans (k4.mono Yo)) k5 Yo Yo).trans (k6.mono Yo),Yo⟩
     .have hkeep:∀s:Nat,s<4->iG n.id n.fr (s:Int) kind many c.m=false\/(fL n.id n.fr (L.take i) (s:Int) kind many).isSome=true:=λs hs=>Or.inl (by unfold iG;rw[Xf (show ¬c.m.F=(s:Int) from λe=>by rw[e] at h4;unfold jJ at h4;simp at h4;omega)];simp)
      refine aD (aG ?_);refine Yx ?_;refine aC<|aH (bE Yf (aU ?_));refine aH (aK ?_);refine aD<|Yq (lV _ _ rfl Yb Yb rfl hin _) ?_;refine Yq (kJ _ rfl Yf hcell) ?_;refine Za jH (λw4 m4 k4 z4=>?_);have mn4:=mn.below k4;have mr4:=mr.below k4;have mh4:=mh.below k4;refine Zs dQ m4 (kX _) (λw5 mm5 k5 z5=>?_);have mm5:=Vh.congr mm5 (dZ _ _);have mn5:=mn4.kept k5 Yo;have mr5:=mr4.kept k5 Yo;have mh5:=mh4.kept k5 Yo;refine aC<|aD ?_;iterate 3 refine Yx ?_
      refine Yq (bL (b:=true) _ _ rfl Yf Yf (Xt h1) _) ?_;iterate 5 refine Yx ?_
      refine Yq (bL (b:=true) _ _ rfl Yf Yf (Xt h2) _) ?_;refine Yq (aL _ _ _ rfl Yf Yf _) ?_;iterate 5 refine Yx ?_
      refine Yq (bL (b:=true) _ _ rfl Yf Yf (Xt h3) _) ?_;refine Yq (aL _ _ _ rfl Yf Yf _) ?_;refine Yx ?_;refine aC<|aD ?_;iterate 4 refine Yx ?_
      refine bI rfl (dB (j:=1) rfl rfl rfl Yf) (λK hK=>?_);have C1:=kQ c.m.F w5;rw[h4] at C1;refine bN _ 59 _ _ rfl Yf (iP _ _) C1 ?_;rintro e w6 ⟨rfl,k6⟩;have n6:=k6.size;have mn6:=mn5.below k6;have mr6:=mr5.below k6;have mh6:=mh5.below k6;have mm6:=mm5.below k6;refine⟨_,rfl,?_⟩;refine hK _ _ ?_;clear hK K;refine Yq (aL _ _ _ rfl Yf Yf _) ?_;refine Yx ?_;iterate 5 refine Yu ?_
      refine Yq (aO _ _ _ rfl Yf (aJ _ _) _) ?_;refine Yx ?_;iterate 6 refine Yu ?_
      refine Yq (aO _ _ _ rfl Yf (aJ _ _) _) ?_;refine aC<|bH Yf (fM ?_);refine aI ?_;iterate 2 refine Yx ?_
      exact aS ⟨L.length-(i+1),Yo,i+1,Yo,Yo,YA,YB,Yb,Yb,Yb,Yb,Yb,Yb,Yb,(Ye rfl).trans YC,mn6,mr6,by rw[qA hc];exact Vh.congr mh6 (wM hkeep),(aF (kB.trans (k4.mono Yo)) k5 Yo Yo).trans (k6.mono Yo),Yo⟩
    .have hkeep:∀s:Nat,s<4->iG n.id n.fr (s:Int) kind many c.m=false\/(fL n.id n.fr (L.take i) (s:Int) kind many).isSome=true:=λs hs=>Or.inl (by unfold iG;rw[Xf (show ¬(c.m.L.length:Int)=many from h3)];simp)
     refine aD (aG ?_);refine Yx ?_;refine aC<|aH (bE Yf (aU ?_));refine aH (aK ?_);refine aD<|Yq (lV _ _ rfl Yb Yb rfl hin _) ?_;refine Yq (kJ _ rfl Yf hcell) ?_;refine Za jH (λw4 m4 k4 z4=>?_);have mn4:=mn.below k4;have mr4:=mr.below k4;have mh4:=mh.below k4;refine Zs dQ m4 (kX _) (λw5 mm5 k5 z5=>?_);have mm5:=Vh.congr mm5 (dZ _ _);have mn5:=mn4.kept k5 Yo;have mr5:=mr4.kept k5 Yo;have mh5:=mh4.kept k5 Yo;refine aC<|aD ?_;iterate 3 refine Yx ?_
     refine Yq (bL (b:=true) _ _ rfl Yf Yf (Xt h1) _) ?_;iterate 5 refine Yx ?_
     refine Yq (bL (b:=true) _ _ rfl Yf Yf (Xt h2) _) ?_;refine Yq (aL _ _ _ rfl Yf Yf _) ?_;iterate 5 refine Yx ?_
     refine Yq (bL (b:=false) _ _ rfl Yf Yf (Xf h3) _) ?_;refine Yq (aL _ _ _ rfl Yf Yf _) ?_;refine Yx ?_;refine aC<|aD ?_;iterate 2 refine Yx ?_
     iterate 3 refine Yu ?_
     refine Yq (aO _ _ _ rfl Yf (aJ _ _) _) ?_;refine Yx ?_;iterate 5 refine Yu ?_
     refine Yq (aO _ _ _ rfl Yf (aJ _ _) _) ?_;refine Yx ?_;iterate 6 refine Yu ?_
     refine Yq (aO _ _ _ rfl Yf (aJ _ _) _) ?_;refine aC<|bH Yf (fM ?_);refine aI ?_;iterate 2 refine Yx ?_
     exact aS ⟨L.length-(i+1),Yo,i+1,Yo,Yo,YA,YB,Yb,Yb,Yb,Yb,Yb,Yb,Yb,(Ye rfl).trans YC,mn5,mr5,by rw[qA hc];exact Vh.congr mh5 (wM hkeep),aF (kB.trans (k4.mono Yo)) k5 Yo Yo,Yo⟩
   .have hkeep:∀s:Nat,s<4->iG n.id n.fr (s:Int) kind many c.m=false\/(fL n.id n.fr (L.take i) (s:Int) kind many).isSome=true:=λs hs=>Or.inl (by unfold iG;rw[Xf (show ¬c.m.R=n.fr from h2)];simp)
    refine aD (aG ?_);refine Yx ?_;refine aC<|aH (bE Yf (aU ?_));refine aH (aK ?_);refine aD<|Yq (lV _ _ rfl Yb Yb rfl hin _) ?_;refine Yq (kJ _ rfl Yf hcell) ?_;refine Za jH (λw4 m4 k4 z4=>?_);have mn4:=mn.below k4;have mr4:=mr.below k4;have mh4:=mh.below k4;refine Zs dQ m4 (kX _) (λw5 mm5 k5 z5=>?_);have mm5:=Vh.congr mm5 (dZ _ _);have mn5:=mn4.kept k5 Yo;have mr5:=mr4.kept k5 Yo;have mh5:=mh4.kept k5 Yo;refine aC<|aD ?_;iterate 3 refine Yx ?_
    refine Yq (bL (b:=true) _ _ rfl Yf Yf (Xt h1) _) ?_;iterate 5 refine Yx ?_
    refine Yq (bL (b:=false) _ _ rfl Yf Yf (Xf h2) _) ?_;refine Yq (aL _ _ _ rfl Yf Yf _) ?_;refine Yx ?_;iterate 5 refine Yu ?_
    refine Yq (aO _ _ _ rfl Yf (aJ _ _) _) ?_;refine Yx ?_;refine aC<|aD ?_;iterate 2 refine Yx ?_
    iterate 3 refine Yu ?_
    refine Yq (aO _ _ _ rfl Yf (aJ _ _) _) ?_;refine Yx ?_;iterate 5 refine Yu ?_
    refine Yq (aO _ _ _ rfl Yf (aJ _ _) _) ?_;refine Yx ?_;iterate 6 refine Yu ?_
    refine Yq (aO _ _ _ rfl Yf (aJ _ _) _) ?_;refine aC<|bH Yf (fM ?_);refine aI ?_;iterate 2 refine Yx ?_
    exact aS ⟨L.length-(i+1),Yo,i+1,Yo,Yo,YA,YB,Yb,Yb,Yb,Yb,Yb,Yb,Yb,(Ye rfl).trans YC,mn5,mr5,by rw[qA hc];exact Vh.congr mh5 (wM hkeep),aF (kB.trans (k4.mono Yo)) k5 Yo Yo,Yo⟩
  .have hkeep:∀s:Nat,s<4->iG n.id n.fr (s:Int) kind many c.m=false\/(fL n.id n.fr (L.take i) (s:Int) kind many).isSome=true:=λs hs=>Or.inl (by unfold iG;rw[Xf (show ¬c.m.K=kind from h1)];simp)
   refine aD (aG ?_);refine Yx ?_;refine aC<|aH (bE Yf (aU ?_));refine aH (aK ?_);refine aD<|Yq (lV _ _ rfl Yb Yb rfl hin _) ?_;refine Yq (kJ _ rfl Yf hcell) ?_;refine Za jH (λw4 m4 k4 z4=>?_);have mn4:=mn.below k4;have mr4:=mr.below k4;have mh4:=mh.below k4;refine Zs dQ m4 (kX _) (λw5 mm5 k5 z5=>?_);have mm5:=Vh.congr mm5 (dZ _ _);have mn5:=mn4.kept k5 Yo;have mr5:=mr4.kept k5 Yo;have mh5:=mh4.kept k5 Yo;refine aC<|aD ?_;iterate 3 refine Yx ?_
   refine Yq (bL (b:=false) _ _ rfl Yf Yf (Xf h1) _) ?_;refine Yx ?_;iterate 5 refine Yu ?_
   refine Yq (aO _ _ _ rfl Yf (aJ _ _) _) ?_;refine Yx ?_;iterate 5 refine Yu ?_
   refine Yq (aO _ _ _ rfl Yf (aJ _ _) _) ?_;refine Yx ?_;refine aC<|aD ?_;iterate 2 refine Yx ?_
   iterate 3 refine Yu ?_
   refine Yq (aO _ _ _ rfl Yf (aJ _ _) _) ?_;refine Yx ?_;iterate 5 refine Yu ?_
   refine Yq (aO _ _ _ rfl Yf (aJ _ _) _) ?_;refine Yx ?_;iterate 6 refine Yu ?_
   refine Yq (aO _ _ _ rfl Yf (aJ _ _) _) ?_;refine aC<|bH Yf (fM ?_);refine aI ?_;iterate 2 refine Yx ?_
   exact aS ⟨L.length-(i+1),Yo,i+1,Yo,Yo,YA,YB,Yb,Yb,Yb,Yb,Yb,Yb,Yb,(Ye rfl).trans YC,mn5,mr5,by rw[qA hc];exact Vh.congr mh5 (wM hkeep),aF (kB.trans (k4.mono Yo)) k5 Yo Yo,Yo⟩
 .refine aD (aG ?_);refine Yx ?_;obtain rfl:i=L.length:=Yo;rw[List.take_length] at mh;refine aC<|aH (bH Yf (bQ (dU ?_)));refine aD<|Yx ?_;refine Zs IG mr (aKG _ _ _ _ _) (λw4 mm4 k4 z4=>?_);have mr4:=Vh.congr mm4 (dZ _ _);have mn4:=mn.kept k4 Yo;have mh4:=mh.kept k4 Yo;refine aC<|aW (aP YB (pQ rfl Yb IG mr4 (Xr _)) ⟨rfl,aF kB k4 Yo Yo⟩)
theorem TF(x:Value)(w:World):(callFunc 74 #[x]).run Tryz.prog w=.ok (.enter 74 #[x]) w:=Yh
def jC(n:Nd)(L:List Lm)(p q:Nat):Option Lm:=match fL n.id n.fr L (p:Int) 5 24,fL n.id n.fr L (q:Int) 5 24 with|some a,some b=>if a.m.L=b.m.L then some a else none|_,_=>none
def yA(n:Nd)(L:List Lm):Option Lm:=prs.findSome? λp=>jC n L p.1 p.2
def F8:Option Lm->Value
 |some c=>lmV c
 |none=>.slice none 0 0
theorem WU(h:∀p q,p<q->q<4->jC n L p q=none):yA n L=none:=by
 unfold yA;rw[List.findSome?_eq_none_iff];intro p hp;unfold prs at hp;simp only[List.mem_cons,List.not_mem_nil,or_false] at hp;rcases hp with rfl|rfl|rfl|rfl|rfl|rfl<;>exact h _ _ Yc Yc
theorem NN{k:Nat}(hik:i<k)(hk:k<4)(h:jC n L i k=some c)(hb:∀p q,p<q->q<4->(p<i\/(p=i/\q<k))->jC n L p q=none):yA n L=some c:=by
 unfold yA prs
 match i,k,hik,hk with
 |0,1,_,_=>simp only[List.findSome?,h]
 |0,2,_,_=>simp only[List.findSome?,hb 0 1 Yc Yc Yo,h]
 |0,3,_,_=>simp only[List.findSome?,hb 0 1 Yc Yc Yo,hb 0 2 Yc Yc Yo,h]
 |1,2,_,_=>simp only[List.findSome?,hb 0 1 Yc Yc Yo,hb 0 2 Yc Yc Yo,hb 0 3 Yc Yc Yo,h]
 |1,3,_,_=>simp only[List.findSome?,hb 0 1 Yc Yc Yo,hb 0 2 Yc Yc Yo,hb 0 3 Yc Yc Yo,hb 1 2 Yc Yc Yo,h]
 |2,3,_,_=>simp only[List.findSome?,hb 0 1 Yc Yc Yo,hb 0 2 Yc Yc Yo,hb 0 3 Yc Yc Yo,hb 1 2 Yc Yc Yo,hb 1 3 Yc Yc Yo,h]
 |i+3,k,h1,h2=>exact absurd h1 Yo
def sO(i:Nat):Nat:=if 4=i then 0 else i
theorem IC(h:i≠4):sO i=i:=if_neg (Ne.symm h)
section
variable {f:Operand->Value} {o:Oper}
variable{z:Int}
theorem aHN(x y:Operand)(ho:o.op=.slice 120 x (some y) none none){b:Nat}(hx:f x=.pointer (some ⟨b,0,none⟩))(hy:f y=.int .i64 z)(hz:z=(i:Int))(hi:i<=4)(w:World):(execOp f o).run Tryz.prog w=.ok (.value (.slice (some ⟨b,sO i,none⟩) (4-i) (4-i))) w:=by
 subst hz;have:i=0\/i=1\/i=2\/i=3\/i=4:=Yo;unfold execOp;rw[ho];simp only[Option.map_some,Option.map_none];rw[hx,hy];clear hx hy ho hi;rcases this with rfl|rfl|rfl|rfl|rfl<;>go_simp<;>rfl
variable{ao:Option Addr}
theorem aCD(x:Operand)(ho:o.op=.call { callee:=.builtin .len,args:=#[x],argTypes:=#[165] }){n c:Nat}(hx:f x=.slice ao n c)(w:World):(execOp f o).run Tryz.prog w=.ok (.value (.int .i64 ((n:Nat):Int))) w:=by
 unfold execOp;rw[ho];dsimp only;go_simp
theorem I5(x y:Operand)(ho:o.op=.indexAddr 165 x y){b off n cap:Nat}(hx:f x=.slice (some ⟨b,off,none⟩) n cap)(hy:f y=.int .i64 z)(hz:z=(i:Int))(hi:i<n)(w:World):(execOp f o).run Tryz.prog w=.ok (.value (.pointer (some ⟨b,off+i,none⟩))) w:=by
 subst hz;have hi2:(i:Int)<n:=Yo;unfold execOp;rw[ho];dsimp only;rw[hx,hy];go_simp
end
theorem aFb(n:Nd)(mo:Option Addr)(L:List Lm)(w:World)(hmr:MRd w mo L):Calls Tryz.prog 74 #[aN (gN n.id n.fr L 5 24) 0 4] w λe w'=>e=.returned (F8 (yA n L))/\Below w.heap.size w w':=by
 refine bO Tryz.func74 rfl 31 rfl Yd (λA hs hd hb=>?_);have b0:A.eval (.tmp 0)=aN (gN n.id n.fr L 5 24) 0 4:=hb 0 _ rfl;clear hb;refine aD (aG ?_);refine Zb (λw1 m1 k1 z1=>?_);refine Yx ?_;refine aC<|aH<|aD ?_;iterate 2 refine Yx ?_
 refine aC<|aK<|bX (λq A W=>∃i:Nat,i<=4/\4-i<=q/\A.tmps.size=31/\A.defers=[]/\A.eval (.tmp 1)=.pointer (some ⟨w.heap.size,0,none⟩)/\A.eval (.tmp 7)=aN (gN n.id n.fr L 5 24) 0 4/\A.eval (.tmp 8)=.int .i64 (i:Int)/\(∀p q,p<q->q<4->p<i->jC n L p q=none)/\Vh 120 W w.heap.size 4 4 (gN n.id n.fr L 5 24)/\Below w.heap.size w W/\w1.heap.size<=W.heap.size) 4 ⟨0,Yo,Yo,YA,YB,Yf,Yf,Yf,λp q _ _ h=>absurd h Yo,m1,k1,Yo⟩ (λq B W hI2=>?_);clear b0 hs hd;obtain⟨i,hi,hr2,hs,hd,b1,b7,b8,hno,mh,kB,hW⟩:=hI2;by_cases hin:i<4
 .refine aD (aG ?_);refine Yx ?_;refine aC<|aH (bE Yf (aU ?_));refine aH (aK ?_);refine aD<|Yx ?_;refine Yq (oL _ _ _ _ rfl Tryz.underlying120 kF Yb Yb rfl hin _) ?_;iterate 2 refine Yx ?_
  refine aC<|aD ?_;iterate 2 refine Yx ?_
  refine Yq (aHN (i:=i+1) _ _ rfl Yb Yf YC Yo _) ?_;refine Yq (aCD _ rfl Yf _) ?_;refine Yx ?_;refine aC<|aK<|bX (λq A W=>∃x:Nat,x<=3-i/\3-i-x<=q/\A.tmps.size=31/\A.defers=[]/\A.eval (.tmp 1)=.pointer (some ⟨w.heap.size,0,none⟩)/\A.eval (.tmp 7)=aN (gN n.id n.fr L 5 24) 0 4/\A.eval (.tmp 8)=.int .i64 (i:Int)/\A.eval (.tmp 3)=.int .i64 (i:Int)/\A.eval (.tmp 4)=gN n.id n.fr L 5 24 i/\A.eval (.tmp 14)=.slice (some ⟨w.heap.size,sO (i+1),none⟩) (4-(i+1)) (4-(i+1))/\A.eval (.tmp 15)=.int .i64 ((4-(i+1):Nat):Int)/\A.eval (.tmp 16)=.int .i64 (x:Int)/\(∀p q,p<q->q<4->(p<i\/(p=i/\q<i+1+x))->jC n L p q=none)/\Vh 120 W w.heap.size 4 4 (gN n.id n.fr L 5 24)/\Below w.heap.size w W/\w1.heap.size<=W.heap.size) (3-i) ⟨0,Yo,Yo,YA,YB,Yb,Yb,Yb,Yf,Yf,Yf,Yf,Yf,(λp q h1 h2 h3=>hno p q h1 h2 Yo),mh,kB,hW⟩ (λq3 B3 W3 hI3=>?_);clear b1 b7 b8 hs hd mh hno;obtain⟨x,hx,hr3,hs,hd,b1,b7,b8,b3,b4,b14,b15,b16,hno,mh,kB3,hW3⟩:=hI3;by_cases hin3:x<3-i
  .have hi3:i+1≠4:=Yo;have hin3b:x<4-(i+1):=Yo;have esO:sO (i+1)+x=i+1+x:=by rw[IC hi3]
   have b4r:=b4;rcases hfi:fL n.id n.fr L (i:Int) 5 24 with _|ci
   .have b4:B3.eval (.tmp 4)=.slice none 0 0:=b4.trans (by unfold gN;rw[hfi]);have hpk:jC n L i (i+1+x)=none:=by unfold jC;rw[hfi]
    obtain⟨ok,hok⟩:∃v,gN n.id n.fr L 5 24 (sO (i+1)+x)=v:=⟨_,rfl⟩;refine aD (aG ?_);refine Yx ?_;refine aC<|aH (bE Yf (aU ?_));refine aH (aK ?_);refine aD<|Yq (I5 _ _ rfl Yb Yb rfl hin3b _) ?_;refine Yq (aY _ _ rfl kF Yf mh (by rw[IC hi3];omega) hok) ?_;refine Yx ?_;refine aC<|aD ?_;iterate 2 refine Yx ?_
    refine Yq (fF (b:=false) _ _ rfl Yf (aJ _ _) (Xf Yo) _) ?_;refine Yx ?_;iterate 3 refine Yu ?_
    refine Yq (aO _ _ _ rfl Yf (aJ _ _) _) ?_;refine aC<|bH Yf (fM ?_);refine aI ?_;iterate 2 refine Yx ?_
    exact aS ⟨3-i-(x+1),Yo,x+1,Yo,Yo,YA,YB,Yb,Yb,Yb,Yb,(wU rfl b4r),Yb,Yb,(Ye rfl).trans YC,(λp q h1 h2 h3=>by
     by_cases e:p=i/\q=i+1+x
     .rw[e.1,e.2];exact hpk
     .exact hno p q h1 h2 Yo),mh,kB3,Yo⟩
   .obtain⟨mci,fci⟩:=nS hfi;have lci:=sJ fci;have b4:B3.eval (.tmp 4)=.slice ci.ao ci.m.L.length ci.cap:=b4.trans (by unfold gN;rw[hfi];rfl);rcases hfk:fL n.id n.fr L ((i+1+x:Nat):Int) 5 24 with _|ck
    .have hok:gN n.id n.fr L 5 24 (sO (i+1)+x)=.slice none 0 0:=by rw[esO];unfold gN;rw[hfk]
     have hpk:jC n L i (i+1+x)=none:=by unfold jC;rw[hfi,hfk]
     have hnil:¬ci.m.L=[]:=λe=>by rw[e] at lci;exact absurd lci Yc
     refine aD (aG ?_);refine Yx ?_;refine aC<|aH (bE Yf (aU ?_));refine aH (aK ?_);refine aD<|Yq (I5 _ _ rfl Yb Yb rfl hin3b _) ?_;refine Yq (aY _ _ rfl kF Yf mh (by rw[IC hi3];omega) hok) ?_;refine Yx ?_;refine aC<|aD ?_;iterate 2 refine Yx ?_
     refine Yq (fF (b:=true) _ _ rfl Yf (aJ _ _) (Xt Yo) _) ?_;iterate 3 refine Yx ?_
     refine bI rfl (dB (j:=3) rfl rfl rfl Yf) (λK hK=>?_);have C21:=L9 ci.m.L [] ci.ao none ci.cap 0 W3 (by have:=(hmr.2 ci mci).2.2;omega) ((hmr.2 ci mci).below kB3).1 (Or.inl ⟨rfl,rfl,rfl⟩);rw[Xf hnil] at C21;refine dG _ 109 _ _ _ rfl Yf Yf (xE _ _ _) C21 ?_;rintro e w21 ⟨rfl,k21⟩;have n21:=k21.size;have mh21:=mh.below k21;refine⟨_,rfl,?_⟩;refine hK _ _ ?_;clear hK K;refine Yq (aL _ _ _ rfl Yf Yf _) ?_;refine aC<|bH Yf (fM ?_);refine aI ?_;iterate 2 refine Yx ?_
     exact aS ⟨3-i-(x+1),Yo,x+1,Yo,Yo,YA,YB,Yb,Yb,Yb,Yb,(wU rfl b4r),Yb,Yb,(Ye rfl).trans YC,(λp q h1 h2 h3=>by
      by_cases e:p=i/\q=i+1+x
      .rw[e.1,e.2];exact hpk
      .exact hno p q h1 h2 Yo),mh21,kB3.trans (k21.mono Yo),Yo⟩
    .obtain⟨mck,fck⟩:=nS hfk;have hok:gN n.id n.fr L 5 24 (sO (i+1)+x)=.slice ck.ao ck.m.L.length ck.cap:=by rw[esO];unfold gN;rw[hfk];rfl
     by_cases he:ci.m.L=ck.m.L
     .have hpk:jC n L i (i+1+x)=some ci:=by unfold jC;rw[hfi,hfk];exact if_pos he
      refine aD (aG ?_);refine Yx ?_;refine aC<|aH (bE Yf (aU ?_));refine aH (aK ?_);refine aD<|Yq (I5 _ _ rfl Yb Yb rfl hin3b _) ?_;refine Yq (aY _ _ rfl kF Yf mh (by rw[IC hi3];omega) hok) ?_;refine Yx ?_;refine aC<|aD ?_;iterate 2 refine Yx ?_
      refine Yq (fF (b:=true) _ _ rfl Yf (aJ _ _) (Xt Yo) _) ?_;iterate 3 refine Yx ?_
      refine bI rfl (dB (j:=3) rfl rfl rfl Yf) (λK hK=>?_);have C21:=L9 ci.m.L ck.m.L ci.ao ck.ao ci.cap ck.cap W3 (by have:=(hmr.2 ci mci).2.2;omega) ((hmr.2 ci mci).below kB3).1 ((hmr.2 ck mck).below kB3).1;rw[Xt he] at C21;refine dG _ 109 _ _ _ rfl Yf Yf (xE _ _ _) C21 ?_;rintro e w21 ⟨rfl,k21⟩;have n21:=k21.size;have mh21:=mh.below k21;refine⟨_,rfl,?_⟩;refine hK _ _ ?_;clear hK K;refine Yq (aL _ _ _ rfl Yf Yf _) ?_;refine aC<|bE Yf ?_;refine aD ?_;iterate 2 refine Yx ?_
      refine aC<|aW ?_;simp only[Nx,Exit.inBlock,Exit.then];refine aP YB (dW rfl Yf) ⟨?_,kB3.trans (k21.mono Yo)⟩;unfold F8;rw[NN (show i<i+1+x by omega) Yo hpk (λp q h1 h2 h3=>hno p q h1 h2 h3)];rfl
     .have hpk:jC n L i (i+1+x)=none:=by unfold jC;rw[hfi,hfk];exact if_neg he
      refine aD (aG ?_);refine Yx ?_;refine aC<|aH (bE Yf (aU ?_));refine aH (aK ?_);refine aD<|Yq (I5 _ _ rfl Yb Yb rfl hin3b _) ?_;refine Yq (aY _ _ rfl kF Yf mh (by rw[IC hi3];omega) hok) ?_;refine Yx ?_;refine aC<|aD ?_;iterate 2 refine Yx ?_
      refine Yq (fF (b:=true) _ _ rfl Yf (aJ _ _) (Xt Yo) _) ?_;iterate 3 refine Yx ?_
      refine bI rfl (dB (j:=3) rfl rfl rfl Yf) (λK hK=>?_);have C21:=L9 ci.m.L ck.m.L ci.ao ck.ao ci.cap ck.cap W3 (by have:=(hmr.2 ci mci).2.2;omega) ((hmr.2 ci mci).below kB3).1 ((hmr.2 ck mck).below kB3).1;rw[Xf he] at C21;refine dG _ 109 _ _ _ rfl Yf Yf (xE _ _ _) C21 ?_;rintro e w21 ⟨rfl,k21⟩;have n21:=k21.size;have mh21:=mh.below k21;refine⟨_,rfl,?_⟩;refine hK _ _ ?_;clear hK K;refine Yq (aL _ _ _ rfl Yf Yf _) ?_;refine aC<|bH Yf (fM ?_);refine aI ?_;iterate 2 refine Yx ?_
      exact aS ⟨3-i-(x+1),Yo,x+1,Yo,Yo,YA,YB,Yb,Yb,Yb,Yb,(wU rfl b4r),Yb,Yb,(Ye rfl).trans YC,(λp q h1 h2 h3=>by
       by_cases e:p=i/\q=i+1+x
       .rw[e.1,e.2];exact hpk
       .exact hno p q h1 h2 Yo),mh21,kB3.trans (k21.mono Yo),Yo⟩
  .refine aD (aG ?_);refine Yx ?_;refine aC<|aH (bH Yf (bQ (D5 ?_)));refine aI ?_;iterate 2 refine Yx ?_
   exact aS ⟨4-(i+1),Yo,i+1,Yo,Yo,YA,YB,Yb,Yb,(Ye rfl).trans YC,(λp q h1 h2 h3=>hno p q h1 h2 Yo),mh,kB3,hW3⟩
 .refine aD (aG ?_);refine Yx ?_;refine aC<|aH (bH Yf (bQ (dU ?_)));refine aD<|Yx ?_;refine aC<|aW (aP YB (dW rfl Yf) ⟨?_,kB⟩);unfold F8;rw[WU (λp q h1 h2=>hno p q h1 h2 Yo)]
def qC(n:Nd)(l:List Ms):Nd:=if jJ n.id then dI else gP n l
def aLE(fn:Nat):Prop:=∀(n:Nd) (ao:Option Addr) (c:Nat) (mo:Option Addr) (mc:Nat) (L:List Lm) (w:World),NdOK n->nJ w n ao c->MRd w mo L->L.length<=140737488351232->L.length<=mc->(∀m,m∈L->∀i,R64 (gL m.m.L i))->
 Calls Tryz.prog fn #[iI n (.slice ao n.vA.length c),.slice mo L.length mc] w λe w'=>∃a' c',e=.returned (.tuple #[iI (gP n (L.map Lm.m)) (.slice a' (gP n (L.map Lm.m)).vA.length c'),aN (nG (qC n (L.map Lm.m))) 0 14])/\pR w.heap.size w' (gP n (L.map Lm.m)) a' c'/\Below w.heap.size w w'
def cloT(n:Nd)(L:List Lm):Nd:=match yA n L with|some c=>if unOK c.m.L then { n with ax:=unA c.m.L,rl:=unR c.m.L } else n|none=>n
theorem aJd(n:Nd)(L:List Lm):(cloT n L).vA=n.vA:=by
 unfold cloT;split
 .split<;>rfl
 .rfl
theorem aHO(n:Nd)(L:List Lm)(p:Nat×Nat):KY n (L.map Lm.m) p=(jC n L p.1 p.2).map (λc=>c.m.L):=by
 unfold KY jC;have h1:=qO n L p.1 5 24;have h2:=qO n L p.2 5 24;rw[show ((24:Nat):Int)=24 from rfl] at h1 h2;rw[<-h1, <-h2]
 cases fL n.id n.fr L (p.1:Int) 5 24 with
 |none=>rfl
 |some a=>
  cases fL n.id n.fr L (p.2:Int) 5 24 with
  |none=>rfl
  |some b=>
   show (if a.m.L=b.m.L then some a.m.L else none)=Option.map _ (if a.m.L=b.m.L then some a else none)
   split<;>rfl
theorem aHi{β γ:Type}(g:α->Option β)(f:β->γ)(l:List α):l.findSome? (λp=>(g p).map f)=(l.findSome? g).map f:=by
 induction l with
 |nil=>rfl
 |cons x l ih=>
  rw[List.findSome?_cons,List.findSome?_cons]
  cases g x with
  |none=>exact ih
  |some b=>rfl
theorem aLw(n:Nd)(L:List Lm):prs.findSome? (KY n (L.map Lm.m))=(yA n L).map (λc=>c.m.L):=by
 unfold yA;rw[<-aHi]
 congr 1
 funext p
 exact aHO n L p
theorem BM{l:List Ms}(hno:jJ n.id=false)(h:¬(n.vS=true/\n.vX≠n.dg)):gP n l=n:=by
 unfold gP aBp;rw[if_neg (by rw[hno];decide),if_neg h]
theorem TS(hno:jJ n.id=false)(h:n.vS=true/\n.vX≠n.dg):gP n (L.map Lm.m)=cloT n L:=by
 unfold gP aBp cloT;rw[if_neg (by rw[hno];decide),if_pos h,aLw]
 cases yA n L<;>rfl
theorem aFv{p q:Nat}(h:jC n L p q=some c):c∈L/\c.m.L.length=24:=by
 unfold jC at h
 cases h1:fL n.id n.fr L (p:Int) 5 24 with
 |none=>rw[h1] at h;cases h
 |some a=>
  rw[h1] at h
  cases h2:fL n.id n.fr L (q:Int) 5 24 with
  |none=>rw[h2] at h;cases h
  |some b=>
   rw[h2] at h;dsimp only at h;split at h
   .cases h
    obtain⟨m,f⟩:=nS h1;exact⟨m,by have:=sJ f;omega⟩
   .cases h
theorem aJY(h:yA n L=some c):c∈L/\c.m.L.length=24:=by
 unfold yA at h;obtain⟨p,_,hp⟩:=List.exists_of_findSome?_eq_some h;exact aFv hp
variable{mo:Option Addr}
theorem aLq(hmr:MRd w mo L):∃(to:Option Addr) (tc:Nat) (v:List Int),F8 (yA n L)=.slice to v.length tc/\Sr w to v.length tc (iF (gL v))/\v.length<=tc/\movN n v=cloT n L:=by
 cases h:yA n L with
 |none=>exact⟨none,0,[],rfl,Or.inl ⟨rfl,rfl,rfl⟩,Xr _,by unfold movN cloT;rw[h];rfl⟩
 |some c=>
  obtain⟨m,hl⟩:=aJY h;refine⟨c.ao,c.cap,c.m.L,rfl,(hmr.2 c m).1,(hmr.2 c m).2.1,?_⟩;unfold movN cloT;rw[h,Xt hl,Bool.true_and]
theorem RI:aLE 40:=by
 intro n ao c mo mc L w hok hag hmr hN hmc hRL;have hag:Sr w ao n.vA.length c (tF (bA n)):=hag;refine bO Tryz.func40 rfl 34 rfl Yd (λA hs hd hb=>?_);have b0:A.eval (.tmp 0)=iI n (.slice ao n.vA.length c):=hb 0 _ rfl;have b1:A.eval (.tmp 1)=.slice mo L.length mc:=hb 1 _ rfl;clear hb;refine aD (aG ?_);refine Zb (λw1 m1 k1 z1=>?_);have sr1:=hag.below k1;refine Za nD (λw2 m2 k2 z2=>?_);have mn2:=m1.below k2;have sr2:=sr1.below k2;refine Za Y5 (λw3 m3 k3 z3=>?_);have mn3:=mn2.below k3;have mr3:=m2.below k3;have sr3:=sr2.below k3;refine aC<|aD<|Yx ?_;refine bI rfl Yw (λK hK=>bN _ 58 _ _ rfl Yf (qN _ _) (wN n ao c _ sr3 hok.vA) ?_);rintro e w4 ⟨a3,c3,rfl,o4,k4⟩;have n4:=k4.size;have mn4:=mn3.below k4;have mr4:=mr3.below k4;have mq4:=m3.below k4;refine⟨_,rfl,hK _ _ ?_⟩;refine Zs bJ mn4 (bP _ _ _ _) (λw5 mm5 k5 z5=>?_);have mn5:=Vh.congr mm5 (eX _ _);have mr5:=mr4.kept k5 Yo;have mq5:=mq4.kept k5 Yo;have ow5:=bR o4 k5 YD;refine aC<|aH<|aD ?_;iterate 2 refine Yx ?_
 refine bI rfl Yw (λK hK=>bN _ 59 _ _ rfl Yf (iP _ _) (kQ n.id _) ?_);rintro e w6 ⟨rfl,k6⟩;have n6:=k6.size;have mn6:=mn5.below k6;have mr6:=mr5.below k6;have mq6:=mq5.below k6;have ow6:=bK ow5 k6;refine⟨_,rfl,hK _ _ ?_⟩;refine Yx ?_;refine aC ?_;have kA:Below w.heap.size w w6:=(aF ((((k1).trans (k2.mono Yo)).trans (k3.mono Yo)).trans (k4.mono Yo)) k5 Yo Yo).trans (k6.mono Yo);refine lL (t:=jJ n.id) ((Ye rfl).trans (by rw[Bool.not_not])) (λhno=>?_) (λhno=>?_)
 .refine aD<|Yx ?_;refine Yq (GZ rfl _) ?_;refine Zs bJ mr6 (bP _ _ _ _) (λw7 mm7 k7 z7=>?_);have mr7:=Vh.congr mm7 (eX _ _);have mn7:=mn6.kept k7 Yo;have mq7:=mq6.kept k7 Yo;have ow7:=bR ow6 k7 YD;refine Zs oO mq7 (mU _ _) (λw8 mm8 k8 z8=>?_);have mq8:=Vh.congr mm8 (sZ _ _);have mn8:=mn7.kept k8 Yo;have mr8:=mr7.kept k8 Yo;have ow8:=bR ow7 k8 YD;refine aC<|aW ?_;simp only[Nx,Exit.then];have e1:gP n (L.map Lm.m)=n:=by unfold gP;rw[if_pos hno]
  have e2:qC n (L.map Lm.m)=dI:=by unfold qC;rw[if_pos hno]
  rw[e1,e2];refine aP YB (gG rfl Yf Yf bJ oO mr8 (Xr _) mq8 (Xr _)) ⟨a3,c3,rfl,bY ow8 Yo,aF (aF kA k7 Yo Yo) k8 Yo Yo⟩
 .rcases hvs:n.vS with _|_
  .refine aU<|aH<|aD ?_;iterate 2 refine Yx ?_
   refine Yq (aY (v:=.bool false) _ _ rfl pI Yf mn6 Yc (by show Value.bool n.vS=_;rw[hvs])) ?_;refine Yx ?_;iterate 6 refine Yu ?_
   refine Yq (aO _ _ _ rfl Yf (aJ _ _) _) ?_;refine aC<|bH Yf (aU ?_);have eN:gP n (L.map Lm.m)=n:=BM hno (by rintro⟨h,_⟩;rw[hvs] at h;cases h);have evA:n.vA=n.vA:=rfl;refine aH ?_;have kD:Below w.heap.size w w6.drew:=aT (kA);have hS0:(λW=>Vh 37 W w.heap.size 74 74 (ndF n (.slice a3 n.vA.length c3))) w6.drew:=mn6;have mn0:Vh _ w6.drew _ _ _ _:=mn6;have mr0:Vh _ w6.drew _ _ _ _:=mr6;have mq0:Vh _ w6.drew _ _ _ _:=mq6;have ow0:=(show World.ownsRow w6.drew _ _ _ _ _ _ from ow6);have ez:w6.drew.heap.size=w6.heap.size:=rfl;refine fG (S:=λW=>Vh 37 W w.heap.size 74 74 (ndF n (.slice a3 n.vA.length c3))) (.rd 0 (.rd 1 (.go 2 (.go 3 (.go 4 .fin))))) [] Yl Yl ?_;refine Yr rfl hS0 (λ_ hS=>aX _ _ rfl bJ Yf hS Yc) ?_;refine Yr rfl hS0 (λ_ hS=>aX _ _ rfl bJ Yf hS Yc) ?_;refine dC rfl rfl Yw (λK hK=>bN _ 75 _ _ rfl Yf (vQ _ _) (L6 n (.slice a3 n.vA.length c3) _) ?_);rintro e w7 ⟨rfl,k7⟩;have n7:=k7.size;have mn7:=hS0.below k7;have mr7:=mr0.below k7;have mq7:=mq0.below k7;have ow7:=bK ow0 k7;have hS7:(λW=>Vh 37 W w.heap.size 74 74 (ndF n (.slice a3 n.vA.length c3))) w7:=mn7;refine⟨_,rfl,hK _ _ (λ_ _=>hS7) ?_⟩;refine dK rfl Yw (λK hK=>?_);refine aR _ _ _ _ rfl bJ Yf Yf mr7 Yc (bP _ _ _ _) rfl ?_;intro w8 mm8 k8 z8;have mr8:=Vh.congr mm8 (eX _ _);have mn8:=mn7.kept k8 Yo;have mq8:=mq7.kept k8 Yo;have ow8:=bR ow7 k8 YD;have hS8:(λW=>Vh 37 W w.heap.size 74 74 (ndF n (.slice a3 n.vA.length c3))) w8:=mn8;refine hK _ (λ_ _=>hS8) ?_;clear hK K;refine dK rfl Yw (λK hK=>?_);refine aR _ _ _ _ rfl oO Yf Yf mq8 Yc (mU _ _) rfl ?_;intro w9 mm9 k9 z9;have mq9:=Vh.congr mm9 (sZ _ _);have mn9:=mn8.kept k9 Yo;have mr9:=mr8.kept k9 Yo;have ow9:=bR ow8 k9 YD;have hS9:(λW=>Vh 37 W w.heap.size 74 74 (ndF n (.slice a3 n.vA.length c3))) w9:=mn9;refine hK _ (λ_ _=>hS9) ?_;clear hK K;have e2:qC n (L.map Lm.m)=gP n (L.map Lm.m):=by unfold qC;rw[if_neg (by rw[hno];decide)]
   refine fV<|aW ?_;rw[e2,eN];refine aP YB (gG rfl Yf Yf bJ oO mr9 (Xr _) mq9 (Xr _)) ⟨a3,c3,by rw[evA];rfl,?_,aF (aF (kD.trans (k7.mono Yo)) k8 Yo Yo) k9 Yo Yo⟩;unfold pR bA;rw[evA];exact bY ow9 Yo
  .by_cases hvd:n.vX≠n.dg
   .refine aU<|aH<|aD ?_;iterate 2 refine Yx ?_
    refine Yq (aY (v:=.bool true) _ _ rfl pI Yf mn6 Yc (by show Value.bool n.vS=_;rw[hvs])) ?_;iterate 6 refine Yx ?_
    refine Yq (dY (b:=true) _ _ rfl Yf Yf (Xt hvd) _) ?_;refine Yq (aL _ _ _ rfl Yf Yf _) ?_;refine aC<|bE Yf ?_;have kA0:Below w.heap.size w w6.drew:=aT kA;have hS0:(λW=>Vh 37 W w.heap.size 74 74 (ndF n (.slice a3 n.vA.length c3))) w6.drew:=mn6;have mn0:Vh _ w6.drew _ _ _ _:=mn6;have mr0:Vh _ w6.drew _ _ _ _:=mr6;have mq0:Vh _ w6.drew _ _ _ _:=mq6;have ow0:=(show World.ownsRow w6.drew _ _ _ _ _ _ from ow6);have ez:w6.drew.heap.size=w6.heap.size:=rfl;refine fG (S:=λW=>Vh 37 W w.heap.size 74 74 (ndF n (.slice a3 n.vA.length c3))) (.rd 0 (.rd 1 (.mv 2 (.go 3 (.go 4 (.go 5 (.go 6 .fin))))))) [6] Yl Yl ?_;refine Yr rfl hS0 (λ_ hS=>aX _ _ rfl bJ Yf hS Yc) ?_;refine Yr rfl hS0 (λ_ hS=>aX _ _ rfl bJ Yf hS Yc) ?_;refine Yj ?_;refine dC rfl rfl Yw (λK hK=>nW _ 61 _ _ _ _ _ rfl Yf Yf (aJ _ _) (aJ _ _) (rA _ _ _ _ _) (xP n _ mo mc L 5 24 _ (hmr.below kA0) hN Yc) ?_);rintro e w7 ⟨rfl,k7⟩;have n7:=k7.size;have mn7:=hS0.below k7;have mr7:=mr0.below k7;have mq7:=mq0.below k7;have ow7:=bK ow0 k7;have hS7:(λW=>Vh 37 W w.heap.size 74 74 (ndF n (.slice a3 n.vA.length c3))) w7:=mn7;refine⟨_,rfl,hK _ _ (λ_ _=>hS7) ?_⟩;refine dC rfl rfl Yw (λK hK=>bN _ 74 _ _ rfl Yf (TF _ _) (aFb n mo L _ (hmr.below (kA0.trans (k7.mono Yo)))) ?_);rintro e w8 ⟨rfl,k8⟩;have n8:=k8.size;have mn8:=mn7.below k8;have mr8:=mr7.below k8;have mq8:=mq7.below k8;have ow8:=bK ow7 k8;have hS8:(λW=>Vh 37 W w.heap.size 74 74 (ndF n (.slice a3 n.vA.length c3))) w8:=mn8;obtain⟨to,tc,v,ev,hsr,htl,hmv⟩:=aLq (n:=n) (hmr.below ((kA0.trans (k7.mono Yo)).trans (k8.mono Yo)));refine⟨_,rfl,hK _ _ (λ_ _=>hS8) ?_⟩;refine dC rfl rfl Yw (λK hK=>dG _ 73 _ _ _ rfl Yf ((Ye rfl).trans ev) (VW _ _ _) (aEf n (.slice a3 n.vA.length c3) v to tc _ rfl hsr htl) ?_);rintro e w9 ⟨rfl,k9⟩;have n9:=k9.size;have mn9:=mn8.below k9;have mr9:=mr8.below k9;have mq9:=mq8.below k9;have ow9:=bK ow8 k9;have hS9:(λW=>Vh 37 W w.heap.size 74 74 (ndF n (.slice a3 n.vA.length c3))) w9:=mn9;refine⟨_,rfl,hK _ _ (λ_ _=>hS9) ?_⟩;refine dK rfl Yw (λK hK=>aR _ _ _ _ rfl bJ (f:=ndF (movN n v) (.slice a3 n.vA.length c3)) Yf Yf mn9 Yc (bP _ _ _ _) rfl (λw10 mm10 k10 z10=>hK _ (λh=>absurd h Yc) ?_));have mn10:Vh 37 w10 w.heap.size 74 74 (ndF (cloT n L) (.slice a3 n.vA.length c3)):=by rw[<-hmv];exact Vh.congr mm10 (eX _ _)
    have mr10:=mr9.kept k10 Yo;have mq10:=mq9.kept k10 Yo;have ow10:=bR ow9 k10 YD;refine fV ?_;clear hS0 mr0 mq0 ow0;have eN:gP n (L.map Lm.m)=cloT n L:=TS hno ⟨hvs,hvd⟩;have evA:(cloT n L).vA=n.vA:=aJd n L;refine aH ?_;have kD:Below w.heap.size w w10.drew:=aT (aF (((kA0.trans (k7.mono Yo)).trans (k8.mono Yo)).trans (k9.mono Yo)) k10 Yo Yo);have hS0:(λW=>Vh 37 W w.heap.size 74 74 (ndF (cloT n L) (.slice a3 n.vA.length c3))) w10.drew:=mn10;have mn0:Vh _ w10.drew _ _ _ _:=mn10;have mr0:Vh _ w10.drew _ _ _ _:=mr10;have mq0:Vh _ w10.drew _ _ _ _:=mq10;have ow0:=(show World.ownsRow w10.drew _ _ _ _ _ _ from ow10);have ez:w10.drew.heap.size=w10.heap.size:=rfl;refine fG (S:=λW=>Vh 37 W w.heap.size 74 74 (ndF (cloT n L) (.slice a3 n.vA.length c3))) (.rd 0 (.rd 1 (.go 2 (.go 3 (.go 4 .fin))))) [] Yl Yl ?_;refine Yr rfl hS0 (λ_ hS=>aX _ _ rfl bJ Yf hS Yc) ?_;refine Yr rfl hS0 (λ_ hS=>aX _ _ rfl bJ Yf hS Yc) ?_;refine dC rfl rfl Yw (λK hK=>bN _ 75 _ _ rfl Yf (vQ _ _) (L6 (cloT n L) (.slice a3 n.vA.length c3) _) ?_);rintro e w11 ⟨rfl,k11⟩;have n11:=k11.size;have mn11:=hS0.below k11;have mr11:=mr0.below k11;have mq11:=mq0.below k11;have ow11:=bK ow0 k11;have hS11:(λW=>Vh 37 W w.heap.size 74 74 (ndF (cloT n L) (.slice a3 n.vA.length c3))) w11:=mn11;refine⟨_,rfl,hK _ _ (λ_ _=>hS11) ?_⟩;refine dK rfl Yw (λK hK=>?_);refine aR _ _ _ _ rfl bJ Yf Yf mr11 Yc (bP _ _ _ _) rfl ?_;intro w12 mm12 k12 z12;have mr12:=Vh.congr mm12 (eX _ _);have mn12:=mn11.kept k12 Yo;have mq12:=mq11.kept k12 Yo;have ow12:=bR ow11 k12 YD;have hS12:(λW=>Vh 37 W w.heap.size 74 74 (ndF (cloT n L) (.slice a3 n.vA.length c3))) w12:=mn12;refine hK _ (λ_ _=>hS12) ?_;clear hK K;refine dK rfl Yw (λK hK=>?_);refine aR _ _ _ _ rfl oO Yf Yf mq12 Yc (mU _ _) rfl ?_;intro w13 mm13 k13 z13;have mq13:=Vh.congr mm13 (sZ _ _);have mn13:=mn12.kept k13 Yo;have mr13:=mr12.kept k13 Yo;have ow13:=bR ow12 k13 YD;have hS13:(λW=>Vh 37 W w.heap.size 74 74 (ndF (cloT n L) (.slice a3 n.vA.length c3))) w13:=mn13;refine hK _ (λ_ _=>hS13) ?_;clear hK K;have e2:qC n (L.map Lm.m)=gP n (L.map Lm.m):=by unfold qC;rw[if_neg (by rw[hno];decide)]
    refine fV<|aW ?_;rw[e2,eN];refine aP YB (gG rfl Yf Yf bJ oO mr13 (Xr _) mq13 (Xr _)) ⟨a3,c3,by rw[evA];rfl,?_,aF (aF (kD.trans (k11.mono Yo)) k12 Yo Yo) k13 Yo Yo⟩;unfold pR bA;rw[evA];exact bY ow13 Yo
   .have hvd:n.vX=n.dg:=Classical.not_not.1 hvd;refine aU<|aH<|aD ?_;iterate 2 refine Yx ?_
    refine Yq (aY (v:=.bool true) _ _ rfl pI Yf mn6 Yc (by show Value.bool n.vS=_;rw[hvs])) ?_;iterate 6 refine Yx ?_
    refine Yq (dY (b:=false) _ _ rfl Yf Yf (Xf (λe=>e hvd)) _) ?_;refine Yq (aL _ _ _ rfl Yf Yf _) ?_;refine aC<|bH Yf (aU ?_);have eN:gP n (L.map Lm.m)=n:=BM hno (by exact λh=>h.2 hvd);have evA:n.vA=n.vA:=rfl;refine aH ?_;have kD:Below w.heap.size w w6.drew:=aT (kA);have hS0:(λW=>Vh 37 W w.heap.size 74 74 (ndF n (.slice a3 n.vA.length c3))) w6.drew:=mn6;have mn0:Vh _ w6.drew _ _ _ _:=mn6;have mr0:Vh _ w6.drew _ _ _ _:=mr6;have mq0:Vh _ w6.drew _ _ _ _:=mq6;have ow0:=(show World.ownsRow w6.drew _ _ _ _ _ _ from ow6);have ez:w6.drew.heap.size=w6.heap.size:=rfl;refine fG (S:=λW=>Vh 37 W w.heap.size 74 74 (ndF n (.slice a3 n.vA.length c3))) (.rd 0 (.rd 1 (.go 2 (.go 3 (.go 4 .fin))))) [] Yl Yl ?_;refine Yr rfl hS0 (λ_ hS=>aX _ _ rfl bJ Yf hS Yc) ?_;refine Yr rfl hS0 (λ_ hS=>aX _ _ rfl bJ Yf hS Yc) ?_;refine dC rfl rfl Yw (λK hK=>bN _ 75 _ _ rfl Yf (vQ _ _) (L6 n (.slice a3 n.vA.length c3) _) ?_);rintro e w7 ⟨rfl,k7⟩;have n7:=k7.size;have mn7:=hS0.below k7;have mr7:=mr0.below k7;have mq7:=mq0.below k7;have ow7:=bK ow0 k7;have hS7:(λW=>Vh 37 W w.heap.size 74 74 (ndF n (.slice a3 n.vA.length c3))) w7:=mn7;refine⟨_,rfl,hK _ _ (λ_ _=>hS7) ?_⟩;refine dK rfl Yw (λK hK=>?_);refine aR _ _ _ _ rfl bJ Yf Yf mr7 Yc (bP _ _ _ _) rfl ?_;intro w8 mm8 k8 z8;have mr8:=Vh.congr mm8 (eX _ _);have mn8:=mn7.kept k8 Yo;have mq8:=mq7.kept k8 Yo;have ow8:=bR ow7 k8 YD;have hS8:(λW=>Vh 37 W w.heap.size 74 74 (ndF n (.slice a3 n.vA.length c3))) w8:=mn8;refine hK _ (λ_ _=>hS8) ?_;clear hK K;refine dK rfl Yw (λK hK=>?_);refine aR _ _ _ _ rfl oO Yf Yf mq8 Yc (mU _ _) rfl ?_;intro w9 mm9 k9 z9;have mq9:=Vh.congr mm9 (sZ _ _);have mn9:=mn8.kept k9 Yo;have mr9:=mr8.kept k9 Yo;have ow9:=bR ow8 k9 YD;have hS9:(λW=>Vh 37 W w.heap.size 74 74 (ndF n (.slice a3 n.vA.length c3))) w9:=mn9;refine hK _ (λ_ _=>hS9) ?_;clear hK K;have e2:qC n (L.map Lm.m)=gP n (L.map Lm.m):=by unfold qC;rw[if_neg (by rw[hno];decide)]
    refine fV<|aW ?_;rw[e2,eN];refine aP YB (gG rfl Yf Yf bJ oO mr9 (Xr _) mq9 (Xr _)) ⟨a3,c3,by rw[evA];rfl,?_,aF (aF (kD.trans (k7.mono Yo)) k8 Yo Yo) k9 Yo Yo⟩;unfold pR bA;rw[evA];exact bY ow9 Yo
theorem CV(n:Nd)(fr:Int)(rd:Nat->Int):(senN n fr rd).vA=n.vA:=by
 unfold senN;split<;>rfl
theorem aNT{m:Nd}(h:n.vA=m.vA):bA n=bA m:=by
 unfold bA;rw[h]
variable{ao:Option Addr}{c:Nat}
theorem TH{B:Nat}{m:Nd}(h:pR B w n ao c)(e:m.vA=n.vA):pR B w m ao c:=by
 unfold pR at h ⊢;rw[e,aNT e];exact h
def BJ(rd:Nat->Nat->Int)(j:Nat):Value:=iV (rd (j/3) (j%3))
theorem aKq(rd:Nat->Nat->Int)(hj:j<3):BJ rd (0+i*3+j)=iV (rd i j):=by
 unfold BJ;rw[show (0+i*3+j)/3=i by omega,show (0+i*3+j)%3=j by omega]
def FB(fb rb:Nat)(fr:Int)(rd:Nat->Nat->Int):It:=(vhI 3 fb 1 1 (λ_=>iV fr)).and (vhI 32 rb 12 12 (BJ rd))
theorem aCA(w0:World)(bad:Int)(fb rb:Nat)(fr:Int)(rd:Nat->Nat->Int)(hfr:R64 fr)(hrd:∀s a,R64 (rd s a))(Dn:Nat->Nd)(Bn:Nat->List Ms):PvC w0 bad 32 #[.pointer (some ⟨fb,0,none⟩),.pointer (some ⟨rb,0,none⟩)] (λi n _=>senN n fr (rd i)) (λi n _=>kV n fr (rd i)) (λ_ y=>y=FB fb rb fr rd) Dn Bn:=by
 intro i nd ao c mo mc L w y l hi _ _ _ hid hok hag _ _ _ _ hy H;subst hy;refine bO Tryz.func32 rfl 17 rfl Yd (λA hs hd hb=>?_);have b0:A.eval (.tmp 0)=aN (ndF nd (.slice ao nd.vA.length c)) 0 74:=hb 0 _ rfl;have b2:A.eval (.tmp 2)=.pointer (some ⟨fb,0,none⟩):=hb 2 _ rfl;have b3:A.eval (.tmp 3)=.pointer (some ⟨rb,0,none⟩):=hb 3 _ rfl;clear hb;refine aD (aG ?_);refine bI rfl Yw (λK hK=>uM _ _ _ rfl Qv Yd (λw1 m1 k1 z1=>hK _ _ ?_));replace H:=H.add k1 (vhI _ _ _ _ _) m1 (λj e=>Nat.le_of_eq e.symm);refine bI rfl Yw (λK hK=>kU _ _ rfl ZerK.out Yd (λw2 m2 k2 z2=>hK _ _ ?_));replace H:=H.add k2 (vhI _ _ _ _ _) m2 (λj e=>Nat.le_of_eq e.symm);refine bI rfl Yw (λK hK=>kU _ _ rfl ZerK.out Yd (λw3 m3 k3 z3=>hK _ _ ?_));replace H:=H.add k3 (vhI _ _ _ _ _) m3 (λj e=>Nat.le_of_eq e.symm);refine aC<|aH ?_;have kA:Below w.heap.size w w3:=(k1.trans (k2.mono Yo)).trans (k3.mono Yo);replace H:=H.drew;have hcp:(FB fb rb fr rd).p w3.drew:=H.o3;have hS:Its [vhI 37 w.heap.size 74 74 (ndF nd (.slice ao nd.vA.length c)),vhI 3 fb 1 1 (λ_=>iV fr),vhI 32 rb 12 12 (BJ rd)] w3.drew:=Its.cons H.o2 (Its.cons hcp.1 (Its.cons hcp.2 (Its.nil _)));refine fG (S:=Its [vhI 37 w.heap.size 74 74 (ndF nd (.slice ao nd.vA.length c)),vhI 3 fb 1 1 (λ_=>iV fr),vhI 32 rb 12 12 (BJ rd)]) (.rd 0 (.rd 1 (.mv 2 (.rd 3 (.mv 4 (.rd 5 (.go 6 (.mv 7 (.mv 8 (.go 9 (.go 10 .fin))))))))))) [9,10] Yl Yl ?_;iterate 4 first|refine qj ?_|refine qr hS ?_
 refine fE rfl rfl (λ_ _ _ h=>h) Yw (λw=>bD _ _ _ _ rfl ArrK.out SizK.out Qv Qv hid hi w) ?_;refine Yr rfl hS (λ_ H=>Eq.trans (aX _ _ rfl ManyK.out Qv H.v2 Yo) (by rw[jG (λj hj=>aKq rd hj)])) ?_;refine dC rfl rfl Yw (λK hK=>iD _ 33 _ _ _ _ rfl Qv Qv Qv (EntK.out _ _) (WK nd ao c fr (rd i) _ hok (hag.below (aT kA)) hfr (hrd i)) ?_);rintro e w4 ⟨a',c',a2,c2,rfl,g1,g2,k4⟩;replace H:=I1 (n:=senN nd fr (rd i)) (a1:=(a',c')) (a2:=(a2,c2)) H k4 (TH g1 (CV _ _ _)) g2;refine⟨.tuple #[iI (senN nd fr (rd i)) (slV (a',c') nd.vA.length),lsV (kV nd fr (rd i)) (slV (a2,c2) (kV nd fr (rd i)).L.length)],rfl,hK _ _ (λ_ _=>Its.cons H.o4 (Its.cons (show Vh _ _ _ _ _ _ from H.o5.1) (Its.cons (show Vh _ _ _ _ _ _ from H.o5.2) (Its.nil _)))) ?_⟩;repeat refine qj ?_
 refine dK rfl Yw (λK hK=>aR _ _ _ _ rfl ManyK.out Qv Qv H.v3 Yo (bP _ _ _ _) rfl (λw6 m6 k6 z6=>hK _ (λh=>absurd h Yc) ?_));replace H:=H.a3.s k6 (m6.congr aV);refine dK rfl Yw (λK hK=>aR _ _ _ _ rfl ManyK.out Qv Qv H.v2 Yo (eY _ _ _ _ _ _) rfl (λw7 m7 k7 z7=>hK _ (λh=>absurd h Yc) ?_));replace H:=H.a2.s k7 (m7.congr aV);refine fV<|aW (aP YB (gG rfl Qv Qv ManyK.out ManyK.out H.v3 (Xr _) H.v2 (Xr _)) ⟨(a',c'),(a2,c2),_,rfl,?_,H.f2.tl.f2.tl.f2.tl⟩);rw[CV];rfl
theorem VM(bad:Int)(i:Nat):NS bad (i+1)=NS bad i++(if (i:Int)=bad then [] else [i]):=by
 unfold NS;rw[List.range_succ,List.filter_append]
 congr 1
 by_cases h:(i:Int)=bad
 .rw[if_pos h];simp[h]
 .rw[if_neg h];simp[h]
def UM(B rv:Nat)(v:Value)(L:List Nd):It:=(vhI 44 rv 1 1 (λ_=>v)).and (gB B 86 14 v L.length (nO nG 14 L))
def lZ(bad:Int)(Dn:Nat->Nd)(Bn:Nat->List Ms)(k:Nat):List Nd:=(NS bad k).map λi=>gP (Dn i) (Bn i)
theorem aAM(bad:Int)(Dn:Nat->Nd)(Bn:Nat->List Ms)(k:Nat):(lZ bad Dn Bn k).length<=k:=by grind [lZ,NS]
theorem UH(h:(i:Int)≠bad):lZ bad Dn Bn (i+1)=lZ bad Dn Bn i++[gP (Dn i) (Bn i)]:=by
 unfold lZ;rw[VM,if_neg h,List.map_append];rfl
theorem aAB(h:(i:Int)=bad):lZ bad Dn Bn (i+1)=lZ bad Dn Bn i:=by
 unfold lZ;rw[VM,if_pos h,List.append_nil]
theorem aDn(w0:World)(bad:Int)(rv:Nat)(Dn:Nat->Nd)(Bn:Nat->List Ms):PvC w0 bad 39 #[.pointer (some ⟨rv,0,none⟩)] (λ_ n l=>gP n l) (λ_ _ _=>jD) (λi y=>∃v,y=UM w0.heap.size rv v (lZ bad Dn Bn i)) Dn Bn:=by
 intro i nd ao c mo mc L w y l hi hbad hDn hBn hid hok hag hmr hl hlc hms ⟨v,hy⟩ H;subst hy;refine bO Tryz.func39 rfl 21 rfl Yd (λA hs hd hb=>?_);have b0:A.eval (.tmp 0)=aN (ndF nd (.slice ao nd.vA.length c)) 0 74:=hb 0 _ rfl;have b1:A.eval (.tmp 1)=.slice mo L.length mc:=hb 1 _ rfl;have b2:A.eval (.tmp 2)=.pointer (some ⟨rv,0,none⟩):=hb 2 _ rfl;clear hb;refine aD (aG ?_);refine bI rfl Yw (λK hK=>uM _ _ _ rfl Qv Yd (λw1 m1 k1 z1=>hK _ _ ?_));replace H:=H.add k1 (vhI _ _ _ _ _) m1 (λj e=>Nat.le_of_eq e.symm);refine bI rfl Yw (λK hK=>kU _ _ rfl ZerK.out Yd (λw2 m2 k2 z2=>hK _ _ ?_));replace H:=H.add k2 (vhI _ _ _ _ _) m2 (λj e=>Nat.le_of_eq e.symm);refine bI rfl Yw (λK hK=>kU _ _ rfl ZerK.out Yd (λw3 m3 k3 z3=>hK _ _ ?_));replace H:=H.add k3 (vhI _ _ _ _ _) m3 (λj e=>Nat.le_of_eq e.symm);have kA:Below w.heap.size w w3:=(k1.trans (k2.mono Yo)).trans (k3.mono Yo);refine aC<|aD ?_;iterate 2 refine qa ?_
 refine yU (RI nd ao c mo mc L w3 hok (hag.below kA) (hmr.below kA) Yo hlc (λm hm=>(hms m hm).L)) ?_;rintro e w4 ⟨a',c',rfl,g1,k4⟩;have hsz:=H.size;replace H:=H.add k4 (vU w0.heap.size (gP nd (L.map Lm.m),(a',c'))) (bY g1 hsz) (λj e=>(g1.lt j e).1);have ecr:qC nd (L.map Lm.m)=gP nd (L.map Lm.m):=by
  unfold qC;rw[if_neg (by rw[hid,qB hi];decide)]
 rw[ecr];refine⟨_,rfl,?_⟩;iterate 3 refine qa ?_
 refine gJ H ?_;intro w5 H z5;refine gJ H ?_;intro w6 H z6;refine fJ H.a1 aV (bP _ _ _ _) ?_;intro w7 H z7;refine fJ H.a0 aV (mU _ _) ?_;intro w8 H z8;refine aC<|aD ?_;have hrv:(UM w0.heap.size rv v (lZ bad Dn Bn i)).p w8:=H.o6;have hsz8:=H.size;refine qg (aY _ _ rfl OneK.out Qv hrv.1 Yo rfl) ?_;refine qa ?_;refine bI rfl Yw (λK hK=>zP SlcK.out ManyK.out ZerK.out Yc Yc rfl Qv (λw9 m9 k9 z9=>hK _ _ ?_));replace H:=H.call k9;have hrv:(UM w0.heap.size rv v (lZ bad Dn Bn i)).p w9:=H.o6;have hln:=aAM bad Dn Bn i;refine bI rfl Yw (λK hK=>?_);refine rU rfl inferInstance H.size Qv Qv hrv.2 (zU (J9 (B:=w0.heap.size) (F:=nG) (x:=gP nd (L.map Lm.m)) m9 Yo)) (CK (λx _=>mU x 3)) Ym Yo ?_;intro v' w10 o10 g10 f10;have hvar:Vh 44 w9 rv 1 1 (λ_=>v):=hrv.1;have napart:∀k,v.ownBlock=some k->k≠rv:=λk hk e=>by
  obtain⟨u1,hu1⟩:=uR hrv.2 hk;obtain⟨u2,hu2,_⟩:=hvar;rw[e,hu2] at hu1
  cases hu1
 have hvar10:Vh 44 w10 rv 1 1 (λ_=>v):=hvar.same (g10.block rv hvar.lt (λe=>napart rv e.symm rfl));replace H:=H.a6.put (y:=((vhI 44 rv 1 1 (λ_=>v)).and (gB w0.heap.size 86 14 v' ((lZ bad Dn Bn i).length+1) (nO nG 14 (lZ bad Dn Bn i)++nO nG 14 [gP nd (L.map Lm.m)])))) ⟨g10.os,g10.tape,g10.output,g10.size,λj h5 h6=>g10.block j h5 (λe=>h6 (Or.inr e.symm)),⟨hvar10,o10⟩,λj hj=>by
  rcases hj with hj|hj
  .exact Or.inl (Or.inl hj)
  .rcases f10 j hj with h|h
   .exact Or.inl (Or.inr h)
   .exact Or.inr h⟩
 refine hK _ _ ?_;clear hK K;have napart2:∀k,v'.ownBlock=some k->k≠rv:=λk hk e=>by
  obtain⟨u1,hu1⟩:=uR o10 hk;obtain⟨u2,hu2,_⟩:=hvar10;rw[e,hu2] at hu1
  cases hu1
 obtain⟨va,vc,rfl,hvc⟩:=dP o10;refine jZ Yw (λK hK=>?_);refine iC _ _ _ _ rfl OneK.out Qv Qv hvar10 Yo rfl rfl rfl ?_;intro w11 m11 k11 z11;replace H:=H.a6.put (y:=(UM w0.heap.size rv (.slice va ((lZ bad Dn Bn i).length+1) vc) (lZ bad Dn Bn (i+1)))) ⟨k11.os,k11.tape,k11.output,k11.size,λj h5 h6=>k11.block j h5 (λe=>h6 (Or.inl e)),⟨m11.congr (λj hj=>by
  obtain rfl:j=0:=Yo;exact jP _ _ _),by
   have e1:lZ bad Dn Bn (i+1)=lZ bad Dn Bn i++[gP nd (L.map Lm.m)]:=by rw[UH hbad,hDn,hBn]
   show World.ownsRow _ _ _ _ _ (lZ bad Dn Bn (i+1)).length (nO nG 14 (lZ bad Dn Bn (i+1)))
   rw[e1,List.length_append,CB];exact bR o10 k11 (λe=>napart2 rv e rfl)⟩,λj hj=>Or.inl hj⟩
 refine hK _ ?_;clear hK K;refine aC<|aD<|qa ?_;refine qg (mH rfl _) ?_;refine fJ H.a4 aV (bP _ _ _ _) ?_;intro w12 H z12;refine fJ H.a3 aV (eY _ _ _ _ _ _) ?_;intro w13 H z13;refine aC<|aW (aP YB (gG rfl Qv Qv ManyK.out ManyK.out H.v4 (Xr _) H.v3 (Xr _)) ⟨(a',c'),(none,0),UM w0.heap.size rv (.slice va ((lZ bad Dn Bn i).length+1) vc) (lZ bad Dn Bn (i+1)),⟨_,rfl⟩,rfl,?_⟩);exact (H.tl.tl.f1.tl.f1.tl.f1.tl.add (Below.refl _ _) (tlJ w0.heap.size (jD,(none,0))) (World.ownsRow_nil _ _ _ _) (λj e=>nomatch e)).f1
variable{u:Value}{P:Program}
theorem aFA(fn:Fn)(x:Operand)(ho:o.op=.makeFunc fn #[] #[x])(hx:f x=u)(w:World):(execOp f o).run P w=.ok (.value (.func fn #[] #[u])) w:=LC fn _ ho (by simp[hx]) w
variable{v:Value}
theorem aGL(fn:Fn)(x y:Operand)(ho:o.op=.makeFunc fn #[] #[x,y])(hx:f x=u)(hy:f y=v)(w:World):(execOp f o).run P w=.ok (.value (.func fn #[] #[u,v])) w:=LC fn _ ho (by simp[hx,hy]) w
theorem aBa(b:Nat)(fr:Int)(D:Nat->Nd×Ad)(bad:Int)(lv:Value)(X:Nat->List Lm×Ad)(w0 w:World)(l:List It)(hid:∀i,i<4->(D i).1.id=(i:Nat))(hok:∀i,i<4->NdOK (D i).1)(hX:∀i,i<4->(X i).1.length<=1600/\∀c,c∈(X i).1->MsOK c.m)(H:Cx w0 w (lX w0.heap.size D::vhI 74 b 303 303 (jT fr D bad lv X)::A9 w0.heap.size X::l)):Calls Tryz.prog 19 #[.pointer (some ⟨b,0,none⟩)] w λe w'=>∃(D':Nat->Nd×Ad) (v:Value),e=.returned v/\(∀i,i<4->(D' i).1=OW bad (λ_ n l=>gP n l) D X i)/\Cx w0 w' (gB w0.heap.size 86 14 v (lZ bad (λi=>(D i).1) (λi=>(X i).1.map Lm.m) 4).length (nO nG 14 (lZ bad (λi=>(D i).1) (λi=>(X i).1.map Lm.m) 4))::lX w0.heap.size D'::vhI 74 b 303 303 (jT fr D' bad lv X)::A9 w0.heap.size X::l):=by
 refine bO Tryz.func19 rfl 8 rfl Yd (λA hs hd hb=>?_);have b0:A.eval (.tmp 0)=.pointer (some ⟨b,0,none⟩):=hb 0 _ rfl;clear hb;refine aD (aG ?_);repeat first|refine qa ?_|refine aC ?_|refine aD ?_
 refine aNB H ?_;intro w1 H z1;repeat first|refine qa ?_|refine aC ?_|refine aD ?_
 refine qg (aFA _ _ rfl Qv _) ?_;replace H:=(H.add (Below.refl _ _) (gB w0.heap.size 86 14 (.slice none 0 0) 0 []) (World.ownsRow_nil _ _ _ _) (λj e=>nomatch e)).f1.merge;refine yU (UJ b fr D bad lv X 39 #[.pointer (some ⟨w.heap.size,0,none⟩)] (λ_ n l=>gP n l) (λ_ _ _=>jD) (λi y=>∃v,y=UM w0.heap.size w.heap.size v (lZ bad (λi=>(D i).1) (λi=>(X i).1.map Lm.m) i)) w0 w1 _ l (aDn w0 bad w.heap.size _ _) ⟨.slice none 0 0,rfl⟩ (λi hi y hy=>by obtain⟨v,rfl⟩:=hy;exact⟨v,by rw[aAB hi]⟩) hid hok hX H.f1) ?_;rintro e w2 ⟨D',T,y',⟨v,rfl⟩,rfl,hD,_,H⟩;refine⟨_,rfl,?_⟩;refine aC<|aD ?_;have hrv:(UM w0.heap.size w.heap.size v (lZ bad (λi=>(D i).1) (λi=>(X i).1.map Lm.m) 4)).p w2:=H.o2;refine qg (aY _ _ rfl OneK.out Qv hrv.1 Yo rfl) ?_;repeat first|refine qa ?_|refine aC ?_
 exact aW (aP YB (dW rfl Qv) ⟨D',v,rfl,hD,H.tl.f1.wk (λh=>h.2) (λk hk=>Or.inr hk)⟩)
def jM(g:Nat->Value)(N:Nat):Array Value:=((List.range N).map g).toArray
theorem Z8(g:Nat->Value)(n:Nat):(aN g 0 n).cells=jM g n:=by
 unfold aN jM;show ((List.range n).map λj=>g (0+j)).toArray=_
 congr 1
 exact List.map_congr_left λj _=>by rw[Nat.zero_add]
theorem DK(g:Nat->Value)(N:Nat):(jM g N).size=N:=by simp[jM]
theorem OA(g:Nat->Value)(N i:Nat):(jM g N)[i]?=if i<N then some (g i) else none:=by
 unfold jM;by_cases h:i<N
 .rw[if_pos h];simp[h]
 .rw[if_neg h];simp[h]
variable{place:Nat->Option (Nat×Nat)}{g:Nat->Value}{n:Nat}
theorem aBO{off N:Nat}{f:Nat->Value}(hp:place i=some (off,n))(hv:v.cells=jM f n)(hN:off+n<=N)(rest:List (Nat×Value)):Instr.fill place (jM g N) ((i,v)::rest)=Instr.fill place (jM (stP g off n f) N) rest:=by
 rw[Instr.fill];simp only[hp,hv,DK];rw[if_neg (by simp;omega)]
 congr 1
 obtain⟨h1,h2⟩:=FO off ((List.range n).map f) 0 (jM g N) (by rw[DK,List.length_map,List.length_range];omega);have e1:Array.foldl (λcs x=>cs.setIfInBounds (off+x.2) x.1) (jM g N) (jM f n).zipIdx=(((List.range n).map f).zipIdx 0).foldl (λa p=>a.setIfInBounds (off+p.2) p.1) (jM g N):=by
  rw[<-Array.foldl_toList];unfold jM;simp
 rw[e1];refine Array.ext_getElem? (λj=>?_);rw[h2 j,OA,OA,List.length_map,List.length_range];unfold stP;by_cases c:off+0<=j/\j<off+0+n
 .rw[if_pos c,if_pos (show j<N by omega),if_pos Yo,List.getElem?_map,List.getElem?_range Yo,Nat.add_zero];rfl
 .rw[if_neg c];by_cases d:j<N
  .rw[if_pos d,if_pos d,if_neg Yo]
  .rw[if_neg d,if_neg d]
variable{places:Array (Nat×Nat)}{fields:Array Field}{parts:Array (Nat×Operand)}
theorem FT{t:TypeId}{N:Nat}{z:Nat->Value}(hu:P.underlying t=some (.struct fields))(hz:∀w,(zeroValue t).run P w=.ok (aN z 0 N) w)(hpl:∀w,(fields.mapM λ(f:Field)=>do pure (f.offset, <-sizeOf f.type):Sem (Array (Nat×Nat))).run P w=.ok places w)(ho:o.op=.build t parts)(hf:Instr.fill (places[·]?) (jM z N) (parts.map λp=>(p.1,f p.2)).toList=some (jM g N))(w:World):(execOp f o).run P w=.ok (.value (aN g 0 N)) w:=by
 unfold execOp;simp only[ho,Instr.build,Sem.run_bind,hz,Result.andThen_ok,run_underlying hu,hpl,Z8];rw[show (Array.map (λx=>match x with|(i,x)=>(i,f x)) parts).toList=(parts.map λp=>(p.1,f p.2)).toList from rfl,hf];show Result.ok (Next.value (Value.agg (jM g N))) w=_
 congr 3
 have:=Z8 g N;unfold aN jM at*;exact this.symm
variable{D:Nat->Nd×Ad}
theorem aLz(hi:i<4)(h:(D i).1.id≠(i:Nat)):¬((D 0).1.id=0/\(D 1).1.id=1/\(D 2).1.id=2/\(D 3).1.id=3):=by grind
theorem YK(x:Ip)(fr:Int)(D:Nat->Nd×Ad)(lo:Option Addr)(lc:Nat)(w:World):Calls Tryz.prog 14 #[aN (gF fr D) 0 297,aN (mE x.rd x.bad (.slice lo x.ly.length lc)) 0 14] w λe w'=>e=.returned (.int .i64 (iU x ⟨fr,λi=>(D i).1⟩))/\Below w.heap.size w w':=by
 refine bO Tryz.func14 rfl 40 rfl Yd (λA hs hd hb=>?_);have b0:A.eval (.tmp 0)=aN (gF fr D) 0 297:=hb 0 _ rfl;have b1:A.eval (.tmp 1)=aN (mE x.rd x.bad (.slice lo x.ly.length lc)) 0 14:=hb 1 _ rfl;clear hb;have H:=Cx.start w;refine aD (aG ?_);refine iH H ?_;intro w1 H z1;refine iH H ?_;intro w2 H z2;refine qa ?_;refine aC<|aH<|aD ?_;iterate 2 refine qa ?_
 by_cases c1:x.bad< -1
 .refine qg (fO (b:=true) _ _ rfl Qv Qv (Xt c1) _) ?_;refine qa ?_;iterate 3 refine fU ?_
  refine qg (aL _ _ _ rfl Qv Qv _) ?_;refine qa ?_;iterate 3 refine fU ?_
  refine qg (aL _ _ _ rfl Qv Qv _) ?_;refine qa ?_;iterate 3 refine fU ?_
  refine qg (aL _ _ _ rfl Qv Qv _) ?_;refine aC<|yI rfl ?_;repeat first|refine qa ?_|refine aC ?_|refine aD ?_
  exact aW (lY (aP YB (dW rfl Qv) ⟨by unfold iU;rw[if_pos (Or.inl c1)],H.bel⟩))
 refine qg (fO (b:=false) _ _ rfl Qv Qv (Xf c1) _) ?_;iterate 3 refine qa ?_
 by_cases c2:4<=x.bad
 .refine qg (iL (b:=true) _ _ rfl Qv Qv (Xt c2) _) ?_;refine qg (aO _ _ _ rfl Qv Qv _) ?_;refine qa ?_;iterate 3 refine fU ?_
  refine qg (aL _ _ _ rfl Qv Qv _) ?_;refine qa ?_;iterate 3 refine fU ?_
  refine qg (aL _ _ _ rfl Qv Qv _) ?_;refine aC<|yI rfl ?_;repeat first|refine qa ?_|refine aC ?_|refine aD ?_
  exact aW (lY (aP YB (dW rfl Qv) ⟨by unfold iU;rw[if_pos (Or.inr (Or.inl c2))],H.bel⟩))
 refine qg (iL (b:=false) _ _ rfl Qv Qv (Xf c2) _) ?_;refine qg (aO _ _ _ rfl Qv Qv _) ?_;iterate 3 refine qa ?_
 by_cases c3:fr<0
 .refine qg (fO (b:=true) _ _ rfl Qv Qv (Xt c3) _) ?_;refine qg (aO _ _ _ rfl Qv Qv _) ?_;refine qa ?_;iterate 3 refine fU ?_
  refine qg (aL _ _ _ rfl Qv Qv _) ?_;refine aC<|yI rfl ?_;repeat first|refine qa ?_|refine aC ?_|refine aD ?_
  exact aW (lY (aP YB (dW rfl Qv) ⟨by unfold iU;rw[if_pos (Or.inr (Or.inr (Or.inl c3)))],H.bel⟩))
 refine qg (fO (b:=false) _ _ rfl Qv Qv (Xf c3) _) ?_;refine qg (aO _ _ _ rfl Qv Qv _) ?_;iterate 3 refine qa ?_
 by_cases c4:1073741823<fr
 .refine qg (fF (b:=true) _ _ rfl Qv Qv (Xt c4) _) ?_;refine qg (aO _ _ _ rfl Qv Qv _) ?_;refine aC<|yI rfl ?_;repeat first|refine qa ?_|refine aC ?_|refine aD ?_
  exact aW (lY (aP YB (dW rfl Qv) ⟨by unfold iU;rw[if_pos (Or.inr (Or.inr (Or.inr c4)))],H.bel⟩))
 refine qg (fF (b:=false) _ _ rfl Qv Qv (Xf c4) _) ?_;refine qg (aO _ _ _ rfl Qv Qv _) ?_;refine aC<|yV rfl (aU ?_);have eR:¬(x.bad< -1\/4<=x.bad\/fr<0\/1073741823<fr):=Yo;refine aH<|aD ?_;repeat first|refine qa ?_|refine aC ?_
 refine fB (λh=>?_) (λh=>?_)
 .have c5:400<x.ly.length:=by have:=Xu h;omega
  repeat first|refine qa ?_|refine aC ?_|refine aD ?_
  exact aW (lY (aP YB (dW rfl Qv) ⟨by unfold iU;rw[if_neg eR,if_pos c5],H.bel⟩))
 have c5:¬400<x.ly.length:=by have:=Xg h;omega
 refine aU<|aH<|aD<|qa ?_;refine qg (Eq.trans (aX _ _ rfl ManyK.out Qv H.v1 Yo) (by rw[jG (λj hj=>aAL fr D hj)])) ?_;repeat first|refine qa ?_|refine aC ?_
 refine aK ?_;refine bX (λr A W=>∃i:Nat,i<=4/\4-i<=r/\A.tmps.size=40/\A.defers=[]/\A.eval (.tmp 30)=aN (J2 D) 0 296/\A.eval (.tmp 31)=.int .i64 (i:Int)/\(∀j,j<i->(D j).1.id=(j:Nat))/\Cx w W []) 4
  ⟨0,Xz _,Yo,YA,YB,Qv,Qv,λj h=>absurd h (Nat.not_lt_zero j),H.tl.tl⟩ (λr B W hI=>?_)
 clear b0 b1 hs hd H;obtain⟨i,hi,hr,hs,hd,b30,b31,hD,H⟩:=hI;refine aD (aG ?_);repeat first|refine qa ?_|refine aC ?_|refine aD ?_|refine aH ?_
 refine fB (λh=>?_) (λh=>?_)
 .have hin:i<4:=by have:=Xu h;omega
  refine aU<|aH (aK ?_);refine aD<|qa ?_;refine qg (Eq.trans (lD _ _ _ _ rfl ArrK.out ManyK.out Qv rfl Qv rfl hin _) (by rw[jG (λj hj=>LZ D hj)])) ?_;refine gJ H ?_;intro w3 H z3;refine qa ?_;refine fJ H.a0 aV (bP _ _ _ _) ?_;intro w4 H z4;repeat first|refine qa ?_|refine aC ?_|refine aD ?_
  refine fB (λh1=>?_) (λh1=>?_)
  .have e1:(D i).1.id≠(i:Nat):=Xu h1;repeat first|refine qa ?_|refine aC ?_|refine aD ?_
   exact aW (MM (lY (aGe (MM (lY (aP YB (dW rfl Qv) ⟨by unfold iU;rw[if_neg eR,if_neg c5,if_neg (aLz hin e1)],H.bel⟩))))))
  .have e1:(D i).1.id=(i:Nat):=by have:=Xg h1;simpa using this
   refine fM<|aI ?_;repeat refine qa ?_
   exact aS ⟨4-(i+1),Yo,i+1,Yo,Yo,YA,YB,Qv,Eq.trans Qv YC,λj hj=>(by
    by_cases e:j=i
    .rw[e];exact e1
    .exact hD j Yo),H.tl⟩
 .obtain rfl:i=4:=by have:=Xg h;omega
  refine bQ (dU ?_);refine aD ?_;repeat first|refine qa ?_|refine aC ?_
  exact aW (aP YB (dW rfl Qv) ⟨by unfold iU;rw[if_neg eR,if_neg c5,if_pos ⟨hD 0 Yo,hD 1 Yo,hD 2 Yo,hD 3 Yo⟩],H.bel⟩)
variable{lo:Option Addr}
theorem aGg{p q r:Operand}(ho:o.op=.build 74 #[(0,p),(1,q),(2,r)]){lc:Nat}(hp:f p=aN (gF fr D) 0 297)(hq:f q=.int .i64 bad)(hr:f r=.slice lo n lc)(w:World):(execOp f o).run Tryz.prog w=.ok (.value (aN (jT fr D bad (.slice lo n lc) (λ_=>([],(none,0)))) 0 303)) w:=by
 refine FT (z:=jT 0 (λ_=>(dI,(none,0))) 0 (.slice none 0 0) (λ_=>([],(none,0)))) (places:=#[(0,297),(297,1),(298,1),(299,4)]) Tryz.underlying74 (λw=>Yl) (λw=>Yl) ho ?_ w;rw[show (Array.map (λp:Nat×Operand=>(p.1,f p.2)) #[(0,p),(1,q),(2,r)]).toList=[(0,f p),(1,f q),(2,f r)] by simp];rw[hp,hq,hr,aBO (off:=0) (n:=297) rfl (Z8 _ _) Yc,aBO (off:=297) (n:=1) (f:=λ_=>.int .i64 bad) rfl rfl Yc,aBO (off:=298) (n:=1) (f:=λ_=>.slice lo n lc) rfl rfl Yc];refine congrArg some ?_;unfold jM;refine congrArg List.toArray (List.map_congr_left λj hj=>?_);have hj:=List.mem_range.1 hj;by_cases c1:j<297
 .rw[nQ _ _ Yo,nQ _ _ Yo];have:=nR (jT 0 (λ_=>(dI,(none,0))) 0 (.slice none 0 0) (λ_=>([],(none,0)))) (o:=0) (gF fr D) c1;rw[Nat.zero_add] at this;rw[this];exact (zH c1).symm
 .by_cases c2:j=297
  .subst c2;rw[nQ _ _ Yo];rfl
  .by_cases c3:j=298
   .subst c3;rfl
   .rw[nQ _ _ Yo,nQ _ _ Yo,nQ _ _ Yo];unfold jT xH;rw[if_neg c1,if_neg c1,if_neg c2,if_neg c2,if_neg c3,if_neg c3]
theorem aGN(fr:Int)(D:Nat->Nd×Ad)(bad:Int)(lv:Value)(X:Nat->List Lm×Ad)(hi:i<4)(a:Ad):∀j,j<303->stW (jT fr D bad lv X) (1+i*74+73) (slV a (D i).1.vA.length) j=jT fr (dS D i ((D i).1,a)) bad lv X j:=by
 intro j hj;rw[<-aEs fr D bad lv X hi ((D i).1,a) j hj];unfold stP;by_cases c:1+i*74<=j/\j<1+i*74+74
 .rw[if_pos c];have e:=FR (D i).1 (slV (D i).2 (D i).1.vA.length) (slV a (D i).1.vA.length) (j-(1+i*74)) Yo;rw[<-e];unfold stW;have hb:jT fr D bad lv X j=ndF (D i).1 (slV (D i).2 (D i).1.vA.length) (j-(1+i*74)):=by
   unfold jT;rw[zH Yo];have:=TV fr (λi=>(D i).1) (λi=>slV (D i).2 (D i).1.vA.length) (i:=i) (j:=j-(1+i*74)) Yo;rw[show 1+i*74+(j-(1+i*74))=j by omega] at this;exact this
  by_cases d:j=1+i*74+73
  .rw[if_pos d,if_pos Yo]
  .rw[if_neg d,if_neg Yo,hb]
 .rw[if_neg c,gW _ _ Yo]
theorem aLR(h:Sr w ao n c g):OG w 1 (.slice ao n c) n (rowV g n):=by
 rcases h with ⟨rfl,rfl,rfl⟩|⟨y,rfl,hc⟩
 .exact Or.inl ⟨rfl,rfl,rfl⟩
 .refine Or.inr ⟨y,c,rfl,wR g n,λj u hj=>?_⟩;rcases Nat.lt_or_ge j n with h|h
  .rw[gY g h] at hj;cases hj;exact hc j h
  .rw[iN g h] at hj;cases hj
theorem aBx(x:Ip)(fr:Int)(D:Nat->Nd×Ad)(lo:Option Addr)(lc:Nat)(w0 w:World)(l:List It)(hag:∀i,i<4->nJ w0 (D i).1 (D i).2.1 (D i).2.2)(hok:∀i,i<4->NdOK (D i).1)(H:Cx w0 w l):Calls Tryz.prog 15 #[aN (gF fr D) 0 297,aN (mE x.rd x.bad (.slice lo x.ly.length lc)) 0 14] w λe w'=>∃(b:Nat) (D':Nat->Nd×Ad),e=.returned (.pointer (some ⟨b,0,none⟩))/\(∀i,i<4->(D' i).1=(D i).1)/\Cx w0 w' (lX w0.heap.size D'::vhI 74 b 303 303 (jT fr D' x.bad (.slice lo x.ly.length lc) (λ_=>([],(none,0))))::l):=by
 refine bO Tryz.func15 rfl 35 rfl Yd (λA hs hd hb=>?_);have b0:A.eval (.tmp 0)=aN (gF fr D) 0 297:=hb 0 _ rfl;have b1:A.eval (.tmp 1)=aN (mE x.rd x.bad (.slice lo x.ly.length lc)) 0 14:=hb 1 _ rfl;clear hb;refine aD (aG ?_);refine iH H ?_;intro w1 H z1;refine iH H ?_;intro w2 H z2;repeat first|refine qa ?_|refine aC ?_|refine aD ?_
 refine qg (aGg (fr:=fr) (D:=D) rfl Qv Qv Qv _) ?_;refine iH H ?_;intro w3 H z3;refine qa ?_;refine aC<|aH<|aD<|qa ?_;refine qg (Eq.trans (aX _ _ rfl ManyK.out Qv H.v2 Yo) (by rw[jG (λj hj=>aAL fr D hj)])) ?_;repeat first|refine qa ?_|refine aC ?_
 refine aK ?_;refine bX (λr A W => ∃ (i : Nat) (D' E : Nat -> Nd × Ad), i <= 4 /\ 4 - i <= r /\ A.tmps.size = 35 /\ A.defers = [] /\ A.eval (.tmp 5) = .pointer (some ⟨w2.heap.size, 0, none⟩) /\ A.eval (.tmp 16) = aN (J2 D) 0 296 /\ A.eval (.tmp 17) = .int .i64 (i : Int) /\ (∀ j, j < 4 -> (D' j).1 = (D j).1) /\ (∀ j, j < i -> E j = D' j) /\
   Cx w0 W (lX w0.heap.size E::vhI 74 w2.heap.size 303 303 (jT fr D' x.bad (.slice lo x.ly.length lc) (λ_=>([],(none,0))))::l)) 4
  ⟨0,D,λ_=>(dI,(none,0)),Xz _,Yo,YA,YB,Qv,Qv,Qv,λ_ _=>rfl,λj h=>absurd h (Nat.not_lt_zero j),H.f1.tl.f1.tl.add (Below.refl _ _) (lX w0.heap.size (λ_=>(dI,(none,0)))) (λ_ _=>World.ownsRow_nil _ _ _ _) (λj ⟨_,_,e⟩=>absurd e (λe=>nomatch e))⟩ (λr B W hI=>?_)
 clear b0 b1 hs hd H;obtain⟨i,D',E,hi,hr,hs,hd,b5,b16,b17,hD,hE,H⟩:=hI;refine aD (aG ?_);repeat first|refine qa ?_|refine aC ?_|refine aD ?_|refine aH ?_
 refine fB (λh=>?_) (λh=>?_)
 .have hin:i<4:=by have:=Xu h;omega
  refine aU<|aH (aK ?_);refine aD<|qa ?_;refine qg (Eq.trans (lD _ _ _ _ rfl ArrK.out ManyK.out Qv rfl Qv rfl hin _) (by rw[jG (λj hj=>LZ D hj)])) ?_;refine gJ H ?_;intro w3 H z3;refine qa ?_;refine fJ H.a0 aV (bP _ _ _ _) ?_;intro w4 H z4;refine aC ?_;replace H:=H.drew;have hS:Its [vhI 37 W.heap.size 74 74 (ndF (D i).1 (slV (D i).2 (D i).1.vA.length))] w4.drew:=Its.cons H.o0 (Its.nil _);refine fG (S:=Its [vhI 37 W.heap.size 74 74 (ndF (D i).1 (slV (D i).2 (D i).1.vA.length))]) (.mv 0 (.mv 1 (.mv 2 (.mv 3 (.rd 4 (.mv 6 (.mv 7 (.mv 8 (.go 5 (.mv 9 (.mv 10 (.mv 11 (.go 12 .fin))))))))))))) [12] Yl Yl ?_;repeat first|refine qj ?_|refine qr hS ?_
  refine dC rfl rfl Yw (λK hK=>?_);have hvA:=(hok i hin).vA;refine rU rfl inferInstance H.size Qv Qv (World.ownsRow_nil _ _ _ _) (aLR ((hag i hin).below H.bel)) (nK _ _ (λ_ _=>rfl)) Ym Yo ?_;intro v' w5 o5 g5 f5;rw[Nat.zero_add,List.nil_append] at o5;obtain⟨a5,c5,rfl,hc5⟩:=dP o5;have k5:Below w4.drew.heap.size w4.drew w5:=⟨g5.os,g5.tape,g5.output,g5.size,λk hk=>g5.block k hk (λe=>nomatch e)⟩;replace H:=H.add k5 (vU w0.heap.size ((D i).1,(a5,c5))) o5 (λj e=>(f5 j e).resolve_left (λe=>nomatch e));refine hK _ _ (λ_ _=>Its.cons H.o1 (Its.nil _)) ?_;clear hK K;repeat refine qj ?_
  refine dK rfl Yw (λK hK=>iC _ _ _ _ rfl OneK.out Qv Qv H.v3 Yo rfl rfl rfl (λw6 m6 k6 z6=>hK _ (λh=>absurd h Yc) ?_));replace H:=H.a3.s k6 (m6.congr (λj hj=>Eq.trans (by rw[show 0+0+1+i*74+71+2=1+i*74+73 by omega,hD i hin];rfl) (aGN fr D' x.bad (.slice lo x.ly.length lc) (λ_=>([],(none,0))) hin (a5,c5) j hj)));refine nT<|aI ?_;repeat refine qa ?_
  refine aS ⟨4-(i+1),Yo,i+1,dS D' i ((D' i).1,(a5,c5)),dS E i ((D i).1,(a5,c5)),Yo,Yo,YA,YB,Qv,Qv,Eq.trans Qv YC,λj hj=>?_,λj hj=>?_,mJ (g:=vU w0.heap.size) i H.f1.tl⟩
  .by_cases e:j=i
   .rw[e,dD];exact hD i hin
   .rw[bZ _ _ e];exact hD j hj
  .by_cases e:j=i
   .rw[e,dD,dD,hD i hin]
   .rw[bZ _ _ e,bZ _ _ e];exact hE j Yo
 .obtain rfl:i=4:=by have:=Xg h;omega
  refine bQ (dU ?_);refine aD ?_;repeat first|refine qa ?_|refine aC ?_
  refine aW (aP YB (dW rfl Qv) ⟨w2.heap.size,D',rfl,hD,H.wk (λh j hj=>?_) (λk ⟨j,hj,hk⟩=>⟨j,hj,?_⟩)⟩)
  .have this:(vU w0.heap.size (E j)).p W:=h j hj;rw[hE j hj] at this;exact this
  .show (vU w0.heap.size (E j)).foot k
   rw[hE j hj];exact hk
def rC(fb rb:Nat)(k:Nat):Value:=if k=0 then .func (.func 32) #[] #[.pointer (some ⟨fb,0,none⟩),.pointer (some ⟨rb,0,none⟩)] else if k=1 then .func (.func 34) #[] #[] else if k=2 then .func (.func 35) #[] #[] else if k=3 then .func (.func 36) #[] #[] else .func (.func 37) #[] #[]
variable{Q:Exit->Act->World->Prop}
theorem aFm(w:World){a:Act}{K:Act->World->Prop}{x:Operand}(ho:o.op=.buildSlice 60 5 #[(0,x),(1,.func 34),(2,.func 35),(3,.func 36),(4,.func 37)]){fb rb:Nat}(hx:a.eval x=rC fb rb 0)(h:∀w',Vh 63 w' w.heap.size 5 5 (rC fb rb)->Below w.heap.size w w'->w'.heap.size=w.heap.size+1->K (a.put o.dst (.slice (some ⟨w.heap.size,0,none⟩) 5 5)) w'):WpI Tryz.prog o a w K Q:=by
 have hh:=h (w.alloc (.cells #[rC fb rb 0,rC fb rb 1,rC fb rb 2,rC fb rb 3,rC fb rb 4] 63)) (Vh.of_row (rC fb rb) 5 Yc (by show (w.heap.push _)[w.heap.size]?=_;rw[Array.getElem?_push_size];rfl)) (bU _ _) (dJ _ _);have e:(execOp a.eval o).run Tryz.prog w=.ok (.value (.slice (some ⟨w.heap.size,0,none⟩) 5 5)) (w.alloc (.cells #[rC fb rb 0,rC fb rb 1,rC fb rb 2,rC fb rb 3,rC fb rb 4] 63)):=by
  have e1:a.eval (.func 34)=rC fb rb 1:=rfl;have e2:a.eval (.func 35)=rC fb rb 2:=rfl;have e3:a.eval (.func 36)=rC fb rb 3:=rfl;have e4:a.eval (.func 37)=rC fb rb 4:=rfl;clear hh h;generalize a.eval=f at hx e1 e2 e3 e4;unfold rC at*;unfold execOp;rw[ho];simp only[List.map_toArray,List.map_cons,List.map_nil];rw[hx,e1,e2,e3,e4];go_simp
 refine⟨?_⟩;unfold Oper.wp;rw[e];exact hh
theorem aBX(fr:Int)(rd:Nat->Nat->Int)(w0 w:World)(l:List It)(H:Cx w0 w l):Calls Tryz.prog 16 #[.int .i64 fr,aN (BJ rd) 0 12] w λe w'=>∃fb rb pb,e=.returned (.slice (some ⟨pb,0,none⟩) 5 5)/\Cx w0 w' (vhI 63 pb 5 5 (rC fb rb)::FB fb rb fr rd::l):=by
 refine bO Tryz.func16 rfl 9 rfl Yd (λA hs hd hb=>?_);have b0:A.eval (.tmp 0)=.int .i64 fr:=hb 0 _ rfl;have b1:A.eval (.tmp 1)=aN (BJ rd) 0 12:=hb 1 _ rfl;clear hb;refine aD (aG ?_);refine aMm H ?_;intro w1 H z1;refine iH H ?_;intro w2 H z2;repeat first|refine qa ?_|refine aC ?_|refine aD ?_
 refine qg (aGL _ _ _ rfl Qv Qv _) ?_;repeat first|refine qa ?_|refine aC ?_|refine aD ?_
 refine bI rfl Yw (λK hK=>aFm _ (fb:=w.heap.size) (rb:=w1.heap.size) rfl (Eq.trans Qv rfl) (λw3 m3 k3 z3=>hK _ _ ?_));replace H:=H.add k3 (vhI _ _ _ _ _) m3 (λj e=>Nat.le_of_eq e.symm);repeat first|refine qa ?_|refine aC ?_
 exact aW (aP YB (dW rfl Qv) ⟨w.heap.size,w1.heap.size,_,rfl,H.f2.f2.f1.merge.b1⟩)
theorem aNS(w:World):(zeroValue 31).run Tryz.prog w=.ok (aN (λ_=>iV 0) 0 3) w:=Yl
theorem aFT(g:Nat->Value)(h:Nat->Value):∀j,j<3->stP g 0 3 h j=h j:=λj hj=>by
 have:=nR g (o:=0) (n:=3) h hj
 rwa [Nat.zero_add] at this
theorem aFN(x:Operand)(ho:o.op=.call { callee:=.builtin .len,args:=#[x],argTypes:=#[123] })(hx:f x=.slice ao n c)(w:World):(execOp f o).run Tryz.prog w=.ok (.value (.int .i64 ((n:Nat):Int))) w:=by
 unfold execOp;rw[ho];dsimp only;go_simp
theorem aKF(x y:Operand)(ho:o.op=.indexAddr 123 x y){b off cap:Nat}{z:Int}(hx:f x=.slice (some ⟨b,off,none⟩) n cap)(hy:f y=.int .i64 z)(hz:z=(i:Int))(hi:i<n)(w:World):(execOp f o).run Tryz.prog w=.ok (.value (.pointer (some ⟨b,off+i*3,none⟩))) w:=by
 subst hz;have hi2:(i:Int)<n:=Yo;unfold execOp;rw[ho];dsimp only;rw[hx,hy];go_simp
theorem aED{d:Nat->Nat->Int}:rowV (iF (λj=>d (j/3) (j%3))) (3*i)++rowV (λk=>iV (d i k)) 3=rowV (iF (λj=>d (j/3) (j%3))) (3*(i+1)):=by
 rw[kS];refine gZ (λj hj=>?_);by_cases c:j<3*i
 .rw[if_pos c]
 .rw[if_neg c];show iV (d i (j-3*i))=iV (d (j/3) (j%3))
  rw[show j/3=i by omega,show j%3=j-3*i by omega]
theorem aHf(b o N cap:Nat)(t:TypeId)(g:Nat->Value)(d:Nat->Nat->Int)(w:World)(hm:Vh t w b N cap g)(ho:o+12<=N)(hg:∀i k,i<4->k<3->g (o+i*3+k)=iV (d i k)):Calls Tryz.prog 62 #[.slice (some ⟨b,o,none⟩) 4 4] w λe w'=>∃a2 c2,e=.returned (.slice a2 12 c2)/\w'.ownsRow w.heap.size 3 1 (.slice a2 12 c2) 12 (rowV (iF (λj=>d (j/3) (j%3))) 12)/\Below w.heap.size w w':=by
 refine bO Tryz.func62 rfl 17 rfl Yd (λA hs hd hb=>?_);have b0:=hb 0 _ rfl;clear hb;refine aD (aG ?_);refine Yx ?_;refine aC<|aD<|Yx ?_;refine aC<|aH<|aD<|Yx ?_;refine Yq (aFN _ rfl Yf _) ?_;refine Yx ?_;refine aC<|aK<|bX (λr a W=>∃(i:Nat) (v:Value),i<=4/\4-i<=r/\a.tmps.size=17/\a.defers=[]/\a.eval (.tmp 6)=.slice (some ⟨b,o,none⟩) 4 4/\a.eval (.tmp 7)=.int .i64 ((4:Nat):Int)/\a.eval (.tmp 8)=.int .i64 (i:Int)/\a.eval (.tmp 3)=v/\W.ownsRow w.heap.size 3 1 v (3*i) (rowV (iF (λj=>d (j/3) (j%3))) (3*i))/\Below w.heap.size w W) 4 ⟨0,_,Yo,Yo,YA,YB,Yf,Yf,Yf,Yf,World.ownsRow_nil _ _ _ _,Below.refl _ _⟩ (λr B W hI=>?_);clear b0 hs hd;obtain⟨i,v,hi,hr2,hs,hd,b6,b7,b8,b3,ov,kB⟩:=hI;have hWs:=kB.size;have hbl:=hm.lt;by_cases hin:i<4
 .refine aD (aG ?_);refine Yx ?_;refine aC<|aH (bE Yf (aU ?_));refine aH (aK ?_);refine aD<|Yq (aKF _ _ rfl Yb Yb rfl hin _) ?_;refine Yq (bM (h:=λk=>iV (d i k)) _ _ rfl kG Yf (hm.below kB) Yo (λk hk=>hg i k hin hk)) ?_;refine Za aNS (λw1 m1 k1 z1=>?_);have ov1:=bK ov k1;refine Zs kG m1 (λj hj=>rfl) (λw2 mm2 k2 z2=>?_);have mrow2:=Vh.congr mm2 (aFT _ _);have ov2:=bR ov1 k2 (λe=>by have e2:=(ov.lt _ e).2;omega);refine aC<|aI<|Yx ?_;refine Yq (yK _ rfl Yf _) ?_;refine bI rfl Yw (λK hK=>?_);refine⟨kN _ _ _ rfl w.heap.size Yo v _ _ Yf ov2 _ 3 3 _ Yf (Or.inr ⟨_,rfl,λi hi=>by rw[add_at,Nat.zero_add];exact mrow2.cell hi⟩) (λi _=>rfl) Yo ?_⟩;intro v3 w3 ov3 k3;have n3:=k3.size;rw[aED] at ov3;refine hK _ _ ?_;clear hK K;refine Yx ?_;refine fD<|aI ?_;iterate 2 refine Yx ?_
  exact aS ⟨4-(i+1),Yo,i+1,_,Yo,Yo,YA,YB,Yb,Yb,(Ye rfl).trans YC,Yf,ov3,(aF (kB.trans (k1.mono Yo)) k2 Yo Yo).trans (k3.mono Yo)⟩
 .refine aD (aG ?_);refine Yx ?_;obtain rfl:i=4:=Yo;refine aC<|aH (bH Yf (bQ (dU ?_)));refine aD ?_;iterate 2 refine Yx ?_
  obtain⟨a2,c2,rfl,hc2⟩:=dP ov;refine aC ?_;exact aW (aP YB (dW rfl Yf) ⟨a2,c2,rfl,ov,kB⟩)
end Go.Proofs.YthimcecbgpamdaaGreat
