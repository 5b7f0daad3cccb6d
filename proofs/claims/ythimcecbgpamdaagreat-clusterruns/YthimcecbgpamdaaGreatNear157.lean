import Derived.Test.YthimcecbgpamdaaGreatNear90
import Derived.Test.YthimcecbgpamdaaGreatNear91
set_option maxHeartbeats 4000000
namespace Go.Proofs.YthimcecbgpamdaaGreat
open Go.RowKit
def relI(n:Nd)(l:List Ms)(i s a:Nat):Int:=if s<i then relD n l s a else n.di s a
def wX(n:Nd)(l:List Ms)(j:Nat):Int:=relD n l (j/3) (j%3)
variable{v:Value}{n:Nd}
theorem aAg{d d':Nat->Nat->Int}(h:∀s a,s<4->d s a=d' s a):ndF { n with di:=d } v=ndF { n with di:=d' } v:=ndF_ext (n:=n) h (λ_ _ _ _=>rfl) (λ_ _=>rfl) (λ_ _=>rfl)
variable{i:Nat}
theorem UL(n:Nd)(v:Value){a:Nat}(hi:i<4)(ha:a<3):ndF n v (0+39+i*3+a*1)=.int .i64 (n.di i a):=by
 unfold ndF;rw[if_neg Yo,if_neg Yo,if_neg Yo,if_neg Yo,if_pos Yo,show (0+39+i*3+a*1-39)/3=i by omega,show (0+39+i*3+a*1-39)%3=a by omega];rfl
theorem SY(n:Nd)(l:List Ms):∀s a,s<4->relI n l 4 s a=relD n l s a:=λs a h=>by unfold relI;rw[if_pos h]
variable{L:List Lm}
theorem UN(h:fL n.id n.fr L (i:Int) 1 3=none):({ n with di:=relI n (L.map Lm.m) i }:Nd)={ n with di:=relI n (L.map Lm.m) (i+1) }:=by
 congr 1
 funext s a
 unfold relI;by_cases c1:s<i
 .rw[if_pos c1,if_pos Yo]
 .rw[if_neg c1];by_cases c2:s=i
  .subst c2;rw[if_pos Yo];unfold relD;have:=qU n L s 1 3;rw[show ((3:Nat):Int)=3 from rfl,h] at this;rw[<-this];rfl
  .rw[if_neg Yo]
variable{c:Lm}
theorem UF(h:fL n.id n.fr L (i:Int) 1 3=some c):({ n with di:=λs a=>if s=i then gL c.m.L a else relI n (L.map Lm.m) i s a }:Nd)={ n with di:=relI n (L.map Lm.m) (i+1) }:=by
 congr 1
 funext s a
 unfold relI;by_cases c2:s=i
 .subst c2;rw[if_pos rfl,if_pos Yo];unfold relD;have:=qU n L s 1 3;rw[show ((3:Nat):Int)=3 from rfl,h] at this;rw[<-this];rfl
 .rw[if_neg c2];by_cases c1:s<i
  .rw[if_pos c1,if_pos Yo]
  .rw[if_neg c1,if_neg Yo]
theorem aMr{l:List Ms}{x:Nat}(hx:x<3):iF (wX n l) (3*i+x)=(λ_:Nat=>iV (relI n l (i+1) i x)) 0:=by
 show iV (relD n l ((3*i+x)/3) ((3*i+x)%3))=iV _
 unfold relI;rw[if_pos Yo,show (3*i+x)/3=i by omega,show (3*i+x)%3=x by omega]
theorem aKh(K F R:Int)(v u:Value):∀j,j<4->stW (msF K F R v) (0+3) u j=msF K F R u j:=by
 intro j hj
 match j,hj with
 |0,_=>rfl
 |1,_=>rfl
 |2,_=>rfl
 |3,_=>rfl
theorem aCK(f:Nat->Int)(k:Nat):rowV (iF (gL ((List.range k).map f))) k=rowV (iF f) k:=by
 refine iC (λi hi=>?_);unfold iF gL;rw[List.getD_eq_getElem?_getD,List.getElem?_map,List.getElem?_range hi];rfl
theorem VJ{id fr s kind many:Int}{m:Ms}(h:iN id fr s kind many m=true):(m.L.length:Int)=many:=by
 unfold iN at h;simp at h;omega
variable{b:Nat}{w:World}
theorem aAu{e:TypeId}{u:Value}(m:Vh e w b 1 1 (λ_=>u)):OG w 1 (.slice (some ⟨b,0,none⟩) 1 1) 1 [u]:=Or.inr ⟨⟨b,0,none⟩,1,rfl,rfl,λj u' hj=>by
 obtain rfl:j=0:=by
  have:=(List.getElem?_eq_some_iff.1 hj).1;simp at this;exact this
 cases hj
 exact m.cell (show 0<1 by omega)⟩
variable{ty:TypeId}{P:Program}{o:Oper}{f:Operand->Value}
theorem VH{x:Operand}(T:OneC P ty){off:Nat}(hc:w.cell? ⟨b,off,none⟩=some v)(ho:o.op=.load ty x)(hx:f x=.pointer (some ⟨b,off,none⟩)):(execOp f o).run P w=.ok (.value v) w:=by
 unfold execOp;simp only[ho,hx,Instr.loadAt,Instr.sureAddr,loadVar,Sem.run_bind,Sem.run_pure,Result.andThen_ok,T.agg];go_simp
def aOa:Option Lm->Value
 |some c=>lmV c
 |none=>.slice none 0 0
theorem aIZ(o:Option Lm):fstV o=.tuple #[aOa o,.bool o.isSome]:=by cases o<;>rfl
def zW(w:World)(n:Nd)(a:Option Addr)(c:Nat):It:=dZ w.heap.size 4 1 (.slice a n.vA.length c) n.vA.length (rowV (tF (bA n)) n.vA.length)
instance iRefNod6_1:EntK Tryz.prog 43:=⟨λargs w=>Yh⟩
variable{Q:Exit->Act->World->Prop}{a:Act}
theorem IR{x y:Code}(T:Act->World->Prop)(hx:(∀A W,T A W->CodI P y Q A W)->CodI P x (Nx P y Q) a w)(hy:∀A W,T A W->CodI P y Q A W):CodI P (.seq x y) Q a w:=aH (hx hy)
abbrev BK(w w1 w2:World)(n m:Nd)(a3:Option Addr)(c3:Nat):List It:=[zW w n a3 c3,vhI 67 w2.heap.size 4 4 (msF 0 0 0 (.slice none 0 0)),vhI 37 w1.heap.size 74 74 (ndF bX (.slice none 0 0)),vhI 37 w.heap.size 74 74 (ndF m (.slice a3 n.vA.length c3))]
abbrev dcA(k:Nat)(A:Act)(w w1 w2:World)(v:Value):Prop:=A.tmps.size=k/\A.defers=[]/\A.eval (.tmp 1)=v/\A.eval (.tmp 2)=.pointer (some ⟨w.heap.size,0,none⟩)/\A.eval (.tmp 4)=.pointer (some ⟨w1.heap.size,0,none⟩)/\A.eval (.tmp 5)=.pointer (some ⟨w2.heap.size,0,none⟩)
set_option maxRecDepth 10000 in
theorem YZ:xU relN uF 24:=by
 intro n ao c mo mc L w hok hag hmr hN hmc hRL;have hag:Sr w ao n.vA.length c (tF (bA n)):=hag;refine bO Tryz.func24 rfl 64 rfl Yd (λA hs hd hb=>?_);have b0:A.eval (.tmp 0)=aP (ndF n (.slice ao n.vA.length c)) 0 74:=hb 0 _ rfl;have b1:A.eval (.tmp 1)=.slice mo L.length mc:=hb 1 _ rfl;clear hb;have H:=Cx.start w;refine aD (aG ?_);refine iG H ?_;clear H;intro w1 H z1;refine fU H ?_;clear H;intro w2 H z2;refine fU H ?_;clear H;intro w3 H z3;refine aC<|aD<|qa ?_;refine mI (show Calls _ _ #[aP (ndF n (.slice ao n.vA.length c)) 0 74] _ _ from nM n ao c _ (hag.below H.bel) hok.vA) ?_;rintro e w4 ⟨a3,c3,rfl,o4,k4⟩;refine⟨aP (ndF n (.slice a3 n.vA.length c3)) 0 74,rfl,?_⟩;have hsz:=H.size;replace H:=H.add k4 (zW w n a3 c3) (bZ o4 hsz) (λj e=>(o4.lt j e).1);refine eO H.a3 aT (bN _ _ _ _) ?_;clear H;intro w5 H z5;refine aC<|aH<|aD<|qa ?_;refine mI (show Calls _ _ #[aP (ndF n (.slice a3 n.vA.length c3)) 0 74] _ _ from pF n _ _) ?_;rintro e w6 ⟨rfl,k6⟩;refine⟨_,rfl,?_⟩;replace H:=H.call k6;refine aC<|dY (λhno=>?_) (λhno=>?_)
 .refine aD<|qa ?_;refine qg (mP rfl _) ?_;refine eO H.a2 aT (bN _ _ _ _) ?_;clear H;intro w7 H z7;refine eO H.a1 aT (fC _ _ _ _ _ _) ?_;clear H;intro w8 H z8;refine aC ?_;have e1:relN n (L.map Lm.m)=n:=by unfold relN;rw[if_pos hno]
  have e2:uF n (L.map Lm.m)=jH:=by unfold uF;rw[if_pos hno]
  rw[e1,e2];exact aW (jK (aN YB (gH rfl Qv Qv ManyK.out ManyK.out H.v2 (Xr _) H.v1 (Xr _)) ⟨a3,c3,none,0,rfl,H.o0,World.ownsRow_nil _ _ _ _,H.bel⟩))
 refine aS<|aD ?_;iterate 4 refine qa ?_
 refine qg (aCG _ _ _ rfl Qv Qv Qv _) ?_;refine fU H ?_;clear H;intro w7 H z7;obtain⟨b6,eb6⟩:∃b6,b6=w6.heap.size:=⟨_,rfl⟩;rw[<-eb6] at H ⊢;refine eO H.a0 aT (fC _ _ _ _ _ _) ?_;clear H;intro w8 H z8;refine aC<|aH<|aD<|qa ?_;refine aC<|aK ?_;refine bW (λr A W'=>∃(i:Nat) (a2:Option Addr) (c2:Nat),i<=4/\4-i<=r/\(A.tmps.size=64/\A.defers=[]/\A.eval (.tmp 1)=.slice mo L.length mc/\A.eval (.tmp 2)=.pointer (some ⟨w.heap.size,0,none⟩)/\A.eval (.tmp 4)=.pointer (some ⟨w1.heap.size,0,none⟩)/\A.eval (.tmp 5)=.pointer (some ⟨w2.heap.size,0,none⟩)/\A.eval (.tmp 6)=.pointer (some ⟨b6,0,none⟩)/\A.eval (.tmp 7)=.int .i64 (i:Int))/\Cx w W' [vhI 67 b6 4 4 (msF 2 n.id n.fr (.slice a2 (3*i) c2)),dZ w.heap.size 3 1 (.slice a2 (3*i) c2) (3*i) (rowV (iF (wX n (L.map Lm.m))) (3*i)),zW w n a3 c3,vhI 67 w2.heap.size 4 4 (msF 0 0 0 (.slice none 0 0)),vhI 37 w1.heap.size 74 74 (ndF bX (.slice none 0 0)),vhI 37 w.heap.size 74 74 (ndF { n with di:=relI n (L.map Lm.m) i } (.slice a3 n.vA.length c3))]) 4
  ⟨0,none,0,Xz _,Yo,⟨YA,YB,Qv,Qv,Qv,Qv,Qv,Qv⟩,?_⟩ (λr A W hI=>?_)
 .rw[show ({ n with di:=relI n (L.map Lm.m) 0 }:Nd)=n by unfold relI;congr 1];exact (H.add (Below.refl _ _) (dZ w.heap.size 3 1 (.slice none 0 0) 0 []) (World.ownsRow_nil _ _ _ _) (λj e=>nomatch e)).f1
 clear b0 b1 hs hd H;obtain⟨i,a2,c2,hi,hir,⟨hs,hd,b1,b2,b4,b5,b6',b7⟩,H⟩:=hI;refine aH<|aD (aG ?_);iterate 2 refine qa ?_
 refine aC<|dY (λh=>?_) (λh=>?_)
 .have hin:i<4:=by have:=Xu h;omega
  refine aS<|aH (aK ?_);refine aD ?_;iterate 3 refine qa ?_
  refine bI rfl Yw (λK hK=>oQ _ _ _ _ _ _ _ _ rfl Qv Qv Qv Qv Qv (nL _ _ _ _ _ _) (show Calls _ _ #[aP (ndF { n with di:=relI n (L.map Lm.m) i } (.slice a3 n.vA.length c3)) 0 74,.slice mo L.length mc,.int .i64 (i:Int),.int .i64 1,.int .i64 3] _ (λe w'=>e=.returned (fstV (fL n.id n.fr L (i:Int) 1 3))/\_) from mJ { n with di:=relI n (L.map Lm.m) i } (.slice a3 n.vA.length c3) mo mc L (i:Int) 1 3 _ (hmr.below H.bel) hN) ?_);rintro e w9 ⟨rfl,k9⟩;refine⟨_,by rw[aIZ],hK _ _ ?_⟩;replace H:=H.call k9;refine qa ?_;refine qg (lQ _ rfl Qv _) ?_;refine qg (lN _ rfl Qv _) ?_;iterate 2 refine qa ?_
  refine aC<|IR (λA W'=>(A.tmps.size=64/\A.defers=[]/\A.eval (.tmp 1)=.slice mo L.length mc/\A.eval (.tmp 2)=.pointer (some ⟨w.heap.size,0,none⟩)/\A.eval (.tmp 4)=.pointer (some ⟨w1.heap.size,0,none⟩)/\A.eval (.tmp 5)=.pointer (some ⟨w2.heap.size,0,none⟩)/\A.eval (.tmp 6)=.pointer (some ⟨b6,0,none⟩)/\A.eval (.tmp 7)=.int .i64 (i:Int))/\Cx w W' [vhI 67 b6 4 4 (msF 2 n.id n.fr (.slice a2 (3*i) c2)),dZ w.heap.size 3 1 (.slice a2 (3*i) c2) (3*i) (rowV (iF (wX n (L.map Lm.m))) (3*i)),zW w n a3 c3,vhI 67 w2.heap.size 4 4 (msF 0 0 0 (.slice none 0 0)),vhI 37 w1.heap.size 74 74 (ndF bX (.slice none 0 0)),vhI 37 w.heap.size 74 74 (ndF { n with di:=relI n (L.map Lm.m) (i+1) } (.slice a3 n.vA.length c3))]) (λhT=>?_) (λA V hT=>?_)
  .refine aD<|qa ?_;refine aC ?_;rcases hfl:fL n.id n.fr L (i:Int) 1 3 with _|cm
   .refine zD rfl (aS ?_);exact hT _ _ ⟨⟨YA,YB,Qv,Qv,Qv,Qv,Qv,Qv⟩,by rw[<-UN hfl];exact H⟩
   obtain⟨hcm,hft⟩:=nV hfl;obtain⟨hs1,hs2,_⟩:=hmr.2 cm hcm;have hl3:cm.m.L.length=3:=by have:=VJ hft;omega
   rcases hs1 with ⟨_,h0,_⟩|⟨ca,eca,hcv⟩
   .omega
   have hlm:lmV cm=.slice (some ca) cm.m.L.length cm.cap:=by unfold lmV;rw[eca]
   refine yM rfl ?_;replace H:=H.drew;have hcv:∀q,q<3->w9.drew.cell? (ca.add q)=some (.int .i64 (gL cm.m.L q)):=λq hq=>aM (hcv q Yo) H.bel
   have hS:(λW=>Below w9.drew.heap.size w9.drew W) w9.drew:=Below.refl _ _;refine fD (S:=λW=>Below w9.drew.heap.size w9.drew W) (.mv 0 (.mv 1 (.mv 2 (.rd 3 (.mv 4 (.mv 5 (.rd 6 (.mv 7 (.mv 8 (.rd 9 (.mv 10 (.mv 11 (.mv 12 (.go 13 .fin)))))))))))))) [13] Yl Yl ?_;refine qj ?_;refine fF rfl rfl (λ_ _ _ h=>h) Yw (λw=>dL _ rfl (Eq.trans Qv hlm) w) ?_;refine Yk rfl (λ_=>cK _ _ rfl Qv Qv (i:=0) rfl Yo _) ?_;refine Yr rfl hS (λ_ e=>cO _ rfl Qv (aM (hcv 0 Yo) e)) ?_;refine fF rfl rfl (λ_ _ _ h=>h) Yw (λw=>dL _ rfl (Eq.trans Qv hlm) w) ?_;refine Yk rfl (λ_=>cK _ _ rfl Qv Qv (i:=1) rfl Yo _) ?_;refine Yr rfl hS (λ_ e=>cO _ rfl Qv (aM (hcv 1 Yo) e)) ?_;refine fF rfl rfl (λ_ _ _ h=>h) Yw (λw=>dL _ rfl (Eq.trans Qv hlm) w) ?_;refine Yk rfl (λ_=>cK _ _ rfl Qv Qv (i:=2) rfl Yo _) ?_;refine Yr rfl hS (λ_ e=>cO _ rfl Qv (aM (hcv 2 Yo) e)) ?_;refine Yk rfl (λ_=>SG _ _ _ rfl (g:=gL cm.m.L) Qv Qv Qv _) ?_;refine qj ?_;refine fF rfl rfl (λ_ _ _ h=>h) Yw (λw=>bD _ _ _ _ rfl ArrK.out SizK.out Qv Qv rfl hin w) ?_;refine dF rfl Yw (λK hK=>aO _ _ _ _ rfl ManyK.out Qv Qv H.v5 Yo (λ_ _=>rfl) rfl (λV1 m1 k1 z9=>hK _ (λh=>absurd h Yc) ?_));replace H:=H.a5.s k1 (m1.congr (GY _ _ _ i hin));refine fT ?_;exact hT _ _ ⟨⟨YA,YB,Qv,Qv,Qv,Qv,Qv,Qv⟩,by rw[<-UF hfl];exact H⟩
  clear b1 b2 b4 b5 b6' b7 hs hd H;obtain⟨⟨hs,hd,b1,b2,b4,b5,b6',b7⟩,H⟩:=hT;refine aD (aG ?_);refine qa ?_;refine aC<|aK ?_;refine bW (λr A W'=>∃(x:Nat) (a2:Option Addr) (c2:Nat),x<=3/\3-x<=r/\(A.tmps.size=64/\A.defers=[]/\A.eval (.tmp 1)=.slice mo L.length mc/\A.eval (.tmp 2)=.pointer (some ⟨w.heap.size,0,none⟩)/\A.eval (.tmp 4)=.pointer (some ⟨w1.heap.size,0,none⟩)/\A.eval (.tmp 5)=.pointer (some ⟨w2.heap.size,0,none⟩)/\A.eval (.tmp 6)=.pointer (some ⟨b6,0,none⟩)/\A.eval (.tmp 7)=.int .i64 (i:Int))/\A.eval (.tmp 10)=.int .i64 (x:Int)/\Cx w W' [vhI 67 b6 4 4 (msF 2 n.id n.fr (.slice a2 (3*i+x) c2)),dZ w.heap.size 3 1 (.slice a2 (3*i+x) c2) (3*i+x) (rowV (iF (wX n (L.map Lm.m))) (3*i+x)),zW w n a3 c3,vhI 67 w2.heap.size 4 4 (msF 0 0 0 (.slice none 0 0)),vhI 37 w1.heap.size 74 74 (ndF bX (.slice none 0 0)),vhI 37 w.heap.size 74 74 (ndF { n with di:=relI n (L.map Lm.m) (i+1) } (.slice a3 n.vA.length c3))]) 3
   ⟨0,a2,c2,Xz _,Yo,⟨YA,YB,Qv,Qv,Qv,Qv,Qv,Qv⟩,Qv,H⟩ (λr A W2 hI=>?_)
  clear b1 b2 b4 b5 b6' b7 hs hd H;obtain⟨x,a2,c2,hx,hxr,⟨hs,hd,b1,b2,b4,b5,b6',b7⟩,b10,H⟩:=hI;refine aH<|aD (aG ?_);iterate 2 refine qa ?_
  refine aC<|dY (λh=>?_) (λh=>?_)
  .have hx3:x<3:=by have:=Xu h;omega
   refine aS<|aH (aK ?_);replace H:=H.drew;have cV:W2.drew.cell? ⟨b6,0+3,none⟩=some (.slice a2 (3*i+x) c2):=H.v0.cell (show 3<4 by omega);have cD:W2.drew.cell? ⟨w.heap.size,0+39+i*3+x*1,none⟩=some (.int .i64 (relI n (L.map Lm.m) (i+1) i x)):=by
    rw[<-UL { n with di:=relI n (L.map Lm.m) (i+1) } (.slice a3 n.vA.length c3) hin hx3];exact H.v5.cell Yo
   have hS:(λW=>Below W2.drew.heap.size W2.drew W) W2.drew:=Below.refl _ _;refine fD (S:=λW=>Below W2.drew.heap.size W2.drew W) (.mv 0 (.rd 1 (.mv 2 (.mv 3 (.mv 4 (.mv 5 (.mv 6 (.rd 7 (.go 8 (.go 9 (.mv 10 (.go 11 .fin)))))))))))) [9,11] Yl Yl ?_;refine qj ?_;refine Yr rfl hS (λ_ e=>VH OneK.out (aM cV e) rfl Qv) ?_;iterate 3 refine qj ?_
   refine fF rfl rfl (λ_ _ _ h=>h) Yw (λw=>bD _ _ _ _ rfl ArrK.out SizK.out Qv Qv rfl hin w) ?_;refine fF rfl rfl (λ_ _ _ h=>h) Yw (λw=>bD _ _ _ _ rfl ArrK.out SizK.out Qv Qv rfl hx3 w) ?_;refine Yr rfl hS (λ_ e=>VH OneK.out (aM cD e) rfl Qv) ?_;refine cZ rfl rfl Yw (λK hK=>vB (v:=.int .i64 (relI n (L.map Lm.m) (i+1) i x)) SlcK.out OneK.out Zer1.out rfl rfl rfl Qv (λV1 m1 k1 z9=>hK _ _ (λ_ h=>h.trans (k1.mono h.size)) ?_));replace H:=H.call k1;have hrw:World.ownsRow _ _ _ _ _ _ _:=H.o1;refine cZ rfl rfl Yw (λK hK=>oJ (bytes:=8) rfl inferInstance H.size Qv Qv hrw (aAu m1) (λu hu=>by rw[List.mem_singleton.1 hu];rfl) Ym Yo (λv' V2 o2 g2 f2=>hK _ _ (λh=>absurd h Yc) ?_));rw[show rowV (iF (wX n (L.map Lm.m))) (3*i+x)++[.int .i64 (relI n (L.map Lm.m) (i+1) i x)]=rowV (iF (wX n (L.map Lm.m))) (3*i+x+1) by unfold rowV;rw[List.range_succ,List.map_append,List.map_singleton,aMr hx3];rfl] at o2;replace H:=H.a1.put (y:=(dZ w.heap.size 3 1 v' (3*i+x+1) (rowV (iF (wX n (L.map Lm.m))) (3*i+x+1)))) ⟨g2.os,g2.tape,g2.output,g2.size,λj h5 h6=>g2.block j h5 (λe=>h6 e.symm),o2,f2⟩;obtain⟨a',c',rfl,_⟩:=dS o2;refine qj ?_;refine dF rfl Yw (λK hK=>iI _ _ _ _ rfl OneK.out Qv Qv H.v0 Yo rfl rfl rfl (λV3 m3 k3 z10=>hK _ (λh=>absurd h Yc) ?_));replace H:=H.a0.s k3 (m3.congr (aKh _ _ _ _ _));refine mW<|aI ?_;repeat refine qa ?_
   exact aQ ⟨3-(x+1),Yo,x+1,a',c',Yo,Yo,⟨YA,YB,Qv,Qv,Qv,Qv,Qv,Qv⟩,Eq.trans Qv YC,H⟩
  .obtain rfl:x=3:=by have:=Xg h;omega
   refine bP (zG ?_);refine aI ?_;repeat refine qa ?_
   exact aQ ⟨4-(i+1),Yo,i+1,a2,c2,Yo,Yo,⟨YA,YB,Qv,Qv,Qv,Qv,Qv,Eq.trans Qv YC⟩,by rw[show 3*(i+1)=3*i+3 by omega];exact H⟩
 obtain rfl:i=4:=by have:=Xg h;omega
 refine bP (dM ?_);refine aH ?_;replace H:=H.drew;have hS:Its [vhI 67 b6 4 4 (msF 2 n.id n.fr (.slice a2 (3*4) c2)),vhI 37 w.heap.size 74 74 (ndF { n with di:=relI n (L.map Lm.m) 4 } (.slice a3 n.vA.length c3))] W.drew:=Its.cons H.o0 (Its.cons H.o5 (Its.nil _));refine fD (S:=Its [vhI 67 b6 4 4 (msF 2 n.id n.fr (.slice a2 (3*4) c2)),vhI 37 w.heap.size 74 74 (ndF { n with di:=relI n (L.map Lm.m) 4 } (.slice a3 n.vA.length c3))]) (.rd 0 (.rd 1 (.go 2 (.go 3 .fin)))) [] Yl Yl ?_;iterate 2 refine qr hS ?_
 refine dF rfl Yw (λK hK=>?_);refine aO _ _ _ _ rfl ManyK.out Qv Qv H.v4 Yo (bN _ _ _ _) rfl (λV1 m1 k1 z9=>?_);replace H:=H.a4.s k1 (m1.congr aT);refine hK _ (λ_ _=>Its.cons H.o0 (Its.cons H.o5 (Its.nil _))) ?_;refine dF rfl Yw (λK hK=>?_);refine aO _ _ _ _ rfl ManyK.out Qv Qv H.v3 Yo (fC _ _ _ _ _ _) rfl (λV2 m2 k2 z10=>?_);replace H:=H.a3.s k2 (m2.congr aT);refine hK _ (λ_ _=>Its.cons H.o0 (Its.cons H.o5 (Its.nil _))) ?_;refine fT ?_;have e1:relN n (L.map Lm.m)={ n with di:=relD n (L.map Lm.m) }:=by unfold relN;rw[if_neg (by rw[hno];decide)]
 have e2:uF n (L.map Lm.m)=⟨2,n.id,n.fr,(List.range 12).map (wX n (L.map Lm.m))⟩:=by unfold uF;rw[if_neg (by rw[hno];decide)];rfl
 rw[e1,e2];have hrw:World.ownsRow _ _ _ _ _ _ _:=H.o1;rw[show 3*4=12 by omega, <-aCK] at hrw;refine aW (aN YB (gH rfl Qv Qv ManyK.out ManyK.out H.v4 (Xr _) H.v3 (Xr _)) ⟨a3,c3,a2,c2,by rw[aAg (SY n (L.map Lm.m))];rfl,H.o2,hrw,H.bel⟩)
def lmC(c:Lm):List Value:=[iV c.m.K,iV c.m.F,iV c.m.R,lmV c]
def wH:List Lm->List Value
 |[]=>[]
 |c::L=>lmC c++wH L
theorem aBf(L M:List Lm):wH (L++M)=wH L++wH M:=by
 induction L with
 |nil=>rfl
 |cons c L ih=>show lmC c++wH (L++M)=(lmC c++wH L)++wH M;rw[ih,List.append_assoc]
theorem aAP(L:List Lm):(wH L).length=L.length*4:=by
 induction L with
 |nil=>rfl
 |cons c L ih=>show (lmC c++wH L).length=_;rw[List.length_append,ih,List.length_cons];show 4+_=_;omega
theorem aKj:∀u,u∈wH L->u.oneCell'=true:=by
 induction L with
 |nil=>intro u hu;exact absurd hu (List.not_mem_nil)
 |cons c L ih=>
  intro u hu;rcases List.mem_append.1 hu with h|h
  .unfold lmC lmV iV at h;simp at h;rcases h with rfl|rfl|rfl|rfl<;>rfl
  .exact ih u h
theorem aDc(L:List Lm):∀(i:Nat) (c:Lm),L[i]?=some c->∀k,k<4->(wH L)[i*4+k]?=some (uK c k):=by
 induction L with
 |nil=>intro i c h;simp at h
 |cons d L ih=>
  intro i c h k hk;show (lmC d++wH L)[i*4+k]?=_
  cases i with
  |zero=>
   have e:d=c:=by simpa using h
   subst e;rw[List.getElem?_append_left (by show 0*4+k<4;omega)]
   match k,hk with
   |0,_=>rfl
   |1,_=>rfl
   |2,_=>rfl
   |3,_=>rfl
  |succ i=>
   rw[List.getElem?_append_right (by show 4<=_;omega)];have:=ih i c (by simpa using h) k hk;rw[<-this]
   congr 1
   show (i+1)*4+k-4=_
   omega
def SF(w:World)(B:Nat)(c:Lm):Prop:=w.ownsRow B 3 1 (lmV c) c.m.L.length (rowV (iF (gL c.m.L)) c.m.L.length)
def OwnM(w:World)(B:Nat)(v:Value)(L:List Lm):Prop:=w.ownsRow B 67 4 v L.length (wH L)/\∀c,c∈L->SF w B c
variable{B:Nat}{t:TypeId}
theorem uS{s n:Nat}{xs:List Value}(h:w.ownsRow B t s v n xs)(e:v.ownBlock=some b):∃cur,w.heap[b]?=some (.cells cur t (0,0)):=by
 rcases h.2 with ⟨rfl,h0⟩|⟨g,c,cur,rfl,hb,hg,_⟩
 .cases e
 .cases e;exact⟨cur,hg⟩
theorem OwnM.below{w':World}(h:OwnM w B v L)(k:Below w.heap.size w w'):OwnM w' B v L:=⟨bK h.1 k,λc hc=>bK (h.2 c hc) k⟩
theorem OwnM.nil(w:World)(B:Nat):OwnM w B (.slice none 0 0) []:=⟨World.ownsRow_nil _ _ _ _,λ_ h=>absurd h (List.not_mem_nil)⟩
variable{ao:Option Addr}
theorem OwnM.rd{n cap:Nat}(h:OwnM w B (.slice ao n cap) L)(hl:∀c,c∈L->c.m.L.length<=17592186044404):MRd w ao L:=by
 refine⟨λhp=>?_,λc hc=>?_⟩
 .rcases h.1.2 with ⟨e,h0⟩|⟨g,cp,cur,e,hb,hg,hc,hm,hsz,hcur⟩
  .omega
  .cases e
   refine⟨g,0,rfl,λi c hi k hk=>?_⟩;have hlt:=(List.getElem?_eq_some_iff.1 hi).1;have h1:=aDc L i c hi k hk;have hL:=aAP L;rw[<-hcur,List.getElem?_take,if_pos Yo,Array.getElem?_toList] at h1;unfold World.cell?;rw[hg];show cur[0+i*4+k]?=_
   rw[Nat.zero_add];exact h1
 .obtain⟨ao2,cap2,e,hs,hc2⟩:=iH (h.2 c hc);unfold lmV at e
  cases e
  exact⟨hs,hc2,hl c hc⟩
theorem L9(w:World){K:Act->World->Prop}(x:Operand)(ho:o.op=.buildSlice 71 1 #[(0,x)])(hx:a.eval x=aP (uK c) 0 4)(h:∀w',Vh 67 w' w.heap.size 4 4 (uK c)->Below w.heap.size w w'->w'.heap.size=w.heap.size+1->K (a.put o.dst (.slice (some ⟨w.heap.size,0,none⟩) 1 1)) w'):WpI Tryz.prog o a w K Q:=by
 have hh:=h (w.alloc (.cells #[.int .i64 c.m.K,.int .i64 c.m.F,.int .i64 c.m.R,.slice c.ao c.m.L.length c.cap] 67)) (Vh.of_row (uK c) 4 Yc (by show (w.heap.push _)[w.heap.size]?=_;rw[Array.getElem?_push_size];rfl)) (bU _ _) (dK _ _);have hx':a.eval x=.agg #[.int .i64 c.m.K,.int .i64 c.m.F,.int .i64 c.m.R,.slice c.ao c.m.L.length c.cap]:=hx;have e:(execOp a.eval o).run Tryz.prog w=.ok (.value (.slice (some ⟨w.heap.size,0,none⟩) 1 1)) (w.alloc (.cells #[.int .i64 c.m.K,.int .i64 c.m.F,.int .i64 c.m.R,.slice c.ao c.m.L.length c.cap] 67)):=by
  clear hx hh;generalize a.eval=f at hx';unfold execOp;rw[ho];simp only[List.map_toArray,List.map_cons,List.map_nil];rw[hx'];go_simp
 refine⟨?_⟩;unfold Oper.wp;rw[e];exact hh
theorem EO(f:Nat->Bool)(hi:i<4)(w:World):(Instr.index 27 (.agg #[.bool (f 0),.bool (f 1),.bool (f 2),.bool (f 3)]) (.int .i64 (i:Int))).run Tryz.prog w=.ok (.bool (f i)) w:=by
 have:i=0\/i=1\/i=2\/i=3:=Yo;rcases this with rfl|rfl|rfl|rfl<;>simp[Instr.index,go_sem]
def gcN(b:Bool)(m t:Int):Bool:=if b then decide (0<=m)&&decide (m<=2)&&decide (t=0) else decide (m=0)&&decide (0<=t)&&decide (t<=2)
theorem aNH(r:Rl)(i:Nat):gd r i=gcN (r.I i) (r.M i) (r.J i):=rfl
theorem MG(b:Bool)(m t:Int)(w:World):Calls Tryz.prog 127 #[.bool b,.int .i64 m,.int .i64 t] w λe w'=>e=.returned (.bool (gcN b m t))/\w'=w:=by
 cases b with
 |true=>
  have G:=aB (show gcN true m t=(decide (0<=m)&&decide (m<=2)&&decide (t=0)) from rfl);by_cases h1:0<=m
  .have d1:decide (0<=m)=true:=Xt h1;by_cases h2:m<=2
   .have d2:decide (m<=2)=true:=Xt h2;by_cases h3:t=0
    .subst h3;go_enter Tryz.func127,Tryz.ntmps127
     go_wp2_with fail
     go_ret
     exact⟨by rw[aA G,d1,d2];rfl,rfl⟩
    .have d3:(t==0)=false:=by simp[h3]
     have d4:decide (t=0)=false:=Xf h3;go_enter Tryz.func127,Tryz.ntmps127
     go_wp2_with fail
     go_ret
     exact⟨by rw[aA G,d1,d2,d4];rfl,rfl⟩
   .have d2:decide (m<=2)=false:=Xf h2;go_enter Tryz.func127,Tryz.ntmps127
    go_wp2_with fail
    go_ret
    exact⟨by rw[aA G,d1,d2];rfl,rfl⟩
  .have d1:decide (0<=m)=false:=Xf h1;go_enter Tryz.func127,Tryz.ntmps127
   go_wp2_with fail
   go_ret
   exact⟨by rw[aA G,d1];rfl,rfl⟩
 |false=>
  have G:=aB (show gcN false m t=(decide (m=0)&&decide (0<=t)&&decide (t<=2)) from rfl);by_cases h1:0<=t
  .have d1:decide (0<=t)=true:=Xt h1;by_cases h2:t<3
   .have d2:decide (t<3)=true:=Xt h2;have d5:=aB (show decide (t<=2)=true from Xt Yo);by_cases h3:m=0
    .subst h3;go_enter Tryz.func127,Tryz.ntmps127
     go_wp2_with fail
     go_ret
     exact⟨by rw[aA G,d1,aA d5];rfl,rfl⟩
    .have d3:(m==0)=false:=by simp[h3]
     have d4:decide (m=0)=false:=Xf h3;go_enter Tryz.func127,Tryz.ntmps127
     go_wp2_with fail
     go_ret
     exact⟨by rw[aA G,d4];rfl,rfl⟩
   .have d2:decide (t<3)=false:=Xf h2;have d5:=aB (show decide (t<=2)=false from Xf Yo);go_enter Tryz.func127,Tryz.ntmps127
    go_wp2_with fail
    go_ret
    exact⟨by rw[aA G,aA d5,Bool.and_false];rfl,rfl⟩
  .have d1:decide (0<=t)=false:=Xf h1;go_enter Tryz.func127,Tryz.ntmps127
   go_wp2_with fail
   go_ret
   exact⟨by rw[aA G,d1,Bool.and_false];rfl,rfl⟩
variable{r:Rl}
theorem RAt.drew(h:RAt w b r):RAt w.drew b r:=h
theorem U7:aML 104:=by
 intro r w _;obtain⟨w1,e1,m1,k1,z1⟩:=rC w r;have p0:=m1.inn (i:=0) Yo;have p1:=m1.inn (i:=1) Yo;have p2:=m1.inn (i:=2) Yo;have p3:=m1.inn (i:=3) Yo;rw[e1] at p0 p1 p2 p3;have E1:=aB e1;have M1:=aB m1;have K1:=aB k1;clear e1 m1 k1 z1;unfold fO;go_enter Tryz.func104,Tryz.ntmps104
 go_wp2_with fail
 rw[<-aA E1];clear p0 p1 p2 p3
 go_loopw [7] (λis wr=>∃i:Nat,is=.int .i64 i/\i<=4/\(∀j,j<i->gd r j=true)/\RAt wr w.heap.size r/\Below w.heap.size w wr) (λis _=>4-(intOf is).toNat)
 case atStart=>exact⟨0,rfl,Yo,λj h=>absurd h Yo,aA M1,aA K1⟩
 case round=>
  obtain⟨i,rfl,hi,hg,hm,hk⟩:=hrel
  rename World=>wr
  have HG:=aB hg;have HK:=aB hk;clear hg hk M1 K1;by_cases hin:i<4
  .have hin':(i:Int)<4:=Yo;have NX:=aB (λh:gd r i=true=>show ∀j,j<i+1->gd r j=true from λj hj=>by
    by_cases e:j=i
    .rw[e];exact h
    .exact aA HG j Yo)
   have at_:=EO r.I hin;have GG:=aB (aNH r i);have hS:(λu=>RAt u w.heap.size r) wr.drew:=hm.drew;have HM:=aB hm;clear hm;go_wp2_with fail
   refine dH (S:=λu=>RAt u w.heap.size r) [(0,false),(1,false),(2,false),(3,false),(4,false),(5,false),(6,false),(7,false),(8,false),(9,true),(10,true)] [] Yl Yl ?_;iterate 9
    refine bB (v:=?_) rfl (λ_ _ _ h=>h) (by rfl) hS ?_ ?_
    rotate_left 1
    .intro wx hwx;have cm:=RAt.mis hwx hin;have cj:=RAt.joi hwx hin;clear hwx;go_simp<;>exact rfl
    go_frame
   refine aY rfl (λK hK=>?_);go_simp
   refine (MG (r.I i) (r.M i) (r.J i) _).mono ?_;rintro e w2 ⟨rfl,rfl⟩;refine hK _ _ (λ_=>hS) ?_;clear hK K;rw[<-aA GG];refine aY rfl (λK hK=>?_);go_simp
   refine hK _ _ (λ_=>hS) ?_;clear hK K;refine fE ?_;have M2:=aB ((aA HM).drew);have K2:=aB (aU (aA HK));clear hS HM HK at_
   cases hb:gd r i with
   |true=>
    have Y:=aB (aA NX hb);go_wp2_with fail
    go_roundw
    case rel=>exact⟨i+1,by go_num,Yo,aA Y,aA M2,aA K2⟩
    case measure=>simp[intOf]<;>omega
   |false=>
    have N:=aB (xI hin hb);go_wp2_with fail
    go_ret
    exact⟨by rw[aA N];rfl,aA K2⟩
  .have e9:i=4:=Yo;subst e9;rw[show ((4:Nat):Int)=4 from rfl];have N:=aB (uX.2 (aA HG));clear hm;go_wp2_with fail
   go_ret
   exact⟨by rw[aA N];rfl,aA HK⟩
theorem iD(x y:Value)(w:World):(callFunc 161 #[x,y]).run Tryz.prog w=.ok (.enter 161 #[x,y]) w:=Yh
theorem X5(x:Value)(w:World):(callFunc 160 #[x]).run Tryz.prog w=.ok (.enter 160 #[x]) w:=Yh
theorem PK(x:Value)(w:World):(callFunc 134 #[x]).run Tryz.prog w=.ok (.enter 134 #[x]) w:=Yh
theorem yA(x:Value)(w:World):(callFunc 162 #[x]).run Tryz.prog w=.ok (.enter 162 #[x]) w:=Yh
theorem X3(x y z:Value)(w:World):(callFunc 135 #[x,y,z]).run Tryz.prog w=.ok (.enter 135 #[x,y,z]) w:=Yh
theorem WJ(x:Value)(w:World):(callFunc 104 #[x]).run Tryz.prog w=.ok (.enter 104 #[x]) w:=Yh
def kX(x l:Int):Bool:=decide (0<=x)&&decide (x<=l)
theorem jC(x l:Int)(w:World):Calls Tryz.prog 161 #[.int .i64 x,.int .i64 l] w λe w'=>e=.returned (.bool (kX x l))/\Below w.heap.size w w':=by
 unfold kX;by_cases h1:0<=x
 .by_cases h2:x<=l
  .rw[Xt h1,Xt h2];refine bO Tryz.func161 rfl 12 rfl Yd (λA hs hd hb=>?_);have b0:=hb 0 _ rfl;have b1:=hb 1 _ rfl;clear hb;refine aD (aG ?_);refine Yx ?_;refine aC<|aD<|Yx ?_;refine Yq (iT (b:=true) _ _ rfl Yf (aJ _ _) (Xt h1) _) ?_;iterate 3 refine Yx ?_
   refine Yq (F5 (b:=true) _ _ rfl Yf Yf (Xt h2) _) ?_;refine Yq (aL _ _ _ rfl Yf Yf _) ?_;refine Yx ?_;refine aC ?_;exact aW (aN YB (dW rfl Yf) ⟨rfl,Below.refl _ _⟩)
  .rw[Xt h1,Xf h2];refine bO Tryz.func161 rfl 12 rfl Yd (λA hs hd hb=>?_);have b0:=hb 0 _ rfl;have b1:=hb 1 _ rfl;clear hb;refine aD (aG ?_);refine Yx ?_;refine aC<|aD<|Yx ?_;refine Yq (iT (b:=true) _ _ rfl Yf (aJ _ _) (Xt h1) _) ?_;iterate 3 refine Yx ?_
   refine Yq (F5 (b:=false) _ _ rfl Yf Yf (Xf h2) _) ?_;refine Yq (aL _ _ _ rfl Yf Yf _) ?_;refine Yx ?_;refine aC ?_;exact aW (aN YB (dW rfl Yf) ⟨rfl,Below.refl _ _⟩)
 .rw[Xf h1];refine bO Tryz.func161 rfl 12 rfl Yd (λA hs hd hb=>?_);have b0:=hb 0 _ rfl;have b1:=hb 1 _ rfl;clear hb;refine aD (aG ?_);refine Yx ?_;refine aC<|aD<|Yx ?_;refine Yq (iT (b:=false) _ _ rfl Yf (aJ _ _) (Xf h1) _) ?_;refine Yx ?_;iterate 3 refine Yu ?_
  refine Yq (aR _ _ _ rfl Yf (aJ _ _) _) ?_;refine Yx ?_;refine aC ?_;exact aW (aN YB (dW rfl Yf) ⟨rfl,Below.refl _ _⟩)
def axS(p:Nat->Int):St:=⟨p 0,p 1,p 2,p 3,p 4,decide (p 5=1),p 6⟩
def axO(p:Nat->Int):St:=if kX (p 5) 1 then axS p else St.nil'
theorem JI(z:Addr)(m mc:Nat)(p:Nat->Int)(w:World)(hm:7<=m)(hz:∀i,i<7->w.cell? (z.add i)=some (.int .i64 (p i))):Calls Tryz.prog 160 #[.slice (some z) m mc] w λe w'=>e=.returned (.tuple #[aP (dP (axO p)) 0 7,.bool (kX (p 5) 1)])/\Below w.heap.size w w':=by
 refine bO Tryz.func160 rfl 33 rfl Yd (λA hs hd hb=>?_);have b0:=hb 0 _ rfl;clear hb;rcases hb:kX (p 5) 1 with _|_
 .refine aD (aG ?_);refine Za uI (λw1 m1 k1 z1=>?_);refine Yx ?_;refine aC<|aH<|aD<|Yx ?_;refine Yq (cK _ _ rfl (a:=z) (n:=m) (cap:=mc) Yf (aJ _ _) (i:=5) rfl Yo _) ?_;refine Yq (cO _ rfl Yf (aM (hz 5 Yo) k1)) ?_;refine bI rfl Yw (λK hK=>?_);have C1:=jC (p 5) 1 w1;rw[hb] at C1;refine dG _ 161 _ _ _ rfl Yf (aJ _ _) (iD _ _ _) C1 ?_;rintro e w2 ⟨rfl,k2⟩;have n2:=k2.size;have mr2:=m1.below k2;refine⟨_,rfl,?_⟩;refine hK _ _ ?_;clear hK K;refine Yx ?_;refine aC<|bG Yf ?_;refine aD<|Yq (aDL rfl _) ?_;refine Zs gX mr2 (fK _) (λw3 mm3 k3 z3=>?_);have mr3:=Vh.congr mm3 (qD _ _);refine Yx ?_;refine aC<|aW ?_;simp only[Nx,Exit.then];refine aN YB (kN rfl Yf Yf gX mr3 (Xr _)) ⟨?_,aF (k1.trans (k2.mono Yo)) k3 Yo Yo⟩;unfold axO;rw[hb];rfl
 .refine aD (aG ?_);refine Za uI (λw1 m1 k1 z1=>?_);refine Yx ?_;refine aC<|aH<|aD<|Yx ?_;refine Yq (cK _ _ rfl (a:=z) (n:=m) (cap:=mc) Yf (aJ _ _) (i:=5) rfl Yo _) ?_;refine Yq (cO _ rfl Yf (aM (hz 5 Yo) k1)) ?_;refine bI rfl Yw (λK hK=>?_);have C1:=jC (p 5) 1 w1;rw[hb] at C1;refine dG _ 161 _ _ _ rfl Yf (aJ _ _) (iD _ _ _) C1 ?_;rintro e w2 ⟨rfl,k2⟩;have n2:=k2.size;have mr2:=m1.below k2;refine⟨_,rfl,?_⟩;refine hK _ _ ?_;clear hK K;refine Yx ?_;refine aC<|bH Yf (aS ?_);refine aH ?_;have hS0:(λZ=>∀i,i<7->Z.cell? (z.add i)=some (.int .i64 (p i))) w2.drew:=λi hi=>aM (hz i hi) (aU (k1.trans (k2.mono Yo)))
  have mr0:Vh _ w2.drew _ _ _ _:=mr2;have ez:w2.drew.heap.size=w2.heap.size:=rfl;refine fD (S:=λZ=>∀i,i<7->Z.cell? (z.add i)=some (.int .i64 (p i))) (.mv 0 (.mv 1 (.rd 2 (.mv 3 (.mv 4 (.rd 5 (.mv 6 (.mv 7 (.rd 8 (.mv 9 (.mv 10 (.rd 11 (.mv 12 (.mv 13 (.rd 14 (.mv 15 (.mv 16 (.rd 17 (.mv 18 (.mv 19 (.mv 20 (.rd 21 (.mv 22 (.go 23 (.mv 24 .fin))))))))))))))))))))))))) [23] Yl Yl ?_;refine Yj ?_;refine Yk rfl (λ_=>cK _ _ rfl (a:=z) (n:=m) (cap:=mc) Yf (aJ _ _) (i:=0) rfl Yo _) ?_;refine Yr rfl hS0 (λ_ hS=>cO _ rfl Yf (hS 0 Yc)) ?_;refine Yj ?_;refine Yk rfl (λ_=>cK _ _ rfl (a:=z) (n:=m) (cap:=mc) Yf (aJ _ _) (i:=1) rfl Yo _) ?_;refine Yr rfl hS0 (λ_ hS=>cO _ rfl Yf (hS 1 Yc)) ?_;refine Yj ?_;refine Yk rfl (λ_=>cK _ _ rfl (a:=z) (n:=m) (cap:=mc) Yf (aJ _ _) (i:=2) rfl Yo _) ?_;refine Yr rfl hS0 (λ_ hS=>cO _ rfl Yf (hS 2 Yc)) ?_;refine Yj ?_;refine Yk rfl (λ_=>cK _ _ rfl (a:=z) (n:=m) (cap:=mc) Yf (aJ _ _) (i:=3) rfl Yo _) ?_;refine Yr rfl hS0 (λ_ hS=>cO _ rfl Yf (hS 3 Yc)) ?_;refine Yj ?_;refine Yk rfl (λ_=>cK _ _ rfl (a:=z) (n:=m) (cap:=mc) Yf (aJ _ _) (i:=4) rfl Yo _) ?_;refine Yr rfl hS0 (λ_ hS=>cO _ rfl Yf (hS 4 Yc)) ?_;refine Yj ?_;refine Yk rfl (λ_=>cK _ _ rfl (a:=z) (n:=m) (cap:=mc) Yf (aJ _ _) (i:=5) rfl Yo _) ?_;refine Yr rfl hS0 (λ_ hS=>cO _ rfl Yf (hS 5 Yc)) ?_;refine Yk rfl (λ_=>bM (b:=decide (p 5=1)) _ _ rfl Yf (aJ _ _) rfl _) ?_;refine Yj ?_;refine Yk rfl (λ_=>cK _ _ rfl (a:=z) (n:=m) (cap:=mc) Yf (aJ _ _) (i:=6) rfl Yo _) ?_;refine Yr rfl hS0 (λ_ hS=>cO _ rfl Yf (hS 6 Yc)) ?_;refine Yk rfl (λ_=>UX (s:=axS p) _ _ _ _ _ _ _ rfl Yf Yf Yf Yf Yf Yf Yf _) ?_;refine dF rfl Yw (λK hK=>aO _ _ _ _ rfl gX Yf Yf mr0 Yc (fK _) rfl (λw3 mm3 k3 z3=>hK _ (λh=>absurd h Yc) ?_));have mr3:=Vh.congr mm3 (qD _ _);refine Yj ?_;refine fT<|aW<|aN YB (kN rfl Yf Yf gX mr3 (Xr _)) ⟨?_,aF (aU (k1.trans (k2.mono Yo))) k3 Yo Yo⟩;unfold axO;rw[hb];rfl
theorem xO(w:World):(zeroValue 26).run Tryz.prog w=.ok (aP (λj=>dP St.nil' (j%7)) 0 21) w:=Yl
theorem mD(g:Nat->Value)(h:Nat->Value):∀j,j<21->stP g 0 21 h j=h j:=λj hj=>by
 have:=nW g (o:=0) (n:=21) h hj
 rwa [Nat.zero_add] at this
theorem MP(a:Addr)(i k:Nat):(a.add i).add k=a.add (i+k):=by grind [Addr.add,Nat.add_assoc]
def qA(v:Nat->Int)(a:Nat):St:=axS (λi=>v (7*a+i))
def lT(v:Nat->Int):Bool:=kX (v 5) 1&&(kX (v 12) 1&&kX (v 19) 1)
def KD(v:Nat->Int)(x j:Nat):Value:=if j<7*x then dP (qA v (j/7)) (j%7) else dP St.nil' (j%7)
theorem aGG(v:Nat->Int):∀j,j<21->dP St.nil' (j%7)=KD v 0 j:=λj _=>by unfold KD;rw[if_neg Yo]
variable{x:Nat}
theorem aGg(v:Nat->Int)(hb:kX (v (7*x+5)) 1=true):∀j,j<21->stP (KD v x) (0+x*7) 7 (dP (axO (λi=>v (7*x+i)))) j=KD v (x+1) j:=by
 intro j _;unfold stP;by_cases c:0+x*7<=j/\j<0+x*7+7
 .rw[if_pos c];have e:axO (λi=>v (7*x+i))=qA v x:=by
   unfold axO;exact if_pos hb
  rw[e];unfold KD;rw[if_pos Yo,show j/7=x by omega,show j%7=j-(0+x*7) by omega]
 .rw[if_neg c];unfold KD;by_cases c2:j<7*x
  .rw[if_pos c2,if_pos Yo]
  .rw[if_neg c2,if_neg Yo]
theorem aDf(v:Nat->Int):∀j,j<21->KD v 3 j=dP (qA v (j/7)) (j%7):=λj hj=>by unfold KD;rw[if_pos Yo]
variable{v:Nat->Int}
theorem aEM(hx:x<3)(hb:kX (v (7*x+5)) 1=false):lT v=false:=by grind [lT]
theorem aAj(h:∀a,a<3->kX (v (7*a+5)) 1=true):lT v=true:=by
 unfold lT;rw[show kX (v 5) 1=true from h 0 Yo,show kX (v 12) 1=true from h 1 Yo,show kX (v 19) 1=true from h 2 Yo];rfl
theorem aBq(y:Addr)(yc:Nat)(v:Nat->Int)(w:World)(hc:24<=yc)(hy:∀i,i<24->w.cell? (y.add i)=some (.int .i64 (v i))):Calls Tryz.prog 134 #[.slice (some y) 24 yc] w λe w'=>e=.returned (.tuple #[aP (λj=>dP (if lT v then qA v (j/7) else St.nil') (j%7)) 0 21,.bool (lT v)])/\Below w.heap.size w w':=by
 refine bO Tryz.func134 rfl 27 rfl Yd (λA hs hd hb=>?_);have b0:=hb 0 _ rfl;clear hb;refine aD (aG ?_);refine Za xO (λw1 m1 k1 z1=>?_);refine Yx ?_;refine aC<|aD<|Za xO (λw2 m2 k2 z2=>?_);have mr2:=m1.below k2;refine aC<|aH<|aD<|Yx ?_;refine aC<|aK<|bW (λq A W=>∃x:Nat,x<=3/\3-x<=q/\A.tmps.size=27/\A.defers=[]/\A.eval (.tmp 0)=.slice (some y) 24 yc/\A.eval (.tmp 2)=.pointer (some ⟨w.heap.size,0,none⟩)/\A.eval (.tmp 4)=.pointer (some ⟨w1.heap.size,0,none⟩)/\A.eval (.tmp 8)=.int .i64 (x:Int)/\(∀a,a<x->kX (v (7*a+5)) 1=true)/\Vh 26 W w.heap.size 21 21 (λj=>dP St.nil' (j%7))/\Vh 26 W w1.heap.size 21 21 (KD v x)/\Below w.heap.size w W/\w2.heap.size<=W.heap.size) 3 ⟨0,Yo,Yo,YA,YB,Yb,Yf,Yf,Yf,λa h=>absurd h Yo,mr2,Vh.congr m2 (aGG v),k1.trans (k2.mono Yo),Yo⟩ (λq B W hI2=>?_);clear b0 hs hd;obtain⟨x,hx,hr2,hs,hd,b0,b2,b4,b8,hok,mr,ml,kB,hW⟩:=hI2;by_cases hin:x<3
 .rcases hb:kX (v (7*x+5)) 1 with _|_
  .refine aD (aG ?_);refine Yx ?_;refine aC<|aH (bG Yf (aS ?_));refine aH (aK ?_);refine aD ?_;iterate 2 refine Yx ?_
   refine aC<|aD ?_;iterate 2 refine Yx ?_
   refine Yq (oL _ _ rfl Yf (aJ _ _) Yo Yo _) ?_;refine Yq (FC (i:=7*x) _ _ rfl Yf Yf Yo Yo Yo _) ?_;refine bI rfl Yw (λK hK=>?_);have C1:=JI (y.add (7*x)) (24-7*x) (yc-7*x) (λi=>v (7*x+i)) W Yo (λi hi=>by rw[MP];exact aM (hy (7*x+i) Yo) kB);rw[hb] at C1;refine bQ _ 160 _ _ rfl Yf (X5 _ _) C1 ?_;rintro e w11 ⟨rfl,k11⟩;have n11:=k11.size;have mr11:=mr.below k11;have ml11:=ml.below k11;refine⟨_,rfl,?_⟩;refine hK _ _ ?_;clear hK K;iterate 3 refine Yx ?_
   refine Za uI (λw12 m12 k12 z12=>?_);have mr12:=mr11.below k12;have ml12:=ml11.below k12;refine Zs gX m12 (fK _) (λw13 mm13 k13 z13=>?_);have ms13:=Vh.congr mm13 (qD _ _);have mr13:=mr12.kept k13 Yo;have ml13:=ml12.kept k13 Yo;refine Yx ?_;refine aC<|aH<|aD ?_;iterate 2 refine Yx ?_
   refine aC<|bG Yf ?_;refine aD<|Yq (OY rfl _) ?_;refine kJ Yw (λK hK=>aO _ _ _ _ rfl gW Yb Yf mr13 Yc (λj _=>fK _ _ Yo) rfl (λw14 mm14 k14 z14=>hK _ ?_));have mr14:=Vh.congr mm14 (mD _ _);have ml14:=ml13.kept k14 Yo;have ms14:=ms13.kept k14 Yo;refine Yx ?_;refine aC<|aW ?_;simp only[Nx,Exit.inBlock,Exit.then];refine aN YB (kN rfl Yb Yf gW mr14 (Xr _)) ⟨?_,aF (aF ((kB.trans (k11.mono Yo)).trans (k12.mono Yo)) k13 Yo Yo) k14 Yo Yo⟩;rw[aEM hin hb];rfl
  .refine aD (aG ?_);refine Yx ?_;refine aC<|aH (bG Yf (aS ?_));refine aH (aK ?_);refine aD ?_;iterate 2 refine Yx ?_
   refine aC<|aD ?_;iterate 2 refine Yx ?_
   refine Yq (oL _ _ rfl Yf (aJ _ _) Yo Yo _) ?_;refine Yq (FC (i:=7*x) _ _ rfl Yf Yf Yo Yo Yo _) ?_;refine bI rfl Yw (λK hK=>?_);have C1:=JI (y.add (7*x)) (24-7*x) (yc-7*x) (λi=>v (7*x+i)) W Yo (λi hi=>by rw[MP];exact aM (hy (7*x+i) Yo) kB);rw[hb] at C1;refine bQ _ 160 _ _ rfl Yf (X5 _ _) C1 ?_;rintro e w11 ⟨rfl,k11⟩;have n11:=k11.size;have mr11:=mr.below k11;have ml11:=ml.below k11;refine⟨_,rfl,?_⟩;refine hK _ _ ?_;clear hK K;iterate 3 refine Yx ?_
   refine Za uI (λw12 m12 k12 z12=>?_);have mr12:=mr11.below k12;have ml12:=ml11.below k12;refine Zs gX m12 (fK _) (λw13 mm13 k13 z13=>?_);have ms13:=Vh.congr mm13 (qD _ _);have mr13:=mr12.kept k13 Yo;have ml13:=ml12.kept k13 Yo;refine Yx ?_;refine aC<|aH<|aD ?_;iterate 2 refine Yx ?_
   refine aC<|bH Yf (aS ?_);refine aI ?_;iterate 2 refine Yx ?_
   refine Yq (bD _ _ _ _ rfl Tryz.underlying26 gX.size Yb Yf rfl hin _) ?_;refine Zs gX ml13 (fK _) (λw14 mm14 k14 z14=>?_);have ml14:=Vh.congr mm14 (aGg v hb);have mr14:=mr13.kept k14 Yo;have ms14:=ms13.kept k14 Yo;refine fB<|aI ?_;iterate 2 refine Yx ?_
   exact aQ ⟨3-(x+1),Yo,x+1,Yo,Yo,YA,YB,Yb,Yb,Yb,(Ye rfl).trans YC,(λa ha=>by
    by_cases e:a=x
    .rw[e];exact hb
    .exact hok a Yo),mr14,ml14,aF (aF ((kB.trans (k11.mono Yo)).trans (k12.mono Yo)) k13 Yo Yo) k14 Yo Yo,Yo⟩
 .refine aD (aG ?_);refine Yx ?_;obtain rfl:x=3:=Yo;have ml:=Vh.congr ml (aDf v);refine aC<|aH (bH Yf (bP (dM ?_)));refine aD<|Yx ?_;refine kJ Yw (λK hK=>aO _ _ _ _ rfl gW Yb Yf mr Yc (λj _=>fK _ _ Yo) rfl (λw11 mm11 k11 z11=>hK _ ?_));have mr11:=Vh.congr mm11 (mD _ _);have ml11:=ml.kept k11 Yo;refine Yx ?_;refine aC<|aW (aN YB (kN rfl Yb Yf gW mr11 (Xr _)) ⟨?_,aF kB k11 Yo Yo⟩);rw[aAj hok];rfl
def wJ(n:Int)(i:Nat):Int:=n/8^(3-i)%8
def KT(n:Int)(x i:Nat):Value:=iV (if 3-i<x then wJ n i else 0)
theorem aFr(n:Int):∀j,j<4->iV 0=KT n 0 j:=λj _=>by unfold KT;rw[if_neg Yo]
theorem aFU(n:Int)(hx:x<4):∀j,j<4->stW (KT n x) (0+(3-x)*1) (.int .i64 (n/8^x%8)) j=KT n (x+1) j:=by
 intro j hj;unfold stW;rw[show 0+(3-x)*1=3-x by omega];by_cases e:j=3-x
 .rw[if_pos e];unfold KT wJ;rw[if_pos Yo,show 3-j=x by omega];rfl
 .rw[if_neg e];unfold KT;by_cases c:3-j<x
  .rw[if_pos c,if_pos Yo]
  .rw[if_neg c,if_neg Yo]
theorem aFP(n:Int):∀j,j<4->KT n 4 j=iV (wJ n j):=λj _=>by unfold KT;rw[if_pos Yo]
variable{n:Int}
theorem TA:n/8^x/8=n/8^(x+1):=by
 rw[Int.ediv_ediv_of_nonneg (Int.pow_nonneg Yc),Int.pow_succ]
theorem aAX(h0:0<=n)(h1:n<=9223372036854775807)(x:Nat):0<=n/8^x/\n/8^x<=9223372036854775807:=
 ⟨Int.ediv_nonneg h0 (Int.pow_nonneg Yc),Int.le_trans (Int.ediv_le_self _ h0) h1⟩
theorem BD(n:Int)(w:World)(h0:0<=n)(h1:n<=9223372036854775807):Calls Tryz.prog 162 #[.int .i64 n] w λe w'=>e=.returned (aP (λi=>iV (wJ n i)) 0 4)/\Below w.heap.size w w':=by
 refine bO Tryz.func162 rfl 16 rfl Yd (λA hs hd hb=>?_);have b0:A.eval (.tmp 0)=.int .i64 n:=hb 0 _ rfl;clear hb;refine aD (aG ?_);refine Za JH (λw1 m1 k1 z1=>?_);refine aC<|aD<|Za JH (λw2 m2 k2 z2=>?_);have mr2:=m1.below k2;refine aC<|aH<|aD<|Yx ?_;refine aC<|aK<|bW (λq A W=>∃x:Nat,x<=4/\4-x<=q/\A.tmps.size=16/\A.defers=[]/\A.eval (.tmp 2)=.pointer (some ⟨w.heap.size,0,none⟩)/\A.eval (.tmp 3)=.pointer (some ⟨w1.heap.size,0,none⟩)/\A.eval (.tmp 0)=.int .i64 (n/8^x)/\A.eval (.tmp 4)=.int .i64 (3-(x:Int))/\Vh 28 W w.heap.size 4 4 (λ_=>iV 0)/\Vh 28 W w1.heap.size 4 4 (KT n x)/\Below w.heap.size w W/\w2.heap.size<=W.heap.size) 4 ⟨0,Yo,Yo,YA,YB,Yf,Yf,(xH rfl b0).trans (by rw[Int.pow_zero,Int.ediv_one]),Yf,mr2,Vh.congr m2 (aFr n),k1.trans (k2.mono Yo),Yo⟩ (λq B W hI2=>?_);clear b0 hs hd;obtain⟨x,hx,hr2,hs,hd,b2,b3,b0,b4,mr,ml,kB,hW⟩:=hI2;have hq:=aAX h0 h1 x;by_cases hin:x<4
 .refine aH<|aD (aG ?_);refine Yx ?_;refine Yq (iT (b:=true) _ _ rfl Yf (aJ _ _) (Xt Yo) _) ?_;refine aC<|bG Yf (aS ?_);refine aH (aK ?_);refine aD ?_;iterate 2 refine Yx ?_
  refine Yq (GQ _ _ rfl Yf (aJ _ _) hq.1 _) ?_;refine Yq (bD (i:=3-x) _ _ _ _ rfl Tryz.underlying28 gD.size Yb Yf Yo Yo _) ?_;refine kJ Yw (λK hK=>iI _ _ _ _ rfl gD Yf Yf ml Yo rfl rfl rfl (λw11 mm11 k11 z11=>hK _ ?_));have ml11:=Vh.congr mm11 (aFU n hin);have mr11:=mr.kept k11 Yo;refine aC<|aI<|Yx ?_;refine Yq (FZ _ _ rfl Yf (aJ _ _) hq.1 Yo _) ?_;refine Yx ?_;refine fB<|aI<|Yx ?_;refine Yq (sJ _ _ rfl Yf (aJ _ _) Yo Yo _) ?_;refine Yx ?_;exact aQ ⟨4-(x+1),Yo,x+1,Yo,Yo,YA,YB,Yb,Yb,(Ye rfl).trans (by rw[TA]),(Ye rfl).trans (by congr 1;omega),mr11,ml11,aF kB k11 Yo Yo,Yo⟩
 .refine aH<|aD (aG ?_);refine Yx ?_;refine Yq (iT (b:=false) _ _ rfl Yf (aJ _ _) (Xf Yo) _) ?_;obtain rfl:x=4:=Yo;have ml:=Vh.congr ml (aFP n);refine aC<|bH Yf (bP (dM ?_));refine aD<|Yq (aX _ _ rfl qZ Yb ml Yc) ?_;refine Zs qZ mr (λj hj=>rfl) (λw11 mm11 k11 z11=>?_);have mr11:=Vh.congr mm11 (eX _ _);have ml11:=ml.kept k11 Yo;refine aC<|aW (aN YB (pW rfl Yb qZ mr11 (Xr _)) ⟨rfl,aF kB k11 Yo Yo⟩)
theorem zO(x:Value)(w:World):(callFunc 108 #[x]).run Tryz.prog w=.ok (.enter 108 #[x]) w:=Yh
theorem QT(x y:Value)(w:World):(callFunc 73 #[x,y]).run Tryz.prog w=.ok (.enter 73 #[x,y]) w:=Yh
def lU(s m j:Int):Rl:=⟨λi=>decide (s/2^i%2=1),wJ m,wJ j⟩
def kE(s m j:Int):Bool:=kX s 15&&(kX m 4095&&kX j 4095)
def NN(s m j:Int)(x:Nat):Rl:=⟨λi=>if i<x then decide (s/2^i%2=1) else false,wJ m,wJ j⟩
theorem aFg{s m j:Int}:NN s m j 0=⟨λ_=>false,wJ m,wJ j⟩:=by
 unfold NN
 congr 1
theorem aGN(s m j:Int)(hx:x<4):∀i,i<12->stW (dD (NN s m j x)) (0+0+x*1) (.bool (decide (s/2^x%2=1))) i=dD (NN s m j (x+1)) i:=by unfold stW dD NN;grind
theorem aHY(s m j:Int):∀i,i<12->dD (NN s m j 4) i=dD (lU s m j) i:=by unfold dD NN lU;grind
theorem aIo{s:Int}(h0:0<=s)(h1:s<=15)(x:Nat):0<=s/2^x/\s/2^x<=15:=
 ⟨Int.ediv_nonneg h0 (Int.pow_nonneg Yc),Int.le_trans (Int.ediv_le_self _ h0) h1⟩
theorem QQ(n:Int)(i:Nat):R64 (wJ n i):=by
 unfold wJ R64;omega
theorem QL{x l:Int}(h:kX x l=true):0<=x/\x<=l:=by
 unfold kX at h
 simpa using h
theorem JQ(s m j:Int)(w:World):Calls Tryz.prog 135 #[.int .i64 s,.int .i64 m,.int .i64 j] w λe w'=>e=.returned (.tuple #[aP (dD (if kE s m j then lU s m j else fH)) 0 12,.bool (kE s m j&&lH (lU s m j))])/\Below w.heap.size w w':=by
 refine bO Tryz.func135 rfl 44 rfl Yd (λA hs hd hb=>?_);have b0:A.eval (.tmp 0)=.int .i64 s:=hb 0 _ rfl;have b1:A.eval (.tmp 1)=.int .i64 m:=hb 1 _ rfl;have b2:A.eval (.tmp 2)=.int .i64 j:=hb 2 _ rfl;clear hb;rcases h1:kX s 15 with _|_
 .refine aD (aG ?_);refine Za mF (λw1 m1 k1 z1=>?_);refine Yx ?_;refine aC<|aH<|aD<|Yx ?_;refine bI rfl Yw (λK hK=>?_);have C2:=jC s 15 w1;rw[h1] at C2;refine dG _ 161 _ _ _ rfl Yf (aJ _ _) (iD _ _ _) C2 ?_;rintro e w2 ⟨rfl,k2⟩;have n2:=k2.size;have mr2:=m1.below k2;refine⟨_,rfl,?_⟩;refine hK _ _ ?_;clear hK K;iterate 2 refine Yx ?_
  iterate 3 refine Yu ?_
  refine Yq (aL _ _ _ rfl Yf (aJ _ _) _) ?_;refine Yx ?_;iterate 3 refine Yu ?_
  refine Yq (aL _ _ _ rfl Yf (aJ _ _) _) ?_;refine aC<|bG Yf ?_;refine aD<|Yq (yL rfl _) ?_;refine Zs fG mr2 (gU _) (λw3 mm3 k3 z3=>?_);have mr3:=Vh.congr mm3 (gZ _ _);refine Yx ?_;refine aC<|aW ?_;simp only[Nx,Exit.then];refine aN YB (kN rfl Yf Yf fG mr3 (Xr _)) ⟨?_,aF ((k1).trans (k2.mono Yo)) k3 Yo Yo⟩;rw[show kE s m j=false by unfold kE;rw[h1];rfl];rfl
 .rcases h2:kX m 4095 with _|_
  .refine aD (aG ?_);refine Za mF (λw1 m1 k1 z1=>?_);refine Yx ?_;refine aC<|aH<|aD<|Yx ?_;refine bI rfl Yw (λK hK=>?_);have C2:=jC s 15 w1;rw[h1] at C2;refine dG _ 161 _ _ _ rfl Yf (aJ _ _) (iD _ _ _) C2 ?_;rintro e w2 ⟨rfl,k2⟩;have n2:=k2.size;have mr2:=m1.below k2;refine⟨_,rfl,?_⟩;refine hK _ _ ?_;clear hK K;iterate 3 refine Yx ?_
   refine bI rfl (dB (j:=3) rfl rfl rfl Yf) (λK hK=>?_);have C3:=jC m 4095 w2;rw[h2] at C3;refine dG _ 161 _ _ _ rfl Yf (aJ _ _) (iD _ _ _) C3 ?_;rintro e w3 ⟨rfl,k3⟩;have n3:=k3.size;have mr3:=mr2.below k3;refine⟨_,rfl,?_⟩;refine hK _ _ ?_;clear hK K;refine Yx ?_;refine Yq (aR _ _ _ rfl Yf Yf _) ?_;refine Yx ?_;iterate 3 refine Yu ?_
   refine Yq (aL _ _ _ rfl Yf (aJ _ _) _) ?_;refine aC<|bG Yf ?_;refine aD<|Yq (yL rfl _) ?_;refine Zs fG mr3 (gU _) (λw4 mm4 k4 z4=>?_);have mr4:=Vh.congr mm4 (gZ _ _);refine Yx ?_;refine aC<|aW ?_;simp only[Nx,Exit.then];refine aN YB (kN rfl Yf Yf fG mr4 (Xr _)) ⟨?_,aF (((k1).trans (k2.mono Yo)).trans (k3.mono Yo)) k4 Yo Yo⟩;rw[show kE s m j=false by unfold kE;rw[h1,h2];rfl];rfl
  .rcases h3:kX j 4095 with _|_
   .refine aD (aG ?_);refine Za mF (λw1 m1 k1 z1=>?_);refine Yx ?_;refine aC<|aH<|aD<|Yx ?_;refine bI rfl Yw (λK hK=>?_);have C2:=jC s 15 w1;rw[h1] at C2;refine dG _ 161 _ _ _ rfl Yf (aJ _ _) (iD _ _ _) C2 ?_;rintro e w2 ⟨rfl,k2⟩;have n2:=k2.size;have mr2:=m1.below k2;refine⟨_,rfl,?_⟩;refine hK _ _ ?_;clear hK K;iterate 3 refine Yx ?_
    refine bI rfl (dB (j:=3) rfl rfl rfl Yf) (λK hK=>?_);have C3:=jC m 4095 w2;rw[h2] at C3;refine dG _ 161 _ _ _ rfl Yf (aJ _ _) (iD _ _ _) C3 ?_;rintro e w3 ⟨rfl,k3⟩;have n3:=k3.size;have mr3:=mr2.below k3;refine⟨_,rfl,?_⟩;refine hK _ _ ?_;clear hK K;refine Yx ?_;refine Yq (aR _ _ _ rfl Yf Yf _) ?_;iterate 2 refine Yx ?_
    refine bI rfl (dB (j:=8) rfl rfl rfl Yf) (λK hK=>?_);have C4:=jC j 4095 w3;rw[h3] at C4;refine dG _ 161 _ _ _ rfl Yf (aJ _ _) (iD _ _ _) C4 ?_;rintro e w4 ⟨rfl,k4⟩;have n4:=k4.size;have mr4:=mr3.below k4;refine⟨_,rfl,?_⟩;refine hK _ _ ?_;clear hK K;refine Yx ?_;refine Yq (aR _ _ _ rfl Yf Yf _) ?_;refine aC<|bG Yf ?_;refine aD<|Yq (yL rfl _) ?_;refine Zs fG mr4 (gU _) (λw5 mm5 k5 z5=>?_);have mr5:=Vh.congr mm5 (gZ _ _);refine Yx ?_;refine aC<|aW ?_;simp only[Nx,Exit.then];refine aN YB (kN rfl Yf Yf fG mr5 (Xr _)) ⟨?_,aF ((((k1).trans (k2.mono Yo)).trans (k3.mono Yo)).trans (k4.mono Yo)) k5 Yo Yo⟩;rw[show kE s m j=false by unfold kE;rw[h1,h2,h3];rfl];rfl
   .obtain⟨hs0,hs1⟩:=QL h1;obtain⟨hm0,hm1⟩:=QL h2;obtain⟨hj0,hj1⟩:=QL h3;refine aD (aG ?_);refine Za mF (λw1 m1 k1 z1=>?_);refine Yx ?_;refine aC<|aH<|aD<|Yx ?_;refine bI rfl Yw (λK hK=>?_);have C2:=jC s 15 w1;rw[h1] at C2;refine dG _ 161 _ _ _ rfl Yf (aJ _ _) (iD _ _ _) C2 ?_;rintro e w2 ⟨rfl,k2⟩;have n2:=k2.size;have mr2:=m1.below k2;refine⟨_,rfl,?_⟩;refine hK _ _ ?_;clear hK K;iterate 3 refine Yx ?_
    refine bI rfl (dB (j:=3) rfl rfl rfl Yf) (λK hK=>?_);have C3:=jC m 4095 w2;rw[h2] at C3;refine dG _ 161 _ _ _ rfl Yf (aJ _ _) (iD _ _ _) C3 ?_;rintro e w3 ⟨rfl,k3⟩;have n3:=k3.size;have mr3:=mr2.below k3;refine⟨_,rfl,?_⟩;refine hK _ _ ?_;clear hK K;refine Yx ?_;refine Yq (aR _ _ _ rfl Yf Yf _) ?_;iterate 2 refine Yx ?_
    refine bI rfl (dB (j:=8) rfl rfl rfl Yf) (λK hK=>?_);have C4:=jC j 4095 w3;rw[h3] at C4;refine dG _ 161 _ _ _ rfl Yf (aJ _ _) (iD _ _ _) C4 ?_;rintro e w4 ⟨rfl,k4⟩;have n4:=k4.size;have mr4:=mr3.below k4;refine⟨_,rfl,?_⟩;refine hK _ _ ?_;clear hK K;refine Yx ?_;refine Yq (aR _ _ _ rfl Yf Yf _) ?_;refine aC<|bH Yf (aS ?_);refine aD<|Yx ?_;refine bI rfl Yw (λK hK=>bQ _ 162 _ _ rfl Yf (yA _ _) (BD m _ Yo Yo) ?_);rintro e w5 ⟨rfl,k5⟩;have n5:=k5.size;have mr5:=mr4.below k5;refine⟨_,rfl,hK _ _ ?_⟩;refine Yx ?_;refine bI rfl Yw (λK hK=>bQ _ 162 _ _ rfl Yf (yA _ _) (BD j _ Yo Yo) ?_);rintro e w6 ⟨rfl,k6⟩;have n6:=k6.size;have mr6:=mr5.below k6;refine⟨_,rfl,hK _ _ ?_⟩;refine Yq (aEQ _ _ rfl Yf Yf _) ?_;refine Za mF (λw7 m7 k7 z7=>?_);have mr7:=mr6.below k7;refine Zs fG m7 (gU _) (λw8 mm8 k8 z8=>?_);have mp8:=Vh.congr mm8 (gZ _ _);have mr8:=mr7.kept k8 Yo;refine aC<|aH<|aD<|Yx ?_;refine aC<|aK<|bW (λq A W=>∃x:Nat,x<=4/\4-x<=q/\A.tmps.size=44/\A.defers=[]/\A.eval (.tmp 0)=.int .i64 s/\A.eval (.tmp 6)=.pointer (some ⟨w.heap.size,0,none⟩)/\A.eval (.tmp 8)=.pointer (some ⟨w6.heap.size,0,none⟩)/\A.eval (.tmp 29)=.int .i64 (x:Int)/\Vh 30 W w.heap.size 12 12 (dD fH)/\Vh 30 W w6.heap.size 12 12 (dD (NN s m j x))/\Below w.heap.size w W/\w8.heap.size<=W.heap.size) 4 ⟨0,Yo,Yo,YA,YB,Yb,Yf,Yf,Yf,mr8,by rw[aFg];exact mp8,aF (((((((k1).trans (k2.mono Yo)).trans (k3.mono Yo)).trans (k4.mono Yo)).trans (k5.mono Yo)).trans (k6.mono Yo)).trans (k7.mono Yo)) k8 Yo Yo,Yo⟩ (λq B W hI2=>?_);clear b0 b1 b2 hs hd;obtain⟨x,hx,hr2,hs,hd,b0,b6,b8,b29,mr,mp,kB,hW⟩:=hI2;by_cases hin:x<4
    .have hsx:=aIo hs0 hs1 x;refine aD (aG ?_);refine Yx ?_;refine aC<|aH (bG Yf (aS ?_));refine aH (aK ?_);refine aD ?_;iterate 2 refine Yx ?_
     refine aC<|aI ?_;iterate 3 refine Yx ?_
     refine Yq (aFw _ _ rfl Yf Yf Yo _) ?_;refine Yq (aHO _ _ rfl Yf (aJ _ _) hsx.1 hsx.2 _) ?_;refine Yq (bM (b:=decide (s/2^x%2=1)) _ _ rfl Yf (aJ _ _) rfl _) ?_;refine Yx ?_;refine Yq (bD _ _ _ _ rfl Tryz.underlying27 pQ.size Yf Yf rfl hin _) ?_;refine kJ Yw (λK hK=>iI _ _ _ _ rfl pQ Yf Yf mp Yo rfl rfl rfl (λw11 mm11 k11 z11=>hK _ ?_));have mp11:=Vh.congr mm11 (aGN s m j hin);have mr11:=mr.kept k11 Yo;refine fB<|aI ?_;iterate 2 refine Yx ?_
     exact aQ ⟨4-(x+1),Yo,x+1,Yo,Yo,YA,YB,Yb,Yb,Yb,(Ye rfl).trans YC,mr11,mp11,aF kB k11 Yo Yo,Yo⟩
    .refine aD (aG ?_);refine Yx ?_;obtain rfl:x=4:=Yo;have mp:=Vh.congr mp (aHY s m j);refine aC<|aH (bH Yf (bP (dM ?_)));refine aH ?_;have hS0:(λZ=>Vh 30 Z w6.heap.size 12 12 (dD (lU s m j))) W.drew:=mp;have mr0:Vh _ W.drew _ _ _ _:=mr;have mp0:Vh _ W.drew _ _ _ _:=mp;have ez:W.drew.heap.size=W.heap.size:=rfl;refine fD (S:=λZ=>Vh 30 Z w6.heap.size 12 12 (dD (lU s m j))) (.rd 0 (.rd 1 (.go 2 (.go 3 (.mv 4 .fin))))) [] Yl Yl ?_;refine Yr rfl hS0 (λ_ hS=>aX _ _ rfl fG Yb hS Yc) ?_;refine Yr rfl hS0 (λ_ hS=>aX _ _ rfl fG Yb hS Yc) ?_;refine cZ rfl rfl Yw (λK hK=>bQ _ 104 _ _ rfl Yf (WJ _ _) (U7 (lU s m j) _ (λi _=>⟨QQ _ _,QQ _ _⟩)) ?_);rintro e w11 ⟨rfl,k11⟩;have n11:=k11.size;have mr11:=mr0.below k11;have mp11:=hS0.below k11;have hS11:(λZ=>Vh 30 Z w6.heap.size 12 12 (dD (lU s m j))) w11:=mp11;refine⟨_,rfl,hK _ _ (λ_ _=>hS11) ?_⟩;refine dF rfl Yw (λK hK=>?_);refine aO _ _ _ _ rfl fG Yb Yf mr11 Yc (gU _) rfl ?_;intro w12 mm12 k12 z12;have mr12:=Vh.congr mm12 (gZ _ _);have mp12:=mp11.kept k12 Yo;have hS12:(λZ=>Vh 30 Z w6.heap.size 12 12 (dD (lU s m j))) w12:=mp12;refine hK _ (λ_ _=>hS12) ?_;clear hK K;refine Yj ?_;refine fT<|aW<|aN YB (kN rfl Yb Yf fG mr12 (Xr _)) ⟨?_,aF ((aU kB).trans (k11.mono Yo)) k12 Yo Yo⟩;rw[show kE s m j=true by unfold kE;rw[h1,h2,h3];rfl,Bool.true_and];rfl
theorem zX{fn:Func}{p p' p2:Nat}{ty':TypeId}{b' n n' N N' cap cap':Nat}{t':TypeId}{g g':Nat->Value}{v:Value}(h:fn.results=#[.cell p ty,.cell p' ty',.tmp p2])(hv:a.eval (.tmp p)=.pointer (some ⟨b,0,none⟩))(hv':a.eval (.tmp p')=.pointer (some ⟨b',0,none⟩))(h2:a.eval (.tmp p2)=v)(T:Many P ty n)(T':Many P ty' n')(hm:Vh t w b N cap g)(hn:n<=N)(hm':Vh t' w b' N' cap' g')(hn':n'<=N'):(results fn a.tmps).run P w=.ok (.tuple #[aP g 0 n,aP g' 0 n',v]) w:=by
 have e:=lJ hv;have e2:=lJ hv';have e3:=lJ h2;simp only[Array.getD_eq_getD_getElem?] at e e2 e3;simp[results,h,e,e2,e3,asAddr,qJ T hm hn,qJ T' hm' hn']
theorem KJ(v:List Int):unOK v=(lT (gL v)&&(kE (gL v 21) (gL v 22) (gL v 23)&&lH (lU (gL v 21) (gL v 22) (gL v 23)))):=by
 have e:lH (unR v)=lH (lU (gL v 21) (gL v 22) (gL v 23)):=rfl;unfold unOK lT kE kX;rw[e,show (List.range 3).all (λa=>decide (0<=v.getD (7*a+5) 0)&&decide (v.getD (7*a+5) 0<=1))=((decide (0<=gL v 5)&&decide (gL v 5<=1))&&((decide (0<=gL v 12)&&decide (gL v 12<=1))&&((decide (0<=gL v 19)&&decide (gL v 19<=1))&&true))) from rfl];show (_&&decide (0<=gL v 21)&&decide (gL v 21<=15)&&decide (0<=gL v 22)&&decide (gL v 22<=4095)&&decide (0<=gL v 23)&&decide (gL v 23<=4095)&&_)=_
 simp only[Bool.and_true,Bool.and_assoc]
variable{v:List Int}
theorem yK(hl:v.length=24):(decide (v.length=24)&&unOK v)=(lT (gL v)&&(kE (gL v 21) (gL v 22) (gL v 23)&&lH (lU (gL v 21) (gL v 22) (gL v 23)))):=by
 rw[Xt hl,Bool.true_and,KJ]
theorem aMm(h:lT (gL v)=true){a:Nat}(ha:a<3):qA (gL v) a=unA v a:=by
 have hb:kX (gL v (7*a+5)) 1=true:=by
  unfold lT at h;simp only[Bool.and_eq_true] at h
  match a,ha with
  |0,_=>exact h.1
  |1,_=>exact h.2.1
  |2,_=>exact h.2.2
 obtain⟨h0,h1⟩:=QL hb;have e:decide (gL v (7*a+5)=1)=decide (0<v.getD (7*a+5) 0):=by
  show decide (gL v (7*a+5)=1)=decide (0<gL v (7*a+5))
  exact decide_eq_decide.2 Yo
 unfold qA axS unA;dsimp only;rw[e];rfl
theorem FK(v:List Int)(to:Option Addr)(tc:Nat)(w:World)(hsr:Sr w to v.length tc (iF (gL v)))(htl:v.length<=tc):Calls Tryz.prog 108 #[.slice to v.length tc] w λe w'=>∃fx fr:Nat->Value,e=.returned (.tuple #[aP fx 0 21,aP fr 0 12,.bool (decide (v.length=24)&&unOK v)])/\(∀j,j<21->(fx j).oneCell'=true)/\(∀j,j<12->(fr j).oneCell'=true)/\((decide (v.length=24)&&unOK v)=true->(∀i,i<21->fx i=dP (unA v (i/7)) (i%7))/\∀i,i<12->fr i=dD (unR v) i)/\Below w.heap.size w w':=by
 refine bO Tryz.func108 rfl 38 rfl Yd (λA hs hd hb=>?_);have b0:A.eval (.tmp 0)=.slice to v.length tc:=hb 0 _ rfl;clear hb;by_cases hne:((v.length:Nat):Int)≠24
 .rw[Xf (show ¬v.length=24 by omega),Bool.false_and];refine aD (aG ?_);refine Za xO (λw1 m1 k1 z1=>?_);refine Za mF (λw2 m2 k2 z2=>?_);have ma2:=m1.below k2;refine Yx ?_;refine aC<|aH<|aD ?_;iterate 2 refine Yx ?_
  refine Yq (eB (b:=true) _ _ rfl Yf (aJ _ _) (Xt hne) _) ?_;refine aC<|bG Yf ?_;refine aD<|Yq (OY rfl _) ?_;refine Yq (yL rfl _) ?_;refine kJ Yw (λK hK=>aO _ _ _ _ rfl gW Yf Yf ma2 Yc (λj _=>fK _ _ Yo) rfl (λw3 mm3 k3 z3=>hK _ ?_));have ma3:=Vh.congr mm3 (mD _ _);have mb3:=m2.kept k3 Yo;refine Zs fG mb3 (gU _) (λw4 mm4 k4 z4=>?_);have mb4:=Vh.congr mm4 (gZ _ _);have ma4:=ma3.kept k4 Yo;refine Yx ?_;refine aC<|aW ?_;simp only[Nx,Exit.then];refine aN YB (zX rfl Yf Yf Yf gW fG ma4 (Xr _) mb4 (Xr _)) ⟨_,_,rfl,(λj _=>fK _ _ Yo),gU _,λh=>absurd h Yc,aF (aF (k1.trans (k2.mono Yo)) k3 Yo Yo) k4 Yo Yo⟩
 .have hl:v.length=24:=Yo;have htc:24<=tc:=Yo;obtain⟨y,rfl,hy⟩:∃y,to=some y/\∀i,i<24->w.cell? (y.add i)=some (.int .i64 (gL v i)):=by
   rcases hsr with ⟨_,e,_⟩|⟨y,e,hc⟩
   .omega
   .exact⟨y,e,λi hi=>hc i Yo⟩
  refine aD (aG ?_);refine Za xO (λw1 m1 k1 z1=>?_);refine Za mF (λw2 m2 k2 z2=>?_);have ma2:=m1.below k2;refine Yx ?_;refine aC<|aH<|aD ?_;iterate 2 refine Yx ?_
  refine Yq (eB (b:=false) _ _ rfl Yf (aJ _ _) (Xf (λe=>e (by rw[hl];rfl))) _) ?_;refine aC<|bH Yf (aS ?_);refine aD<|Yx ?_;refine bI rfl Yw (λK hK=>?_);have C3:=aBq y tc (gL v) w2 htc (λi hi=>aM (hy i hi) (k1.trans (k2.mono Yo)));rw[<-hl] at C3;refine bQ _ 134 _ _ rfl Yf (PK _ _) C3 ?_;rintro e w3 ⟨rfl,k3⟩;have n3:=k3.size;have ma3:=ma2.below k3;have mb3:=m2.below k3;refine⟨_,rfl,?_⟩;refine hK _ _ ?_;clear hK K;iterate 3 refine Yx ?_
  refine Za xO (λw4 m4 k4 z4=>?_);have ma4:=ma3.below k4;have mb4:=mb3.below k4;refine kJ Yw (λK hK=>aO _ _ _ _ rfl gW Yf Yf m4 Yc (λj _=>fK _ _ Yo) rfl (λw5 mm5 k5 z5=>hK _ ?_));have mx5:=Vh.congr mm5 (mD _ _);have ma5:=ma4.kept k5 Yo;have mb5:=mb4.kept k5 Yo;refine Yx ?_;refine aC<|aH ?_;have kA:Below w.heap.size w w5.drew:=aU (aF ((((k1).trans (k2.mono Yo)).trans (k3.mono Yo)).trans (k4.mono Yo)) k5 Yo Yo);have hS0:(λZ=>∀i,i<24->Z.cell? (y.add i)=some (.int .i64 (gL v i))) w5.drew:=λi hi=>aM (hy i hi) kA
  have ma0:Vh _ w5.drew _ _ _ _:=ma5;have mb0:Vh _ w5.drew _ _ _ _:=mb5;have mx0:Vh _ w5.drew _ _ _ _:=mx5;have ez:w5.drew.heap.size=w5.heap.size:=rfl;refine fD (S:=λZ=>∀i,i<24->Z.cell? (y.add i)=some (.int .i64 (gL v i))) (.mv 0 (.mv 1 (.rd 2 (.mv 3 (.mv 4 (.rd 5 (.mv 6 (.mv 7 (.rd 8 (.two 9 13 (.mv 10 (.mv 11 (.mv 12 (.go 13 (.go 14 (.mv 15 .fin)))))) (.go 9 (.mv 10 (.mv 11 (.mv 12 (.go 14 (.mv 15 .fin)))))))))))))))) [14] Yl Yl ?_;refine Yj ?_;refine Yk rfl (λ_=>cK _ _ rfl (a:=y) (n:=v.length) (cap:=tc) Yf (aJ _ _) (i:=21) rfl Yo _) ?_;refine Yr rfl hS0 (λ_ hS=>cO _ rfl Yf (hS 21 Yc)) ?_;refine Yj ?_;refine Yk rfl (λ_=>cK _ _ rfl (a:=y) (n:=v.length) (cap:=tc) Yf (aJ _ _) (i:=22) rfl Yo _) ?_;refine Yr rfl hS0 (λ_ hS=>cO _ rfl Yf (hS 22 Yc)) ?_;refine Yj ?_;refine Yk rfl (λ_=>cK _ _ rfl (a:=y) (n:=v.length) (cap:=tc) Yf (aJ _ _) (i:=23) rfl Yo _) ?_;refine Yr rfl hS0 (λ_ hS=>cO _ rfl Yf (hS 23 Yc)) ?_;refine yF ?_ ?_
  .refine cZ rfl rfl Yw (λK hK=>iK _ 135 _ _ _ _ rfl Yf Yf Yf (X3 _ _ _ _) (JQ (gL v 21) (gL v 22) (gL v 23) _) ?_);rintro e w6 ⟨rfl,k6⟩;have n6:=k6.size;have ma6:=ma0.below k6;have mb6:=mb0.below k6;have mx6:=mx0.below k6;have hS6:(λZ=>∀i,i<24->Z.cell? (y.add i)=some (.int .i64 (gL v i))) w6:=λi hi=>aM (hS0 i hi) k6
   refine⟨_,rfl,hK _ _ (λ_ _=>hS6) ?_⟩;refine Yj ?_;refine Yk rfl (λ_=>lQ _ rfl Yf _) ?_;refine Yk rfl (λ_=>lN _ rfl Yf _) ?_;refine cZ rfl rfl Yw (λK hK=>?_);refine gY _ _ rfl mF Yd ?_;intro w7 m7 k7 z7;have ma7:=ma6.below k7;have mb7:=mb6.below k7;have mx7:=mx6.below k7;have hS7:(λZ=>∀i,i<24->Z.cell? (y.add i)=some (.int .i64 (gL v i))) w7:=λi hi=>aM (hS6 i hi) k7
   refine hK _ _ (λ_ _=>hS7) ?_;clear hK K;refine dF rfl Yw (λK hK=>aO _ _ _ _ rfl fG (f:=dD (if kE (gL v 21) (gL v 22) (gL v 23) then lU (gL v 21) (gL v 22) (gL v 23) else fH)) Yf Yf m7 Yc (gU _) rfl (λw8 mm8 k8 z8=>hK _ (λh=>absurd h Yc) ?_));have mp8:=Vh.congr mm8 (gZ _ _);have ma8:=ma7.kept k8 Yo;have mb8:=mb7.kept k8 Yo;have mx8:=mx7.kept k8 Yo;refine Yj ?_;refine fT<|aH ?_;have kB:Below w.heap.size w w8.drew:=aU (aF ((kA.trans (k6.mono Yo)).trans (k7.mono Yo)) k8 Yo Yo);have hS0:(λZ=>Vh 26 Z w3.heap.size 21 21 (λi=>dP (if lT (gL v) then qA (gL v) (i/7) else St.nil') (i%7))/\Vh 30 Z (w6.heap.size) 12 12 (dD (if kE (gL v 21) (gL v 22) (gL v 23) then lU (gL v 21) (gL v 22) (gL v 23) else fH))) w8.drew:=⟨mx8,mp8⟩;have ma0:Vh _ w8.drew _ _ _ _:=ma8;have mb0:Vh _ w8.drew _ _ _ _:=mb8;have mx0:Vh _ w8.drew _ _ _ _:=mx8;have mp0:Vh _ w8.drew _ _ _ _:=mp8;have ez:w8.drew.heap.size=w8.heap.size:=rfl;rcases hoa:lT (gL v) with _|_
   .refine fD (S:=λZ=>Vh 26 Z w3.heap.size 21 21 (λi=>dP (if lT (gL v) then qA (gL v) (i/7) else St.nil') (i%7))/\Vh 30 Z (w6.heap.size) 12 12 (dD (if kE (gL v 21) (gL v 22) (gL v 23) then lU (gL v 21) (gL v 22) (gL v 23) else fH))) (.rd 0 (.rd 1 (.mv 2 (.mv 3 (.mv 4 (.mv 5 (.go 6 (.go 7 (.mv 8 .fin))))))))) [] Yl Yl ?_;refine Yr rfl hS0 (λ_ hS=>aX _ _ rfl gW Yf hS.1 Yc) ?_;refine Yr rfl hS0 (λ_ hS=>aX _ _ rfl fG Yf hS.2 Yc) ?_;iterate 2 refine Yj ?_
    refine KY rfl rfl (λ_ _ _ h=>h) (iX (j:=3) rfl rfl rfl Yf Yc) ?_;refine Yk rfl (λ_=>aR _ _ _ rfl Yf (aJ _ _) _) ?_;refine dF rfl Yw (λK hK=>?_);refine aO _ _ _ _ rfl gW Yf Yf ma0 Yc (λj _=>fK _ _ Yo) rfl ?_;intro w9 mm9 k9 z9;have ma9:=Vh.congr mm9 (mD _ _);have mb9:=mb0.kept k9 Yo;have mx9:=mx0.kept k9 Yo;have mp9:=mp0.kept k9 Yo;have hS9:(λZ=>Vh 26 Z w3.heap.size 21 21 (λi=>dP (if lT (gL v) then qA (gL v) (i/7) else St.nil') (i%7))/\Vh 30 Z (w6.heap.size) 12 12 (dD (if kE (gL v 21) (gL v 22) (gL v 23) then lU (gL v 21) (gL v 22) (gL v 23) else fH))) w9:=⟨mx9,mp9⟩;refine hK _ (λ_ _=>hS9) ?_;clear hK K;refine dF rfl Yw (λK hK=>?_);refine aO _ _ _ _ rfl fG Yf Yf mb9 Yc (gU _) rfl ?_;intro w10 mm10 k10 z10;have mb10:=Vh.congr mm10 (gZ _ _);have ma10:=ma9.kept k10 Yo;have mx10:=mx9.kept k10 Yo;have mp10:=mp9.kept k10 Yo;have hS10:(λZ=>Vh 26 Z w3.heap.size 21 21 (λi=>dP (if lT (gL v) then qA (gL v) (i/7) else St.nil') (i%7))/\Vh 30 Z (w6.heap.size) 12 12 (dD (if kE (gL v 21) (gL v 22) (gL v 23) then lU (gL v 21) (gL v 22) (gL v 23) else fH))) w10:=⟨mx10,mp10⟩;refine hK _ (λ_ _=>hS10) ?_;clear hK K;refine Yj ?_;refine fT<|aW<|aN YB (zX rfl Yf Yf Yf gW fG ma10 (Xr _) mb10 (Xr _)) ⟨(λi=>dP (if lT (gL v) then qA (gL v) (i/7) else St.nil') (i%7)),dD (if kE (gL v 21) (gL v 22) (gL v 23) then lU (gL v 21) (gL v 22) (gL v 23) else fH),?_,(λj _=>fK _ _ Yo),gU _,?_,aF (aF kB k9 Yo Yo) k10 Yo Yo⟩
    .rw[yK hl,hoa];rfl
    .intro h;rw[yK hl,hoa] at h
     cases h
   .refine fD (S:=λZ=>Vh 26 Z w3.heap.size 21 21 (λi=>dP (if lT (gL v) then qA (gL v) (i/7) else St.nil') (i%7))/\Vh 30 Z (w6.heap.size) 12 12 (dD (if kE (gL v 21) (gL v 22) (gL v 23) then lU (gL v 21) (gL v 22) (gL v 23) else fH))) (.rd 0 (.rd 1 (.mv 2 (.mv 3 (.mv 4 (.mv 5 (.go 6 (.go 7 (.mv 8 .fin))))))))) [] Yl Yl ?_;refine Yr rfl hS0 (λ_ hS=>aX _ _ rfl gW Yf hS.1 Yc) ?_;refine Yr rfl hS0 (λ_ hS=>aX _ _ rfl fG Yf hS.2 Yc) ?_;iterate 3 refine Yj ?_
    refine Yk rfl (λ_=>aL _ _ _ rfl Yf Yf _) ?_;refine dF rfl Yw (λK hK=>?_);refine aO _ _ _ _ rfl gW Yf Yf ma0 Yc (λj _=>fK _ _ Yo) rfl ?_;intro w9 mm9 k9 z9;have ma9:=Vh.congr mm9 (mD _ _);have mb9:=mb0.kept k9 Yo;have mx9:=mx0.kept k9 Yo;have mp9:=mp0.kept k9 Yo;have hS9:(λZ=>Vh 26 Z w3.heap.size 21 21 (λi=>dP (if lT (gL v) then qA (gL v) (i/7) else St.nil') (i%7))/\Vh 30 Z (w6.heap.size) 12 12 (dD (if kE (gL v 21) (gL v 22) (gL v 23) then lU (gL v 21) (gL v 22) (gL v 23) else fH))) w9:=⟨mx9,mp9⟩;refine hK _ (λ_ _=>hS9) ?_;clear hK K;refine dF rfl Yw (λK hK=>?_);refine aO _ _ _ _ rfl fG Yf Yf mb9 Yc (gU _) rfl ?_;intro w10 mm10 k10 z10;have mb10:=Vh.congr mm10 (gZ _ _);have ma10:=ma9.kept k10 Yo;have mx10:=mx9.kept k10 Yo;have mp10:=mp9.kept k10 Yo;have hS10:(λZ=>Vh 26 Z w3.heap.size 21 21 (λi=>dP (if lT (gL v) then qA (gL v) (i/7) else St.nil') (i%7))/\Vh 30 Z (w6.heap.size) 12 12 (dD (if kE (gL v 21) (gL v 22) (gL v 23) then lU (gL v 21) (gL v 22) (gL v 23) else fH))) w10:=⟨mx10,mp10⟩;refine hK _ (λ_ _=>hS10) ?_;clear hK K;refine Yj ?_;refine fT<|aW<|aN YB (zX rfl Yf Yf Yf gW fG ma10 (Xr _) mb10 (Xr _)) ⟨(λi=>dP (if lT (gL v) then qA (gL v) (i/7) else St.nil') (i%7)),dD (if kE (gL v 21) (gL v 22) (gL v 23) then lU (gL v 21) (gL v 22) (gL v 23) else fH),?_,(λj _=>fK _ _ Yo),gU _,?_,aF (aF kB k9 Yo Yo) k10 Yo Yo⟩
    .rw[yK hl,hoa];rfl
    .intro h;rw[yK hl,hoa,Bool.true_and,Bool.and_eq_true] at h;refine⟨λi _=>?_,?_⟩
     .dsimp only;rw[if_pos hoa,aMm hoa Yo]
     .intro i _;rw[if_pos h.1];rfl
  .refine cZ rfl rfl Yw (λK hK=>?_);refine gY _ _ rfl mF Yd ?_;intro w6 m6 k6 z6;have ma6:=ma0.below k6;have mb6:=mb0.below k6;have mx6:=mx0.below k6;have hS6:(λZ=>∀i,i<24->Z.cell? (y.add i)=some (.int .i64 (gL v i))) w6:=λi hi=>aM (hS0 i hi) k6
   refine hK _ _ (λ_ _=>hS6) ?_;clear hK K;refine cZ rfl rfl Yw (λK hK=>iK _ 135 _ _ _ _ rfl Yf Yf Yf (X3 _ _ _ _) (JQ (gL v 21) (gL v 22) (gL v 23) _) ?_);rintro e w7 ⟨rfl,k7⟩;have n7:=k7.size;have ma7:=ma6.below k7;have mb7:=mb6.below k7;have mx7:=mx6.below k7;have mp7:=m6.below k7;have hS7:(λZ=>∀i,i<24->Z.cell? (y.add i)=some (.int .i64 (gL v i))) w7:=λi hi=>aM (hS6 i hi) k7
   refine⟨_,rfl,hK _ _ (λ_ _=>hS7) ?_⟩;refine Yj ?_;refine Yk rfl (λ_=>lQ _ rfl Yf _) ?_;refine Yk rfl (λ_=>lN _ rfl Yf _) ?_;refine dF rfl Yw (λK hK=>aO _ _ _ _ rfl fG (f:=dD (if kE (gL v 21) (gL v 22) (gL v 23) then lU (gL v 21) (gL v 22) (gL v 23) else fH)) Yf Yf mp7 Yc (gU _) rfl (λw8 mm8 k8 z8=>hK _ (λh=>absurd h Yc) ?_));have mp8:=Vh.congr mm8 (gZ _ _);have ma8:=ma7.kept k8 Yo;have mb8:=mb7.kept k8 Yo;have mx8:=mx7.kept k8 Yo;refine Yj ?_;refine fT<|aH ?_;have kB:Below w.heap.size w w8.drew:=aU (aF ((kA.trans (k6.mono Yo)).trans (k7.mono Yo)) k8 Yo Yo);have hS0:(λZ=>Vh 26 Z w3.heap.size 21 21 (λi=>dP (if lT (gL v) then qA (gL v) (i/7) else St.nil') (i%7))/\Vh 30 Z (w5.drew.heap.size) 12 12 (dD (if kE (gL v 21) (gL v 22) (gL v 23) then lU (gL v 21) (gL v 22) (gL v 23) else fH))) w8.drew:=⟨mx8,mp8⟩;have ma0:Vh _ w8.drew _ _ _ _:=ma8;have mb0:Vh _ w8.drew _ _ _ _:=mb8;have mx0:Vh _ w8.drew _ _ _ _:=mx8;have mp0:Vh _ w8.drew _ _ _ _:=mp8;have ez:w8.drew.heap.size=w8.heap.size:=rfl;rcases hoa:lT (gL v) with _|_
   .refine fD (S:=λZ=>Vh 26 Z w3.heap.size 21 21 (λi=>dP (if lT (gL v) then qA (gL v) (i/7) else St.nil') (i%7))/\Vh 30 Z (w5.drew.heap.size) 12 12 (dD (if kE (gL v 21) (gL v 22) (gL v 23) then lU (gL v 21) (gL v 22) (gL v 23) else fH))) (.rd 0 (.rd 1 (.mv 2 (.mv 3 (.mv 4 (.mv 5 (.go 6 (.go 7 (.mv 8 .fin))))))))) [] Yl Yl ?_;refine Yr rfl hS0 (λ_ hS=>aX _ _ rfl gW Yf hS.1 Yc) ?_;refine Yr rfl hS0 (λ_ hS=>aX _ _ rfl fG Yf hS.2 Yc) ?_;iterate 2 refine Yj ?_
    refine KY rfl rfl (λ_ _ _ h=>h) (iX (j:=3) rfl rfl rfl Yf Yc) ?_;refine Yk rfl (λ_=>aR _ _ _ rfl Yf (aJ _ _) _) ?_;refine dF rfl Yw (λK hK=>?_);refine aO _ _ _ _ rfl gW Yf Yf ma0 Yc (λj _=>fK _ _ Yo) rfl ?_;intro w9 mm9 k9 z9;have ma9:=Vh.congr mm9 (mD _ _);have mb9:=mb0.kept k9 Yo;have mx9:=mx0.kept k9 Yo;have mp9:=mp0.kept k9 Yo;have hS9:(λZ=>Vh 26 Z w3.heap.size 21 21 (λi=>dP (if lT (gL v) then qA (gL v) (i/7) else St.nil') (i%7))/\Vh 30 Z (w5.drew.heap.size) 12 12 (dD (if kE (gL v 21) (gL v 22) (gL v 23) then lU (gL v 21) (gL v 22) (gL v 23) else fH))) w9:=⟨mx9,mp9⟩;refine hK _ (λ_ _=>hS9) ?_;clear hK K;refine dF rfl Yw (λK hK=>?_);refine aO _ _ _ _ rfl fG Yf Yf mb9 Yc (gU _) rfl ?_;intro w10 mm10 k10 z10;have mb10:=Vh.congr mm10 (gZ _ _);have ma10:=ma9.kept k10 Yo;have mx10:=mx9.kept k10 Yo;have mp10:=mp9.kept k10 Yo;have hS10:(λZ=>Vh 26 Z w3.heap.size 21 21 (λi=>dP (if lT (gL v) then qA (gL v) (i/7) else St.nil') (i%7))/\Vh 30 Z (w5.drew.heap.size) 12 12 (dD (if kE (gL v 21) (gL v 22) (gL v 23) then lU (gL v 21) (gL v 22) (gL v 23) else fH))) w10:=⟨mx10,mp10⟩;refine hK _ (λ_ _=>hS10) ?_;clear hK K;refine Yj ?_;refine fT<|aW<|aN YB (zX rfl Yf Yf Yf gW fG ma10 (Xr _) mb10 (Xr _)) ⟨(λi=>dP (if lT (gL v) then qA (gL v) (i/7) else St.nil') (i%7)),dD (if kE (gL v 21) (gL v 22) (gL v 23) then lU (gL v 21) (gL v 22) (gL v 23) else fH),?_,(λj _=>fK _ _ Yo),gU _,?_,aF (aF kB k9 Yo Yo) k10 Yo Yo⟩
    .rw[yK hl,hoa];rfl
    .intro h;rw[yK hl,hoa] at h
     cases h
   .refine fD (S:=λZ=>Vh 26 Z w3.heap.size 21 21 (λi=>dP (if lT (gL v) then qA (gL v) (i/7) else St.nil') (i%7))/\Vh 30 Z (w5.drew.heap.size) 12 12 (dD (if kE (gL v 21) (gL v 22) (gL v 23) then lU (gL v 21) (gL v 22) (gL v 23) else fH))) (.rd 0 (.rd 1 (.mv 2 (.mv 3 (.mv 4 (.mv 5 (.go 6 (.go 7 (.mv 8 .fin))))))))) [] Yl Yl ?_;refine Yr rfl hS0 (λ_ hS=>aX _ _ rfl gW Yf hS.1 Yc) ?_;refine Yr rfl hS0 (λ_ hS=>aX _ _ rfl fG Yf hS.2 Yc) ?_;iterate 3 refine Yj ?_
    refine Yk rfl (λ_=>aL _ _ _ rfl Yf Yf _) ?_;refine dF rfl Yw (λK hK=>?_);refine aO _ _ _ _ rfl gW Yf Yf ma0 Yc (λj _=>fK _ _ Yo) rfl ?_;intro w9 mm9 k9 z9;have ma9:=Vh.congr mm9 (mD _ _);have mb9:=mb0.kept k9 Yo;have mx9:=mx0.kept k9 Yo;have mp9:=mp0.kept k9 Yo;have hS9:(λZ=>Vh 26 Z w3.heap.size 21 21 (λi=>dP (if lT (gL v) then qA (gL v) (i/7) else St.nil') (i%7))/\Vh 30 Z (w5.drew.heap.size) 12 12 (dD (if kE (gL v 21) (gL v 22) (gL v 23) then lU (gL v 21) (gL v 22) (gL v 23) else fH))) w9:=⟨mx9,mp9⟩;refine hK _ (λ_ _=>hS9) ?_;clear hK K;refine dF rfl Yw (λK hK=>?_);refine aO _ _ _ _ rfl fG Yf Yf mb9 Yc (gU _) rfl ?_;intro w10 mm10 k10 z10;have mb10:=Vh.congr mm10 (gZ _ _);have ma10:=ma9.kept k10 Yo;have mx10:=mx9.kept k10 Yo;have mp10:=mp9.kept k10 Yo;have hS10:(λZ=>Vh 26 Z w3.heap.size 21 21 (λi=>dP (if lT (gL v) then qA (gL v) (i/7) else St.nil') (i%7))/\Vh 30 Z (w5.drew.heap.size) 12 12 (dD (if kE (gL v 21) (gL v 22) (gL v 23) then lU (gL v 21) (gL v 22) (gL v 23) else fH))) w10:=⟨mx10,mp10⟩;refine hK _ (λ_ _=>hS10) ?_;clear hK K;refine Yj ?_;refine fT<|aW<|aN YB (zX rfl Yf Yf Yf gW fG ma10 (Xr _) mb10 (Xr _)) ⟨(λi=>dP (if lT (gL v) then qA (gL v) (i/7) else St.nil') (i%7)),dD (if kE (gL v 21) (gL v 22) (gL v 23) then lU (gL v 21) (gL v 22) (gL v 23) else fH),?_,(λj _=>fK _ _ Yo),gU _,?_,aF (aF kB k9 Yo Yo) k10 Yo Yo⟩
    .rw[yK hl,hoa];rfl
    .intro h;rw[yK hl,hoa,Bool.true_and,Bool.and_eq_true] at h;refine⟨λi _=>?_,?_⟩
     .dsimp only;rw[if_pos hoa,aMm hoa Yo]
     .intro i _;rw[if_pos h.1];rfl
theorem iE(x:Value)(w:World):(callFunc 59 #[x]).run Tryz.prog w=.ok (.enter 59 #[x]) w:=Yh
theorem qY(x:Value)(w:World):(callFunc 58 #[x]).run Tryz.prog w=.ok (.enter 58 #[x]) w:=Yh
theorem pI(x y z:Value)(w:World):(callFunc 60 #[x,y,z]).run Tryz.prog w=.ok (.enter 60 #[x,y,z]) w:=Yh
theorem rQ(x y z u:Value)(w:World):(callFunc 61 #[x,y,z,u]).run Tryz.prog w=.ok (.enter 61 #[x,y,z,u]) w:=Yh
theorem TT(x y:Value)(w:World):(callFunc 69 #[x,y]).run Tryz.prog w=.ok (.enter 69 #[x,y]) w:=Yh
theorem ZM(x:Value)(w:World):(callFunc 62 #[x]).run Tryz.prog w=.ok (.enter 62 #[x]) w:=Yh
theorem uZ(x y:Value)(w:World):(callFunc 67 #[x,y]).run Tryz.prog w=.ok (.enter 67 #[x,y]) w:=Yh
theorem KW(x:Value)(w:World):(callFunc 99 #[x]).run Tryz.prog w=.ok (.enter 99 #[x]) w:=Yh
theorem FQ(x:Value)(w:World):(callFunc 100 #[x]).run Tryz.prog w=.ok (.enter 100 #[x]) w:=Yh
theorem vO(x:Value)(w:World):(callFunc 101 #[x]).run Tryz.prog w=.ok (.enter 101 #[x]) w:=Yh
theorem jZ(id:Int)(w:World):Calls Tryz.prog 59 #[.int .i64 id] w λe w'=>e=.returned (.bool (!jI id))/\Below w.heap.size w w':=by
 unfold jI;by_cases h1:id<0
 .rw[Xt h1,Bool.true_or];refine bO Tryz.func59 rfl 9 rfl Yd (λA hs hd hb=>?_);have b0:=hb 0 _ rfl;clear hb;refine aD (aG ?_);refine Yx ?_;refine aC<|aD<|Yx ?_;refine Yq (iT (b:=false) _ _ rfl Yf (aJ _ _) (Xf Yo) _) ?_;refine Yx ?_;iterate 2 refine Yu ?_
  refine Yq (aR _ _ _ rfl Yf (aJ _ _) _) ?_;refine Yx ?_;refine aC ?_;exact aW (aN YB (dW rfl Yf) ⟨rfl,Below.refl _ _⟩)
 .by_cases h2:3<id
  .rw[Xf h1,Xt h2,Bool.or_true];refine bO Tryz.func59 rfl 9 rfl Yd (λA hs hd hb=>?_);have b0:=hb 0 _ rfl;clear hb;refine aD (aG ?_);refine Yx ?_;refine aC<|aD<|Yx ?_;refine Yq (iT (b:=true) _ _ rfl Yf (aJ _ _) (Xt Yo) _) ?_;iterate 3 refine Yx ?_
   refine Yq (aL _ _ _ rfl Yf Yf _) ?_;refine Yx ?_;refine aC ?_;exact aW (aN YB (dW rfl Yf) ⟨rfl,Below.refl _ _⟩)
  .rw[Xf h1,Xf h2,Bool.or_false];refine bO Tryz.func59 rfl 9 rfl Yd (λA hs hd hb=>?_);have b0:=hb 0 _ rfl;clear hb;refine aD (aG ?_);refine Yx ?_;refine aC<|aD<|Yx ?_;refine Yq (iT (b:=true) _ _ rfl Yf (aJ _ _) (Xt Yo) _) ?_;iterate 3 refine Yx ?_
   refine Yq (aL _ _ _ rfl Yf Yf _) ?_;refine Yx ?_;refine aC ?_;exact aW (aN YB (dW rfl Yf) ⟨rfl,Below.refl _ _⟩)
theorem wU(n:Nd)(ao:Option Addr)(c:Nat)(w:World)(hs0:Sr w ao n.vA.length c (tF (bA n)))(hl:n.vA.length<=140737488351232):Calls Tryz.prog 58 #[iP n (.slice ao n.vA.length c)] w λe w'=>∃a' c',e=.returned (iP n (.slice a' n.vA.length c'))/\w'.ownsRow w.heap.size 4 1 (.slice a' n.vA.length c') n.vA.length (rowV (tF (bA n)) n.vA.length)/\Below w.heap.size w w':=by
 refine bO Tryz.func58 rfl 10 rfl Yd (λA hs hd hb=>?_);have b0:=hb 0 _ rfl;clear hb;refine aD (aG ?_);refine Zb (λw1 m1 k1 z1=>?_);have sr1:=hs0.below k1;refine Za lC (λw2 m2 k2 z2=>?_);have mn2:=m1.below k2;have sr2:=sr1.below k2;refine aC<|aD ?_;iterate 3 refine Yx ?_
 refine bI rfl Yw (λK hK=>?_);refine⟨SA _ _ _ rfl w2.heap.size (Xr _) (.slice none 0 0) 0 [] rfl (World.ownsRow_nil _ _ _ _) ao n.vA.length c (tF (bA n)) Yf sr2 (λi _=>rfl) Yo ?_⟩;intro v3 w3 o3 k3;rw[Nat.zero_add,List.nil_append] at o3;obtain⟨a3,c3,rfl,hc3⟩:=dS o3;have mn3:=mn2.below k3;have mr3:=m2.below k3;refine hK _ _ ?_;clear hK K;iterate 2 refine Yx ?_
 refine kJ Yw (λK hK=>iI _ _ _ _ rfl aCi Yf Yf mn3 Yc rfl rfl rfl (λw4 mm4 k4 z4=>hK _ ?_));have mn4:=Vh.congr mm4 (FP _ _ _);have mr4:=mr3.kept k4 Yo;have ow4:=gT o3 k4 Yo;refine aC<|aD<|Yx ?_;refine Zs bE mr4 (bN _ _ _ _) (λw5 mm5 k5 z5=>?_);have mr5:=Vh.congr mm5 (dQ _ _);have mn5:=mn4.kept k5 Yo;have ow5:=gT ow4 k5 Yo;refine aC<|aW (aN YB (pW rfl Yf bE mr5 (Xr _)) ⟨a3,c3,rfl,bZ ow5 Yo,?_⟩);exact aF (aF ((k1.trans (k2.mono Yo)).trans (k3.mono Yo)) k4 Yo (by have:=k3.size;omega)) k5 Yo (by have:=k3.size;omega)
theorem vC(n:Nd)(nv:Value)(kind:Int)(vo:Option Addr)(vn vc:Nat)(g:Nat->Int)(w:World)(hsr:Sr w vo vn vc (iF g))(hl:vn<=17592186044404):Calls Tryz.prog 60 #[iP n nv,.int .i64 kind,.slice vo vn vc] w λe w'=>∃a2 c2,e=.returned (aP (msF kind n.id n.fr (.slice a2 vn c2)) 0 4)/\w'.ownsRow w.heap.size 3 1 (.slice a2 vn c2) vn (rowV (iF g) vn)/\Below w.heap.size w w':=by
 refine bO Tryz.func60 rfl 15 rfl Yd (λA hs hd hb=>?_);have b0:=hb 0 _ rfl;have b1:=hb 1 _ rfl;have b2:=hb 2 _ rfl;clear hb;refine aD (aG ?_);refine Zb (λw1 m1 k1 z1=>?_);have sr1:=hsr.below k1;refine Za jL (λw2 m2 k2 z2=>?_);have mn2:=m1.below k2;have sr2:=sr1.below k2;refine aC<|aH ?_;have hS0:(λW=>Vh 37 W w.heap.size 74 74 (ndF n nv)) w2.drew:=mn2;have mq0:Vh _ w2.drew _ _ _ _:=m2;have sr0:Sr w2.drew _ _ _ _:=sr2;have ez:w2.drew.heap.size=w2.heap.size:=rfl;refine fD (S:=λW=>Vh 37 W w.heap.size 74 74 (ndF n nv)) (.mv 0 (.mv 1 (.rd 2 (.mv 3 (.rd 4 (.mv 5 (.go 6 (.mv 7 (.go 8 .fin))))))))) [] Yl Yl ?_;refine Yj ?_;refine Yk rfl (λ_=>BJ rfl Yf _) ?_;refine Yr rfl hS0 (λ_ hS=>aZ _ _ rfl gD Yf hS Yc rfl) ?_;refine Yk rfl (λ_=>UE rfl Yf _) ?_;refine Yr rfl hS0 (λ_ hS=>aZ _ _ rfl gD Yf hS Yc rfl) ?_;refine Yj ?_;refine cZ rfl rfl Yw (λK hK=>?_);refine⟨kS _ _ _ rfl w2.drew.heap.size (Xr _) (.slice none 0 0) 0 [] (aJ _ _) (World.ownsRow_nil _ _ _ _) vo vn vc (iF g) Yf sr0 (λi _=>rfl) Yo ?_⟩;intro v3 w3 ov3 k3;rw[Nat.zero_add,List.nil_append] at ov3;obtain⟨a2,c2,rfl,hc2⟩:=dS ov3;have n3:=k3.size;have hS3:(λW=>Vh 37 W w.heap.size 74 74 (ndF n nv)) w3:=hS0.below k3;have mq3:=mq0.below k3;refine hK _ _ (λ_ _=>hS3) ?_;clear hK K;refine Yk rfl (λ_=>sH _ _ _ _ rfl Yf Yf Yf Yf _) ?_;refine dF rfl Yw (λK hK=>?_);refine aO _ _ _ _ rfl dU Yf Yf mq3 Yc (fC _ _ _ _ _ _) rfl ?_;intro w4 mm4 k4 z4;have mq4:=Vh.congr mm4 (eX _ _);have hS4:(λW=>Vh 37 W w.heap.size 74 74 (ndF n nv)) w4:=hS3.kept k4 Yo;have ov4:=gT ov3 k4 Yo;refine hK _ (λ_ _=>hS4) ?_;clear hK K;refine fT<|aW (aN YB (pW rfl Yf dU mq4 (Xr _)) ⟨a2,c2,rfl,bZ ov4 Yo,?_⟩);exact aF ((aU (k1.trans (k2.mono Yo))).trans (k3.mono Yo)) k4 Yo Yo
theorem vZ(x:Value)(w:World):(callFunc 75 #[x]).run Tryz.prog w=.ok (.enter 75 #[x]) w:=Yh
def movN(n:Nd)(v:List Int):Nd:=if (decide (v.length=24)&&unOK v)=true then { n with ax:=unA v,rl:=unR v } else n
theorem qK(n:Nd){nv:Value}(h:nv.oneCell'=true):∀j,j<74->(ndF n nv j).oneCell'=true:=by
 intro j _;unfold ndF jA dP dD iV
 repeat' split
 all_goals first|exact h|rfl
theorem upd_axW(n:Nd)(v:Value){fx:Nat->Value}{ax:Nat->St}(hx:∀i,i<21->fx i=dP (ax (i/7)) (i%7)):∀j,j<74->stP (ndF n v) (0+6) 21 fx j=ndF { n with ax:=ax } v j:=by grind [stP,ndF]
theorem upd_rlW(n:Nd)(v:Value){fr:Nat->Value}(hx:∀i,i<12->fr i=dD r i):∀j,j<74->stP (ndF n v) (0+27) 12 fr j=ndF { n with rl:=r } v j:=by
 intro j hj;refine Eq.trans ?_ (upd_rl n v r j hj);unfold stP;by_cases c:0+27<=j/\j<0+27+12
 .rw[if_pos c,if_pos c,hx _ Yo]
 .rw[if_neg c,if_neg c]
theorem aCF(n:Nd)(nv:Value)(v:List Int)(to:Option Addr)(tc:Nat)(w:World)(hnv:nv.oneCell'=true)(hsr:Sr w to v.length tc (iF (gL v)))(htl:v.length<=tc):Calls Tryz.prog 73 #[iP n nv,.slice to v.length tc] w λe w'=>e=.returned (iP (movN n v) nv)/\Below w.heap.size w w':=by
 refine bO Tryz.func73 rfl 20 rfl Yd (λA hs hd hb=>?_);have b0:A.eval (.tmp 0)=iP n nv:=hb 0 _ rfl;have b1:A.eval (.tmp 1)=.slice to v.length tc:=hb 1 _ rfl;clear hb;rcases hb:(decide (v.length=24)&&unOK v) with _|_
 .refine aD (aG ?_);refine Zb (λw1 m1 k1 z1=>?_);have sr1:=hsr.below k1;refine Za lC (λw2 m2 k2 z2=>?_);have mn2:=m1.below k2;have sr2:=sr1.below k2;refine aC<|aH<|aD<|Yx ?_;refine bI rfl Yw (λK hK=>?_);have C3:=FK v to tc w2 sr2 htl;rw[hb] at C3;refine bQ _ 108 _ _ rfl Yf (zO _ _) C3 ?_;rintro e w3 ⟨fx,fr,rfl,ofx,ofr,hfx,k3⟩;have n3:=k3.size;have mn3:=mn2.below k3;have mr3:=m2.below k3;refine⟨_,rfl,?_⟩;refine hK _ _ ?_;clear hK K;refine Yx ?_;refine Yq (jM _ rfl Yf _) ?_;refine Yq (jO _ rfl Yf _) ?_;refine Yq (jP _ rfl Yf _) ?_;refine Za xO (λw4 m4 k4 z4=>?_);have mn4:=mn3.below k4;have mr4:=mr3.below k4;refine Za mF (λw5 m5 k5 z5=>?_);have mn5:=mn4.below k5;have mr5:=mr4.below k5;have ma5:=m4.below k5;refine kJ Yw (λK hK=>aO _ _ _ _ rfl gW (f:=fx) Yf Yf ma5 Yc ofx rfl (λw6 mm6 k6 z6=>hK _ ?_));have ma6:=Vh.congr mm6 (mD _ _);have mn6:=mn5.kept k6 Yo;have mr6:=mr5.kept k6 Yo;have mb6:=m5.kept k6 Yo;refine kJ Yw (λK hK=>aO _ _ _ _ rfl fG (f:=fr) Yf Yf mb6 Yc ofr rfl (λw7 mm7 k7 z7=>hK _ ?_));have mb7:=Vh.congr mm7 (gZ _ _);have mn7:=mn6.kept k7 Yo;have mr7:=mr6.kept k7 Yo;have ma7:=ma6.kept k7 Yo;refine Yx ?_;refine aC<|aD<|Yx ?_;refine aC<|bH Yf (aS ?_);refine aD<|Yx ?_;refine Zs bE mr7 (qK _ hnv) (λw8 mm8 k8 z8=>?_);have mr8:=Vh.congr mm8 (dQ _ _);have mn8:=mn7.kept k8 Yo;have ma8:=ma7.kept k8 Yo;have mb8:=mb7.kept k8 Yo;refine aC<|aW (aN YB (pW rfl Yf bE mr8 (Xr _)) ⟨?_,aF (aF (aF ((((k1.trans (k2.mono Yo)).trans (k3.mono Yo)).trans (k4.mono Yo)).trans (k5.mono Yo)) k6 Yo Yo) k7 Yo Yo) k8 Yo Yo⟩);unfold movN;rw[hb];rfl
 .refine aD (aG ?_);refine Zb (λw1 m1 k1 z1=>?_);have sr1:=hsr.below k1;refine Za lC (λw2 m2 k2 z2=>?_);have mn2:=m1.below k2;have sr2:=sr1.below k2;refine aC<|aH<|aD<|Yx ?_;refine bI rfl Yw (λK hK=>?_);have C3:=FK v to tc w2 sr2 htl;rw[hb] at C3;refine bQ _ 108 _ _ rfl Yf (zO _ _) C3 ?_;rintro e w3 ⟨fx,fr,rfl,ofx,ofr,hfx,k3⟩;have n3:=k3.size;have mn3:=mn2.below k3;have mr3:=m2.below k3;refine⟨_,rfl,?_⟩;refine hK _ _ ?_;clear hK K;refine Yx ?_;refine Yq (jM _ rfl Yf _) ?_;refine Yq (jO _ rfl Yf _) ?_;refine Yq (jP _ rfl Yf _) ?_;refine Za xO (λw4 m4 k4 z4=>?_);have mn4:=mn3.below k4;have mr4:=mr3.below k4;refine Za mF (λw5 m5 k5 z5=>?_);have mn5:=mn4.below k5;have mr5:=mr4.below k5;have ma5:=m4.below k5;refine kJ Yw (λK hK=>aO _ _ _ _ rfl gW (f:=fx) Yf Yf ma5 Yc ofx rfl (λw6 mm6 k6 z6=>hK _ ?_));have ma6:=Vh.congr mm6 (mD _ _);have mn6:=mn5.kept k6 Yo;have mr6:=mr5.kept k6 Yo;have mb6:=m5.kept k6 Yo;refine kJ Yw (λK hK=>aO _ _ _ _ rfl fG (f:=fr) Yf Yf mb6 Yc ofr rfl (λw7 mm7 k7 z7=>hK _ ?_));have mb7:=Vh.congr mm7 (gZ _ _);have mn7:=mn6.kept k7 Yo;have mr7:=mr6.kept k7 Yo;have ma7:=ma6.kept k7 Yo;refine Yx ?_;refine aC<|aD<|Yx ?_;refine aC<|bG Yf ?_;have kA:Below w.heap.size w w7.drew:=aU (aF (aF ((((k1.trans (k2.mono Yo)).trans (k3.mono Yo)).trans (k4.mono Yo)).trans (k5.mono Yo)) k6 Yo Yo) k7 Yo Yo);obtain⟨hx1,hx2⟩:=hfx rfl;have hS0:(λZ=>Vh 26 Z w3.heap.size 21 21 fx/\Vh 30 Z w4.heap.size 12 12 fr) w7.drew:=⟨ma7,mb7⟩;have mn0:Vh _ w7.drew _ _ _ _:=mn7;have mr0:Vh _ w7.drew _ _ _ _:=mr7;have ma0:Vh _ w7.drew _ _ _ _:=ma7;have mb0:Vh _ w7.drew _ _ _ _:=mb7;have ez:w7.drew.heap.size=w7.heap.size:=rfl;refine fD (S:=λZ=>Vh 26 Z w3.heap.size 21 21 fx/\Vh 30 Z w4.heap.size 12 12 fr) (.rd 0 (.rd 1 (.mv 2 (.go 3 (.mv 4 (.go 5 .fin)))))) [] Yl Yl ?_;refine Yr rfl hS0 (λ_ hS=>aX _ _ rfl gW Yf hS.1 Yc) ?_;refine Yr rfl hS0 (λ_ hS=>aX _ _ rfl fG Yf hS.2 Yc) ?_;refine Yk rfl (λ_=>IV rfl Yf _) ?_;refine dF rfl Yw (λK hK=>?_);refine aO _ _ _ _ rfl gW (f:=fx) Yf Yf mn0 Yc ofx rfl ?_;intro w8 mm8 k8 z8;have mn8:Vh 37 w8 w.heap.size 74 74 (ndF { n with ax:=unA v } nv):=Vh.congr mm8 (upd_axW n nv hx1);have mr8:=mr0.kept k8 Yo;have ma8:=ma0.kept k8 Yo;have mb8:=mb0.kept k8 Yo;have hS8:(λZ=>Vh 26 Z w3.heap.size 21 21 fx/\Vh 30 Z w4.heap.size 12 12 fr) w8:=⟨ma8,mb8⟩;refine hK _ (λ_ _=>hS8) ?_;clear hK K;refine Yk rfl (λ_=>BN rfl Yf _) ?_;refine dF rfl Yw (λK hK=>?_);refine aO _ _ _ _ rfl fG (f:=fr) Yf Yf mn8 Yc ofr rfl ?_;intro w9 mm9 k9 z9;have mn9:Vh 37 w9 w.heap.size 74 74 (ndF { n with ax:=unA v,rl:=unR v } nv):=Vh.congr mm9 (upd_rlW { n with ax:=unA v } nv hx2);have mr9:=mr8.kept k9 Yo;have ma9:=ma8.kept k9 Yo;have mb9:=mb8.kept k9 Yo;have hS9:(λZ=>Vh 26 Z w3.heap.size 21 21 fx/\Vh 30 Z w4.heap.size 12 12 fr) w9:=⟨ma9,mb9⟩;refine hK _ (λ_ _=>hS9) ?_;clear hK K;refine fT<|aD<|Yx ?_;refine Zs bE mr9 (qK _ hnv) (λw10 mm10 k10 z10=>?_);have mr10:=Vh.congr mm10 (dQ _ _);have mn10:=mn9.kept k10 Yo;have ma10:=ma9.kept k10 Yo;have mb10:=mb9.kept k10 Yo;refine aC<|aW (aN YB (pW rfl Yf bE mr10 (Xr _)) ⟨?_,aF (aF (aF kA k8 Yo Yo) k9 Yo Yo) k10 Yo Yo⟩);unfold movN;rw[hb];rfl
def X6(n:Nd)(x j:Nat):Value:=if j=0 then iV n.id else if j=1 then iV n.fr else if j<5 then iV (n.us (j-2)) else if j<8 then iV (if j-5<x then (n.ax (j-5)).X else 0) else if j=8 then iV n.dg else if j=9 then .bool n.vS else .bool (n.rl.I (j-10))
def jJ(n:Nd):Nat->Value:=X6 n 3
theorem lK(n:Nd)(x:Nat):∀j,j<14->(X6 n x j).oneCell'=true:=by
 intro j _;unfold X6 iV
 repeat' split
 all_goals rfl
theorem aKS(n:Nd)(hx:x<3):∀j,j<14->stW (X6 n x) (0+5+x*1) (.int .i64 (n.ax x).X) j=X6 n (x+1) j:=by
 intro j _;unfold stW;rw[show 0+5+x*1=5+x by omega];by_cases e:j=5+x
 .rw[if_pos e];unfold X6;rw[if_neg Yo,if_neg Yo,if_neg Yo,if_pos Yo,if_pos Yo,show j-5=x by omega];rfl
 .rw[if_neg e];unfold X6;by_cases c0:j=0
  .rw[if_pos c0,if_pos c0]
  rw[if_neg c0,if_neg c0];by_cases c1:j=1
  .rw[if_pos c1,if_pos c1]
  rw[if_neg c1,if_neg c1];by_cases c5:j<5
  .rw[if_pos c5,if_pos c5]
  rw[if_neg c5,if_neg c5];by_cases c8:j<8
  .rw[if_pos c8,if_pos c8];by_cases c:j-5<x
   .rw[if_pos c,if_pos Yo]
   .rw[if_neg c,if_neg Yo]
  rw[if_neg c8,if_neg c8]
theorem oU:Many Tryz.prog 86 14:=Many.of _ Tryz.underlying86 rfl Yl
theorem BG(w:World):(zeroValue 86).run Tryz.prog w=.ok (aP (X6 bX 3) 0 14) w:=Yl
theorem tO(g:Nat->Value)(h:Nat->Value):∀j,j<14->stP g 0 14 h j=h j:=λj hj=>by
 have:=nW g (o:=0) (n:=14) h hj
 rwa [Nat.zero_add] at this
theorem aIv(n:Nd)(v:Value):∀j,j<3->ndF n v (0+67+j)=iV (n.us j):=by grind [ndF]
theorem aMd(n:Nd)(v:Value):∀j,j<21->ndF n v (0+6+j)=dP (n.ax (j/7)) (j%7):=by grind [ndF]
theorem aIG(ax:Nat->St):aP (λj=>dP (ax (j/7)) (j%7)) (x*7) 7=aP (dP (ax x)) 0 7:=by
 unfold aP
 congr 2
 refine List.map_congr_left (λj hj=>?_);have:=List.mem_range.1 hj;show dP (ax ((x*7+j)/7)) ((x*7+j)%7)=dP (ax x) (0+j)
 rw[show (x*7+j)/7=x by omega,show (x*7+j)%7=j by omega,Nat.zero_add]
section
variable {f:Operand->Value} {o:Oper} {x:Operand} {b off:Nat}
theorem aLu(ho:o.op=.fieldAddr 86 x 0)(hx:f x=.pointer (some ⟨b,off,none⟩))(w:World):(execOp f o).run Tryz.prog w=.ok (.value (.pointer (some ⟨b,off+0,none⟩))) w:=Yg
theorem aMF(ho:o.op=.fieldAddr 86 x 3)(hx:f x=.pointer (some ⟨b,off,none⟩))(w:World):(execOp f o).run Tryz.prog w=.ok (.value (.pointer (some ⟨b,off+5,none⟩))) w:=Yg
theorem JC(ho:o.op=.build 86 #[])(w:World):(execOp f o).run Tryz.prog w=.ok (.value (aP (X6 bX 3) 0 14)) w:=by
 unfold execOp;rw[ho];dsimp only;change _=_
 kernel_rfl
theorem aDl(a b c d e g:Operand)(ho:o.op=.build 86 #[(0,a),(1,b),(2,c),(4,d),(5,e),(6,g)]){n:Nd}(h0:f a=.int .i64 n.id)(h1:f b=.int .i64 n.fr)(h2:f c=aP (λi=>iV (n.us i)) 0 3)(h3:f d=.int .i64 n.dg)(h4:f e=.bool n.vS)(h5:f g=aP (tF n.rl.I) 0 4)(w:World):(execOp f o).run Tryz.prog w=.ok (.value (aP (X6 n 0) 0 14)) w:=by
 have h2':f c=.agg #[.int .i64 (n.us 0),.int .i64 (n.us 1),.int .i64 (n.us 2)]:=h2;have h5':f g=.agg #[.bool (n.rl.I 0),.bool (n.rl.I 1),.bool (n.rl.I 2),.bool (n.rl.I 3)]:=h5;unfold execOp;rw[ho];simp only[List.map_toArray,List.map_cons,List.map_nil];rw[h0,h1,h2',h3,h4,h5'];clear h0 h1 h2 h3 h4 h5 h2' h5' ho;change _=_
 kernel_rfl
end
theorem J8(n:Nd)(nv:Value)(w:World):Calls Tryz.prog 75 #[iP n nv] w λe w'=>e=.returned (aP (jJ n) 0 14)/\Below w.heap.size w w':=by
 refine bO Tryz.func75 rfl 34 rfl Yd (λA hs hd hb=>?_);have b0:A.eval (.tmp 0)=iP n nv:=hb 0 _ rfl;clear hb;refine aD (aG ?_);refine Zb (λw1 m1 k1 z1=>?_);refine Za BG (λw2 m2 k2 z2=>?_);have mn2:=m1.below k2;refine aC<|aD ?_;iterate 5 refine Yx ?_
 refine Yq (bL (h:=λi=>iV (n.us i)) _ _ rfl kK Yf mn2 Yo (aIv n nv)) ?_;iterate 7 refine Yx ?_
 refine Yq (bL _ _ rfl JM Yf mn2 Yo (C8 _ _)) ?_;refine Yq (aDl (n:=n) _ _ _ _ _ _ rfl Yf Yf Yf Yf Yf Yf _) ?_;refine Za BG (λw3 m3 k3 z3=>?_);have mn3:=mn2.below k3;have mr3:=m2.below k3;refine Zs oU m3 (lK _ _) (λw4 mm4 k4 z4=>?_);have mp4:=Vh.congr mm4 (tO _ _);have mn4:=mn3.kept k4 Yo;have mr4:=mr3.kept k4 Yo;refine aC<|aH<|aD<|Yx ?_;refine Yq (bL (h:=λj=>dP (n.ax (j/7)) (j%7)) _ _ rfl gW Yf mn4 Yo (aMd n nv)) ?_;refine Yx ?_;refine aC<|aK<|bW (λq A W=>∃x:Nat,x<=3/\3-x<=q/\A.tmps.size=34/\A.defers=[]/\A.eval (.tmp 2)=.pointer (some ⟨w1.heap.size,0,none⟩)/\A.eval (.tmp 3)=.pointer (some ⟨w2.heap.size,0,none⟩)/\A.eval (.tmp 22)=aP (λj=>dP (n.ax (j/7)) (j%7)) 0 21/\A.eval (.tmp 23)=.int .i64 (x:Int)/\Vh 86 W w1.heap.size 14 14 (X6 bX 3)/\Vh 86 W w2.heap.size 14 14 (X6 n x)/\Below w.heap.size w W/\w4.heap.size<=W.heap.size) 3 ⟨0,Yo,Yo,YA,YB,Yf,Yf,Yf,Yf,mr4,mp4,aF (((k1).trans (k2.mono Yo)).trans (k3.mono Yo)) k4 Yo Yo,Yo⟩ (λq B W hI2=>?_);clear b0 hs hd;obtain⟨x,hx,hr2,hs,hd,b2,b3,b22,b23,mr,mp,kB,hW⟩:=hI2;by_cases hin:x<3
 .refine aD (aG ?_);refine Yx ?_;refine aC<|aH (bG Yf (aS ?_));refine aH (aK ?_);refine aD<|Yx ?_;refine Yq ((lM _ _ _ _ rfl Tryz.underlying26 gX Yb rfl Yb rfl hin _).trans (by rw[aIG n.ax])) ?_;refine Za uI (λw11 m11 k11 z11=>?_);have mr11:=mr.below k11;have mp11:=mp.below k11;refine Yx ?_;refine Zs gX m11 (fK _) (λw12 mm12 k12 z12=>?_);have ms12:=Vh.congr mm12 (qD _ _);have mr12:=mr11.kept k12 Yo;have mp12:=mp11.kept k12 Yo;refine aC<|aI ?_;iterate 4 refine Yx ?_
  refine Yq (bD _ _ _ _ rfl Tryz.underlying31 gD.size Yf Yf rfl hin _) ?_;refine kJ Yw (λK hK=>iI _ _ _ _ rfl gD Yf Yf mp12 Yo rfl rfl rfl (λw13 mm13 k13 z13=>hK _ ?_));have mp13:=Vh.congr mm13 (aKS n hin);have mr13:=mr12.kept k13 Yo;have ms13:=ms12.kept k13 Yo;refine fB<|aI ?_;iterate 2 refine Yx ?_
  exact aQ ⟨3-(x+1),Yo,x+1,Yo,Yo,YA,YB,Yb,Yb,Yb,(Ye rfl).trans YC,mr13,mp13,aF (aF (kB.trans (k11.mono Yo)) k12 Yo Yo) k13 Yo Yo,Yo⟩
 .refine aD (aG ?_);refine Yx ?_;obtain rfl:x=3:=Yo;refine aC<|aH (bH Yf (bP (dM ?_)));refine aD<|Yx ?_;refine Zs oU mr (lK _ _) (λw11 mm11 k11 z11=>?_);have mr11:=Vh.congr mm11 (tO _ _);have mp11:=mp.kept k11 Yo;refine aC<|aW (aN YB (pW rfl Yb oU mr11 (Xr _)) ⟨rfl,aF kB k11 Yo Yo⟩)
end Go.Proofs.YthimcecbgpamdaaGreat
