import Derived.Test.YthimcecbgpamdaaGreatNear160
import Derived.Test.YthimcecbgpamdaaGreatNodCpy
set_option maxHeartbeats 2000000
namespace Go.Proofs.YthimcecbgpamdaaGreat
open Go.RowKit
variable{n:Nat}{a:Option Addr}
theorem aNx{w:World}{B c:Nat}{g:Nat->Value}{t:TypeId}(h:w.ownsRow B t 1 (.slice a n c) n (rowV g n)):Sr w a n c g:=by
 obtain⟨ao,cap,e,hs,_⟩:=iH h
 cases e
 exact hs
theorem QY:xU relN uF 34:=by
 intro n ao c mo mc L w hok hag hmr hN hmc hRL;have hag:Sr w ao n.vA.length c (tF (bA n)):=hag;refine bO Tryz.func34 rfl 36 rfl Yd (λA hs hd hb=>?_);have b0:A.eval (.tmp 0)=iP n (.slice ao n.vA.length c):=hb 0 _ rfl;have b1:A.eval (.tmp 1)=.slice mo L.length mc:=hb 1 _ rfl;clear hb;refine aD (aG ?_);refine Zb (λw1 m1 k1 z1=>?_);have sr1:=hag.below k1;refine Za lC (λw2 m2 k2 z2=>?_);have mn2:=m1.below k2;have sr2:=sr1.below k2;refine Za jL (λw3 m3 k3 z3=>?_);have mn3:=mn2.below k3;have mr3:=m2.below k3;have sr3:=sr2.below k3;refine aC<|aD<|Yx ?_;refine bI rfl Yw (λK hK=>bQ _ 58 _ _ rfl Yf (qY _ _) (wU n ao c _ sr3 hok.vA) ?_);rintro e w4 ⟨a3,c3,rfl,o4,k4⟩;have n4:=k4.size;have mn4:=mn3.below k4;have mr4:=mr3.below k4;have mq4:=m3.below k4;refine⟨_,rfl,hK _ _ ?_⟩;refine Zs bE mn4 (bN _ _ _ _) (λw5 mm5 k5 z5=>?_);have mn5:=Vh.congr mm5 (dQ _ _);have mr5:=mr4.kept k5 Yo;have mq5:=mq4.kept k5 Yo;have ow5:=bR o4 k5 YD;refine aC<|aH<|aD ?_;iterate 2 refine Yx ?_
 refine bI rfl Yw (λK hK=>bQ _ 59 _ _ rfl Yf (iE _ _) (jZ n.id _) ?_);rintro e w6 ⟨rfl,k6⟩;have n6:=k6.size;have mn6:=mn5.below k6;have mr6:=mr5.below k6;have mq6:=mq5.below k6;have ow6:=bK ow5 k6;refine⟨_,rfl,hK _ _ ?_⟩;refine Yx ?_;refine aC ?_;have kA:Below w.heap.size w w6:=(aF ((((k1).trans (k2.mono Yo)).trans (k3.mono Yo)).trans (k4.mono Yo)) k5 Yo Yo).trans (k6.mono Yo);refine lD (t:=jI n.id) ((Ye rfl).trans (by rw[Bool.not_not])) (λhno=>?_) (λhno=>?_)
 .refine aD<|Yx ?_;refine Yq (mP rfl _) ?_;refine Zs bE mr6 (bN _ _ _ _) (λw7 mm7 k7 z7=>?_);have mr7:=Vh.congr mm7 (dQ _ _);have mn7:=mn6.kept k7 Yo;have mq7:=mq6.kept k7 Yo;have ow7:=bR ow6 k7 YD;refine Zs dU mq7 (fC _ _ _ _ _ _) (λw8 mm8 k8 z8=>?_);have mq8:=Vh.congr mm8 (eX _ _);have mn8:=mn7.kept k8 Yo;have mr8:=mr7.kept k8 Yo;have ow8:=bR ow7 k8 YD;refine aC<|aW ?_;simp only[Nx,Exit.then];have e1:relN n (L.map Lm.m)=n:=by unfold relN;rw[if_pos hno]
  have e2:uF n (L.map Lm.m)=jH:=by unfold uF;rw[if_pos hno]
  rw[e1,e2];refine aN YB (gH rfl Yf Yf bE dU mr8 (Xr _) mq8 (Xr _)) ⟨a3,c3,none,0,rfl,bZ ow8 Yo,World.ownsRow_nil _ _ _ _,aF (aF kA k7 Yo Yo) k8 Yo Yo⟩
 .obtain⟨h0,h3⟩:=qL hno;refine aS<|aH<|aD ?_;iterate 2 refine Yx ?_
  refine bI rfl Yw (λK hK=>oF _ 61 _ _ _ _ _ rfl Yf Yf (aJ _ _) (aJ _ _) (rQ _ _ _ _ _) (xM n _ mo mc L 1 3 _ (hmr.below kA) hN Yc) ?_);rintro e w7 ⟨rfl,k7⟩;have n7:=k7.size;have mn7:=mn6.below k7;have mr7:=mr6.below k7;have mq7:=mq6.below k7;have ow7:=bK ow6 k7;refine⟨_,rfl,hK _ _ ?_⟩;refine Yx ?_;refine aC<|aK<|bW (λr a W=>∃i:Nat,i<=4/\4-i<=r/\a.tmps.size=36/\a.defers=[]/\a.eval (.tmp 2)=.pointer (some ⟨w.heap.size,0,none⟩)/\a.eval (.tmp 4)=.pointer (some ⟨w1.heap.size,0,none⟩)/\a.eval (.tmp 5)=.pointer (some ⟨w2.heap.size,0,none⟩)/\a.eval (.tmp 18)=aP (gP n.id n.fr L 1 3) 0 4/\a.eval (.tmp 19)=.int .i64 (i:Int)/\Vh 37 W w.heap.size 74 74 (ndF { n with di:=relI n (L.map Lm.m) i } (.slice a3 n.vA.length c3))/\Vh 37 W w1.heap.size 74 74 (ndF bX (.slice none 0 0))/\Vh 67 W w2.heap.size 4 4 (msF 0 0 0 (.slice none 0 0))/\W.ownsRow w3.heap.size 4 1 (.slice a3 n.vA.length c3) n.vA.length (rowV (tF (bA n)) n.vA.length)/\Below w.heap.size w W/\w7.heap.size<=W.heap.size) 4 ⟨0,Yo,Yo,YA,YB,Yf,Yf,Yf,Yf,Yf,mn7,mr7,mq7,ow7,kA.trans (k7.mono Yo),Yo⟩ (λr B W hI=>?_);clear b0 b1 hs hd;obtain⟨i,hi,hr2,hs,hd,b2,b4,b5,b18,b19,mn,mr,mq,ow,kB,hW⟩:=hI;by_cases hin:i<4
  .have hi4:i<4:=hin;rcases hfl:fL n.id n.fr L (i:Int) 1 3 with _|cm
   .have hho:gP n.id n.fr L 1 3 i=.slice none 0 0:=by unfold gP;rw[hfl]
    refine aD (aG ?_);refine Yx ?_;refine aC<|aH (bG Yf (aS ?_));refine aH (aK ?_);refine aD<|Yx ?_;refine Yq ((oK _ _ _ _ rfl Tryz.underlying120 kL Yb Yb rfl hi4 _).trans (by rw[hho])) ?_;iterate 2 refine Yx ?_
    refine aC<|aI ?_;iterate 2 refine Yx ?_
    refine Yq (bD _ _ _ _ rfl Tryz.underlying32 kK.size Yf Yf rfl hi4 _) ?_;refine Yq (yJ _ rfl Yf _) ?_;refine Yx ?_;refine bI rfl Yw (λK hK=>?_);refine aHM _ _ _ rfl Yf Yf ?_;refine hK _ _ ?_;clear hK K;refine fB<|aI ?_;iterate 2 refine Yx ?_
    have en:=UN (n:=n) hfl;exact aQ ⟨4-(i+1),Yo,i+1,Yo,Yo,YA,YB,Yb,Yb,Yb,Yb,(Ye rfl).trans YC,by rw[<-en];exact mn,mr,mq,ow,kB,Yo⟩
   .have hho0:gP n.id n.fr L 1 3 i=lmV cm:=by unfold gP;rw[hfl]
    obtain⟨cmem,cfit⟩:=nV hfl;have clen:=sV cfit;obtain⟨ca,cmy,hy⟩:∃y,cm.ao=some y/\∀W',Below w.heap.size w W'->∀i,i<cm.m.L.length->W'.cell? (y.add i)=some (.int .i64 (gL cm.m.L i)):=by
     obtain⟨y,e,_⟩:=(hmr.2 cm cmem).at Yo;refine⟨y,e,λW' k=>?_⟩;obtain⟨y',e',hy'⟩:=((hmr.2 cm cmem).below k).at Yo;rw[e] at e';cases e';exact hy'
    obtain⟨mm,mo2,mc2⟩:=cm;dsimp only at cmy hy clen;subst cmy;have hho:gP n.id n.fr L 1 3 i=.slice (some ca) mm.L.length mc2:=hho0;refine aD (aG ?_);refine Yx ?_;refine aC<|aH (bG Yf (aS ?_));refine aH (aK ?_);refine aD<|Yx ?_;refine Yq ((oK _ _ _ _ rfl Tryz.underlying120 kL Yb Yb rfl hi4 _).trans (by rw[hho])) ?_;iterate 2 refine Yx ?_
    refine aC<|aI ?_;iterate 2 refine Yx ?_
    refine Yq (bD _ _ _ _ rfl Tryz.underlying32 kK.size Yf Yf rfl hi4 _) ?_;refine Yq (yJ _ rfl Yf _) ?_;refine Yx ?_;refine bI rfl Yw (λK hK=>aFO _ _ _ rfl (f:=λa=>iV (gL mm.L a)) Yf mn Yo Yf Yo (λa ha=>hy _ kB a Yo) (λ_ _=>rfl) (λw8 mm8 k8 z8=>hK _ _ ?_));have mn8:=Vh.congr mm8 (GY _ _ _ i hi4);have mr8:=mr.kept k8 Yo;have mq8:=mq.kept k8 Yo;have ow8:=bR ow k8 YD;refine fB<|aI ?_;iterate 2 refine Yx ?_
    have en:=UF (n:=n) hfl;exact aQ ⟨4-(i+1),Yo,i+1,Yo,Yo,YA,YB,Yb,Yb,Yb,Yb,(Ye rfl).trans YC,by rw[<-en];exact mn8,mr8,mq8,ow8,aF kB k8 Yo Yo,Yo⟩
  .refine aD (aG ?_);refine Yx ?_;obtain rfl:i=4:=Yo;refine aC<|aH (bH Yf (bP (dM ?_)));refine aH ?_;rw[aAg (SY n (L.map Lm.m))] at mn;have hS0:(λW=>Vh 37 W w.heap.size 74 74 (ndF { n with di:=relD n (L.map Lm.m) } (.slice a3 n.vA.length c3))) W.drew:=mn;have mn0:Vh _ W.drew _ _ _ _:=mn;have mr0:Vh _ W.drew _ _ _ _:=mr;have mq0:Vh _ W.drew _ _ _ _:=mq;have ow0:=(show World.ownsRow W.drew _ _ _ _ _ _ from ow);have ez:W.drew.heap.size=W.heap.size:=rfl;refine fD (S:=λW=>Vh 37 W w.heap.size 74 74 (ndF { n with di:=relD n (L.map Lm.m) } (.slice a3 n.vA.length c3))) (.rd 0 (.rd 1 (.mv 2 (.mv 3 (.go 4 (.go 5 (.go 6 (.go 7 .fin)))))))) [] Yl Yl ?_;refine Yr rfl hS0 (λ_ hS=>aX _ _ rfl bE Yb hS Yc) ?_;refine Yr rfl hS0 (λ_ hS=>aX _ _ rfl bE Yb hS Yc) ?_;refine Yk rfl (λ_=>aET rfl Yb _) ?_;refine Yk rfl (λ_=>aCA _ rfl Yf _) ?_;refine cZ rfl rfl Yw (λK hK=>bQ _ 62 _ _ rfl Yf (ZM _ _) (aHd _ (0+39) 74 74 _ _ (relD n (L.map Lm.m)) _ hS0 Yo (λi k hi hk=>by have:=UL { n with di:=relD n (L.map Lm.m) } (.slice a3 n.vA.length c3) hi hk;rw[Nat.mul_one] at this;exact this)) ?_);rintro e w8 ⟨fa,fc,rfl,of8,k8⟩;have n8:=k8.size;have mn8:=hS0.below k8;have mr8:=mr0.below k8;have mq8:=mq0.below k8;have ow8:=bK ow0 k8;have hS8:(λW=>Vh 37 W w.heap.size 74 74 (ndF { n with di:=relD n (L.map Lm.m) } (.slice a3 n.vA.length c3))) w8:=mn8;have srf:=aNx of8;refine⟨_,rfl,hK _ _ (λ_ _=>hS8) ?_⟩;refine cZ rfl rfl Yw (λK hK=>iK _ 60 _ _ _ _ rfl Yf (aJ _ _) Yf (pI _ _ _ _) (vC { n with di:=relD n (L.map Lm.m) } (.slice a3 n.vA.length c3) 2 _ 12 _ _ _ srf Yc) ?_);rintro e w9 ⟨a2,c2,rfl,ov9,k9⟩;have n9:=k9.size;have mn9:=mn8.below k9;have mr9:=mr8.below k9;have mq9:=mq8.below k9;have ow9:=bK ow8 k9;have hS9:(λW=>Vh 37 W w.heap.size 74 74 (ndF { n with di:=relD n (L.map Lm.m) } (.slice a3 n.vA.length c3))) w9:=mn9;refine⟨_,rfl,hK _ _ (λ_ _=>hS9) ?_⟩;refine dF rfl Yw (λK hK=>?_);refine aO _ _ _ _ rfl bE Yb Yf mr9 Yc (bN _ _ _ _) rfl ?_;intro w10 mm10 k10 z10;have mr10:=Vh.congr mm10 (dQ _ _);have mn10:=mn9.kept k10 Yo;have mq10:=mq9.kept k10 Yo;have ow10:=bR ow9 k10 YD;have ov10:=gT ov9 k10 Yo;have hS10:(λW=>Vh 37 W w.heap.size 74 74 (ndF { n with di:=relD n (L.map Lm.m) } (.slice a3 n.vA.length c3))) w10:=mn10;refine hK _ (λ_ _=>hS10) ?_;clear hK K;refine dF rfl Yw (λK hK=>?_);refine aO _ _ _ _ rfl dU Yb Yf mq10 Yc (fC _ _ _ _ _ _) rfl ?_;intro w11 mm11 k11 z11;have mq11:=Vh.congr mm11 (eX _ _);have mn11:=mn10.kept k11 Yo;have mr11:=mr10.kept k11 Yo;have ow11:=bR ow10 k11 YD;have ov11:=gT ov10 k11 Yo;have hS11:(λW=>Vh 37 W w.heap.size 74 74 (ndF { n with di:=relD n (L.map Lm.m) } (.slice a3 n.vA.length c3))) w11:=mn11;refine hK _ (λ_ _=>hS11) ?_;clear hK K;refine fT<|aW ?_;have e1:relN n (L.map Lm.m)={ n with di:=relD n (L.map Lm.m) }:=by unfold relN;rw[if_neg (by rw[hno];decide)]
   have e2:uF n (L.map Lm.m)=⟨2,n.id,n.fr,(List.range 12).map (wX n (L.map Lm.m))⟩:=by unfold uF;rw[if_neg (by rw[hno];decide)];rfl
   rw[e1,e2];refine aN YB (gH rfl Yb Yb bE dU mr11 (Xr _) mq11 (Xr _)) ⟨a3,c3,a2,c2,rfl,bZ ow11 Yo,?_,aF (aF (((aU kB).trans (k8.mono Yo)).trans (k9.mono Yo)) k10 Yo Yo) k11 Yo Yo⟩;refine bZ (B:=w8.heap.size) ?_ Yo;have ovl:=ov11;have eg:=aCK (wX n (L.map Lm.m)) 12;unfold wX at eg;rw[<-eg] at ovl;exact ovl
def FI(ax:Nat->St):Nat->List Int
 |0=>[]
 |a+1=>FI ax a++zH (ax a)
def inP(b:Nat->Bool):Nat->Int
 |0=>0
 |k+1=>inP b k*2+if b (3-k) then 1 else 0
theorem aLZ(b:Nat->Bool)(k:Nat):0<=inP b k/\inP b k<2^k:=by
 induction k with
 |zero=>exact⟨Int.le_refl 0,(by decide:(0:Int)<2^0)⟩
 |succ k ih=>
  have:(2:Int)^(k+1)=2^k*2:=Int.pow_succ _ _;show 0<=inP b k*2+_/\inP b k*2+_<_
  rw[this];split<;>omega
variable{x:Nat}
theorem aGK(h:x<=4):(2:Int)^x<=16:=by
 have:x=0\/x=1\/x=2\/x=3\/x=4:=Yo;rcases this with rfl|rfl|rfl|rfl|rfl<;>decide
theorem aGI(b:Nat->Bool):inP b 4=AA b:=by
 show ((((0*2+if b 3 then (1:Int) else 0)*2+if b 2 then 1 else 0)*2+if b 1 then 1 else 0)*2+if b 0 then 1 else 0)=_
 unfold AA
 cases b 0<;>cases b 1<;>cases b 2<;>cases b 3<;>rfl
variable{b:Nat->Bool}
theorem aNS(h:b (3-x)=false):(.int .i64 (inP b x*2):Value)=.int .i64 (inP b (x+1)):=by
 show _=Value.int .i64 (inP b x*2+if b (3-x) then 1 else 0)
 rw[h,if_neg Yc,Int.add_zero]
theorem aNX(h:b (3-x)=true):(.int .i64 (inP b x*2+1):Value)=.int .i64 (inP b (x+1)):=by
 show _=Value.int .i64 (inP b x*2+if b (3-x) then 1 else 0)
 rw[h,if_pos rfl]
variable{b:Bool}{s:St}
theorem WW(h:s.B=b):dP s (0+5)=.bool b:=by rw[<-h];rfl
theorem aMu(h:s.B=false):(.int .i64 0:Value)=.int .i64 (gL (zH s) 5):=by
 show _=Value.int .i64 (if s.B then 1 else 0)
 rw[h];rfl
theorem aNf(h:s.B=true):(.int .i64 (0+1):Value)=.int .i64 (gL (zH s) 5):=by
 show _=Value.int .i64 (if s.B then 1 else 0)
 rw[h];rfl
theorem MH(ax:Nat->St)(x:Nat):(FI ax (x+1)).map iV=(FI ax x).map iV++rowV (λi=>iV (gL (zH (ax x)) i)) 7:=by
 show (FI ax x++zH (ax x)).map iV=_
 rw[List.map_append];rfl
theorem aLH(ax:Nat->St)(r:Rl):(nS ax r).map iV=(FI ax 3).map iV++rowV (λi=>iV (gL [inP r.I 4,oO r.M 4,oO r.J 4] i)) 3:=by
 have e:=aGI r.I;generalize inP r.I 4=q at e;subst e;unfold nS;rw[List.map_append];rfl
theorem X7(n:Nd)(nv:Value)(w:World):Calls Tryz.prog 51 #[iP n nv] w λe w'=>∃ao c,e=.returned (.slice ao 24 c)/\w'.ownsRow w.heap.size 3 1 (.slice ao 24 c) 24 (rowV (iF (gL (nS n.ax n.rl))) 24)/\Below w.heap.size w w':=by
 refine bO Tryz.func51 rfl 79 rfl Yd (λA hs hd hb=>?_);have b0:A.eval (.tmp 0)=iP n nv:=hb 0 _ rfl;clear hb;refine aD (aG ?_);refine Zb (λw1 m1 k1 z1=>?_);refine Yx ?_;refine aC<|aD<|Yx ?_;refine aC<|aH<|aD<|Yx ?_;refine aC<|aK<|bW (λr a W=>∃(x:Nat) (v:Value),x<=3/\3-x<=r/\a.tmps.size=79/\a.defers=[]/\a.eval (.tmp 1)=.pointer (some ⟨w.heap.size,0,none⟩)/\a.eval (.tmp 3)=v/\a.eval (.tmp 4)=.int .i64 (x:Int)/\Vh 37 W w.heap.size 74 74 (ndF n nv)/\W.ownsRow w1.heap.size 3 1 v (7*x) ((FI n.ax x).map iV)/\Below w.heap.size w W/\w1.heap.size<=W.heap.size) 3 ⟨0,_,Yo,Yo,YA,YB,Yf,Yf,Yf,m1,World.ownsRow_nil _ _ _ _,k1,Yo⟩ (λr B W hI=>?_);clear b0 hs hd;obtain⟨x,v,hx,hr,hs,hd,b1,b3,b4,mn,ov,kB,hW⟩:=hI;by_cases hin:x<3
 .cases hb:(n.ax x).B
  .refine aH<|aD (aG ?_);iterate 2 refine Yx ?_
   refine aC<|bG Yf (aS ?_);refine aH (aK ?_);refine aD ?_;iterate 2 refine Yx ?_
   refine Yq (bD _ _ _ _ rfl Tryz.underlying26 gX.size Yf Yf rfl hin _) ?_;refine Yq (bL _ _ rfl gX Yf mn Yo (WR _ _ hin)) ?_;refine Za uI (λw11 m11 k11 z11=>?_);have mn11:=mn.below k11;have ov11:=bK ov k11;refine Zs gX m11 (fK _) (λw12 mm12 k12 z12=>?_);have ms12:=Vh.congr mm12 (qD _ _);have mn12:=mn11.kept k12 Yo;have ov12:=bR ov11 k12 (λe=>by have e2:=(ov.lt _ e).2;omega);refine aC<|aD<|Yx ?_;refine aC<|aH<|aD<|Yx ?_;refine Yq (aZ _ _ rfl pQ Yf ms12 Yc (WW hb)) ?_;refine aC<|bH Yf (aS ?_);refine aI ?_;iterate 14 refine Yx ?_
   refine bI rfl Yw (λK hK=>LG _ _ _ _ _ _ _ _ rfl (g:=gL (zH (n.ax x))) Yf Yf Yf Yf Yf ((Ye rfl).trans (aMu hb)) Yf (λw13 m13 k13 z13=>hK _ _ ?_));have mn13:=mn12.below k13;have ms13:=ms12.below k13;have ov13:=bK ov12 k13;refine bI rfl Yw (λK hK=>?_);refine⟨kS _ _ _ rfl w1.heap.size Yo v _ _ Yf ov13 _ 7 7 _ Yf (Or.inr ⟨_,rfl,λi hi=>by rw[add_at,Nat.zero_add];exact m13.cell hi⟩) (λi _=>rfl) Yo ?_⟩;intro v14 w14 ov14 k14;have n14:=k14.size;have mn14:=mn13.same (k14.block _ Yo);refine hK _ _ ?_;clear hK K;refine Yx ?_;refine fB<|aI ?_;iterate 3 refine Yx ?_
   exact aQ ⟨3-(x+1),Yo,x+1,_,Yo,Yo,YA,YB,Yb,Yf,(Ye rfl).trans YC,mn14,by rw[MH];exact ov14,(((aF (kB.trans (k11.mono Yo)) k12 Yo Yo).trans (k13.mono Yo)).trans (k14.mono Yo)),Yo⟩
  .refine aH<|aD (aG ?_);iterate 2 refine Yx ?_
   refine aC<|bG Yf (aS ?_);refine aH (aK ?_);refine aD ?_;iterate 2 refine Yx ?_
   refine Yq (bD _ _ _ _ rfl Tryz.underlying26 gX.size Yf Yf rfl hin _) ?_;refine Yq (bL _ _ rfl gX Yf mn Yo (WR _ _ hin)) ?_;refine Za uI (λw11 m11 k11 z11=>?_);have mn11:=mn.below k11;have ov11:=bK ov k11;refine Zs gX m11 (fK _) (λw12 mm12 k12 z12=>?_);have ms12:=Vh.congr mm12 (qD _ _);have mn12:=mn11.kept k12 Yo;have ov12:=bR ov11 k12 (λe=>by have e2:=(ov.lt _ e).2;omega);refine aC<|aD<|Yx ?_;refine aC<|aH<|aD<|Yx ?_;refine Yq (aZ _ _ rfl pQ Yf ms12 Yc (WW hb)) ?_;refine aC<|bG Yf ?_;refine aI ?_;iterate 3 refine Yx ?_
   refine aC<|aI ?_;iterate 14 refine Yx ?_
   refine bI rfl Yw (λK hK=>LG _ _ _ _ _ _ _ _ rfl (g:=gL (zH (n.ax x))) Yf Yf Yf Yf Yf ((Ye rfl).trans (aNf hb)) Yf (λw13 m13 k13 z13=>hK _ _ ?_));have mn13:=mn12.below k13;have ms13:=ms12.below k13;have ov13:=bK ov12 k13;refine bI rfl Yw (λK hK=>?_);refine⟨kS _ _ _ rfl w1.heap.size Yo v _ _ Yf ov13 _ 7 7 _ Yf (Or.inr ⟨_,rfl,λi hi=>by rw[add_at,Nat.zero_add];exact m13.cell hi⟩) (λi _=>rfl) Yo ?_⟩;intro v14 w14 ov14 k14;have n14:=k14.size;have mn14:=mn13.same (k14.block _ Yo);refine hK _ _ ?_;clear hK K;refine Yx ?_;refine fB<|aI ?_;iterate 3 refine Yx ?_
   exact aQ ⟨3-(x+1),Yo,x+1,_,Yo,Yo,YA,YB,Yb,Yf,(Ye rfl).trans YC,mn14,by rw[MH];exact ov14,(((aF (kB.trans (k11.mono Yo)) k12 Yo Yo).trans (k13.mono Yo)).trans (k14.mono Yo)),Yo⟩
 .refine aH<|aD (aG ?_);iterate 2 refine Yx ?_
  obtain rfl:x=3:=Yo;refine aC<|bH Yf (bP (dM ?_));refine aD ?_;iterate 3 refine Yx ?_
  refine aC<|aH<|aD<|Yx ?_;refine aC<|aK<|bW (λr a W=>∃(x:Nat) (v:Value),x<=4/\4-x<=r/\a.tmps.size=79/\a.defers=[]/\a.eval (.tmp 1)=.pointer (some ⟨w.heap.size,0,none⟩)/\a.eval (.tmp 3)=v/\a.eval (.tmp 7)=.int .i64 (inP n.rl.I x)/\a.eval (.tmp 8)=.int .i64 0/\a.eval (.tmp 9)=.int .i64 0/\a.eval (.tmp 10)=.int .i64 (3-(x:Int))/\Vh 37 W w.heap.size 74 74 (ndF n nv)/\W.ownsRow w1.heap.size 3 1 v (7*3) ((FI n.ax 3).map iV)/\Below w.heap.size w W/\w1.heap.size<=W.heap.size) 4 ⟨0,_,Yo,Yo,YA,YB,Yb,Yb,Yf,Yf,Yf,Yf,mn,ov,kB,hW⟩ (λr B W hI=>?_);clear b1 b3 b4 hs hd hx mn ov kB hW;obtain⟨x,v,hx,hr,hs,hd,b1,b3,b7,b8,b9,b10,mn,ov,kB,hW⟩:=hI;have hP:=aLZ n.rl.I x;have h16:(2:Int)^x<=16:=aGK hx;by_cases hin:x<4
  .cases hb:n.rl.I (3-x)
   .refine aH<|aD (aG ?_);refine Yx ?_;refine Yq (iT (b:=true) _ _ rfl Yf (aJ _ _) (Xt Yo) _) ?_;refine aC<|bG Yf (aS ?_);refine aH (aK ?_);refine aD<|Yx ?_;refine Yq (oL _ _ rfl Yf (aJ _ _) Yo Yo _) ?_;refine Yx ?_;refine aC<|aD ?_;iterate 3 refine Yx ?_
    refine Yq (bD _ _ _ _ rfl Tryz.underlying27 pQ.size Yf Yf (i:=3-x) Yo Yo _) ?_;refine Yq (aZ _ _ rfl pQ Yf mn Yo ((IC _ _ Yo).trans (by rw[hb]))) ?_;refine aC<|bH Yf (fP ?_);refine aI<|Yx ?_;refine Yq (sJ _ _ rfl Yf (aJ _ _) Yo Yo _) ?_;refine Yx ?_;exact aQ ⟨4-(x+1),Yo,x+1,_,Yo,Yo,YA,YB,Yb,Yb,(Ye rfl).trans (aNS hb),Yb,Yb,(Ye rfl).trans (by congr 1;omega),mn,ov,kB,hW⟩
   .refine aH<|aD (aG ?_);refine Yx ?_;refine Yq (iT (b:=true) _ _ rfl Yf (aJ _ _) (Xt Yo) _) ?_;refine aC<|bG Yf (aS ?_);refine aH (aK ?_);refine aD<|Yx ?_;refine Yq (oL _ _ rfl Yf (aJ _ _) Yo Yo _) ?_;refine Yx ?_;refine aC<|aD ?_;iterate 3 refine Yx ?_
    refine Yq (bD _ _ _ _ rfl Tryz.underlying27 pQ.size Yf Yf (i:=3-x) Yo Yo _) ?_;refine Yq (aZ _ _ rfl pQ Yf mn Yo ((IC _ _ Yo).trans (by rw[hb]))) ?_;refine aC<|bG Yf ?_;refine aI ?_;iterate 3 refine Yx ?_
    refine fB<|aI<|Yx ?_;refine Yq (sJ _ _ rfl Yf (aJ _ _) Yo Yo _) ?_;refine Yx ?_;exact aQ ⟨4-(x+1),Yo,x+1,_,Yo,Yo,YA,YB,Yb,Yb,(Ye rfl).trans (aNX hb),Yb,Yb,(Ye rfl).trans (by congr 1;omega),mn,ov,kB,hW⟩
  .refine aH<|aD (aG ?_);refine Yx ?_;refine Yq (iT (b:=false) _ _ rfl Yf (aJ _ _) (Xf Yo) _) ?_;obtain rfl:x=4:=Yo;refine aC<|bH Yf (bP (dM ?_));refine aH<|aD<|Yx ?_;refine aC<|aK<|bW (λr a W=>∃(x:Nat) (v:Value),x<=4/\4-x<=r/\a.tmps.size=79/\a.defers=[]/\a.eval (.tmp 1)=.pointer (some ⟨w.heap.size,0,none⟩)/\a.eval (.tmp 3)=v/\a.eval (.tmp 7)=.int .i64 (inP n.rl.I 4)/\a.eval (.tmp 8)=.int .i64 (oO n.rl.M x)/\a.eval (.tmp 9)=.int .i64 (oO n.rl.J x)/\a.eval (.tmp 11)=.int .i64 (x:Int)/\Vh 37 W w.heap.size 74 74 (ndF n nv)/\W.ownsRow w1.heap.size 3 1 v (7*3) ((FI n.ax 3).map iV)/\Below w.heap.size w W/\w1.heap.size<=W.heap.size) 4 ⟨0,_,Yo,Yo,YA,YB,Yb,Yb,Yb,Yb,Yb,Yf,mn,ov,kB,hW⟩ (λr B W hI=>?_);clear b1 b3 b7 b8 b9 b10 hs hd hx mn ov kB hW;obtain⟨x,v,hx,hr,hs,hd,b1,b3,b7,b8,b9,b11,mn,ov,kB,hW⟩:=hI;by_cases hin:x<4
   .refine aH<|aD (aG ?_);iterate 2 refine Yx ?_
    refine aC<|bG Yf (aS ?_);refine aH (aK ?_);refine aD<|Yx ?_;refine Yq (F9 _ _ rfl (aJ _ _) Yf _) ?_;iterate 3 refine Yx ?_
    refine Yq (bD _ _ _ _ rfl Tryz.underlying28 gD.size Yf Yf rfl hin _) ?_;refine Yq (aZ _ _ rfl gD Yf mn Yo (aMx _ _ hin)) ?_;refine Yq (FR _ _ rfl Yf Yf _) ?_;refine Yx ?_;refine aC<|aI<|Yx ?_;refine Yq (F9 _ _ rfl (aJ _ _) Yf _) ?_;iterate 3 refine Yx ?_
    refine Yq (bD _ _ _ _ rfl Tryz.underlying28 gD.size Yf Yf rfl hin _) ?_;refine Yq (aZ _ _ rfl gD Yf mn Yo (aMw _ _ hin)) ?_;refine Yq (FR _ _ rfl Yf Yf _) ?_;refine Yx ?_;refine fB<|aI ?_;iterate 3 refine Yx ?_
    exact aQ ⟨4-(x+1),Yo,x+1,_,Yo,Yo,YA,YB,Yb,Yb,Yb,Yf,Yf,(Ye rfl).trans YC,mn,ov,kB,hW⟩
   .refine aH<|aD (aG ?_);iterate 2 refine Yx ?_
    obtain rfl:x=4:=Yo;refine aC<|bH Yf (bP (dM ?_));refine aD ?_;iterate 4 refine Yx ?_
    refine bI rfl Yw (λK hK=>DI _ _ _ _ rfl (g:=gL [inP n.rl.I 4,oO n.rl.M 4,oO n.rl.J 4]) Yf Yf Yf (λw31 m31 k31 z31=>hK _ _ ?_));have mn31:=mn.below k31;have ov31:=bK ov k31;refine bI rfl Yw (λK hK=>?_);refine⟨kS _ _ _ rfl w1.heap.size Yo v _ _ Yf ov31 _ 3 3 _ Yf (Or.inr ⟨_,rfl,λi hi=>by rw[add_at,Nat.zero_add];exact m31.cell hi⟩) (λi _=>rfl) Yo ?_⟩;intro v32 w32 ov32 k32;have n32:=k32.size;have mn32:=mn31.same (k32.block _ Yo);refine hK _ _ ?_;clear hK K;refine Yx ?_;refine aC<|aW ?_;obtain⟨ao,c,rfl,hc⟩:=dS ov32;refine aN YB (dW rfl Yf) ⟨ao,c,rfl,?_,(kB.trans (k31.mono Yo)).trans (k32.mono Yo)⟩;have e:(nS n.ax n.rl).map iV=rowV (iF (gL (nS n.ax n.rl))) 24:=CG _;rw[<-e,aLH];exact bZ ov32 Yo
def bz(b:Bool):Int:=if b then 1 else 0
theorem VY(b:Bool)(w:World):Calls Tryz.prog 99 #[.bool b] w λe w'=>e=.returned (.int .i64 (bz b))/\Below w.heap.size w w':=by
 cases b
 .refine bO Tryz.func99 rfl 4 rfl Yd (λA hs hd hb=>?_);have b0:=hb 0 _ rfl;clear hb;refine aD (aG ?_);refine Yx ?_;refine aC<|aH<|aD<|Yx ?_;refine aC<|bH Yf (aS ?_);refine aD<|Yx ?_;refine aC<|aW ?_;exact aN YB (dW rfl Yf) ⟨rfl,Below.refl _ _⟩
 .refine bO Tryz.func99 rfl 4 rfl Yd (λA hs hd hb=>?_);have b0:=hb 0 _ rfl;clear hb;refine aD (aG ?_);refine Yx ?_;refine aC<|aH<|aD<|Yx ?_;refine aC<|bG Yf ?_;refine aD<|Yx ?_;refine aC<|aW ?_;simp only[Nx,Exit.then];exact aN YB (dW rfl Yf) ⟨rfl,Below.refl _ _⟩
variable{i:Nat}{o:Oper}{f:Operand->Value}
theorem aGb(x y:Operand)(ho:o.op=.binOp .shl 3 x y 3)(hx:f x=.int .i64 (bz b))(hy:f y=.int .i64 (i:Int))(hi:i<4)(w:World):(execOp f o).run Tryz.prog w=.ok (.value (.int .i64 (if b then 2^i else 0))) w:=by
 have:i=0\/i=1\/i=2\/i=3:=Yo;unfold execOp;rw[ho];dsimp only;rw[hx,hy];rcases this with rfl|rfl|rfl|rfl<;>cases b<;>(change _=_;kernel_rfl)
variable{z:Int}
theorem aJs(x y:Operand)(ho:o.op=.indexAddr 33 x y){b off cap:Nat}(hx:f x=.slice (some ⟨b,off,none⟩) n cap)(hy:f y=.int .i64 z)(hz:z=(i:Int))(hi:i<n)(w:World):(execOp f o).run Tryz.prog w=.ok (.value (.pointer (some ⟨b,off+i,none⟩))) w:=by
 subst hz;have hi2:(i:Int)<n:=Yo;unfold execOp;rw[ho];dsimp only;rw[hx,hy];go_simp
theorem aFe(x y:Operand)(ho:o.op=.indexAddr 65 x y){b off cap:Nat}(hx:f x=.slice (some ⟨b,off,none⟩) n cap)(hy:f y=.int .i64 z)(hz:z=(i:Int))(hi:i<n)(w:World):(execOp f o).run Tryz.prog w=.ok (.value (.pointer (some ⟨b,off+i,none⟩))) w:=by
 subst hz;have hi2:(i:Int)<n:=Yo;unfold execOp;rw[ho];dsimp only;rw[hx,hy];go_simp
def sN(b:Nat->Bool):Nat->Int
 |0=>0
 |k+1=>sN b k+(if b k then 2^k else 0)
theorem aKV(b:Nat->Bool):sN b 4=AA b:=by
 show 0+_+_+_+_=_
 unfold AA;rw[Int.zero_add];rfl
variable{k:Nat}
theorem aIn(b:Nat->Bool)(hk:k<=4):0<=sN b k/\sN b k<=15/\(k<4->0<=(if b k then (2:Int)^k else 0)/\(if b k then (2:Int)^k else 0)<=8):=by
 have h1:∀(x:Bool) (i:Nat),0<=(if x then (2:Int)^i else 0)/\(if x then (2:Int)^i else 0)<=(2:Int)^i:=λx i=>by
  have:(0:Int)<=2^i:=Int.pow_nonneg Yc
  cases x
  .exact⟨Int.le_refl _,this⟩
  .exact⟨this,Int.le_refl _⟩
 have e0:=h1 (b 0) 0;have e1:=h1 (b 1) 1;have e2:=h1 (b 2) 2;have e3:=h1 (b 3) 3;rw[show (2:Int)^0=1 from rfl] at e0;rw[show (2:Int)^1=2 from rfl] at e1;rw[show (2:Int)^2=4 from rfl] at e2;rw[show (2:Int)^3=8 from rfl] at e3
 match k,hk with
 |0,_=>exact⟨Int.le_refl _,by show (0:Int)<=15;decide,λ_=>⟨e0.1,by show (if b 0 then (1:Int) else 0)<=8;omega⟩⟩
 |1,_=>exact⟨by show 0<=0+(if b 0 then (1:Int) else 0);omega,by show 0+(if b 0 then (1:Int) else 0)<=15;omega,λ_=>⟨e1.1,by show (if b 1 then (2:Int) else 0)<=8;omega⟩⟩
 |2,_=>exact⟨by show 0<=0+(if b 0 then (1:Int) else 0)+(if b 1 then (2:Int) else 0);omega,by show 0+(if b 0 then (1:Int) else 0)+(if b 1 then (2:Int) else 0)<=15;omega,λ_=>⟨e2.1,by show (if b 2 then (4:Int) else 0)<=8;omega⟩⟩
 |3,_=>exact⟨by show 0<=0+(if b 0 then (1:Int) else 0)+(if b 1 then (2:Int) else 0)+(if b 2 then (4:Int) else 0);omega,by show 0+(if b 0 then (1:Int) else 0)+(if b 1 then (2:Int) else 0)+(if b 2 then (4:Int) else 0)<=15;omega,λ_=>⟨e3.1,e3.2⟩⟩
 |4,_=>exact⟨by show 0<=0+(if b 0 then (1:Int) else 0)+(if b 1 then (2:Int) else 0)+(if b 2 then (4:Int) else 0)+(if b 3 then (8:Int) else 0);omega,by show 0+(if b 0 then (1:Int) else 0)+(if b 1 then (2:Int) else 0)+(if b 2 then (4:Int) else 0)+(if b 3 then (8:Int) else 0)<=15;omega,λh=>absurd h Yo⟩
theorem PN(b o N cap:Nat)(t:TypeId)(g:Nat->Value)(c:Nat->Bool)(w:World)(hm:Vh t w b N cap g)(ho:o+4<=N)(hg:∀i,i<4->g (o+i)=.bool (c i)):Calls Tryz.prog 100 #[.slice (some ⟨b,o,none⟩) 4 4] w λe w'=>e=.returned (.int .i64 (AA c))/\Below w.heap.size w w':=by
 refine bO Tryz.func100 rfl 21 rfl Yd (λA hs hd hb=>?_);have b0:=hb 0 _ rfl;clear hb;refine aD (aG ?_);refine Yx ?_;refine aC<|aD<|Yx ?_;refine aC<|aH<|aD<|Yx ?_;refine Yq (aGM _ rfl Yf _) ?_;refine Yx ?_;refine aC<|aK<|bW (λr a W=>∃i:Nat,i<=4/\4-i<=r/\a.tmps.size=21/\a.defers=[]/\a.eval (.tmp 6)=.slice (some ⟨b,o,none⟩) 4 4/\a.eval (.tmp 7)=.int .i64 ((4:Nat):Int)/\a.eval (.tmp 8)=.int .i64 (i:Int)/\a.eval (.tmp 3)=.int .i64 (sN c i)/\Below w.heap.size w W) 4 ⟨0,Yo,Yo,YA,YB,Yf,Yf,Yf,Yf,Below.refl _ _⟩ (λr B W hI=>?_);clear b0 hs hd;obtain⟨i,hi,hr2,hs,hd,b6,b7,b8,b3,kB⟩:=hI;have hWs:=kB.size;by_cases hin:i<4
 .refine aD (aG ?_);refine Yx ?_;refine aC<|aH (bG Yf (aS ?_));refine aH (aK ?_);refine aD<|Yx ?_;refine Yq (aJs _ _ rfl Yb Yb rfl hin _) ?_;refine Yq (aZ _ _ rfl pQ Yf (hm.below kB) Yo (hg i hin)) ?_;iterate 2 refine Yx ?_
  refine aC<|aI ?_;iterate 2 refine Yx ?_
  refine bI rfl Yw (λK hK=>bQ _ 99 _ _ rfl Yf (KW _ _) (VY _ _) ?_);rintro e w1 ⟨rfl,k1⟩;have n1:=k1.size;refine⟨_,rfl,hK _ _ ?_⟩;refine Yx ?_;refine Yq (aGb _ _ rfl Yf Yf hin _) ?_;refine Yq (uV _ _ rfl Yf Yf (by have:=aIn c hi;have:=this.2.2 hin;omega) (by have:=aIn c hi;have:=this.2.2 hin;omega) _) ?_;refine Yx ?_;refine fB<|aI ?_;iterate 2 refine Yx ?_
  exact aQ ⟨4-(i+1),Yo,i+1,Yo,Yo,YA,YB,Yb,Yb,(Ye rfl).trans YC,Yf,kB.trans (k1.mono Yo)⟩
 .refine aD (aG ?_);refine Yx ?_;obtain rfl:i=4:=Yo;refine aC<|aH (bH Yf (bP (dM ?_)));refine aD ?_;iterate 2 refine Yx ?_
  refine aC ?_;exact aW (aN YB (dW rfl Yf) ⟨by rw[aKV],kB⟩)
theorem yE(b o N cap:Nat)(t:TypeId)(g:Nat->Value)(c:Nat->Int)(w:World)(hm:Vh t w b N cap g)(ho:o+4<=N)(hg:∀i,i<4->g (o+i)=.int .i64 (c i)):Calls Tryz.prog 101 #[.slice (some ⟨b,o,none⟩) 4 4] w λe w'=>e=.returned (.int .i64 (oO c 4))/\Below w.heap.size w w':=by
 refine bO Tryz.func101 rfl 18 rfl Yd (λA hs hd hb=>?_);have b0:=hb 0 _ rfl;clear hb;refine aD (aG ?_);refine Yx ?_;refine aC<|aD<|Yx ?_;refine aC<|aH<|aD ?_;iterate 3 refine Yx ?_
 refine aC<|aK<|bW (λr a W=>∃i:Nat,i<=4/\4-i<=r/\a.tmps.size=18/\a.defers=[]/\a.eval (.tmp 6)=.slice (some ⟨b,o,none⟩) 4 4/\a.eval (.tmp 7)=.int .i64 ((4:Nat):Int)/\a.eval (.tmp 8)=.int .i64 (i:Int)/\a.eval (.tmp 3)=.int .i64 (oO c i)/\Below w.heap.size w W) 4 ⟨0,Yo,Yo,YA,YB,Yf,Yf,Yf,Yf,Below.refl _ _⟩ (λr B W hI=>?_);clear b0 hs hd;obtain⟨i,hi,hr2,hs,hd,b6,b7,b8,b3,kB⟩:=hI;have hWs:=kB.size;by_cases hin:i<4
 .refine aD (aG ?_);refine Yx ?_;refine aC<|aH (bG Yf (aS ?_));refine aH (aK ?_);refine aD<|Yq (aFe _ _ rfl Yb Yb rfl hin _) ?_;refine Yq (aZ _ _ rfl gD Yf (hm.below kB) Yo (hg i hin)) ?_;refine Yx ?_;refine aC<|aI<|Yx ?_;refine Yq (F9 _ _ rfl Yf (aJ _ _) _) ?_;refine Yx ?_;refine Yq (FR _ _ rfl Yf Yf _) ?_;refine Yx ?_;refine fB<|aI ?_;iterate 2 refine Yx ?_
  exact aQ ⟨4-(i+1),Yo,i+1,Yo,Yo,YA,YB,Yb,Yb,(Ye rfl).trans YC,(Ye rfl).trans (by show Value.int .i64 (wrap64 (wrap64 (oO c i*8)+c i))=.int .i64 (wrap64 (wrap64 (8*oO c i)+c i));rw[Int.mul_comm]),kB⟩
 .refine aD (aG ?_);refine Yx ?_;obtain rfl:i=4:=Yo;refine aC<|aH (bH Yf (bP (dM ?_)));refine aD ?_;iterate 2 refine Yx ?_
  refine aC ?_;exact aW (aN YB (dW rfl Yf) ⟨rfl,kB⟩)
def uU(ax:Nat->St)(j:Nat):Value:=dP (ax (j/7)) (j%7)
theorem TM(ax:Nat->St):aP (uU ax) (x*7) 7=aP (dP (ax x)) 0 7:=by
 unfold aP uU
 congr 2
 refine List.map_congr_left (λj hj=>?_);have:=List.mem_range.1 hj;rw[show (x*7+j)/7=x by omega,show (x*7+j)%7=j by omega,Nat.zero_add]
theorem aKv(ax:Nat->St)(r:Rl):(nS ax r).map iV=(FI ax 3).map iV++rowV (λi=>iV (gL [AA r.I,oO r.M 4,oO r.J 4] i)) 3:=by
 unfold nS;rw[List.map_append];rfl
theorem aLD(r:Rl)(hi:i<4):dD r (0+0+i)=.bool (r.I i):=by unfold dD;rw[if_pos Yo,show 0+0+i=i by omega]
theorem aMl(r:Rl)(hi:i<4):dD r (0+4+i)=.int .i64 (r.M i):=by unfold dD;rw[if_neg Yo,if_pos Yo,show 0+4+i-4=i by omega];rfl
theorem aLG(r:Rl)(hi:i<4):dD r (0+8+i)=.int .i64 (r.J i):=by unfold dD;rw[if_neg Yo,if_neg Yo,show 0+8+i-8=i by omega];rfl
theorem yZ(ax:Nat->St)(r:Rl)(w:World):Calls Tryz.prog 67 #[aP (uU ax) 0 21,aP (dD r) 0 12] w λe w'=>∃ao c,e=.returned (.slice ao 24 c)/\w'.ownsRow w.heap.size 3 1 (.slice ao 24 c) 24 (rowV (iF (gL (nS ax r))) 24)/\Below w.heap.size w w':=by
 refine bO Tryz.func67 rfl 43 rfl Yd (λA hs hd hb=>?_);have b0:=hb 0 _ rfl;have b1:=hb 1 _ rfl;clear hb;refine aD (aG ?_);refine Zb (λw1 m1 k1 z1=>?_);refine Zb (λw2 m2 k2 z2=>?_);have mx2:=m1.below k2;refine Yx ?_;refine aC<|aD<|Yx ?_;refine aC<|aH<|aD ?_;iterate 2 refine Yx ?_
 refine aC<|aK<|bW (λq a W=>∃(x:Nat) (v:Value),x<=3/\3-x<=q/\a.tmps.size=43/\a.defers=[]/\a.eval (.tmp 3)=.pointer (some ⟨w1.heap.size,0,none⟩)/\a.eval (.tmp 8)=aP (uU ax) 0 21/\a.eval (.tmp 9)=.int .i64 (x:Int)/\a.eval (.tmp 5)=v/\Vh 30 W w1.heap.size 12 12 (dD r)/\W.ownsRow w2.heap.size 3 1 v (7*x) ((FI ax x).map iV)/\Below w.heap.size w W/\w2.heap.size<=W.heap.size) 3 ⟨0,_,Yo,Yo,YA,YB,Yf,Yf,Yf,Yf,m2,World.ownsRow_nil _ _ _ _,k1.trans (k2.mono Yo),Yo⟩ (λq B W hI=>?_);clear b0 b1 hs hd;obtain⟨x,v,hx,hr2,hs,hd,b3,b8,b9,b5,mr,ov,kB,hW⟩:=hI;by_cases hin:x<3
 .refine aD (aG ?_);refine Yx ?_;refine aC<|aH (bG Yf (aS ?_));refine aH (aK ?_);refine aD<|Yq ((lM _ _ _ _ rfl Tryz.underlying26 gX Yb rfl Yb rfl hin _).trans (by rw[TM ax])) ?_;refine Za uI (λw11 m11 k11 z11=>?_);have mr11:=mr.below k11;have ov11:=bK ov k11;refine Zs gX m11 (fK _) (λw12 mm12 k12 z12=>?_);have ms12:=Vh.congr mm12 (qD _ _);have mr12:=mr11.kept k12 Yo;have ov12:=bR ov11 k12 (λe=>by have e2:=(ov.lt _ e).2;omega);refine aC ?_;have hS0:(λZ=>Vh 25 Z W.heap.size 7 7 (dP (ax x))) w12.drew:=ms12;have mr0:Vh _ w12.drew _ _ _ _:=mr12;have ms0:Vh _ w12.drew _ _ _ _:=ms12;have ov0:=(show World.ownsRow w12.drew _ _ _ _ _ _ from ov12);have ez:w12.drew.heap.size=w12.heap.size:=rfl;refine fD (S:=λZ=>Vh 25 Z W.heap.size 7 7 (dP (ax x))) (.mv 0 (.mv 1 (.rd 2 (.mv 3 (.rd 4 (.mv 5 (.rd 6 (.mv 7 (.rd 8 (.mv 9 (.rd 10 (.mv 11 (.rd 12 (.mv 14 (.rd 15 (.go 13 (.go 16 (.go 17 (.mv 18 .fin))))))))))))))))))) [17] Yl Yl ?_;refine Yj ?_;refine Yk rfl (λ_=>aEf rfl Yf _) ?_;refine Yr rfl hS0 (λ_ hS=>aZ _ _ rfl gD Yf hS Yc rfl) ?_;refine Yk rfl (λ_=>aCZ rfl Yf _) ?_;refine Yr rfl hS0 (λ_ hS=>aZ _ _ rfl gD Yf hS Yc rfl) ?_;refine Yk rfl (λ_=>aEp rfl Yf _) ?_;refine Yr rfl hS0 (λ_ hS=>aZ _ _ rfl gD Yf hS Yc rfl) ?_;refine Yk rfl (λ_=>aCm rfl Yf _) ?_;refine Yr rfl hS0 (λ_ hS=>aZ _ _ rfl gD Yf hS Yc rfl) ?_;refine Yk rfl (λ_=>aEA rfl Yf _) ?_;refine Yr rfl hS0 (λ_ hS=>aZ _ _ rfl gD Yf hS Yc rfl) ?_;refine Yk rfl (λ_=>aEu rfl Yf _) ?_;refine Yr rfl hS0 (λ_ hS=>aZ _ _ rfl pQ Yf hS Yc rfl) ?_;refine Yk rfl (λ_=>aEW rfl Yf _) ?_;refine Yr rfl hS0 (λ_ hS=>aZ _ _ rfl gD Yf hS Yc rfl) ?_;refine cZ rfl rfl Yw (λK hK=>bQ _ 99 _ _ rfl Yf (KW _ _) (VY (ax x).B _) ?_);rintro e w13 ⟨rfl,k13⟩;have n13:=k13.size;have mr13:=mr0.below k13;have ms13:=hS0.below k13;have ov13:=bK ov0 k13;have hS13:(λZ=>Vh 25 Z W.heap.size 7 7 (dP (ax x))) w13:=ms13;refine⟨_,rfl,hK _ _ (λ_ _=>hS13) ?_⟩;refine cZ rfl rfl Yw (λK hK=>?_);refine LG _ _ _ _ _ _ _ _ rfl (g:=gL (zH (ax x))) Yf Yf Yf Yf Yf Yf Yf ?_;intro w14 m14 k14 z14;have mr14:=mr13.below k14;have ms14:=ms13.below k14;have ov14:=bK ov13 k14;have hS14:(λZ=>Vh 25 Z W.heap.size 7 7 (dP (ax x))) w14:=ms14;refine hK _ _ (λ_ _=>hS14) ?_;clear hK K;refine cZ rfl rfl Yw (λK hK=>?_);refine⟨kS _ _ _ rfl w2.heap.size Yo v _ _ Yf ov14 _ 7 7 _ Yf (Or.inr ⟨_,rfl,λi hi=>by rw[add_at,Nat.zero_add];exact m14.cell hi⟩) (λi _=>rfl) Yo ?_⟩;intro v15 w15 ov15 k15;have n15:=k15.size;have mr15:=mr14.same (k15.block _ Yo);rw[<-MH] at ov15;refine hK _ _ (λh=>absurd h Yc) ?_;clear hK K;refine Yj ?_;refine mW<|aI ?_;iterate 2 refine Yx ?_
  exact aQ ⟨3-(x+1),Yo,x+1,_,Yo,Yo,YA,YB,Yb,Yb,(Ye rfl).trans YC,Yf,mr15,ov15,(((aU (aF (kB.trans (k11.mono Yo)) k12 Yo Yo)).trans (k13.mono Yo)).trans (k14.mono Yo)).trans (k15.mono Yo),Yo⟩
 .refine aD (aG ?_);refine Yx ?_;obtain rfl:x=3:=Yo;refine aC<|aH (bH Yf (bP (dM ?_)));refine aH ?_;have hS0:(λZ=>Vh 30 Z w1.heap.size 12 12 (dD r)) W.drew:=mr;have mr0:Vh _ W.drew _ _ _ _:=mr;have ov0:=(show World.ownsRow W.drew _ _ _ _ _ _ from ov);have ez:W.drew.heap.size=W.heap.size:=rfl;refine fD (S:=λZ=>Vh 30 Z w1.heap.size 12 12 (dD r)) (.mv 0 (.mv 1 (.mv 2 (.mv 4 (.mv 5 (.mv 7 (.mv 8 (.go 3 (.go 6 (.go 9 (.go 10 (.go 11 (.mv 12 .fin))))))))))))) [] Yl Yl ?_;refine Yj ?_;refine Yk rfl (λ_=>VN rfl Yb _) ?_;refine Yk rfl (λ_=>aDQ _ rfl Yf _) ?_;refine Yk rfl (λ_=>aCD rfl Yb _) ?_;refine Yk rfl (λ_=>L6 _ rfl Yf _) ?_;refine Yk rfl (λ_=>aEJ rfl Yb _) ?_;refine Yk rfl (λ_=>L6 _ rfl Yf _) ?_;refine cZ rfl rfl Yw (λK hK=>bQ _ 100 _ _ rfl Yf (FQ _ _) (PN _ (0+0) 12 12 _ _ r.I _ hS0 Yc (λi hi=>aLD r hi)) ?_);rintro e w11 ⟨rfl,k11⟩;have n11:=k11.size;have mr11:=hS0.below k11;have ov11:=bK ov0 k11;have hS11:(λZ=>Vh 30 Z w1.heap.size 12 12 (dD r)) w11:=mr11;refine⟨_,rfl,hK _ _ (λ_ _=>hS11) ?_⟩;refine cZ rfl rfl Yw (λK hK=>bQ _ 101 _ _ rfl Yf (vO _ _) (yE _ (0+4) 12 12 _ _ r.M _ mr11 Yc (λi hi=>aMl r hi)) ?_);rintro e w12 ⟨rfl,k12⟩;have n12:=k12.size;have mr12:=mr11.below k12;have ov12:=bK ov11 k12;have hS12:(λZ=>Vh 30 Z w1.heap.size 12 12 (dD r)) w12:=mr12;refine⟨_,rfl,hK _ _ (λ_ _=>hS12) ?_⟩;refine cZ rfl rfl Yw (λK hK=>bQ _ 101 _ _ rfl Yf (vO _ _) (yE _ (0+8) 12 12 _ _ r.J _ mr12 Yc (λi hi=>aLG r hi)) ?_);rintro e w13 ⟨rfl,k13⟩;have n13:=k13.size;have mr13:=mr12.below k13;have ov13:=bK ov12 k13;have hS13:(λZ=>Vh 30 Z w1.heap.size 12 12 (dD r)) w13:=mr13;refine⟨_,rfl,hK _ _ (λ_ _=>hS13) ?_⟩;refine cZ rfl rfl Yw (λK hK=>?_);refine DI _ _ _ _ rfl (g:=gL [AA r.I,oO r.M 4,oO r.J 4]) Yf Yf Yf ?_;intro w14 m14 k14 z14;have mr14:=mr13.below k14;have ov14:=bK ov13 k14;have hS14:(λZ=>Vh 30 Z w1.heap.size 12 12 (dD r)) w14:=mr14;refine hK _ _ (λ_ _=>hS14) ?_;clear hK K;refine cZ rfl rfl Yw (λK hK=>?_);refine⟨kS _ _ _ rfl w2.heap.size Yo v _ _ Yf ov14 _ 3 3 _ Yf (Or.inr ⟨_,rfl,λi hi=>by rw[add_at,Nat.zero_add];exact m14.cell hi⟩) (λi _=>rfl) Yo ?_⟩;intro v15 w15 ov15 k15;have n15:=k15.size;have mr15:=mr14.same (k15.block _ Yo);have hS15:(λZ=>Vh 30 Z w1.heap.size 12 12 (dD r)) w15:=mr15;rw[<-aKv] at ov15;obtain⟨a2,c2,rfl,hc2⟩:=dS ov15;refine hK _ _ (λ_ _=>hS15) ?_;clear hK K;refine Yj ?_;refine fT<|aW (aN YB (dW rfl Yf) ⟨a2,c2,rfl,?_,(((((aU kB).trans (k11.mono Yo)).trans (k12.mono Yo)).trans (k13.mono Yo)).trans (k14.mono Yo)).trans (k15.mono Yo)⟩);rw[CG] at ov15;exact bZ ov15 Yo
def aOd(fn:Nat):Prop:=∀(a b c:Int) (w:World),R64 a->R64 b->R64 c->
 Calls Tryz.prog fn #[.int .i64 a,.int .i64 b,.int .i64 c] w λe w'=>e=.returned (.int .i64 (NQ a b c))/\Below w.heap.size w w'
theorem sZ(f:Nat->Int)(n:Nat)(v:Int):ce f (n+1) v=ce f n v+if f n=v then 1 else 0:=by
 show cn _ n+(if decide (f n=v)=true then 1 else 0)=_
 by_cases h:f n=v
 .rw[if_pos (Xt h),if_pos h];rfl
 .rw[if_neg (by rw[Xf h];decide),if_neg h];rfl
theorem aGP{f:Nat->Int}(h:∀j,j<n->¬n<2*ce f n (f j))(other:Int):CQ f n other other:=by
 refine Or.inr ⟨λv hv=>?_,rfl⟩;obtain⟨i,hi,hp⟩:=VP (p:=λi=>decide (f i=v)) (n:=n) (by show 0<ce f n v;omega);have e:=Xu hp;have:=h i hi;rw[e] at this;exact this hv
theorem MF(ao:Option Addr)(n cap:Nat)(f:Nat->Int)(other:Int)(w:World)(hl:n<=17592186043904)(hr:Rd w ao n (iF f)):Calls Tryz.prog 80 #[.slice ao n cap,.int .i64 other] w λe w'=>∃m,CQ f n other m/\e=.returned (.int .i64 m)/\w'=w:=by
 have HR:=aB hr;clear hr;go_enter Tryz.func80,Tryz.ntmps80
 go_wp2_with fail
 go_loopw [6,7,9,12] (λ_ _ _ is wr=>w=wr/\∃i:Nat,is=.int .i64 i/\i<=n/\∀j,j<i->¬n<2*ce f n (f j)) (λ_ _ _ is _=>n-(intOf is).toNat)
 case atStart=>exact⟨rfl,0,rfl,Xz _,λj hj=>absurd hj Yo⟩
 case round=>
  obtain⟨rfl,i,rfl,hi,hno⟩:=hrel;have NO:=aB hno;clear hno;by_cases hin:i<n
  .obtain⟨b,o,rfl,hc⟩:=aA HR Yo;have HC:=aB hc;have ci:w.cell? ⟨b,o+i,none⟩=some (.int .i64 (f i)):=hc i hin;obtain⟨v,ev⟩:∃v,f i=v:=⟨_,rfl⟩;rw[ev] at ci;have EV:=aB ev;clear ev hc;go_wp2_with fail
   clear ci
   go_loopw [7,9,18] (λns _ js wr=>w=wr/\∃j:Nat,js=.int .i64 j/\j<=n/\ns=.int .i64 (ce f j v:Nat)) (λ_ _ js _=>n-(intOf js).toNat)
   case atStart=>exact⟨rfl,0,rfl,Xz _,rfl⟩
   case round=>
    obtain⟨rfl,j,rfl,hj,rfl⟩:=hrel;have b2:ce f j v<=j:=wP _ _;by_cases hjn:j<n
    .have cj:w.cell? ⟨b,o+j,none⟩=some (.int .i64 (f j)):=aA HC j hjn;have S2:=aB (sZ f j v);obtain⟨q,eq⟩:∃q,ce f j v=q:=⟨_,rfl⟩;obtain⟨u,eu⟩:∃u,f j=u:=⟨_,rfl⟩;rw[eq] at b2 S2 ⊢;rw[eu] at cj S2;clear eq eu;by_cases he:u=v
     .subst he;have t1:(u==u)=true:=by simp
      have T2:=aB (show ce f (j+1) u=q+1 by rw[aA S2,if_pos rfl]);go_wp2_with fail
      go_roundw
      case rel=>exact⟨trivial,j+1,by go_num,Yo,by rw[aA T2];go_num⟩
      case measure=>simp[intOf]<;>omega
     .have t1:(v==u)=false:=by simp;omega
      have T2:=aB (show ce f (j+1) v=q by rw[aA S2,if_neg he];rfl);go_wp2_with fail
      go_roundw
      case rel=>exact⟨trivial,j+1,by go_num,Yo,by rw[aA T2]⟩
      case measure=>simp[intOf]<;>omega
    .have e9:j=n:=Yo;subst e9;have C:=aB (show ce f j v=ce f j (f i) by rw[aA EV]);obtain⟨q,eq⟩:∃q,ce f j v=q:=⟨_,rfl⟩;have EQ:=aB eq;rw[eq] at b2 ⊢;clear eq;by_cases h2:j<2*q
     .have h2':(j:Int)<2*(q:Int):=Yo;go_wp2_with fail
      go_ret
      exact⟨v,Or.inl (by rw[aA EQ];exact h2),rfl,rfl⟩
     .have h2':¬(j:Int)<2*(q:Int):=Yo;go_wp2_with fail
      go_roundw
      case rel=>exact⟨trivial,i+1,by go_num,Yo,λt ht=>by
       by_cases e:t=i
       .subst e;rw[aA EV,aA EQ];exact h2
       .exact aA NO t Yo⟩
      case measure=>simp[intOf]<;>omega
  .have e9:i=n:=Yo;subst e9;go_wp2_with fail
   go_ret
   exact⟨other,aGP (aA NO) other,rfl,rfl⟩
def X4(I s:Nat)(T:Nat->Int)(h:Int):Nat->List Int
 |0=>[h]
 |i+1=>X4 I s T h i++if i=I\/i=s then [] else [T i]
theorem aKt(I s:Nat)(T:Nat->Int)(h:Int)(i:Nat):(X4 I s T h i).length<=i+1:=by
 induction i with
 |zero=>exact Xr 1
 |succ i ih=>
  show (X4 I s T h i++_).length<=_
  rw[List.length_append];split
  .show _+0<=_;omega
  .show _+1<=_;omega
variable{h:Int}{T:Nat->Int}
theorem aAN{I s:Nat}(e:i=I\/i=s):X4 I s T h (i+1)=X4 I s T h i:=by
 show X4 I s T h i++_=_
 rw[if_pos e,List.append_nil]
theorem ZQ{I s:Nat}{x:Int}(e1:i≠I)(e2:i≠s)(ex:T i=x):X4 I s T h (i+1)=X4 I s T h i++[x]:=by
 show X4 I s T h i++_=_
 rw[if_neg (λc=>c.elim e1 e2),ex]
theorem aJT{I s:Nat}(hI:I<4)(hs:s<4)(e:I≠s):X4 I s T h 4=[h,T (o1 I s),T (o2 I s)]:=by
 have:I=0\/I=1\/I=2\/I=3:=Yo;have:s=0\/s=1\/s=2\/s=3:=Yo;rcases ‹I=0\/_› with rfl|rfl|rfl|rfl<;>rcases ‹s=0\/_› with rfl|rfl|rfl|rfl<;>first|(exact absurd rfl e)|rfl
variable{L:List Lm}{n:Nd}
theorem VE{many:Nat}{c:Lm}(h:fL n.id n.fr L (i:Int) 2 (many:Int)=some c):jQ n (L.map Lm.m) i k many=gL c.m.L k:=by
 have:=qU n L i 2 many;rw[h] at this;unfold jQ;rw[<-this];rfl
theorem UU{many:Nat}(h:fL n.id n.fr L (i:Int) 2 (many:Int)=none):jQ n (L.map Lm.m) i k many=0:=by
 have:=qU n L i 2 many;rw[h] at this;unfold jQ;rw[<-this];rfl
theorem Z7(n:Nd)(nv:Value)(mo:Option Addr)(mc:Nat)(L:List Lm)(I s:Nat)(h:Int)(k many:Nat)(w:World)(hI:n.id=(I:Int))(hI4:I<4)(hs4:s<4)(hk:k<many)(hmr:MRd w mo L)(hN:L.length<=140737488351232):Calls Tryz.prog 45 #[iP n nv,.slice mo L.length mc,.int .i64 (s:Int),.int .i64 h,.int .i64 (k:Int),.int .i64 (many:Int)] w λe w'=>e=.returned (.int .i64 (vU n (L.map Lm.m) s h k many))/\Below w.heap.size w w':=by
 refine bO Tryz.func45 rfl 58 rfl Yd (λA hs hd hb=>?_);have b0:A.eval (.tmp 0)=iP n nv:=hb 0 _ rfl;have b1:A.eval (.tmp 1)=.slice mo L.length mc:=hb 1 _ rfl;have b2:A.eval (.tmp 2)=.int .i64 (s:Int):=hb 2 _ rfl;have b3:A.eval (.tmp 3)=.int .i64 h:=hb 3 _ rfl;have b4:A.eval (.tmp 4)=.int .i64 (k:Int):=hb 4 _ rfl;have b5:A.eval (.tmp 5)=.int .i64 (many:Int):=hb 5 _ rfl;clear hb;refine aD (aG ?_);refine Zb (λw1 m1 k1 z1=>?_);refine Yx ?_;refine aC<|aH<|aD ?_;by_cases hsi:(s:Int)=n.id
 .refine Yp ?_;iterate 2 refine Yx ?_
  refine Yq (bM (b:=true) _ _ rfl Yf Yf (Xt hsi) _) ?_;refine aC<|bG Yf ?_;refine aD ?_;iterate 2 refine Yx ?_
  refine aC<|aW ?_;simp only[Nx,Exit.then];refine aN YB (dW rfl Yf) ⟨by unfold vU;rw[if_pos hsi],k1⟩
 .refine Yp ?_;iterate 2 refine Yx ?_
  refine Yq (bM (b:=false) _ _ rfl Yf Yf (Xf hsi) _) ?_;refine aC<|bH Yf (aS ?_);refine aD<|Yx ?_;refine bI rfl Yw (λK hK=>A9 _ _ rfl Yf (λw2 m2 k2 z2=>hK _ _ ?_));have mn2:=m1.below k2;refine Yx ?_;refine aC<|aH<|aD<|Yx ?_;refine aC<|aK<|bW (λr a W=>∃(i:Nat) (v:Value),i<=4/\4-i<=r/\a.tmps.size=58/\a.defers=[]/\a.eval (.tmp 1)=.slice mo L.length mc/\a.eval (.tmp 2)=.int .i64 (s:Int)/\a.eval (.tmp 4)=.int .i64 (k:Int)/\a.eval (.tmp 5)=.int .i64 (many:Int)/\a.eval (.tmp 6)=.pointer (some ⟨w.heap.size,0,none⟩)/\a.eval (.tmp 13)=v/\a.eval (.tmp 14)=.int .i64 (i:Int)/\Vh 37 W w.heap.size 74 74 (ndF n nv)/\W.ownsRow w1.heap.size 3 1 v (X4 I s (λj=>jQ n (L.map Lm.m) j k many) h i).length ((X4 I s (λj=>jQ n (L.map Lm.m) j k many) h i).map iV)/\Below w.heap.size w W/\w1.heap.size<=W.heap.size) 4 ⟨0,_,Yo,Yo,YA,YB,Yb,Yb,Yb,Yb,Yf,Yf,Yf,mn2,Vh.owns m2 (Xr _),k1.trans (k2.mono Yo),Yo⟩ (λr B W hI=>?_);clear b0 b1 b2 b3 b4 b5 hs hd;obtain⟨i,v,hi,hr2,hs,hd,b1,b2,b4,b5,b6,b13,b14,mn,ow,kB,hW⟩:=hI;by_cases hin:i<4
  .have hll:=aKt I s (λj=>jQ n (L.map Lm.m) j k many) h i;by_cases hci:(i:Int)=n.id
   .have hcs:True:=trivial;refine aH<|aD (aG ?_);iterate 2 refine Yx ?_
    refine aC<|bG Yf (aS ?_);refine aH (aK ?_);refine aH<|aD ?_;iterate 3 refine Yx ?_
    refine Yq (bM (b:=true) _ _ rfl Yf Yf (Xt hci) _) ?_;refine Yx ?_;iterate 3 refine Yu ?_
    refine Yq (aL _ _ _ rfl Yf (aJ _ _) _) ?_;refine aC<|bG Yf (bP (zC ?_));refine aI ?_;iterate 3 refine Yx ?_
    exact aQ ⟨4-(i+1),Yo,i+1,_,Yo,Yo,YA,YB,Yb,Yb,Yb,Yb,Yb,Yb,(Ye rfl).trans YC,mn,by rw[(aAN Yo)];exact ow,kB,Yo⟩
   .by_cases hcs:(i:Int)=(s:Int)
    .refine aH<|aD (aG ?_);iterate 2 refine Yx ?_
     refine aC<|bG Yf (aS ?_);refine aH (aK ?_);refine aH<|aD ?_;iterate 3 refine Yx ?_
     refine Yq (bM (b:=false) _ _ rfl Yf Yf (Xf hci) _) ?_;iterate 3 refine Yx ?_
     refine Yq (bM (b:=true) _ _ rfl Yf Yf (Xt hcs) _) ?_;refine Yq (aR _ _ _ rfl Yf Yf _) ?_;refine aC<|bG Yf (bP (zC ?_));refine aI ?_;iterate 3 refine Yx ?_
     exact aQ ⟨4-(i+1),Yo,i+1,_,Yo,Yo,YA,YB,Yb,Yb,Yb,Yb,Yb,Yb,(Ye rfl).trans YC,mn,by rw[(aAN Yo)];exact ow,kB,Yo⟩
    .rcases hfl:fL n.id n.fr L (i:Int) 2 (many:Int) with _|cm
     .refine aH<|aD (aG ?_);iterate 2 refine Yx ?_
      refine aC<|bG Yf (aS ?_);refine aH (aK ?_);refine aH<|aD ?_;iterate 3 refine Yx ?_
      refine Yq (bM (b:=false) _ _ rfl Yf Yf (Xf hci) _) ?_;iterate 3 refine Yx ?_
      refine Yq (bM (b:=false) _ _ rfl Yf Yf (Xf hcs) _) ?_;refine Yq (aR _ _ _ rfl Yf Yf _) ?_;refine aC<|bH Yf (aS ?_);refine aD ?_;iterate 4 refine Yx ?_
      refine bI rfl Yw (λK hK=>?_);have C1:Calls Tryz.prog 44 #[iP n nv,.slice mo L.length mc,.int .i64 (i:Int),.int .i64 2,.int .i64 (many:Int)] W λe w'=>e=.returned (fstV (fL n.id n.fr L (i:Int) 2 (many:Int)))/\Below W.heap.size W w':=mJ n _ mo mc L (i:Int) 2 (many:Int) _ (hmr.below kB) hN
      rw[hfl] at C1;refine oQ _ 44 _ _ _ _ _ _ rfl Yf Yf Yf (aJ _ _) Yf (nL _ _ _ _ _ _) C1 ?_;rintro e w7 ⟨rfl,k7⟩;have n7:=k7.size;have mn7:=mn.below k7;have ow7:=bK ow k7;refine⟨_,rfl,?_⟩;refine hK _ _ ?_;clear hK K;iterate 5 refine Yx ?_
      refine aC<|aD<|Yx ?_;refine aC<|bH Yf ?_;refine aI<|Yx ?_;refine bI rfl Yw (λK hK=>A9 _ _ rfl (aJ _ _) (λw8 m8 k8 z8=>hK _ _ ?_));have mn8:=mn7.below k8;have ow8:=bK ow7 k8;refine bI rfl Yw (λK hK=>?_);refine⟨kS _ _ _ rfl w1.heap.size Yo v _ _ Yf ow8 _ 1 1 _ Yf (Or.inr ⟨_,rfl,λi hi=>by rw[add_at,Nat.zero_add];exact m8.cell hi⟩) (λi _=>rfl) Yo ?_⟩;intro v9 w9 ov9 k9;have n9:=k9.size;have mn9:=mn8.same (k9.block _ Yo);refine hK _ _ ?_;clear hK K;refine Yx ?_;refine fB<|aI ?_;iterate 3 refine Yx ?_
      exact aQ ⟨4-(i+1),Yo,i+1,_,Yo,Yo,YA,YB,Yb,Yb,Yb,Yb,Yb,Yf,(Ye rfl).trans YC,mn9,by rw[(ZQ (T:=λj=>jQ n (L.map Lm.m) j k many) Yo Yo (UU hfl)),List.length_append,List.map_append];exact ov9,(((kB.trans (k7.mono Yo)).trans (k8.mono Yo)).trans (k9.mono Yo)),Yo⟩
     .obtain⟨cmem,cfit⟩:=nV hfl;have clen:=sV cfit;obtain⟨ca,cmy,hy⟩:∃y,cm.ao=some y/\∀W',Below w.heap.size w W'->∀i,i<cm.m.L.length->W'.cell? (y.add i)=some (.int .i64 (gL cm.m.L i)):=by
       obtain⟨y,e,_⟩:=(hmr.2 cm cmem).at Yo;refine⟨y,e,λW' k=>?_⟩;obtain⟨y',e',hy'⟩:=((hmr.2 cm cmem).below k).at Yo;rw[e] at e';cases e';exact hy'
      obtain⟨mm,mo2,mc2⟩:=cm;dsimp only at cmy hy clen;subst cmy;have hl0:k<mm.L.length:=Yo;refine aH<|aD (aG ?_);iterate 2 refine Yx ?_
      refine aC<|bG Yf (aS ?_);refine aH (aK ?_);refine aH<|aD ?_;iterate 3 refine Yx ?_
      refine Yq (bM (b:=false) _ _ rfl Yf Yf (Xf hci) _) ?_;iterate 3 refine Yx ?_
      refine Yq (bM (b:=false) _ _ rfl Yf Yf (Xf hcs) _) ?_;refine Yq (aR _ _ _ rfl Yf Yf _) ?_;refine aC<|bH Yf (aS ?_);refine aD ?_;iterate 4 refine Yx ?_
      refine bI rfl Yw (λK hK=>?_);have C1:Calls Tryz.prog 44 #[iP n nv,.slice mo L.length mc,.int .i64 (i:Int),.int .i64 2,.int .i64 (many:Int)] W λe w'=>e=.returned (fstV (fL n.id n.fr L (i:Int) 2 (many:Int)))/\Below W.heap.size W w':=mJ n _ mo mc L (i:Int) 2 (many:Int) _ (hmr.below kB) hN
      rw[hfl] at C1;refine oQ _ 44 _ _ _ _ _ _ rfl Yf Yf Yf (aJ _ _) Yf (nL _ _ _ _ _ _) C1 ?_;rintro e w7 ⟨rfl,k7⟩;have n7:=k7.size;have mn7:=mn.below k7;have ow7:=bK ow k7;refine⟨_,rfl,?_⟩;refine hK _ _ ?_;clear hK K;iterate 5 refine Yx ?_
      refine aC<|aD<|Yx ?_;refine aC<|bG Yf ?_;refine aI ?_;iterate 3 refine Yx ?_
      refine Yq (cK _ _ rfl (a:=ca) (n:=mm.L.length) (cap:=mc2) Yf Yf (i:=k) rfl hl0 _) ?_;refine Yq (cO _ rfl Yf (hy _ (kB.trans (k7.mono Yo)) k hl0)) ?_;refine bI rfl Yw (λK hK=>A9 _ _ rfl Yf (λw8 m8 k8 z8=>hK _ _ ?_));have mn8:=mn7.below k8;have ow8:=bK ow7 k8;refine bI rfl Yw (λK hK=>?_);refine⟨kS _ _ _ rfl w1.heap.size Yo v _ _ Yf ow8 _ 1 1 _ Yf (Or.inr ⟨_,rfl,λi hi=>by rw[add_at,Nat.zero_add];exact m8.cell hi⟩) (λi _=>rfl) Yo ?_⟩;intro v9 w9 ov9 k9;have n9:=k9.size;have mn9:=mn8.same (k9.block _ Yo);refine hK _ _ ?_;clear hK K;refine Yx ?_;refine fB<|aI ?_;iterate 3 refine Yx ?_
      exact aQ ⟨4-(i+1),Yo,i+1,_,Yo,Yo,YA,YB,Yb,Yb,Yb,Yb,Yb,Yf,(Ye rfl).trans YC,mn9,by rw[(ZQ (T:=λj=>jQ n (L.map Lm.m) j k many) Yo Yo (VE hfl)),List.length_append,List.map_append];exact ov9,(((kB.trans (k7.mono Yo)).trans (k8.mono Yo)).trans (k9.mono Yo)),Yo⟩
  .refine aH<|aD (aG ?_);iterate 2 refine Yx ?_
   refine aC<|bH Yf (bP (dM ?_));refine aD ?_;obtain rfl:i=4:=Yo;rw[aJT (T:=λj=>jQ n (L.map Lm.m) j k many) hI4 hs4 Yo] at ow;obtain⟨ao,cap,rfl,hcap⟩:=dS ow;refine Yx ?_;refine bI rfl Yw (λK hK=>dG _ 80 _ _ _ rfl Yf (aJ _ _) (YK _ _ _) (MF ao 3 cap (gL [h,jQ n (L.map Lm.m) (o1 I s) k many,jQ n (L.map Lm.m) (o2 I s) k many]) 0 _ Yo (tH ow)) ?_);rintro e w' ⟨m,hm,rfl,rfl⟩;have em:=aAn hm (ZX _);refine⟨_,rfl,hK _ _ ?_⟩;refine Yx ?_;refine aC<|aW<|aN YB (dW rfl Yf) ⟨by unfold vU;rw[if_neg hsi,em,hI];rfl,kB⟩
end Go.Proofs.YthimcecbgpamdaaGreat
