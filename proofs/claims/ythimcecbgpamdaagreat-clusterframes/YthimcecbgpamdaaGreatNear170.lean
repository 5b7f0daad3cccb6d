import Derived.Test.YthimcecbgpamdaaGreatNear110
import Derived.Test.YthimcecbgpamdaaGreatNear82
set_option maxHeartbeats 2000000
namespace Go.Proofs.YthimcecbgpamdaaGreat
open Go.RowKit
theorem XZ(x y z:Value)(w:World):(callFunc 64 #[x,y,z]).run Tryz.prog w=.ok (.enter 64 #[x,y,z]) w:=Yh
theorem PI(x:Value)(w:World):(callFunc 95 #[x]).run Tryz.prog w=.ok (.enter 95 #[x]) w:=Yh
theorem UE(l:List Int)(w:World)(ao:Option Addr)(cap:Nat)(hl:l.length<=4)(hc:l.length<=cap)(hR:∀x,x∈l->R64 x)(hs:Sr w ao l.length cap (iF (gL l))):Calls Tryz.prog 95 #[.slice ao l.length cap] w λe w'=>∃E,e=.returned (.tuple #[.int .i64 (xM l),.int .i64 E])/\Below w.heap.size w w':=by
 refine (LA ao l.length cap (gL l) w (wV hR) Yo hc hs).mono ?_;rintro e w' ⟨m,E,hm,rfl,k⟩;have em:m=xM l:=by
  rcases hm with ⟨h1,h2,_,h4⟩|⟨h1,_,h3⟩
  .rw[aAI h1 h2 h4,aEj]
  .have:l=[]:=List.eq_nil_of_length_eq_zero Yo;rw[h3,this];rfl
 rw[em];exact⟨E,rfl,k⟩
theorem aFg(d:Nat->Nat->Int)(b:Nat->Bool)(a:Nat)(w:World)(ha:a<3)(hd4:∀s,R64 (d s a)):Calls Tryz.prog 64 #[aN (sQ d) 0 12,aN (tF b) 0 4,.int .i64 (a:Int)] w λe w'=>e=.returned (.int .i64 (xM (nU b (λs=>d s a) 4)))/\Below w.heap.size w w':=by
 refine bO Tryz.func64 rfl 33 rfl Yd (λA hs hd hb=>?_);have b0:=hb 0 _ rfl;have b1:=hb 1 _ rfl;have b2:=hb 2 _ rfl;clear hb;refine aD (aG ?_);refine Zb (λw1 m1 k1 z1=>?_);refine Zb (λw2 m2 k2 z2=>?_);have ma2:=m1.below k2;refine Yx ?_;refine aC<|aD<|Yx ?_;refine aC<|aH<|aD<|Yq (aX _ _ rfl mY Yf ma2 Yc) ?_;refine Yx ?_;refine aC<|aK<|bX (λq A W=>∃(i:Nat) (v:Value),i<=4/\4-i<=q/\A.tmps.size=33/\A.defers=[]/\A.eval (.tmp 2)=.int .i64 (a:Int)/\A.eval (.tmp 4)=.pointer (some ⟨w1.heap.size,0,none⟩)/\A.eval (.tmp 12)=aN (sQ d) 0 12/\A.eval (.tmp 13)=.int .i64 (i:Int)/\A.eval (.tmp 7)=v/\Vh 27 W w1.heap.size 4 4 (tF b)/\W.ownsRow w2.heap.size 3 1 v (nU b (λs=>d s a) i).length ((nU b (λs=>d s a) i).map iV)/\Below w.heap.size w W/\w2.heap.size<=W.heap.size) 4 ⟨0,_,Yo,Yo,YA,YB,Yb,Yf,Yf,Yf,Yf,m2,World.ownsRow_nil _ _ _ _,k1.trans (k2.mono Yo),Yo⟩ (λq B W hI2=>?_);clear b0 b1 b2 hs hd;obtain⟨i,v,hi,hr2,hs,hd,b2,b4,b12,b13,b7,mb,ov,kB,hW⟩:=hI2;have hlen:=VG b (λs=>d s a) i;by_cases hin:i<4
 .rcases hb:b i with _|_
  .refine aD (aG ?_);refine Yx ?_;refine aC<|aH (bE Yf (aU ?_));refine aH (aK ?_);refine aD<|Yx ?_;refine Yq ((lD _ _ _ _ rfl Tryz.underlying32 kG Yb rfl Yb rfl hin _).trans (by rw[MN d])) ?_;refine Za WX (λw11 m11 k11 z11=>?_);have mb11:=mb.below k11;have ov11:=bK ov k11;refine Yx ?_;refine Zs kG m11 (λj hj=>rfl) (λw12 mm12 k12 z12=>?_);have mw12:=Vh.congr mm12 (Z0 _ _);have mb12:=mb11.kept k12 Yo;have ov12:=bR ov11 k12 (λe=>by have e2:=(ov.lt _ e).2;omega);refine aC<|aD<|Yx ?_;refine Yq (bD _ _ _ _ rfl Tryz.underlying27 pI.size Yb Yf rfl hin _) ?_;refine Yq (aY (v:=.bool false) _ _ rfl pI Yf mb12 Yo (by unfold tF;rw[show 0+i*1=i by omega,hb])) ?_;refine aC<|bH Yf (fM ?_);refine aI ?_;iterate 2 refine Yx ?_
   exact aS ⟨4-(i+1),Yo,i+1,_,Yo,Yo,YA,YB,Yb,Yb,Yb,(Ye rfl).trans YC,Yb,mb12,by rw[aId hb];exact ov12,aF (kB.trans (k11.mono Yo)) k12 Yo Yo,Yo⟩
  .refine aD (aG ?_);refine Yx ?_;refine aC<|aH (bE Yf (aU ?_));refine aH (aK ?_);refine aD<|Yx ?_;refine Yq ((lD _ _ _ _ rfl Tryz.underlying32 kG Yb rfl Yb rfl hin _).trans (by rw[MN d])) ?_;refine Za WX (λw11 m11 k11 z11=>?_);have mb11:=mb.below k11;have ov11:=bK ov k11;refine Yx ?_;refine Zs kG m11 (λj hj=>rfl) (λw12 mm12 k12 z12=>?_);have mw12:=Vh.congr mm12 (Z0 _ _);have mb12:=mb11.kept k12 Yo;have ov12:=bR ov11 k12 (λe=>by have e2:=(ov.lt _ e).2;omega);refine aC<|aD<|Yx ?_;refine Yq (bD _ _ _ _ rfl Tryz.underlying27 pI.size Yb Yf rfl hin _) ?_;refine Yq (aY (v:=.bool true) _ _ rfl pI Yf mb12 Yo (by unfold tF;rw[show 0+i*1=i by omega,hb])) ?_;refine aC<|bE Yf ?_;refine aI ?_;iterate 2 refine Yx ?_
   refine Yq (bD _ _ _ _ rfl Tryz.underlying31 fZ.size Yf Yf rfl ha _) ?_;refine Yq (aY (v:=.int .i64 (d i a)) _ _ rfl fZ Yf mw12 Yo (by show iV (d i (0+a*1))=_;rw[show 0+a*1=a by omega];rfl)) ?_;refine bI rfl Yw (λK hK=>zX _ _ rfl Yf (λw13 m13 k13 z13=>hK _ _ ?_));have mb13:=mb12.below k13;have mw13:=mw12.below k13;have ov13:=bK ov12 k13;refine bI rfl Yw (λK hK=>?_);refine⟨kN _ _ _ rfl w2.heap.size Yo v _ _ Yf ov13 _ 1 1 _ Yf (Or.inr ⟨_,rfl,λi hi=>by rw[add_at,Nat.zero_add];exact m13.cell hi⟩) (λi _=>rfl) Yo ?_⟩;intro v14 w14 ov14 k14;have n14:=k14.size;have mb14:=mb13.same (k14.block _ Yo);refine hK _ _ ?_;clear hK K;refine Yx ?_;refine fD<|aI ?_;iterate 2 refine Yx ?_
   exact aS ⟨4-(i+1),Yo,i+1,_,Yo,Yo,YA,YB,Yb,Yb,Yb,(Ye rfl).trans YC,Yf,mb14,by rw[aIl hb,List.length_append,List.map_append];exact ov14,((aF (kB.trans (k11.mono Yo)) k12 Yo Yo).trans (k13.mono Yo)).trans (k14.mono Yo),Yo⟩
 .refine aD (aG ?_);refine Yx ?_;obtain rfl:i=4:=Yo;refine aC<|aH (bH Yf (bQ (dU ?_)));rw[X5] at ov;obtain⟨ta,tc,rfl,htc⟩:=dP ov;refine aD<|Yx ?_;refine bI rfl Yw (λK hK=>bN _ 95 _ _ rfl Yf (PI _ _) (UE (nU b (λs=>d s a) 4) _ ta tc Yo htc (λx hx=>FH hd4 4 x hx) (AQ ov)) ?_);rintro e w11 ⟨E,rfl,k11⟩;have n11:=k11.size;refine⟨_,rfl,hK _ _ ?_⟩;iterate 5 refine Yx ?_
  refine aC<|aD ?_;iterate 2 refine Yx ?_
  refine aC ?_;exact aW (aP YB (dW rfl Yf) ⟨rfl,kB.trans (k11.mono Yo)⟩)
theorem BK(x:Value)(w:World):(callFunc 51 #[x]).run Tryz.prog w=.ok (.enter 51 #[x]) w:=Yh
theorem PD(x y:Value)(w:World):(callFunc 77 #[x,y]).run Tryz.prog w=.ok (.enter 77 #[x,y]) w:=Yh
theorem aCe(x:Value)(w:World):(callFunc 88 #[x]).run Tryz.prog w=.ok (.enter 88 #[x]) w:=Yh
theorem aEm(f:Nat->Int)(k:Nat):R64 (oD f k):=by
 cases k with
 |zero=>exact (⟨by decide,by decide⟩:R64 0)
 |succ k=>exact P9 _
structure PkOK (ax:Nat->St):Prop where
 ax:∀a,(ax a).Ok
variable{r:Rl}{ax:Nat->St}
theorem aNM(h:PkOK ax)(i:Nat):R64 (gL (nV ax r) i):=by
 have z:∀x:Int,(x=0\/x=1)->R64 x:=λx h=>by rcases h with rfl|rfl<;>exact⟨by decide,by decide⟩
 have hb:∀b:Bool,R64 (if b then 1 else 0):=λb=>by cases b<;>exact⟨by decide,by decide⟩
 have hin:R64 (X4 r.I):=by
  unfold X4
  cases r.I 0<;>cases r.I 1<;>cases r.I 2<;>cases r.I 3<;>exact⟨by decide,by decide⟩
 rcases Nat.lt_or_ge i 24 with hi|hi
 .match i,hi with
  |0,_=>exact (h.ax 0).X
  |1,_=>exact (h.ax 0).V
  |2,_=>exact (h.ax 0).P00
  |3,_=>exact (h.ax 0).P01
  |4,_=>exact (h.ax 0).P11
  |5,_=>exact hb _
  |6,_=>exact (h.ax 0).M
  |7,_=>exact (h.ax 1).X
  |8,_=>exact (h.ax 1).V
  |9,_=>exact (h.ax 1).P00
  |10,_=>exact (h.ax 1).P01
  |11,_=>exact (h.ax 1).P11
  |12,_=>exact hb _
  |13,_=>exact (h.ax 1).M
  |14,_=>exact (h.ax 2).X
  |15,_=>exact (h.ax 2).V
  |16,_=>exact (h.ax 2).P00
  |17,_=>exact (h.ax 2).P01
  |18,_=>exact (h.ax 2).P11
  |19,_=>exact hb _
  |20,_=>exact (h.ax 2).M
  |21,_=>exact hin
  |22,_=>exact aEm _ _
  |23,_=>exact aEm _ _
  |k+24,h=>exact absurd h Yo
 .have:gL (nV ax r) i=0:=by
   unfold gL;rw[List.getD_eq_getElem?_getD,List.getElem?_eq_none (by rw[aAo];exact hi)];rfl
  rw[this];exact z 0 (Or.inl rfl)
theorem aAK(ax:Nat->St)(r:Rl):∀i,vP ax r i<256:=λi=>by unfold vP bt;omega
theorem aDg{x:Nat}:rowV (bF (vP ax r)) (8*x)++rowV (bF (bt (gL (nV ax r) x) 8)) 8=rowV (bF (vP ax r)) (8*(x+1)):=by
 rw[kS];refine gZ (λj hj=>?_);by_cases c:j<8*x
 .rw[if_pos c]
 .rw[if_neg c];show bV (bt _ 8 (j-8*x))=bV (bt ((nV ax r).getD (j/8) 0) 8 (j%8))
  rw[show j/8=x by omega,show j%8=j-8*x by omega];rfl
theorem PP(n:Nd)(nv:Value)(w:World)(hok:PkOK n.ax):Calls Tryz.prog 48 #[iI n nv] w λe w'=>e=.returned (.int .i64 (dgN n.ax n.rl))/\Below w.heap.size w w':=by
 refine bO Tryz.func48 rfl 20 rfl Yd (λA hs hd hb=>?_);have b0:A.eval (.tmp 0)=iI n nv:=hb 0 _ rfl;clear hb;refine aD (aG ?_);refine Zb (λw1 m1 k1 z1=>?_);refine Yx ?_;refine aC<|aD<|Yx ?_;refine aC<|aH<|aD<|Yx ?_;refine bI rfl Yw (λK hK=>bN _ 51 _ _ rfl Yf (BK _ _) (U6 n nv _) ?_);rintro e w2 ⟨ao,c,rfl,o2,k2⟩;have n2:=k2.size;have mn2:=m1.below k2;refine⟨_,rfl,hK _ _ ?_⟩;iterate 2 refine Yx ?_
 refine aC<|aK<|bX (λr a W=>∃(x:Nat) (v:Value),x<=24/\24-x<=r/\a.tmps.size=20/\a.defers=[]/\a.eval (.tmp 7)=.slice ao 24 c/\a.eval (.tmp 8)=.int .i64 ((24:Nat):Int)/\a.eval (.tmp 3)=v/\a.eval (.tmp 9)=.int .i64 (x:Int)/\W.ownsRow w1.heap.size 3 1 (.slice ao 24 c) 24 (rowV (iF (gL (nV n.ax n.rl))) 24)/\W.ownsRow w2.heap.size 5 1 v (8*x) (rowV (bF (vP n.ax n.rl)) (8*x))/\Below w.heap.size w W/\w2.heap.size<=W.heap.size) 24 ⟨0,_,Yo,Yo,YA,YB,Yf,Yf,Yf,Yf,o2,World.ownsRow_nil _ _ _ _,k1.trans (k2.mono Yo),Yo⟩ (λr B W hI=>?_);clear b0 hs hd;obtain⟨x,v,hx,hr,hs,hd,b7,b8,b3,b9,op,ov,kB,hW⟩:=hI;by_cases hin:x<24
 .refine aD (aG ?_);refine Yx ?_;refine aC<|aH<|bE Yf (aU ?_);refine aH (aK ?_);refine aD ?_;obtain⟨b,oo,rfl,hcell⟩:=sG op Yo;refine Yq (cK _ _ rfl (a:=⟨b,oo,none⟩) (n:=24) (cap:=c) Yb Yb (i:=x) rfl hin _) ?_;refine Yq (cO _ rfl Yf (by rw[add_at];exact hcell x hin)) ?_;refine Yx ?_;refine aC<|aI ?_;iterate 2 refine Yx ?_
  refine bI rfl Yw (λK hK=>dG _ 77 _ _ _ rfl Yf (aJ _ _) (PD _ _ _) (yT _ 8 _ (aNM hok x) Yc) ?_);rintro e w11 ⟨u,rfl,ou11,k11⟩;obtain⟨uo,uc,rfl,us,huc⟩:=iT ou11;have n11:=k11.size;have op11:=bK op k11;have ov11:=bK ov k11;refine⟨_,rfl,hK _ _ ?_⟩;refine bI rfl Yw (λK hK=>?_);refine⟨MC _ _ _ rfl w2.heap.size Yo v _ _ Yf ov11 _ 8 _ _ Yf us (λi _=>rfl) Yo ?_⟩;intro v12 w12 ov12 k12;rw[aDg] at ov12;have n12:=k12.size;have op12:=aMt op11 k12 (λ_ e=>(o2.lt _ e).2);refine hK _ _ ?_;clear hK K;refine Yx ?_;refine fD<|aI ?_;iterate 2 refine Yx ?_
  exact aS ⟨24-(x+1),Yo,x+1,_,Yo,Yo,YA,YB,Yb,Yb,Yf,(Ye rfl).trans YC,op12,ov12,(kB.trans (k11.mono Yo)).trans (k12.mono Yo),Yo⟩
 .refine aD (aG ?_);refine Yx ?_;obtain rfl:x=24:=Yo;refine aC<|aH<|bH Yf (bQ (dU ?_));refine aD ?_;obtain⟨vo,vc,rfl,hvc⟩:=dP ov;refine Yx ?_;refine bI rfl Yw (λK hK=>bN _ 88 _ _ rfl Yf (aCe _ _) (KC vo 192 vc (vP n.ax n.rl) _ (aAK n.ax n.rl) Yo (sG ov)) ?_);rintro e w11 ⟨rfl,k11⟩;have n11:=k11.size;refine⟨_,rfl,hK _ _ ?_⟩;refine Yx ?_;refine aC<|aW<|aP YB (dW rfl Yf) ⟨rfl,kB.trans (k11.mono Yo)⟩
end Go.Proofs.YthimcecbgpamdaaGreat
