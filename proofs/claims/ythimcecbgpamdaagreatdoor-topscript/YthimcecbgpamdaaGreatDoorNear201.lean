import Derived.Test.YthimcecbgpamdaaGreatDoorNear126
import Derived.Test.YthimcecbgpamdaaGreatDoorNear96
namespace Go.Proofs.YthimcecbgpamdaaGreatDoor
open Go.RowKit
theorem RU(x y z:Value)(w:World):(callFunc 124 #[x,y,z]).run Tryz.prog w=.ok (.enter 124 #[x,y,z]) w:=Yh
theorem KR(x:Value)(w:World):(callFunc 180 #[x]).run Tryz.prog w=.ok (.enter 180 #[x]) w:=Yh
theorem MO(l:List Int)(w:World)(ao:Option Addr)(cap:Nat)(hl:l.length<=4)(hc:l.length<=cap)(hR:∀x,x∈l->R64 x)(hs:Sr w ao l.length cap (iF (gL l))):Calls Tryz.prog 180 #[.slice ao l.length cap] w λe w'=>∃E,e=.returned (.tuple #[.int .i64 (pJ l),.int .i64 E])/\Below w.heap.size w w':=by
 refine (FQ ao l.length cap (gL l) w (vJ hR) Yo hc hs).mono ?_;rintro e w' ⟨m,E,hm,rfl,k⟩;have em:m=pJ l:=by
  rcases hm with ⟨h1,h2,_,h4⟩|⟨h1,_,h3⟩
  .rw[GL h1 h2 h4,aLb]
  .have:l=[]:=List.eq_nil_of_length_eq_zero Yo;rw[h3,this];rfl
 rw[em];exact⟨E,rfl,k⟩
set_option maxHeartbeats 2000000 in
theorem aFQ(d:Nat->Nat->Int)(b:Nat->Bool)(a:Nat)(w:World)(ha:a<3)(hd4:∀s,R64 (d s a)):Calls Tryz.prog 124 #[aP (pU d) 0 12,aP (tF b) 0 4,.int .i64 (a:Int)] w λe w'=>e=.returned (.int .i64 (pJ (jI b (λs=>d s a) 4)))/\Below w.heap.size w w':=by
 refine bB Tryz.func124 rfl 33 rfl Yd (λA hs hd hb=>?_);have b0:=hb 0 _ rfl;have b1:=hb 1 _ rfl;have b2:=hb 2 _ rfl;clear hb;refine aD (aG ?_);refine Zb (λw1 m1 k1 z1=>?_);refine Zb (λw2 m2 k2 z2=>?_);have ma2:=m1.below k2;refine Yx ?_;refine aC<|aD<|Yx ?_;refine aC<|aH<|aD<|Yq (aV _ _ rfl sZ Yf ma2 Yc) ?_;refine Yx ?_;refine aC<|aM<|cO (λq A W=>∃(i:Nat) (v:Value),i<=4/\4-i<=q/\A.tmps.size=33/\A.defers=[]/\A.eval (.tmp 2)=.int .i64 (a:Int)/\A.eval (.tmp 4)=.pointer (some ⟨w1.heap.size,0,none⟩)/\A.eval (.tmp 12)=aP (pU d) 0 12/\A.eval (.tmp 13)=.int .i64 (i:Int)/\A.eval (.tmp 7)=v/\Vh 33 W w1.heap.size 4 4 (tF b)/\W.ownsRow w2.heap.size 3 1 v (jI b (λs=>d s a) i).length ((jI b (λs=>d s a) i).map iV)/\Below w.heap.size w W/\w2.heap.size<=W.heap.size) 4 ⟨0,_,Yo,Yo,YA,YB,Yb,Yf,Yf,Yf,Yf,m2,World.ownsRow_nil _ _ _ _,k1.trans (k2.mono Yo),Yo⟩ (λq B W hI2=>?_);clear b0 b1 b2 hs hd;obtain⟨i,v,hi,hr2,hs,hd,b2,b4,b12,b13,b7,mb,ov,kB,hW⟩:=hI2;have hlen:=aDI b (λs=>d s a) i;by_cases hin:i<4
 .rcases hb:b i with _|_
  .refine aD (aG ?_);refine Yx ?_;refine aC<|aH (aT Yf (aS ?_));refine aH (aM ?_);refine aD<|Yx ?_;refine Yq ((jQ _ _ _ _ rfl Tryz.underlying38 lV Yb rfl Yb rfl hin _).trans (by rw[FR d])) ?_;refine Za QW (λw11 m11 k11 z11=>?_);have mb11:=mb.below k11;have ov11:=bM ov k11;refine Yx ?_;refine Zs lV m11 (λj hj=>rfl) (λw12 mm12 k12 z12=>?_);have mw12:=Vh.congr mm12 (R5 _ _);have mb12:=mb11.kept k12 Yo;have ov12:=bN ov11 k12 (λe=>by have e2:=(ov.lt _ e).2;omega);refine aC<|aD<|Yx ?_;refine Yq (bQ _ _ _ _ rfl Tryz.underlying33 tX.size Yb Yf rfl hin _) ?_;refine Yq (aR (v:=.bool false) _ _ rfl tX Yf mb12 Yo (by unfold tF;rw[show 0+i*1=i by omega,hb])) ?_;refine aC<|aQ Yf (iU ?_);refine aJ ?_;iterate 2 refine Yx ?_
   exact bD ⟨4-(i+1),Yo,i+1,_,Yo,Yo,YA,YB,Yb,Yb,Yb,(Ye rfl).trans YC,Yb,mb12,by rw[aMA hb];exact ov12,aF (kB.trans (k11.mono Yo)) k12 Yo Yo,Yo⟩
  .refine aD (aG ?_);refine Yx ?_;refine aC<|aH (aT Yf (aS ?_));refine aH (aM ?_);refine aD<|Yx ?_;refine Yq ((jQ _ _ _ _ rfl Tryz.underlying38 lV Yb rfl Yb rfl hin _).trans (by rw[FR d])) ?_;refine Za QW (λw11 m11 k11 z11=>?_);have mb11:=mb.below k11;have ov11:=bM ov k11;refine Yx ?_;refine Zs lV m11 (λj hj=>rfl) (λw12 mm12 k12 z12=>?_);have mw12:=Vh.congr mm12 (R5 _ _);have mb12:=mb11.kept k12 Yo;have ov12:=bN ov11 k12 (λe=>by have e2:=(ov.lt _ e).2;omega);refine aC<|aD<|Yx ?_;refine Yq (bQ _ _ _ _ rfl Tryz.underlying33 tX.size Yb Yf rfl hin _) ?_;refine Yq (aR (v:=.bool true) _ _ rfl tX Yf mb12 Yo (by unfold tF;rw[show 0+i*1=i by omega,hb])) ?_;refine aC<|aT Yf ?_;refine aJ ?_;iterate 2 refine Yx ?_
   refine Yq (bQ _ _ _ _ rfl Tryz.underlying37 iZ.size Yf Yf rfl ha _) ?_;refine Yq (aR (v:=.int .i64 (d i a)) _ _ rfl iZ Yf mw12 Yo (by show iV (d i (0+a*1))=_;rw[show 0+a*1=a by omega];rfl)) ?_;refine bJ rfl Yw (λK hK=>VP _ _ rfl Yf (λw13 m13 k13 z13=>hK _ _ ?_));have mb13:=mb12.below k13;have mw13:=mw12.below k13;have ov13:=bM ov12 k13;refine bJ rfl Yw (λK hK=>?_);refine⟨sG _ _ _ rfl w2.heap.size Yo v _ _ Yf ov13 _ 1 1 _ Yf (Or.inr ⟨_,rfl,λi hi=>by rw[add_at,Nat.zero_add];exact m13.cell hi⟩) (λi _=>rfl) Yo ?_⟩;intro v14 w14 ov14 k14;have n14:=k14.size;have mb14:=mb13.same (k14.block _ Yo);refine hK _ _ ?_;clear hK K;refine Yx ?_;refine fG<|aJ ?_;iterate 2 refine Yx ?_
   exact bD ⟨4-(i+1),Yo,i+1,_,Yo,Yo,YA,YB,Yb,Yb,Yb,(Ye rfl).trans YC,Yf,mb14,by rw[aMB hb,List.length_append,List.map_append];exact ov14,((aF (kB.trans (k11.mono Yo)) k12 Yo Yo).trans (k13.mono Yo)).trans (k14.mono Yo),Yo⟩
 .refine aD (aG ?_);refine Yx ?_;obtain rfl:i=4:=Yo;refine aC<|aH (aQ Yf (bY (eY ?_)));rw[NK] at ov;obtain⟨ta,tc,rfl,htc⟩:=dY ov;refine aD<|Yx ?_;refine bJ rfl Yw (λK hK=>aX _ 180 _ _ rfl Yf (KR _ _) (MO (jI b (λs=>d s a) 4) _ ta tc Yo htc (λx hx=>AZ hd4 4 x hx) (R3 ov)) ?_);rintro e w11 ⟨E,rfl,k11⟩;have n11:=k11.size;refine⟨_,rfl,hK _ _ ?_⟩;iterate 5 refine Yx ?_
  refine aC<|aD ?_;iterate 2 refine Yx ?_
  refine aC ?_;exact aN (aK YB (bL rfl Yf) ⟨rfl,kB.trans (k11.mono Yo)⟩)
structure PkOK (ax:Nat->St):Prop where
 ax:∀a,(ax a).Ok
theorem aIo(ax:Nat->St)(r:Rl):∀i,vT ax r i<256:=λi=>by unfold vT bt;omega
end Go.Proofs.YthimcecbgpamdaaGreatDoor
