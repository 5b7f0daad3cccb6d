import Derived.Test.YthimcecbgpamdaaGreatDoorNear25
set_option maxHeartbeats 2000000
namespace Go.Proofs.YthimcecbgpamdaaGreatDoor
open Go.RowKit
theorem KP(x y z:Value)(w:World):(callFunc 218 #[x,y,z]).run Tryz.prog w=.ok (.enter 218 #[x,y,z]) w:=Yh
theorem aAa(x y z:Value)(w:World):(callFunc 217 #[x,y,z]).run Tryz.prog w=.ok (.enter 217 #[x,y,z]) w:=Yh
theorem M8(x y z u v:Value)(w:World):(callFunc 179 #[x,y,z,u,v]).run Tryz.prog w=.ok (.enter 179 #[x,y,z,u,v]) w:=Yh
theorem SI(n:Nd)(mo:Option Addr)(L:List Lm)(many i k:Nat)(w:World)(hmr:MRd w mo L)(hi4:i<4)(hk:k<many):Calls Tryz.prog 217 #[aP (eX n.id n.fr L 2 (many:Int)) 0 4,.int .i64 (i:Int),.int .i64 (k:Int)] w λe w'=>e=.returned (.int .i64 (jD n (L.map Lm.m) i k many))/\Below w.heap.size w w':=by
 refine bB Tryz.func217 rfl 18 rfl Yd (λA hs hd hb=>?_);have b0:=hb 0 _ rfl;have b1:=hb 1 _ rfl;have b2:=hb 2 _ rfl;clear hb;rcases hfl:fL n.id n.fr L (i:Int) 2 (many:Int) with _|cm
 .have hho:eX n.id n.fr L 2 (many:Int) (0+i*1)=.slice none 0 0:=by unfold eX;rw[Nat.zero_add,Nat.mul_one,hfl]
  refine aD (aG ?_);refine Zb (λw1 m1 k1 z1=>?_);refine Yx ?_;refine aC<|aH<|aD<|Yx ?_;refine Yq (bQ _ _ _ _ rfl Tryz.underlying178 iT.size Yf Yf rfl hi4 _) ?_;refine Yq (aR _ _ rfl iT Yf m1 Yo hho) ?_;refine Yx ?_;refine Yq (bT (b:=true) _ _ rfl Yf (aI _ _) (Xt Yo) _) ?_;refine aC<|aT Yf ?_;refine aD<|Yx ?_;refine aC<|aN ?_;simp only[Nx,Exit.then];exact aK YB (bL rfl Yf) ⟨by rw[aFH hfl],k1⟩
 .have hho0:eX n.id n.fr L 2 (many:Int) (0+i*1)=lmV cm:=by unfold eX;rw[Nat.zero_add,Nat.mul_one,hfl]
  obtain⟨cmem,cfit⟩:=vF hfl;have clen:=uO cfit;obtain⟨ca,cmy,hy⟩:∃y,cm.ao=some y/\∀W',Below w.heap.size w W'->∀i,i<cm.m.L.length->W'.cell? (y.add i)=some (.int .i64 (gL cm.m.L i)):=by
   obtain⟨y,e,_⟩:=(hmr.2 cm cmem).at Yo;refine⟨y,e,λW' k=>?_⟩;obtain⟨y',e',hy'⟩:=((hmr.2 cm cmem).below k).at Yo;rw[e] at e';cases e';exact hy'
  obtain⟨mm,mo2,mc2⟩:=cm;dsimp only at cmy hy clen;subst cmy;have hho:eX n.id n.fr L 2 (many:Int) (0+i*1)=.slice (some ca) mm.L.length mc2:=hho0;refine aD (aG ?_);refine Zb (λw1 m1 k1 z1=>?_);refine Yx ?_;refine aC<|aH<|aD<|Yx ?_;refine Yq (bQ _ _ _ _ rfl Tryz.underlying178 iT.size Yf Yf rfl hi4 _) ?_;refine Yq (aR _ _ rfl iT Yf m1 Yo hho) ?_;refine Yx ?_;refine Yq (bT (b:=false) _ _ rfl Yf (aI _ _) (Xf Yo) _) ?_;refine aC<|aQ Yf (aS ?_);refine aD<|Yx ?_;refine Yq (bQ _ _ _ _ rfl Tryz.underlying178 iT.size Yf Yf rfl hi4 _) ?_;refine Yq (aR _ _ rfl iT Yf m1 Yo hho) ?_;refine Yx ?_;refine Yq (fQ _ _ rfl (a:=ca) (n:=mm.L.length) (cap:=mc2) Yf Yf (i:=k) rfl Yo _) ?_;refine Yq (fT _ rfl Yf (hy _ k1 k Yo)) ?_;refine Yx ?_;refine aC<|aN ?_;exact aK YB (bL rfl Yf) ⟨by rw[aFI hfl],k1⟩
def I6(I s:Nat)(T:Nat->Int):Nat->List Int
 |0=>[]
 |i+1=>I6 I s T i++if i=I\/i=s then [] else [T i]
theorem aJf(I s:Nat)(T:Nat->Int)(i:Nat):(I6 I s T i).length<=i:=by
 induction i with
 |zero=>exact Xr 0
 |succ i ih=>
  show (I6 I s T i++_).length<=_
  rw[List.length_append];split
  .show _+0<=_;omega
  .show _+1<=_;omega
variable{T:Nat->Int}
theorem QJ{I s i:Nat}(e:i=I\/i=s):I6 I s T (i+1)=I6 I s T i:=by
 show I6 I s T i++_=_
 rw[if_pos e,List.append_nil]
theorem aFG{I s i:Nat}(e1:i≠I)(e2:i≠s):I6 I s T (i+1)=I6 I s T i++[T i]:=by
 show I6 I s T i++_=_
 rw[if_neg (λc=>c.elim e1 e2)]
theorem aFF{I s:Nat}(hI:I<4)(hs:s<4)(e:I≠s):I6 I s T 4=[T (o1 I s),T (o2 I s)]:=by
 have:I=0\/I=1\/I=2\/I=3:=Yo;have:s=0\/s=1\/s=2\/s=3:=Yo;rcases ‹I=0\/_› with rfl|rfl|rfl|rfl<;>rcases ‹s=0\/_› with rfl|rfl|rfl|rfl<;>first|(exact absurd rfl e)|rfl
variable{a:Option Addr}{w:World}
theorem R3{B n c:Nat}{g:Nat->Value}{t:TypeId}(h:w.ownsRow B t 1 (.slice a n c) n (rowV g n)):Sr w a n c g:=by
 obtain⟨ao,cap,e,hs,_⟩:=kK h
 cases e
 exact hs
theorem yN(n:Nd)(mo:Option Addr)(L:List Lm)(I s:Nat)(h:Int)(k many:Nat)(w:World)(hI:n.id=(I:Int))(hI4:I<4)(hs4:s<4)(hk:k<many)(hh:R64 h)(hmr:MRd w mo L)(hRL:∀m,m∈L->∀i,R64 (gL m.m.L i)):Calls Tryz.prog 179 #[aP (eX n.id n.fr L 2 (many:Int)) 0 4,.int .i64 n.id,.int .i64 (s:Int),.int .i64 h,.int .i64 (k:Int)] w λe w'=>e=.returned (.int .i64 (xP n (L.map Lm.m) s h k many))/\Below w.heap.size w w':=by
 refine bB Tryz.func179 rfl 44 rfl Yd (λA hs hd hb=>?_);have b0:=hb 0 _ rfl;have b1:=hb 1 _ rfl;have b2:=hb 2 _ rfl;have b3:=hb 3 _ rfl;have b4:=hb 4 _ rfl;clear hb;refine aD (aG ?_);refine Zb (λw1 m1 k1 z1=>?_);refine Yx ?_;refine aC<|aH<|aD ?_;by_cases hs0:(s:Int)=n.id
 .refine Yp ?_;refine Yx ?_;refine Yq (bT (b:=true) _ _ rfl Yf Yf (Xt hs0) _) ?_;refine aC<|aT Yf ?_;refine aD ?_;iterate 2 refine Yx ?_
  refine aC<|aN ?_;simp only[Nx,Exit.then];refine aK YB (bL rfl Yf) ⟨?_,k1⟩;unfold xP;rw[if_pos hs0];rfl
 .refine Yp ?_;refine Yx ?_;refine Yq (bT (b:=false) _ _ rfl Yf Yf (Xf hs0) _) ?_;refine aC<|aQ Yf (aS ?_);refine aD<|Yx ?_;refine aC<|aH<|aD<|Yx ?_;refine aC<|aM<|cO (λq a W=>∃(i:Nat) (v:Value),i<=4/\4-i<=q/\a.tmps.size=44/\a.defers=[]/\a.eval (.tmp 1)=.int .i64 n.id/\a.eval (.tmp 2)=.int .i64 (s:Int)/\a.eval (.tmp 3)=.int .i64 h/\a.eval (.tmp 4)=.int .i64 (k:Int)/\a.eval (.tmp 5)=.pointer (some ⟨w.heap.size,0,none⟩)/\a.eval (.tmp 17)=.int .i64 (i:Int)/\a.eval (.tmp 11)=v/\Vh 178 W w.heap.size 4 4 (eX n.id n.fr L 2 (many:Int))/\W.ownsRow w1.heap.size 3 1 v (I6 I s (λi=>jD n (L.map Lm.m) i k many) i).length ((I6 I s (λi=>jD n (L.map Lm.m) i k many) i).map iV)/\Below w.heap.size w W/\w1.heap.size<=W.heap.size) 4 ⟨0,_,Yo,Yo,YA,YB,Yb,Yb,Yb,Yb,Yf,Yf,Yf,m1,World.ownsRow_nil _ _ _ _,k1,Yo⟩ (λq B W hI=>?_);clear b0 b1 b2 b3 b4 hs hd;obtain⟨i,v,hi,hr2,hs,hd,b1,b2,b3,b4,b5,b17,b11,mh,ov,kB,hW⟩:=hI;have hlen:=aJf I s (λi=>jD n (L.map Lm.m) i k many) i;by_cases hin:i<4
  .by_cases e1:i=I
   .refine aD (aG ?_);refine Yx ?_;refine aC<|aH (aT Yf (aS ?_));refine aH (aM ?_);refine aD ?_;iterate 2 refine Yx ?_
    refine aC<|aD ?_;iterate 2 refine Yx ?_
    refine Yq (dC (b:=false) _ _ rfl Yf Yf (Xf Yo) _) ?_;refine Yx ?_;iterate 3 refine Yu ?_
    refine Yq (aZ _ _ _ rfl Yf (aI _ _) _) ?_;refine aC<|aQ Yf (iU ?_);refine aJ ?_;iterate 2 refine Yx ?_
    exact bD ⟨4-(i+1),Yo,i+1,_,Yo,Yo,YA,YB,Yb,Yb,Yb,Yb,Yb,(Ye rfl).trans YC,Yb,mh,by rw[QJ Yo];exact ov,kB,Yo⟩
   .by_cases e2:i=s
    .refine aD (aG ?_);refine Yx ?_;refine aC<|aH (aT Yf (aS ?_));refine aH (aM ?_);refine aD ?_;iterate 2 refine Yx ?_
     refine aC<|aD ?_;iterate 2 refine Yx ?_
     refine Yq (dC (b:=true) _ _ rfl Yf Yf (Xt Yo) _) ?_;iterate 3 refine Yx ?_
     refine Yq (dC (b:=false) _ _ rfl Yf Yf (Xf Yo) _) ?_;refine Yq (aO _ _ _ rfl Yf Yf _) ?_;refine aC<|aQ Yf (iU ?_);refine aJ ?_;iterate 2 refine Yx ?_
     exact bD ⟨4-(i+1),Yo,i+1,_,Yo,Yo,YA,YB,Yb,Yb,Yb,Yb,Yb,(Ye rfl).trans YC,Yb,mh,by rw[QJ Yo];exact ov,kB,Yo⟩
    .refine aD (aG ?_);refine Yx ?_;refine aC<|aH (aT Yf (aS ?_));refine aH (aM ?_);refine aD ?_;iterate 2 refine Yx ?_
     refine aC<|aD ?_;iterate 2 refine Yx ?_
     refine Yq (dC (b:=true) _ _ rfl Yf Yf (Xt Yo) _) ?_;iterate 3 refine Yx ?_
     refine Yq (dC (b:=true) _ _ rfl Yf Yf (Xt Yo) _) ?_;refine Yq (aO _ _ _ rfl Yf Yf _) ?_;refine aC<|aT Yf ?_;refine aJ ?_;iterate 4 refine Yx ?_
     refine bJ rfl Yw (λK hK=>gT _ 217 _ _ _ _ rfl Yf Yf Yf (aAa _ _ _ _) (SI n mo L many i k _ (hmr.below kB) hin hk) ?_);rintro e w11 ⟨rfl,k11⟩;have n11:=k11.size;have mh11:=mh.below k11;have ov11:=bM ov k11;refine⟨_,rfl,hK _ _ ?_⟩;refine bJ rfl Yw (λK hK=>VP _ _ rfl Yf (λw12 m12 k12 z12=>hK _ _ ?_));have mh12:=mh11.below k12;have ov12:=bM ov11 k12;refine bJ rfl Yw (λK hK=>?_);refine⟨sG _ _ _ rfl w1.heap.size Yo v _ _ Yf ov12 _ 1 1 _ Yf (Or.inr ⟨_,rfl,λi hi=>by rw[add_at,Nat.zero_add];exact m12.cell hi⟩) (λi _=>rfl) Yo ?_⟩;intro v13 w13 ov13 k13;have n13:=k13.size;have mh13:=mh12.same (k13.block _ Yo);refine hK _ _ ?_;clear hK K;refine Yx ?_;refine fG<|aJ ?_;iterate 2 refine Yx ?_
     exact bD ⟨4-(i+1),Yo,i+1,_,Yo,Yo,YA,YB,Yb,Yb,Yb,Yb,Yb,(Ye rfl).trans YC,Yf,mh13,by rw[aFG Yo Yo,List.length_append,List.map_append];exact ov13,((kB.trans (k11.mono Yo)).trans (k12.mono Yo)).trans (k13.mono Yo),Yo⟩
  .refine aD (aG ?_);refine Yx ?_;obtain rfl:i=4:=Yo;refine aC<|aH (aQ Yf (bY (eY ?_)));refine aH ?_;have et:=aFF (T:=(λi=>jD n (L.map Lm.m) i k many)) hI4 hs4 (show I≠s by omega);rw[et,NK] at ov;obtain⟨ta,tc,rfl,htc⟩:=dY ov;obtain⟨y,rfl,hy⟩:∃y,ta=some y/\∀i,i<2->W.cell? (y.add i)=some (.int .i64 (gL [jD n (L.map Lm.m) (o1 I s) k many,jD n (L.map Lm.m) (o2 I s) k many] i)):=by
    rcases R3 ov with ⟨_,e,_⟩|⟨y,e,hc⟩
    .exact absurd (show (2:Nat)=0 from e) Yc
    .exact⟨y,e,λi hi=>hc i hi⟩
   have hS0:(λZ=>∀i,i<2->Z.cell? (y.add i)=some (.int .i64 (gL [jD n (L.map Lm.m) (o1 I s) k many,jD n (L.map Lm.m) (o2 I s) k many] i))) W.drew:=hy;have ez:W.drew.heap.size=W.heap.size:=rfl;refine eU (S:=λZ=>∀i,i<2->Z.cell? (y.add i)=some (.int .i64 (gL [jD n (L.map Lm.m) (o1 I s) k many,jD n (L.map Lm.m) (o2 I s) k many] i))) (.mv 0 (.mv 1 (.mv 2 (.rd 3 (.mv 4 (.mv 5 (.rd 6 (.go 7 (.mv 8 .fin))))))))) [7] Yl Yl ?_;iterate 2 refine Yj ?_
   refine Yk rfl (λ_=>fQ _ _ rfl (a:=y) (n:=2) (cap:=tc) Yf (aI _ _) (i:=0) rfl Yc _) ?_;refine Yr rfl hS0 (λ_ hS=>fT _ rfl Yf (hS 0 Yc)) ?_;refine Yj ?_;refine Yk rfl (λ_=>fQ _ _ rfl (a:=y) (n:=2) (cap:=tc) Yf (aI _ _) (i:=1) rfl Yc _) ?_;refine Yr rfl hS0 (λ_ hS=>fT _ rfl Yf (hS 1 Yc)) ?_;refine bR rfl rfl Yw (λK hK=>gT _ 218 _ _ _ _ rfl Yf Yf Yf (KP _ _ _ _) (FK h (jD n (L.map Lm.m) (o1 I s) k many) (jD n (L.map Lm.m) (o2 I s) k many) _ hh (XW hRL _ _ _) (XW hRL _ _ _)) ?_);rintro e w11 ⟨rfl,k11⟩;have n11:=k11.size;refine⟨_,rfl,hK _ _ (λh=>absurd h Yc) ?_⟩;refine Yj ?_;refine fI<|aN<|aK YB (bL rfl Yf) ⟨?_,(aY kB).trans (k11.mono Yo)⟩;unfold xP;rw[if_neg hs0,hI,Int.toNat_natCast]
theorem KS(x y:Value)(w:World):(callFunc 123 #[x,y]).run Tryz.prog w=.ok (.enter 123 #[x,y]) w:=Yh
theorem QW(w:World):(zeroValue 37).run Tryz.prog w=.ok (aP (λ_=>iV 0) 0 3) w:=Yl
theorem R5(g:Nat->Value)(h:Nat->Value):∀j,j<3->stP g 0 3 h j=h j:=λj hj=>by
 have:=mF g (o:=0) (n:=3) h hj
 rwa [Nat.zero_add] at this
variable{Q:Exit->Act->World->Prop}
theorem aCB{P:Program}{J:Act->World->Prop}{a:Act}{x y:Code}{id id2:Nat}(h:CodI P y Q a w):Nx P x (Exit.then J (Exit.inBlock id (Exit.inBlock id2 (Nx P y Q)))) (.exit id) a w:=QV h
def pU(d:Nat->Nat->Int)(j:Nat):Value:=iV (d (j/3) (j%3))
theorem aGn(n:Nd)(v:Value):∀j,j<12->ndF n v (0+39+j)=pU n.di j:=by grind [ndF,pU]
variable{x:Nat}
theorem FR(d:Nat->Nat->Int):aP (pU d) (x*3) 3=aP (λa=>iV (d x a)) 0 3:=by
 unfold aP pU
 congr 2
 refine List.map_congr_left (λj hj=>?_);have:=List.mem_range.1 hj;rw[show (x*3+j)/3=x by omega,show (x*3+j)%3=j by omega,Nat.zero_add]
def Y4(n:Nd)(l:List Ms)(m j:Nat):Value:=iV (if j<m then decG n l (j/3) (j%3) else n.di (j/3) (j%3))
theorem aGH(n:Nd)(l:List Ms):∀j,j<12->pU n.di j=Y4 n l (3*0) j:=λj _=>by unfold Y4 pU;rw[if_neg Yo]
theorem aGG(n:Nd)(l:List Ms){i:Nat}(hx:x<3):∀j,j<12->eQ (Y4 n l (3*i+x)) (0+i*3+x*1) (.int .i64 (xP n l i (n.di i x) (3*i+x) 12)) j=Y4 n l (3*i+(x+1)) j:=by
 intro j _;unfold eQ;rw[show 0+i*3+x*1=3*i+x by omega];by_cases e:j=3*i+x
 .rw[if_pos e];unfold Y4;rw[if_pos Yo,show j/3=i by omega,show j%3=x by omega];rfl
 .rw[if_neg e];unfold Y4;by_cases c:j<3*i+x
  .rw[if_pos c,if_pos Yo]
  .rw[if_neg c,if_neg Yo]
theorem aGD(n:Nd)(l:List Ms):∀j,j<12->Y4 n l (3*4) j=pU (decG n l) j:=λj hj=>by
 unfold Y4 pU;rw[if_pos Yo]
theorem VS(n:Nd)(nv:Value)(mo:Option Addr)(L:List Lm)(I:Nat)(w:World)(hok:NdOK n)(hI:n.id=(I:Int))(hI4:I<4)(hmr:MRd w mo L)(hRL:∀m,m∈L->∀i,R64 (gL m.m.L i)):Calls Tryz.prog 123 #[lS n nv,aP (eX n.id n.fr L 2 ((12:Nat):Int)) 0 4] w λe w'=>e=.returned (aP (pU (decG n (L.map Lm.m))) 0 12)/\Below w.heap.size w w':=by
 refine bB Tryz.func123 rfl 40 rfl Yd (λA hs hd hb=>?_);have b0:A.eval (.tmp 0)=lS n nv:=hb 0 _ rfl;have b1:A.eval (.tmp 1)=aP (eX n.id n.fr L 2 ((12:Nat):Int)) 0 4:=hb 1 _ rfl;clear hb;refine aD (aG ?_);refine Zb (λw1 m1 k1 z1=>?_);refine Zb (λw2 m2 k2 z2=>?_);have mn2:=m1.below k2;refine Za aCC (λw3 m3 k3 z3=>?_);have mn3:=mn2.below k3;have mh3:=m2.below k3;refine aC<|aD<|Yx ?_;refine Yq (cZ (h:=pU n.di) _ _ rfl sZ Yf mn3 Yc (aGn n nv)) ?_;refine Za aCC (λw4 m4 k4 z4=>?_);have mn4:=mn3.below k4;have mh4:=mh3.below k4;have mr4:=m3.below k4;refine Zs sZ m4 (λj hj=>rfl) (λw5 mm5 k5 z5=>?_);have ml5:=Vh.congr mm5 (fH _ _);have mn5:=mn4.kept k5 Yo;have mh5:=mh4.kept k5 Yo;have mr5:=mr4.kept k5 Yo;refine aC<|aH<|aD<|Yx ?_;refine Yq (cZ (h:=pU n.di) _ _ rfl sZ Yf mn5 Yc (aGn n nv)) ?_;refine Yx ?_;refine aC<|aM<|cO (λq a W=>∃i:Nat,i<=4/\4-i<=q/\a.tmps.size=40/\a.defers=[]/\a.eval (.tmp 2)=.pointer (some ⟨w.heap.size,0,none⟩)/\a.eval (.tmp 3)=.pointer (some ⟨w1.heap.size,0,none⟩)/\a.eval (.tmp 4)=.pointer (some ⟨w2.heap.size,0,none⟩)/\a.eval (.tmp 5)=.pointer (some ⟨w3.heap.size,0,none⟩)/\a.eval (.tmp 13)=aP (pU n.di) 0 12/\a.eval (.tmp 14)=.int .i64 (i:Int)/\Vh 43 W w.heap.size 74 74 (ndF n nv)/\Vh 178 W w1.heap.size 4 4 (eX n.id n.fr L 2 ((12:Nat):Int))/\Vh 38 W w2.heap.size 12 12 (λ_=>iV 0)/\Vh 38 W w3.heap.size 12 12 (Y4 n (L.map Lm.m) (3*i))/\Below w.heap.size w W/\w5.heap.size<=W.heap.size) 4 ⟨0,Yo,Yo,YA,YB,Yf,Yf,Yf,Yf,Yf,Yf,mn5,mh5,mr5,Vh.congr ml5 (aGH n (L.map Lm.m)),aF ((((k1).trans (k2.mono Yo)).trans (k3.mono Yo)).trans (k4.mono Yo)) k5 Yo Yo,Yo⟩ (λq B W hI2=>?_);clear b0 b1 hs hd;obtain⟨i,hi,hr2,hs,hd,b2,b3,b4,b5,b13,b14,mn,mh,mr,ml,kB,hW⟩:=hI2;by_cases hin:i<4
 .refine aD (aG ?_);refine Yx ?_;refine aC<|aH (aT Yf (aS ?_));refine aH (aM ?_);refine aD<|Yx ?_;refine Yq ((jQ _ _ _ _ rfl Tryz.underlying38 lV Yb rfl Yb rfl hin _).trans (by rw[FR n.di])) ?_;refine Za QW (λw11 m11 k11 z11=>?_);have mn11:=mn.below k11;have mh11:=mh.below k11;have mr11:=mr.below k11;have ml11:=ml.below k11;refine Yx ?_;refine Zs lV m11 (λj hj=>rfl) (λw12 mm12 k12 z12=>?_);have mw12:=Vh.congr mm12 (R5 _ _);have mn12:=mn11.kept k12 Yo;have mh12:=mh11.kept k12 Yo;have mr12:=mr11.kept k12 Yo;have ml12:=ml11.kept k12 Yo;refine aC<|aD<|Yq (aV _ _ rfl lV Yf mw12 Yc) ?_;refine Yx ?_;refine aC<|aM<|cO (λq a W=>∃x:Nat,x<=3/\3-x<=q/\a.tmps.size=40/\a.defers=[]/\a.eval (.tmp 2)=.pointer (some ⟨w.heap.size,0,none⟩)/\a.eval (.tmp 3)=.pointer (some ⟨w1.heap.size,0,none⟩)/\a.eval (.tmp 4)=.pointer (some ⟨w2.heap.size,0,none⟩)/\a.eval (.tmp 5)=.pointer (some ⟨w3.heap.size,0,none⟩)/\a.eval (.tmp 13)=aP (pU n.di) 0 12/\a.eval (.tmp 14)=.int .i64 (i:Int)/\a.eval (.tmp 6)=.int .i64 (i:Int)/\a.eval (.tmp 18)=aP (λa=>iV (n.di i a)) 0 3/\a.eval (.tmp 19)=.int .i64 (x:Int)/\Vh 43 W w.heap.size 74 74 (ndF n nv)/\Vh 178 W w1.heap.size 4 4 (eX n.id n.fr L 2 ((12:Nat):Int))/\Vh 38 W w2.heap.size 12 12 (λ_=>iV 0)/\Vh 38 W w3.heap.size 12 12 (Y4 n (L.map Lm.m) (3*i+x))/\Below w.heap.size w W/\w5.heap.size<=W.heap.size) 3 ⟨0,Yo,Yo,YA,YB,Yb,Yb,Yb,Yb,Yb,Yb,Yf,Yf,Yf,mn12,mh12,mr12,ml12,aF (kB.trans (k11.mono Yo)) k12 Yo Yo,Yo⟩ (λq3 B3 W3 hI3=>?_);clear b2 b3 b4 b5 b13 b14 hs hd mn mh mr ml;obtain⟨x,hx,hr3,hs,hd,b2,b3,b4,b5,b13,b14,b6,b18,b19,mn,mh,mr,ml,kB3,hW3⟩:=hI3;by_cases hin3:x<3
  .refine aD (aG ?_);refine Yx ?_;refine aC<|aH (aT Yf (aS ?_));refine aH (aM ?_);refine aD<|Yx ?_;refine Yq (jP _ _ _ _ rfl Tryz.underlying37 iZ Yb Yb rfl hin3 _) ?_;iterate 2 refine Yx ?_
   refine aC ?_;have hS0:(λW=>Vh 43 W w.heap.size 74 74 (ndF n nv)/\Vh 178 W w1.heap.size 4 4 (eX n.id n.fr L 2 ((12:Nat):Int))) W3.drew:=⟨mn,mh⟩;have mn0:Vh _ W3.drew _ _ _ _:=mn;have mh0:Vh _ W3.drew _ _ _ _:=mh;have mr0:Vh _ W3.drew _ _ _ _:=mr;have ml0:Vh _ W3.drew _ _ _ _:=ml;have ez:W3.drew.heap.size=W3.heap.size:=rfl;have ekx:((i:Int)*3+(x:Int))=((3*i+x:Nat):Int):=Yo;refine eU (S:=λW=>Vh 43 W w.heap.size 74 74 (ndF n nv)/\Vh 178 W w1.heap.size 4 4 (eX n.id n.fr L 2 ((12:Nat):Int))) (.mv 0 (.mv 1 (.rd 2 (.mv 3 (.rd 4 (.mv 5 (.mv 6 (.mv 7 (.mv 8 (.mv 9 (.mv 10 (.mv 12 (.go 11 (.mv 13 (.go 14 .fin))))))))))))))) [14] Yl Yl ?_;iterate 2 refine Yj ?_
   refine Yr rfl hS0 (λ_ hS=>aV _ _ rfl DL Yb hS.2 Yc) ?_;refine Yk rfl (λ_=>NF rfl Yb _) ?_;refine Yr rfl hS0 (λ_ hS=>aR _ _ rfl iZ Yf hS.1 Yc rfl) ?_;iterate 3 refine Yj ?_
   refine Yk rfl (λ_=>BI _ _ rfl Yf (aI _ _) Yo Yo _) ?_;refine Yj ?_;refine Yk rfl (λ_=>jO _ _ rfl Yf Yf Yo Yo _) ?_;refine Yk rfl (λ_=>bQ _ _ _ _ rfl Tryz.underlying38 lV.size Yb Yf rfl hin _) ?_;refine bR rfl rfl Yw (λK hK=>BV _ 179 _ _ _ _ _ _ rfl Yf Yf Yf Yf ((Ye rfl).trans (by rw[ekx])) (M8 _ _ _ _ _ _) (yN n mo L I i (n.di i x) (3*i+x) 12 _ hI hI4 hin Yo (hok.di i x) (hmr.below (aY kB3)) hRL) ?_);rintro e w21 ⟨rfl,k21⟩;have n21:=k21.size;have mn21:=mn0.below k21;have mh21:=mh0.below k21;have mr21:=mr0.below k21;have ml21:=ml0.below k21;have hS21:(λW=>Vh 43 W w.heap.size 74 74 (ndF n nv)/\Vh 178 W w1.heap.size 4 4 (eX n.id n.fr L 2 ((12:Nat):Int))) w21:=⟨mn21,mh21⟩;refine⟨_,rfl,hK _ _ (λ_ _=>hS21) ?_⟩;refine Yk rfl (λ_=>bQ _ _ _ _ rfl Tryz.underlying37 iZ.size Yf Yf rfl hin3 _) ?_;refine dS rfl Yw (λK hK=>kL _ _ _ _ rfl iZ Yf Yf ml21 Yo rfl rfl rfl (λw22 mm22 k22 z22=>hK _ (λh=>absurd h Yc) ?_));have ml22:=Vh.congr mm22 (aGG n (L.map Lm.m) hin3);have mn22:=mn21.kept k22 Yo;have mh22:=mh21.kept k22 Yo;have mr22:=mr21.kept k22 Yo;refine vN<|aJ ?_;iterate 2 refine Yx ?_
   exact bD ⟨3-(x+1),Yo,x+1,Yo,Yo,YA,YB,Yb,Yb,Yb,Yb,Yb,Yb,Yb,Yb,(Ye rfl).trans YC,mn22,mh22,mr22,ml22,aF ((aY kB3).trans (k21.mono Yo)) k22 Yo Yo,Yo⟩
  .refine aD (aG ?_);refine Yx ?_;obtain rfl:x=3:=Yo;refine aC<|aH (aQ Yf (bY (aCB ?_)));refine aJ ?_;iterate 2 refine Yx ?_
   exact bD ⟨4-(i+1),Yo,i+1,Yo,Yo,YA,YB,Yb,Yb,Yb,Yb,Yb,(Ye rfl).trans YC,mn,mh,mr,ml,kB3,hW3⟩
 .refine aD (aG ?_);refine Yx ?_;obtain rfl:i=4:=Yo;have ml:=Vh.congr ml (aGD n (L.map Lm.m));refine aC<|aH (aQ Yf (bY (eY ?_)));refine aD<|Yq (aV _ _ rfl sZ Yb ml Yc) ?_;refine Zs sZ mr (λj hj=>rfl) (λw11 mm11 k11 z11=>?_);have mr11:=Vh.congr mm11 (fH _ _);have mn11:=mn.kept k11 Yo;have mh11:=mh.kept k11 Yo;have ml11:=ml.kept k11 Yo;refine aC<|aN (aK YB (qV rfl Yb sZ mr11 (Xr _)) ⟨rfl,aF kB k11 Yo Yo⟩)
end Go.Proofs.YthimcecbgpamdaaGreatDoor
