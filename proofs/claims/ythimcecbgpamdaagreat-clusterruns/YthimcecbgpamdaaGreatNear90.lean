import Derived.Test.YthimcecbgpamdaaGreatNear172
set_option maxHeartbeats 2000000
namespace Go.Proofs.YthimcecbgpamdaaGreat
open Go.RowKit
section
variable {f:Operand->Value} {o:Oper}
theorem BF(ho:o.op=.build 37 #[])(w:World):(execOp f o).run Tryz.prog w=.ok (.value (aP (ndF bX (.slice none 0 0)) 0 74)) w:=by
 unfold execOp;rw[ho];go_simp
 kernel_rfl
theorem I8(a b c:Operand)(ho:o.op=.build 37 #[(0,a),(2,b),(4,c)]){id:Int}{t:Tn}{r:Rl}(h0:f a=.int .i64 id)(h1:f b=aP (jA t) 0 4)(h2:f c=fO r)(w:World):(execOp f o).run Tryz.prog w=.ok (.value (aP (ndF { bX with id:=id,tn:=t,rl:=r } (.slice none 0 0)) 0 74)) w:=by
 have h1':f b=.agg #[.int .i64 t.Dt,.int .i64 t.Q,.int .i64 t.R,.int .i64 t.G]:=h1;unfold fO at h2;unfold execOp;rw[ho];simp only[List.map_toArray,List.map_cons,List.map_nil];rw[h0,h1',h2];clear h0 h1 h1' h2 ho;change _=_
 kernel_rfl
end
theorem EH(w:World):Calls Tryz.prog 55 #[.int .i64 0] w λe w'=>e=.returned (aP (dP St.beg0) 0 7)/\Below w.heap.size w w':=by
 go_enter Tryz.func55,Tryz.ntmps55
 go_wp2_with fail
 refine bodyPost_ret (v:=aP (dP St.beg0) 0 7) (by simp[results,Tryz.results55,go_sem];rfl) rfl ⟨rfl,?_⟩;exact ((Below.refl _ _).alloc (Xr _) _).alloc (by rw[dK];omega) _
theorem BI:Many Tryz.prog 23 4:=Many.of _ Tryz.underlying23 rfl Yl
theorem KH(n:Nd)(v:Value):∀j,j<4->ndF n v (0+2+j)=jA n.tn j:=by
 intro j hj;unfold ndF;rw[if_neg Yo,if_pos Yo,show 0+2+j-2=j by omega]
theorem EF:aMW 54:=by
 intro w;obtain⟨w1,e1,m1,k1,z1⟩:=rC w fH;have E1:=aB e1;have M1:=aB m1;have K1:=aB k1;clear e1 m1 k1 z1;go_enter Tryz.func54,Tryz.ntmps54
 unfold fH at E1;dsimp only at E1;go_wp2_with (refine iJ _ rfl (.tmp 0) (.tmp 2) rfl rfl (r:=beginR) rfl (by rw[<-aA E1];exact aA M1) rfl ?_)
 intro w5 m5 k5;rw[<-aA E1] at k5;have K5:=aB (aF (aA K1) k5 (Xr _) (aA K1).size);clear k5;go_wp2_with fail
 have p0:=m5.inn (i:=0) Yo;have p1:=m5.inn (i:=1) Yo;have p2:=m5.inn (i:=2) Yo;have p3:=m5.inn (i:=3) Yo;have p4:=m5.mis (i:=0) Yo;have p5:=m5.mis (i:=1) Yo;have p6:=m5.mis (i:=2) Yo;have p7:=m5.mis (i:=3) Yo;have p8:=m5.joi (i:=0) Yo;have p9:=m5.joi (i:=1) Yo;have p10:=m5.joi (i:=2) Yo;have p11:=m5.joi (i:=3) Yo;refine bodyPost_ret (v:=fO beginR) (by unfold fO;simp[results,Tryz.results54,go_sem,p0,p1,p2,p3,p4,p5,p6,p7,p8,p9,p10,p11]) rfl ⟨rfl,aA K5⟩
theorem XR:aLC 91:=by
 intro r w;obtain⟨w1,e1,m1,k1,z1⟩:=rC w r;have E1:=aB e1;have M1:=aB m1;have K1:=aB k1;clear e1 m1 k1 z1;unfold fO;go_enter Tryz.func91,Tryz.ntmps91
 go_wp2_with fail
 rw[<-aA E1]
 go_loopw [3,4] (λns is wr=>w1=wr/\∃i:Nat,is=.int .i64 i/\i<=4/\ns=.int .i64 (cn r.I i:Nat)) (λ_ is _=>4-(intOf is).toNat)
 case atStart=>exact⟨rfl,0,rfl,Yo,rfl⟩
 case round=>
  obtain⟨rfl,i,rfl,hi,rfl⟩:=hrel;have hn:cn r.I i<=i:=wP _ _;by_cases hin:i<4
  .have hin':(i:Int)<4:=Yo;have ci:=(aA M1).inn hin;have S:=aB (show cn r.I (i+1)=cn r.I i+if r.I i=true then 1 else 0 from rfl)
   cases hb:r.I i with
   |true=>
    rw[hb] at ci;have T:=aB (show cn r.I (i+1)=cn r.I i+1 by rw[aA S,hb,if_pos rfl]);go_wp2_with fail
    go_roundw
    case rel=>exact⟨trivial,i+1,by go_num,Yo,by rw[aA T];go_num⟩
    case measure=>simp[intOf]<;>omega
   |false=>
    rw[hb] at ci;have T:=aB (show cn r.I (i+1)=cn r.I i by rw[aA S,hb,if_neg Yc];rfl);go_wp2_with fail
    go_roundw
    case rel=>exact⟨trivial,i+1,by go_num,Yo,by rw[aA T]⟩
    case measure=>simp[intOf]<;>omega
  .have e9:i=4:=Yo;subst e9;rw[show ((4:Nat):Int)=4 from rfl];go_wp2_with fail
   go_ret
   exact⟨rfl,aA K1⟩
theorem KQ:aML 90:=by
 intro r w _;obtain⟨w1,e1,m1,k1,z1⟩:=rC w r;have E1:=aB e1;have M1:=aB m1;have K1:=aB k1;clear e1 m1 k1 z1;unfold fO;go_enter Tryz.func90,Tryz.ntmps90
 go_wp2_with fail
 rw[<-aA E1]
 go_loopw [3] (λis wr=>w1=wr/\∃i:Nat,is=.int .i64 i/\i<=4/\∀j,j<i->gd r j=true) (λis _=>4-(intOf is).toNat)
 case atStart=>exact⟨rfl,0,rfl,Yo,λj h=>absurd h Yo⟩
 case round=>
  obtain⟨rfl,i,rfl,hi,hg⟩:=hrel;have HG:=aB hg;clear hg;by_cases hin:i<4
  .have hin':(i:Int)<4:=Yo;have ci:=(aA M1).inn hin;have cm:=(aA M1).mis hin;have cj:=(aA M1).joi hin;have NX:=aB (λh:gd r i=true=>show ∀j,j<i+1->gd r j=true from λj hj=>by
    by_cases e:j=i
    .rw[e];exact h
    .exact aA HG j Yo)
   cases hb:r.I i with
   |true=>
    have G:=aB (gd_in hb);rw[hb] at ci;obtain⟨m,em⟩:∃m,r.M i=m:=⟨_,rfl⟩;obtain⟨t,et⟩:∃t,r.J i=t:=⟨_,rfl⟩;rw[em] at cm G;rw[et] at cj G;clear em et hb;by_cases h1:m<0
    .have N:=aB (show lH r=false from xI hin (by cases e:gd r i with|false=>rfl|true=>have:=(aA G).1 e;omega));have d1:decide (m<0)=true:=Xt h1;go_wp2_with fail
     go_ret
     exact⟨by rw[aA N];rfl,aA K1⟩
    .have d1:decide (m<0)=false:=Xf h1;by_cases h2:2<m
     .have N:=aB (show lH r=false from xI hin (by cases e:gd r i with|false=>rfl|true=>have:=(aA G).1 e;omega));have d2:decide (2<m)=true:=Xt h2;go_wp2_with fail
      go_ret
      exact⟨by rw[aA N];rfl,aA K1⟩
     .have d2:decide (2<m)=false:=Xf h2;by_cases h3:t=0
      .have Y:=aB (aA NX ((aA G).2 ⟨Yo,Yo,h3⟩));subst h3;go_wp2_with fail
       go_roundw
       case rel=>exact⟨trivial,i+1,by go_num,Yo,aA Y⟩
       case measure=>simp[intOf]<;>omega
      .have N:=aB (show lH r=false from xI hin (by cases e:gd r i with|false=>rfl|true=>have:=(aA G).1 e;omega));have d3:(t !=0)=true:=by simp[h3]
       go_wp2_with fail
       go_ret
       exact⟨by rw[aA N];rfl,aA K1⟩
   |false=>
    have G:=aB (rW hb);rw[hb] at ci;obtain⟨m,em⟩:∃m,r.M i=m:=⟨_,rfl⟩;obtain⟨t,et⟩:∃t,r.J i=t:=⟨_,rfl⟩;rw[em] at cm G;rw[et] at cj G;clear em et hb;by_cases h1:m=0
    .subst h1;by_cases h2:t<0
     .have N:=aB (show lH r=false from xI hin (by cases e:gd r i with|false=>rfl|true=>have:=(aA G).1 e;omega));have d2:decide (t<0)=true:=Xt h2;go_wp2_with fail
      go_ret
      exact⟨by rw[aA N];rfl,aA K1⟩
     .have d2:decide (t<0)=false:=Xf h2;by_cases h3:3<=t
      .have N:=aB (show lH r=false from xI hin (by cases e:gd r i with|false=>rfl|true=>have:=(aA G).1 e;omega));have d3:decide (3<=t)=true:=Xt h3;go_wp2_with fail
       go_ret
       exact⟨by rw[aA N];rfl,aA K1⟩
      .have Y:=aB (aA NX ((aA G).2 ⟨rfl,Yo,Yo⟩));have d3:decide (3<=t)=false:=Xf h3;go_wp2_with fail
       go_roundw
       case rel=>exact⟨trivial,i+1,by go_num,Yo,aA Y⟩
       case measure=>simp[intOf]<;>omega
    .have N:=aB (show lH r=false from xI hin (by cases e:gd r i with|false=>rfl|true=>have:=(aA G).1 e;omega));have d1:(m !=0)=true:=by simp[h1]
     go_wp2_with fail
     go_ret
     exact⟨by rw[aA N];rfl,aA K1⟩
  .have e9:i=4:=Yo;subst e9;rw[show ((4:Nat):Int)=4 from rfl];go_wp2_with fail
   go_ret
   exact⟨by rw[uX.2 (aA HG)];rfl,aA K1⟩
theorem BA(w:World):(callFunc 54 #[]).run Tryz.prog w=.ok (.enter 54 #[]) w:=Yh
theorem JJ(x:Value)(w:World):(callFunc 55 #[x]).run Tryz.prog w=.ok (.enter 55 #[x]) w:=Yh
def xR(x k:Nat):St:=if k<x then St.beg0 else St.nil'
theorem J7:xR 0=bX.ax:=by funext k;unfold xR;rw[if_neg Yo];rfl
theorem U6{x:Nat}:(λk=>if k=x then St.beg0 else xR x k)=xR (x+1):=by grind [xR]
def zJ(id:Int)(t:Tn)(ax:Nat->St):Nd:=⟨id,0,t,ax,beginR,λ_ _=>0,λ_=>0,λ_ _=>0,λ_=>0,0,0,false,[]⟩
theorem E9{id:Int}{t:Tn}{v:Value}:ndF (zJ id t (xR 3)) v=ndF (zJ id t (λ_=>St.beg0)) v:=by unfold ndF zJ xR;grind
def aLX(fn:Nat):Prop:=∀(id:Int) (t:Tn) (w:World),R64 id->t.Ok->
 Calls Tryz.prog fn #[.int .i64 id,aP (jA t) 0 4] w λe w'=>∃a' c',e=.returned (.tuple #[iP (iQ id t) (.slice a' (iQ id t).vA.length c'),.int .i64 (xX id)])/\pY w.heap.size w' (iQ id t) a' c'/\Below w.heap.size w w'
theorem IK:aLX 29:=by
 intro id t w _ _;refine bO Tryz.func29 rfl 28 rfl Yd (λA hs hd hb=>?_);have b0:A.eval (.tmp 0)=.int .i64 id:=hb 0 _ rfl;have b1:A.eval (.tmp 1)=aP (jA t) 0 4:=hb 1 _ rfl;clear hb;refine aD (aG ?_);refine Zb (λw1 m1 k1 z1=>?_);refine Za lC (λw2 m2 k2 z2=>?_);have mt2:=m1.below k2;refine Yx ?_;refine aC<|aH<|aD ?_;by_cases h1:id<0
 .have e1:iQ id t=bX:=by unfold iQ jI;rw[Xt h1];rfl
  have e2:xX id=3:=by unfold xX jI;rw[Xt h1];rfl
  refine Yx ?_;refine Yq (fQ (b:=true) _ _ rfl Yf (aJ _ _) (Xt h1) _) ?_;refine Yx ?_;iterate 2 refine Yu ?_
  refine Yq (aL _ _ _ rfl Yf (aJ _ _) _) ?_;refine aC<|bG Yf ?_;refine aD<|Yq (BF rfl _) ?_;refine Zs bE m2 (bN _ _ _ _) (λw3 mm3 k3 z3=>?_);have mr3:=Vh.congr mm3 (dQ _ _);have mt3:=mt2.kept k3 Yo;refine Yx ?_;refine aC<|aW ?_;simp only[Nx,Exit.then];rw[e1,e2];refine aN YB (kN rfl Yf Yf bE mr3 (Xr _)) ⟨none,0,rfl,World.ownsRow_nil _ _ _ _,aF (k1.trans (k2.mono Yo)) k3 Yo Yo⟩
 .by_cases h2:3<id
  .have e1:iQ id t=bX:=by unfold iQ jI;rw[Xt h2,Bool.or_true];rfl
   have e2:xX id=3:=by unfold xX jI;rw[Xt h2,Bool.or_true];rfl
   refine Yx ?_;refine Yq (fQ (b:=false) _ _ rfl Yf (aJ _ _) (Xf h1) _) ?_;iterate 2 refine Yx ?_
   refine Yq (fJ (b:=true) _ _ rfl Yf (aJ _ _) (Xt h2) _) ?_;refine Yq (aR _ _ _ rfl Yf Yf _) ?_;refine aC<|bG Yf ?_;refine aD<|Yq (BF rfl _) ?_;refine Zs bE m2 (bN _ _ _ _) (λw3 mm3 k3 z3=>?_);have mr3:=Vh.congr mm3 (dQ _ _);have mt3:=mt2.kept k3 Yo;refine Yx ?_;refine aC<|aW ?_;simp only[Nx,Exit.then];rw[e1,e2];refine aN YB (kN rfl Yf Yf bE mr3 (Xr _)) ⟨none,0,rfl,World.ownsRow_nil _ _ _ _,aF (k1.trans (k2.mono Yo)) k3 Yo Yo⟩
  .have e1:iQ id t=zJ id t (λ_=>St.beg0):=by unfold iQ jI;rw[Xf h1,Xf h2];rfl
   have e2:xX id=0:=by unfold xX jI;rw[Xf h1,Xf h2];rfl
   refine Yx ?_;refine Yq (fQ (b:=false) _ _ rfl Yf (aJ _ _) (Xf h1) _) ?_;iterate 2 refine Yx ?_
   refine Yq (fJ (b:=false) _ _ rfl Yf (aJ _ _) (Xf h2) _) ?_;refine Yq (aR _ _ _ rfl Yf Yf _) ?_;refine aC<|bH Yf (aS ?_);refine aH ?_;have hS0:(λW=>Vh 23 W w.heap.size 4 4 (jA t)) w2.drew:=mt2;have mr0:Vh _ w2.drew _ _ _ _:=m2;have ez:w2.drew.heap.size=w2.heap.size:=rfl;have kA:Below w.heap.size w w2.drew:=aU (k1.trans (k2.mono Yo));refine fD (S:=λW=>Vh 23 W w.heap.size 4 4 (jA t)) (.mv 0 (.rd 1 (.two 2 4 (.mv 3 (.go 4 (.go 5 .fin))) (.go 2 (.mv 3 (.go 5 .fin)))))) [] Yl Yl ?_;refine Yj ?_;refine Yr rfl hS0 (λ_ hS=>bL _ _ rfl BI Yf hS Yo (λj _=>by rw[Nat.zero_add])) ?_;refine yF ?_ ?_
   .refine cZ rfl rfl Yw (λK hK=>R5 _ 54 _ rfl (BA _) (EF _) ?_);rintro e w3 ⟨rfl,k3⟩;have n3:=k3.size;have mt3:=hS0.below k3;have mr3:=mr0.below k3;refine⟨_,rfl,hK _ _ (λ_ _=>mt3) ?_⟩;refine Yk rfl (λ_=>I8 _ _ _ rfl (id:=id) (t:=t) (r:=beginR) Yf Yf Yf _) ?_;refine cZ rfl rfl Yw (λK hK=>?_);refine gY _ _ rfl lC Yd ?_;intro w4 m4 k4 z4;have mt4:=mt3.below k4;have mr4:=mr3.below k4;refine hK _ _ (λ_ _=>mt4) ?_;clear hK K;refine dF rfl Yw (λK hK=>?_);refine aO _ _ _ _ rfl bE Yf Yf m4 Yc (bN _ _ _ _) rfl ?_;intro w5 mm5 k5 z5;have mp5:=Vh.congr mm5 (dQ _ _);have mt5:=mt4.kept k5 Yo;have mr5:=mr4.kept k5 Yo;refine hK _ (λ_ _=>mt5) ?_;clear hK K;refine fT<|aH<|aD<|Yx ?_;refine aC<|aK<|bW (λr a W=>∃x:Nat,x<=3/\3-x<=r/\a.tmps.size=28/\a.defers=[]/\a.eval (.tmp 4)=.pointer (some ⟨w1.heap.size,0,none⟩)/\a.eval (.tmp 6)=.pointer (some ⟨w3.heap.size,0,none⟩)/\a.eval (.tmp 7)=.int .i64 (x:Int)/\Vh 37 W w1.heap.size 74 74 (ndF bX (.slice none 0 0))/\Vh 37 W (w3.heap.size) 74 74 (ndF (zJ id t (xR x)) (.slice none 0 0))/\Below w.heap.size w W/\w5.heap.size<=W.heap.size) 3 ⟨0,Yo,Yo,YA,YB,Yf,Yf,Yf,mr5,by rw[J7];exact mp5,aF ((kA.trans (k3.mono Yo)).trans (k4.mono Yo)) k5 Yo Yo,Yo⟩ (λr B W hI=>?_);clear b0 b1 hs hd;obtain⟨x,hx,hr2,hs,hd,b4,b6,b7,mr,mp,kB,hW⟩:=hI;by_cases hin:x<3
    .refine aH<|aD (aG ?_);iterate 2 refine Yx ?_
     refine aC<|bG Yf (aS ?_);refine aH (aK ?_);refine aI<|Yx ?_;refine bI rfl Yw (λK hK=>bQ _ 55 _ _ rfl (aJ _ _) (JJ _ _) (EH _) ?_);rintro e w11 ⟨rfl,k11⟩;have n11:=k11.size;have mr11:=mr.below k11;have mp11:=mp.below k11;refine⟨_,rfl,hK _ _ ?_⟩;refine Yx ?_;refine Yq (bD _ _ _ _ rfl Tryz.underlying26 gX.size Yf Yf rfl hin _) ?_;refine Zs gX mp11 (fK _) (λw12 mm12 k12 z12=>?_);have mp12:Vh 37 w12 (w3.heap.size) 74 74 (ndF (zJ id t (xR (x+1))) (.slice none 0 0)):=by rw[<-U6];exact Vh.congr mm12 (sS _ _ _ x hin)
     have mr12:=mr11.kept k12 Yo;refine fB<|aI ?_;iterate 3 refine Yx ?_
     exact aQ ⟨3-(x+1),Yo,x+1,Yo,Yo,YA,YB,Yb,Yb,(Ye rfl).trans YC,mr12,mp12,aF (kB.trans (k11.mono Yo)) k12 Yo Yo,Yo⟩
    .refine aH<|aD (aG ?_);iterate 2 refine Yx ?_
     obtain rfl:x=3:=Yo;rw[E9] at mp;refine aC<|bH Yf (bP (dM ?_));refine aD<|Yx ?_;refine Zs bE mr (bN _ _ _ _) (λw11 mm11 k11 z11=>?_);have mr11:=Vh.congr mm11 (dQ _ _);have mp11:=mp.kept k11 Yo;refine Yx ?_;refine aC<|aW ?_;rw[e1,e2];refine aN YB (kN rfl Yb Yf bE mr11 (Xr _)) ⟨none,0,rfl,World.ownsRow_nil _ _ _ _,aF kB k11 Yo Yo⟩
   .refine cZ rfl rfl Yw (λK hK=>?_);refine gY _ _ rfl lC Yd ?_;intro w3 m3 k3 z3;have mt3:=hS0.below k3;have mr3:=mr0.below k3;refine hK _ _ (λ_ _=>mt3) ?_;clear hK K;refine cZ rfl rfl Yw (λK hK=>R5 _ 54 _ rfl (BA _) (EF _) ?_);rintro e w4 ⟨rfl,k4⟩;have n4:=k4.size;have mt4:=mt3.below k4;have mr4:=mr3.below k4;have mp4:=m3.below k4;refine⟨_,rfl,hK _ _ (λ_ _=>mt4) ?_⟩;refine Yk rfl (λ_=>I8 _ _ _ rfl (id:=id) (t:=t) (r:=beginR) Yf Yf Yf _) ?_;refine dF rfl Yw (λK hK=>?_);refine aO _ _ _ _ rfl bE Yf Yf mp4 Yc (bN _ _ _ _) rfl ?_;intro w5 mm5 k5 z5;have mp5:=Vh.congr mm5 (dQ _ _);have mt5:=mt4.kept k5 Yo;have mr5:=mr4.kept k5 Yo;refine hK _ (λ_ _=>mt5) ?_;clear hK K;refine fT<|aH<|aD<|Yx ?_;refine aC<|aK<|bW (λr a W=>∃x:Nat,x<=3/\3-x<=r/\a.tmps.size=28/\a.defers=[]/\a.eval (.tmp 4)=.pointer (some ⟨w1.heap.size,0,none⟩)/\a.eval (.tmp 6)=.pointer (some ⟨w2.drew.heap.size,0,none⟩)/\a.eval (.tmp 7)=.int .i64 (x:Int)/\Vh 37 W w1.heap.size 74 74 (ndF bX (.slice none 0 0))/\Vh 37 W (w2.drew.heap.size) 74 74 (ndF (zJ id t (xR x)) (.slice none 0 0))/\Below w.heap.size w W/\w5.heap.size<=W.heap.size) 3 ⟨0,Yo,Yo,YA,YB,Yf,Yf,Yf,mr5,by rw[J7];exact mp5,aF ((kA.trans (k3.mono Yo)).trans (k4.mono Yo)) k5 Yo Yo,Yo⟩ (λr B W hI=>?_);clear b0 b1 hs hd;obtain⟨x,hx,hr2,hs,hd,b4,b6,b7,mr,mp,kB,hW⟩:=hI;by_cases hin:x<3
    .refine aH<|aD (aG ?_);iterate 2 refine Yx ?_
     refine aC<|bG Yf (aS ?_);refine aH (aK ?_);refine aI<|Yx ?_;refine bI rfl Yw (λK hK=>bQ _ 55 _ _ rfl (aJ _ _) (JJ _ _) (EH _) ?_);rintro e w11 ⟨rfl,k11⟩;have n11:=k11.size;have mr11:=mr.below k11;have mp11:=mp.below k11;refine⟨_,rfl,hK _ _ ?_⟩;refine Yx ?_;refine Yq (bD _ _ _ _ rfl Tryz.underlying26 gX.size Yf Yf rfl hin _) ?_;refine Zs gX mp11 (fK _) (λw12 mm12 k12 z12=>?_);have mp12:Vh 37 w12 (w2.drew.heap.size) 74 74 (ndF (zJ id t (xR (x+1))) (.slice none 0 0)):=by rw[<-U6];exact Vh.congr mm12 (sS _ _ _ x hin)
     have mr12:=mr11.kept k12 Yo;refine fB<|aI ?_;iterate 3 refine Yx ?_
     exact aQ ⟨3-(x+1),Yo,x+1,Yo,Yo,YA,YB,Yb,Yb,(Ye rfl).trans YC,mr12,mp12,aF (kB.trans (k11.mono Yo)) k12 Yo Yo,Yo⟩
    .refine aH<|aD (aG ?_);iterate 2 refine Yx ?_
     obtain rfl:x=3:=Yo;rw[E9] at mp;refine aC<|bH Yf (bP (dM ?_));refine aD<|Yx ?_;refine Zs bE mr (bN _ _ _ _) (λw11 mm11 k11 z11=>?_);have mr11:=Vh.congr mm11 (dQ _ _);have mp11:=mp.kept k11 Yo;refine Yx ?_;refine aC<|aW ?_;rw[e1,e2];refine aN YB (kN rfl Yb Yf bE mr11 (Xr _)) ⟨none,0,rfl,World.ownsRow_nil _ _ _ _,aF kB k11 Yo Yo⟩
end Go.Proofs.YthimcecbgpamdaaGreat
namespace Go.Proofs.YthimcecbgpamdaaGreat
open Go
variable{Q:Exit->Act->World->Prop}{R:Ending->World->Prop}
theorem oQ(w:World){P:Program}{o:Oper}{a:Act}{K:Act->World->Prop}(n:Nat)(x y z u v:Operand)(T:Array TypeId)(ho:o.op=.call { callee:=.value (.func n),args:=#[x,y,z,u,v],argTypes:=T }){p q r s t:Value}(hx:a.eval x=p)(hy:a.eval y=q)(hz:a.eval z=r)(hu:a.eval u=s)(hv:a.eval v=t)(hf:(callFunc n #[p,q,r,s,t]).run P w=.ok (.enter n #[p,q,r,s,t]) w)(hc:Calls P n #[p,q,r,s,t] w R)(h:∀e w',R e w'->∃r,e=.returned r/\K (a.put o.dst r) w'):WpI P o a w K Q:=by
 refine⟨?_⟩;have e:(execOp a.eval o).run P w=.ok (.enter n #[p,q,r,s,t]) w:=by
  unfold execOp;rw[ho];have hv2:a.eval (Operand.func n)=.func (.func n) #[] #[]:=rfl;simp only[resolve,invoke,Sem.run_bind,List.map_toArray,List.map_cons,List.map_nil,hx,hy,hz,hu,hv,hv2];go_simp
 unfold Oper.wp;rw[e,Oper.upon_enter];refine hc.mono ?_;intro e w' hr;obtain⟨r,rfl,hk⟩:=h e w' hr;exact hk
end Go.Proofs.YthimcecbgpamdaaGreat
