import Derived.Test.YthimcecbgpamdaaGreatNear105
set_option maxHeartbeats 4000000
namespace Go.Proofs.YthimcecbgpamdaaGreat
open Go.RowKit
instance iRefNod9_1:EntK Tryz.prog 46:=⟨λargs w=>Yh⟩
instance iRefNod9_2:EntK Tryz.prog 48:=⟨λargs w=>Yh⟩
abbrev dcN(n:Nd)(l:List Ms)(x i:Nat):Nd:=NA n (uE n l x i) (tK n l x) (rD n l x)
abbrev dcO(w:World)(n:Nd)(l:List Ms)(x i:Nat)(v:Value):It:=dZ w.heap.size 3 1 v (nT n.rl.I (λs=>decG n l s x) i).length ((nT n.rl.I (λs=>decG n l s x) i).map iV)
set_option maxRecDepth 10000 in
theorem TE:xU rG uG 25:=by
 intro n ao c mo mc L w hok hag hmr hN hmc hRL;have hag:Sr w ao n.vA.length c (tF (bA n)):=hag;refine bO Tryz.func25 rfl 99 rfl Yd (λA hs hd hb=>?_);have b0:A.eval (.tmp 0)=aP (ndF n (.slice ao n.vA.length c)) 0 74:=hb 0 _ rfl;have b1:A.eval (.tmp 1)=.slice mo L.length mc:=hb 1 _ rfl;clear hb;have H:=Cx.start w;refine aD (aG ?_);refine iG H ?_;clear H;intro w1 H z1;refine fU H ?_;clear H;intro w2 H z2;refine fU H ?_;clear H;intro w3 H z3;refine aC<|aD<|qa ?_;refine mI (show Calls _ _ #[aP (ndF n (.slice ao n.vA.length c)) 0 74] _ _ from nM n ao c _ (hag.below H.bel) hok.vA) ?_;rintro e w4 ⟨a3,c3,rfl,o4,k4⟩;refine⟨aP (ndF n (.slice a3 n.vA.length c3)) 0 74,rfl,?_⟩;have hsz:=H.size;replace H:=H.add k4 (zW w n a3 c3) (bZ o4 hsz) (λj e=>(o4.lt j e).1);refine eO H.a3 aT (bN _ _ _ _) ?_;clear H;intro w5 H z5;refine aC<|aH<|aD<|qa ?_;refine mI (show Calls _ _ #[aP (ndF n (.slice a3 n.vA.length c3)) 0 74] _ _ from pF n _ _) ?_;rintro e w6 ⟨rfl,k6⟩;refine⟨_,rfl,?_⟩;replace H:=H.call k6;refine aC<|dY (λhno=>?_) (λhno=>?_)
 .refine aD<|qa ?_;refine qg (mP rfl _) ?_;refine eO H.a2 aT (bN _ _ _ _) ?_;clear H;intro w7 H z7;refine eO H.a1 aT (fC _ _ _ _ _ _) ?_;clear H;intro w8 H z8;refine aC ?_;have e1:rG n (L.map Lm.m)=n:=by unfold rG;rw[if_pos hno]
  have e2:uG n (L.map Lm.m)=jH:=by unfold uG;rw[if_pos hno]
  rw[e1,e2];exact aW (jK (aN YB (gH rfl Qv Qv ManyK.out ManyK.out H.v2 (Xr _) H.v1 (Xr _)) ⟨a3,c3,none,0,rfl,H.o0,World.ownsRow_nil _ _ _ _,H.bel⟩))
 obtain⟨h0,h3⟩:=qL hno;obtain⟨I,hI⟩:∃I:Nat,n.id=(I:Int):=⟨n.id.toNat,Yo⟩;have hI4:I<4:=Yo;refine aS<|aH<|aD<|qa ?_;refine aC<|aK ?_;refine bW (λr A W=>∃x:Nat,x<=3/\3-x<=r/\dcA 99 A w w1 w2 (.slice mo L.length mc)/\A.eval (.tmp 6)=.int .i64 (x:Int)/\Cx w W (BK w w1 w2 n (dcN n (L.map Lm.m) x 0) a3 c3)) 3
  ⟨0,Yo,Yo,⟨YA,YB,Qv,Qv,Qv,Qv⟩,Qv,?_⟩ (λr A W hJ=>?_)
 .rw[show dcN n (L.map Lm.m) 0 0=n from aKJ];exact H
 clear b0 b1 hs hd H;obtain⟨x,hx,hxr,⟨hs,hd,b1,b2,b4,b5⟩,b6,H⟩:=hJ;refine aH<|aD (aG ?_);iterate 2 refine qa ?_
 refine aC<|dY (λh=>?_) (λh=>?_)
 .have hx3:x<3:=by have:=Xu h;omega
  refine aS<|aH (aK ?_);refine aD<|qa ?_;refine aC<|aH<|aD<|qa ?_;refine aC<|aK ?_;refine bW (λr A W=>∃(i:Nat) (v:Value),i<=4/\4-i<=r/\dcA 99 A w w1 w2 (.slice mo L.length mc)/\A.eval (.tmp 6)=.int .i64 (x:Int)/\A.eval (.tmp 7)=v/\A.eval (.tmp 8)=.int .i64 (i:Int)/\Cx w W (dcO w n (L.map Lm.m) x i v::BK w w1 w2 n (dcN n (L.map Lm.m) x i) a3 c3)) 4
   ⟨0,_,Yo,Yo,⟨YA,YB,Qv,Qv,Qv,Qv⟩,Qv,Qv,Qv,H.add (Below.refl _ _) (dcO w n (L.map Lm.m) x 0 _) (World.ownsRow_nil _ _ _ _) (λj e=>nomatch e)⟩ (λr A W hJ=>?_)
  clear b1 b2 b4 b5 b6 hs hd H;obtain⟨i,v,hi,hir,⟨hs,hd,b1,b2,b4,b5⟩,b6,b7,b8,H⟩:=hJ;have hll:=SQ n.rl.I (λs=>decG n (L.map Lm.m) s x) i;refine aH<|aD (aG ?_);iterate 2 refine qa ?_
  refine aC<|dY (λh=>?_) (λh=>?_)
  .have hi4:i<4:=by have:=Xu h;omega
   refine aS<|aH (aK ?_);refine aH ?_;replace H:=H.drew;refine fD (S:=λV=>Vh 37 V w.heap.size 74 74 (ndF (dcN n (L.map Lm.m) x i) (.slice a3 n.vA.length c3))) (.mv 0 (.mv 1 (.rd 2 (.mv 3 (.mv 4 (.mv 5 (.mv 6 (.mv 7 (.mv 8 (.mv 9 (.rd 10 (.mv 11 (.mv 12 (.mv 13 (.mv 14 (.mv 16 (.mv 17 (.go 15 (.mv 18 (.go 19 .fin)))))))))))))))))))) [15,19] Yl Yl ?_;iterate 2 refine qj ?_
   refine xV rfl rfl (λ_ _ _ h=>h) Yw H.v4 (λ_ h=>aX _ _ rfl ManyK.out Qv h Yc) ?_;iterate 5 refine qj ?_
   refine fF rfl rfl (λ_ _ _ h=>h) Yw (λw=>bD _ _ _ _ rfl ArrK.out SizK.out Qv Qv rfl hi4 w) ?_;refine fF rfl rfl (λ_ _ _ h=>h) Yw (λw=>bD _ _ _ _ rfl ArrK.out SizK.out Qv Qv rfl hx3 w) ?_;refine xV rfl rfl (λ_ _ _ h=>h) Yw H.v4 (λ_ h=>aZ _ _ rfl OneK.out Qv h Yo (UL _ _ hi4 hx3)) ?_;refine qj ?_;refine Yk rfl (λ_=>oL _ _ rfl (aJ _ _) Qv Yo Yo _) ?_;refine qj ?_;refine Yk rfl (λ_=>uV _ _ rfl Qv Qv Yo Yo _) ?_;refine qj ?_;refine fF rfl rfl (λ_ _ _ h=>h) Yw (λw=>bD _ _ _ _ rfl ArrK.out SizK.out Qv Qv rfl hi4 w) ?_;refine cZ rfl rfl Yw (λK hK=>RL _ 45 _ _ _ _ _ _ _ rfl Qv Qv Qv Qv (Eq.trans Qv (by rw[Int.natCast_add,Int.natCast_mul];rfl)) (aJ _ _) (FL _ _ _ _ _ _ _) (Z7 (dcN n (L.map Lm.m) x i) (.slice a3 n.vA.length c3) mo mc L I i (n.di i x) (3*i+x) 12 _ hI hI4 hi4 Yo (hmr.below H.bel) hN) ?_);rintro e w9 ⟨rfl,k9⟩;refine⟨_,rfl,hK _ _ (λh=>absurd h Yc) ?_⟩;clear hK K;replace H:=H.call k9;refine fF rfl rfl (λ_ _ _ h=>h) Yw (λw=>bD _ _ _ _ rfl ArrK.out SizK.out Qv Qv rfl hx3 w) ?_;refine dF rfl Yw (λK hK=>iI _ _ _ _ rfl OneK.out Qv Qv H.v4 Yo rfl rfl rfl (λV m k z=>hK _ (λh=>absurd h Yc) ?_));replace H:=H.a4.s k (m.congr (aKY hi4 hx3));refine fT<|aD ?_;iterate 3 refine qa ?_
   refine qg (bD _ _ _ _ rfl ArrK.out SizK.out Qv Qv rfl hi4 _) ?_;refine qg (aZ _ _ rfl OneK.out Qv H.v4 Yo (IC _ _ hi4)) ?_;refine aC<|dY (λhb=>?_) (λhb=>?_)
   .refine aI ?_;iterate 4 refine qa ?_
    refine qg (bD _ _ _ _ rfl ArrK.out SizK.out Qv Qv rfl hi4 _) ?_;refine qg (bD _ _ _ _ rfl ArrK.out SizK.out Qv Qv rfl hx3 _) ?_;refine qg (aZ _ _ rfl OneK.out Qv H.v4 Yo ((aMQ _ _ hi4 hx3).trans (congrArg (Value.int .i64) (aLV hi4)))) ?_;refine bI rfl Yw (λK hK=>vB (v:=iV (decG n (L.map Lm.m) i x)) SlcK.out OneK.out Zer1.out rfl rfl rfl Qv (λV m k z=>hK _ _ ?_));replace H:=H.call k;refine aCb (bytes:=8) H.a0 (aAu m) (λu hu=>by rw[List.mem_singleton.1 hu];rfl) Ym Yo ?_;clear H;intro v' V2 H;refine qa ?_;refine fB<|aI ?_;iterate 3 refine qa ?_
    exact aQ ⟨4-(i+1),Yo,i+1,v',Yo,Yo,⟨YA,YB,Qv,Qv,Qv,Qv⟩,Qv,Qv,Eq.trans Qv YC,by unfold dcO;rw[aIq (show n.rl.I i=true from hb),List.length_append,List.map_append];exact H⟩
   .refine fP<|aI ?_;iterate 3 refine qa ?_
    exact aQ ⟨4-(i+1),Yo,i+1,v,Yo,Yo,⟨YA,YB,Qv,Qv,Qv,Qv⟩,Qv,Qv,Eq.trans Qv YC,by unfold dcO;rw[aIi (show n.rl.I i=false from hb)];exact H⟩
  obtain rfl:i=4:=by have:=Xg h;omega
  refine bP (dM ?_);refine aD ?_;obtain⟨vo,vc,rfl,hvc⟩:=dS H.o0;have ov:World.ownsRow _ _ _ _ _ _ _:=H.o0;rw[CG] at ov;iterate 2 refine qa ?_
  refine mI (show Calls _ _ #[.slice vo _ vc] _ _ from aBv vo vc _ _ Yo (aNC (λs=>WK hok hRL s x) 4) (tH ov)) ?_;rintro e w9 ⟨E,rfl,k9⟩;refine⟨_,rfl,?_⟩;replace H:=H.call k9;refine qa ?_;refine qg (lQ _ rfl Qv _) ?_;refine qg (lN _ rfl Qv _) ?_;refine qa ?_;refine qg (bD _ _ _ _ rfl ArrK.out SizK.out Qv Qv rfl hx3 _) ?_;refine pK H.a4 (aAr hx3) ?_;clear H;intro w10 H z10;refine aC ?_;replace H:=H.drew;refine fD (S:=λV=>Vh 37 V w.heap.size 74 74 (ndF (NA n (uE n (L.map Lm.m) x 4) (tK n (L.map Lm.m) (x+1)) (rD n (L.map Lm.m) x)) (.slice a3 n.vA.length c3))) (.mv 0 (.mv 1 (.mv 2 (.mv 3 (.rd 4 (.mv 5 (.rd 6 (.mv 7 (.mv 8 (.mv 9 (.rd 10 (.mv 15 (.go 11 (.mv 12 (.mv 13 (.mv 14 (.mv 16 (.go 17 .fin)))))))))))))))))) [11,17] Yl Yl ?_;iterate 3 refine qj ?_
  refine fF rfl rfl (λ_ _ _ h=>h) Yw (λw=>bD _ _ _ _ rfl ArrK.out SizK.out Qv Qv rfl hx3 w) ?_;refine xV rfl rfl (λ_ _ _ h=>h) Yw H.v4 (λ_ h=>bL _ _ rfl ManyK.out Qv h Yo (h:=dP (n.ax x)) (λj hj=>(WR _ _ hx3 j hj).trans (congrArg (λs=>dP s j) aMY))) ?_;refine qj ?_;refine xV rfl rfl (λ_ _ _ h=>h) Yw H.v4 (λ_ h=>bL _ _ rfl ManyK.out Qv h Yo (KH _ _)) ?_;iterate 2 refine qj ?_
  refine fF rfl rfl (λ_ _ _ h=>h) Yw (λw=>bD _ _ _ _ rfl ArrK.out SizK.out Qv Qv rfl hx3 w) ?_;refine xV rfl rfl (λ_ _ _ h=>h) Yw H.v4 (λ_ h=>aZ _ _ rfl OneK.out Qv h Yo ((aDG _ _ hx3).trans (congrArg (Value.int .i64) aDz))) ?_;refine qj ?_;refine cZ rfl rfl Yw (λK hK=>iK _ 47 _ _ _ _ rfl Qv Qv Qv (YU _ _ _ _) (XF (n.ax x) n.tn (decU n (L.map Lm.m) x) _ (hok.ax x) hok.tn (aDt hok hRL x)) ?_);rintro e w11 ⟨rfl,k11⟩;refine⟨_,rfl,hK _ _ (λh=>absurd h Yc) ?_⟩;clear hK K;replace H:=H.call k11;refine qj ?_;refine Yk rfl (λ_=>lQ _ rfl Qv _) ?_;refine Yk rfl (λ_=>lN _ rfl Qv _) ?_;refine fF rfl rfl (λ_ _ _ h=>h) Yw (λw=>bD _ _ _ _ rfl ArrK.out SizK.out Qv Qv rfl hx3 w) ?_;refine dF rfl Yw (λK hK=>aO _ _ _ _ rfl ManyK.out (f:=dP (decA n (L.map Lm.m) x)) Qv Qv H.v4 Yo (fK _) rfl (λV m k z=>hK _ (λh=>absurd h Yc) ?_));replace H:=H.a4.s k (m.congr (aKs hx3));refine mW<|aI ?_;iterate 3 refine qa ?_
  exact aQ ⟨3-(x+1),Yo,x+1,Yo,Yo,⟨YA,YB,Qv,Qv,Qv,Qv⟩,Eq.trans Qv YC,H.tl⟩
 obtain rfl:x=3:=by have:=Xg h;omega
 unfold BK dcN at H;rw[aKe] at H;refine bP (dM ?_);refine aD<|qa ?_;refine mI (show Calls _ _ #[aP (ndF (NA n (decG n (L.map Lm.m)) (decU n (L.map Lm.m)) (decA n (L.map Lm.m))) (.slice a3 n.vA.length c3)) 0 74] _ _ from PX (NA n (decG n (L.map Lm.m)) (decU n (L.map Lm.m)) (decA n (L.map Lm.m))) (.slice a3 n.vA.length c3) _ ⟨λa=>WG (hok.ax a) _ _⟩) ?_;rintro e w9 ⟨rfl,k9⟩;refine⟨_,rfl,?_⟩;replace H:=H.call k9;refine qa ?_;refine pK H.a3 (aEU _ _ (decD n (L.map Lm.m))) ?_;clear H;intro w10 H z10;refine aC<|aD ?_;iterate 5 refine qa ?_
 refine qg (bD _ _ _ _ rfl ArrK.out SizK.out Qv Qv hI hI4 _) ?_;refine pK H.a3 (P8 _ _ (decD n (L.map Lm.m)) I hI4) ?_;clear H;intro w11 H z11;refine aC<|aH ?_;replace H:Cx w _ (BK w w1 w2 n (UG n (L.map Lm.m) I) a3 c3):=H.drew;have e1:rG n (L.map Lm.m)=UG n (L.map Lm.m) I:=by unfold rG;rw[if_neg (by rw[hno];decide),aDr hI]
 have e2:uG n (L.map Lm.m)=⟨3,n.id,n.fr,[decD n (L.map Lm.m)]⟩:=by unfold uG;rw[if_neg (by rw[hno];decide)]
 rw[e1,e2];refine fD (S:=Its [vhI 37 w.heap.size 74 74 (ndF (UG n (L.map Lm.m) I) (.slice a3 n.vA.length c3))]) (.rd 0 (.mv 1 (.rd 2 (.mv 3 (.rd 4 (.mv 5 (.rd 6 (.two 7 9 (.mv 8 (.go 9 (.go 10 .fin))) (.go 7 (.mv 8 (.go 10 .fin))))))))))) [] Yl Yl ?_;have hS:=Its.cons H.o3 (Its.nil _)
 (iterate 3 (refine qr hS ?_;refine qj ?_))
 refine qr hS ?_;refine yF ?_ ?_
 .refine cZ rfl rfl Yw (λK hK=>vB (v:=iV (decD n (L.map Lm.m))) SlcK.out OneK.out Zer1.out rfl rfl rfl Qv (λV m k z=>?_));have hz:=H.size;replace H:=H.add k (vhI _ _ 1 1 _) m (λj e=>Nat.le_of_eq e.symm);refine hK _ _ (λ_ _=>Its.cons H.o4 (Its.nil _)) ?_;refine Yk rfl (λ_=>sH _ _ _ _ rfl (aJ _ _) Qv Qv Qv _) ?_;refine dF rfl Yw (λK hK=>aO _ _ _ _ rfl ManyK.out Qv Qv H.v3 Yo (bN _ _ _ _) rfl (λV1 m1 k1 z9=>?_));replace H:=H.a3.s k1 (m1.congr aT);refine hK _ (λ_ _=>Its.cons H.o4 (Its.nil _)) ?_;refine dF rfl Yw (λK hK=>aO _ _ _ _ rfl ManyK.out Qv Qv H.v2 Yo (fC _ _ _ _ _ _) rfl (λV1 m1 k1 z9=>?_));replace H:=H.a2.s k1 (m1.congr aT);refine hK _ (λ_ _=>Its.cons H.o4 (Its.nil _)) ?_;refine fT ?_;exact aW (aN YB (gH rfl Qv Qv ManyK.out ManyK.out H.v3 (Xr _) H.v2 (Xr _)) ⟨a3,c3,_,1,rfl,H.o1,aAv H.v0 hz,H.bel⟩)
 .refine dF rfl Yw (λK hK=>aO _ _ _ _ rfl ManyK.out Qv Qv H.v2 Yo (bN _ _ _ _) rfl (λV1 m1 k1 z9=>?_));replace H:=H.a2.s k1 (m1.congr aT);refine hK _ (λ_ _=>Its.cons H.o3 (Its.nil _)) ?_;refine cZ rfl rfl Yw (λK hK=>vB (v:=iV (decD n (L.map Lm.m))) SlcK.out OneK.out Zer1.out rfl rfl rfl Qv (λV m k z=>?_));have hz:=H.size;replace H:=H.add k (vhI _ _ 1 1 _) m (λj e=>Nat.le_of_eq e.symm);refine hK _ _ (λ_ _=>Its.cons H.o4 (Its.nil _)) ?_;refine Yk rfl (λ_=>sH _ _ _ _ rfl (aJ _ _) Qv Qv Qv _) ?_;refine dF rfl Yw (λK hK=>aO _ _ _ _ rfl ManyK.out Qv Qv H.v2 Yo (fC _ _ _ _ _ _) rfl (λV1 m1 k1 z9=>?_));replace H:=H.a2.s k1 (m1.congr aT);refine hK _ (λ_ _=>Its.cons H.o4 (Its.nil _)) ?_;refine fT ?_;exact aW (aN YB (gH rfl Qv Qv ManyK.out ManyK.out H.v3 (Xr _) H.v2 (Xr _)) ⟨a3,c3,_,1,rfl,H.o1,aAv H.v0 hz,H.bel⟩)
theorem YY(x:Value)(w:World):(callFunc 90 #[x]).run Tryz.prog w=.ok (.enter 90 #[x]) w:=Yh
theorem JG(x y:Value)(w:World):(callFunc 53 #[x,y]).run Tryz.prog w=.ok (.enter 53 #[x,y]) w:=Yh
section
variable {f:Operand->Value} {o:Oper}
variable{s:Nat}
theorem aGz(x:Operand)(ho:o.op=.convert 3 152 x)(hx:f x=.int .i64 (s:Int))(w:World):(execOp f o).run Tryz.prog w=.ok (.value (.int .u64 ((s:Int)%18446744073709551616))) w:=by
 unfold execOp;rw[ho];dsimp only;rw[hx];go_simp
 rfl
theorem aEg(x y:Operand)(ho:o.op=.binOp .shr 3 x y 152){u:Int}(hx:f x=.int .i64 u)(hy:f y=.int .u64 ((s:Int)%18446744073709551616))(hs:s<64)(w:World):(execOp f o).run Tryz.prog w=.ok (.value (.int .i64 (u/2^s))) w:=by
 rw[show ((s:Int)%18446744073709551616)=(s:Int) by omega] at hy;unfold execOp;rw[ho];dsimp only;rw[hx,hy];go_simp
end
def upA(n:Nd)(v:List Int)(x a:Nat):St:=if a<x then unA v a else n.ax a
variable{n:Nd}{v:List Int}
theorem aHD:({ n with ax:=upA n v 0 }:Nd)=n:=by
 have:upA n v 0=n.ax:=by funext a;unfold upA;rw[if_neg Yo]
 rw[this]
theorem aGO{x:Nat}:({ n with ax:=λa=>if a=x then unA v x else upA n v x a }:Nd)={ n with ax:=upA n v (x+1) }:=by unfold upA;grind
variable{nv:Value}
theorem aED:ndF { n with ax:=upA n v 3 } nv=ndF { n with ax:=unA v } nv:=by grind [upA,ndF]
def upR(r:Rl)(s m j:Int)(x:Nat):Rl:=⟨λi=>if 3-i<x/\i<4 then decide (s/2^i%2=1) else r.I i,λi=>if 3-i<x/\i<4 then wJ m i else r.M i,λi=>if 3-i<x/\i<4 then wJ j i else r.J i⟩
def upM1(r:Rl)(s m j:Int)(x:Nat):Rl:=⟨(upR r s m j x).I,(upR r s m j (x+1)).M,(upR r s m j x).J⟩
def upM2(r:Rl)(s m j:Int)(x:Nat):Rl:=⟨(upR r s m j x).I,(upR r s m j (x+1)).M,(upR r s m j (x+1)).J⟩
variable{s j m:Int}{r:Rl}
theorem aHg:upR r s m j 0=r:=by
 unfold upR;obtain⟨a,b,c⟩:=r;simp
theorem aHA:ndF { n with ax:=unA v,rl:=upR n.rl (gL v 21) (gL v 22) (gL v 23) 4 } nv=ndF { n with ax:=unA v,rl:=unR v } nv:=by
 have e:∀i,i<12->dD (upR n.rl (gL v 21) (gL v 22) (gL v 23) 4) i=dD (unR v) i:=λi hi=>by
  unfold dD upR unR;dsimp only;by_cases c4:i<4
  .rw[if_pos c4,if_pos c4,if_pos Yo];rfl
  .rw[if_neg c4,if_neg c4];by_cases c8:i<8
   .rw[if_pos c8,if_pos c8,if_pos Yo];rfl
   .rw[if_neg c8,if_neg c8,if_pos Yo];rfl
 funext j
 unfold ndF;dsimp only;by_cases c2:j<2
 .rw[if_pos c2,if_pos c2]
 .rw[if_neg c2,if_neg c2];by_cases c6:j<6
  .rw[if_pos c6,if_pos c6]
  .rw[if_neg c6,if_neg c6];by_cases c27:j<27
   .rw[if_pos c27,if_pos c27]
   .rw[if_neg c27,if_neg c27];by_cases c39:j<39
    .rw[if_pos c39,if_pos c39,e _ Yo]
    .rw[if_neg c39,if_neg c39]
theorem upd_rlCell(n:Nd)(nv:Value){off p:Nat}{x:Value}(ho:off=27+p)(hp:p<12)(h:∀q,q<12->stW (dD n.rl) p x q=dD r q):∀j,j<74->stW (ndF n nv) off x j=ndF { n with rl:=r } nv j:=by grind [ndF,stW]
variable{x:Nat}
theorem up_m(hx:x<4):∀q,q<12->stW (dD (upR r s m j x)) (4+(3-x)) (.int .i64 (m/8^x%8)) q=dD (upM1 r s m j x) q:=by
 intro q hq;unfold stW;by_cases e:q=4+(3-x)
 .rw[if_pos e];unfold dD upM1 upR;dsimp only;rw[if_neg Yo,if_pos Yo,if_pos Yo];unfold wJ;rw[show 3-(q-4)=x by omega];rfl
 .rw[if_neg e];unfold dD upM1 upR;dsimp only;by_cases c4:q<4
  .rw[if_pos c4,if_pos c4]
  .rw[if_neg c4,if_neg c4];by_cases c8:q<8
   .rw[if_pos c8,if_pos c8];by_cases c:3-(q-4)<x
    .rw[if_pos Yo,if_pos Yo]
    .rw[if_neg Yo,if_neg Yo]
   .rw[if_neg c8,if_neg c8]
theorem up_j(hx:x<4):∀q,q<12->stW (dD (upM1 r s m j x)) (8+(3-x)) (.int .i64 (j/8^x%8)) q=dD (upM2 r s m j x) q:=by
 intro q hq;unfold stW;by_cases e:q=8+(3-x)
 .rw[if_pos e];unfold dD upM2 upR;dsimp only;rw[if_neg Yo,if_neg Yo,if_pos Yo];unfold wJ;rw[show 3-(q-8)=x by omega];rfl
 .rw[if_neg e];unfold dD upM1 upM2 upR;dsimp only;by_cases c4:q<4
  .rw[if_pos c4,if_pos c4]
  .rw[if_neg c4,if_neg c4];by_cases c8:q<8
   .rw[if_pos c8,if_pos c8]
   .rw[if_neg c8,if_neg c8];by_cases c:3-(q-8)<x
    .rw[if_pos Yo,if_pos Yo]
    .rw[if_neg Yo,if_neg Yo]
theorem up_i(hx:x<4):∀q,q<12->stW (dD (upM2 r s m j x)) (3-x) (.bool (decide (s/2^(3-x)%2=1))) q=dD (upR r s m j (x+1)) q:=by simp only[stW,dD,upR,upM2];grind
theorem aIC(hx:x<3)(hb:kX (gL v (7*x+5)) 1=false):unOK v=false:=by
 have e:lT (gL v)=false:=aEM hx hb;have h:unOK v=(lT (gL v)&&(kE (gL v 21) (gL v 22) (gL v 23)&&lH (lU (gL v 21) (gL v 22) (gL v 23)))):=KJ v;rw[h,e,Bool.false_and]
theorem aIQ(h:gL v 21<0\/15<gL v 21\/gL v 22<0\/4095<gL v 22\/gL v 23<0\/4095<gL v 23):unOK v=false:=by
 have e:kE (gL v 21) (gL v 22) (gL v 23)=false:=by
  cases hc:kE (gL v 21) (gL v 22) (gL v 23)
  .rfl
  .unfold kE kX at hc;simp only[Bool.and_eq_true,decide_eq_true_eq] at hc;omega
 rw[KJ v,e,Bool.false_and,Bool.and_false]
theorem aDe(h:∀a,a<3->kX (gL v (7*a+5)) 1=true)(h1:¬gL v 21<0)(h2:¬15<gL v 21)(h3:¬gL v 22<0)(h4:¬4095<gL v 22)(h5:¬gL v 23<0)(h6:¬4095<gL v 23):unOK v=lH (unR v):=by
 have e:kE (gL v 21) (gL v 22) (gL v 23)=true:=by
  unfold kE kX;rw[Xt (show 0<=gL v 21 by omega),Xt (show gL v 21<=15 by omega),Xt (show 0<=gL v 22 by omega),Xt (show gL v 22<=4095 by omega),Xt (show 0<=gL v 23 by omega),Xt (show gL v 23<=4095 by omega)];rfl
 rw[KJ v,aAj h,e,Bool.true_and,Bool.true_and];rfl
variable{Q:Exit->Act->World->Prop}
theorem aCS{P:Program}{a:Act}{w:World}{x y:Code}(T:Act->World->Prop)(hx:(∀A W,T A W->CodI P y Q A W)->CodI P x (Nx P y Q) a w)(hy:∀A W,T A W->CodI P y Q A W):CodI P (.seq x y) Q a w:=aH (hx hy)
theorem aKW(s:St):∀j,j<7->(dP s j).oneCell'=true:=λj hj=>by
 match j,hj with
 |0,_=>rfl
 |1,_=>rfl
 |2,_=>rfl
 |3,_=>rfl
 |4,_=>rfl
 |5,_=>rfl
 |6,_=>rfl
set_option maxRecDepth 10000 in
theorem KM(n:Nd)(nv:Value)(v:List Int)(y:Addr)(yc:Nat)(w:World)(hnv:nv.oneCell'=true)(hc:24<=yc)(hy:∀i,i<24->w.cell? (y.add i)=some (.int .i64 (gL v i))):Calls Tryz.prog 53 #[iP n nv,.slice (some y) 24 yc] w λe w'=>∃fx:Nat->Value,e=.returned (.tuple #[aP fx 0 74,.bool (unOK v)])/\(∀j,j<74->(fx j).oneCell'=true)/\(unOK v=true->∀j,j<74->fx j=ndF { n with ax:=unA v,rl:=unR v } nv j)/\Below w.heap.size w w':=by
 refine bO Tryz.func53 rfl 136 rfl Yd (λA hs hd hb=>?_);have b0:A.eval (.tmp 0)=aP (ndF n nv) 0 74:=hb 0 _ rfl;have b1:A.eval (.tmp 1)=.slice (some y) 24 yc:=hb 1 _ rfl;clear hb;have H:=Cx.start w;refine aD (aG ?_);refine iG H ?_;clear H;intro w1 H z1;refine fU H ?_;clear H;intro w2 H z2;refine qa ?_;refine aC<|aH<|aD<|qa ?_;refine aC<|aK ?_;refine bW (λr A W=>∃x:Nat,x<=3/\3-x<=r/\(A.tmps.size=136/\A.defers=[]/\A.eval (.tmp 1)=.slice (some y) 24 yc/\A.eval (.tmp 2)=.pointer (some ⟨w.heap.size,0,none⟩)/\A.eval (.tmp 4)=.pointer (some ⟨w1.heap.size,0,none⟩))/\A.eval (.tmp 6)=.int .i64 (x:Int)/\(∀a,a<x->kX (gL v (7*a+5)) 1=true)/\Cx w W [vhI 37 w1.heap.size 74 74 (ndF bX (.slice none 0 0)),vhI 37 w.heap.size 74 74 (ndF { n with ax:=upA n v x } nv)]) 3
  ⟨0,Xz _,Yo,⟨YA,YB,Qv,Qv,Qv⟩,Qv,λa h=>absurd h Yo,by rw[aHD];exact H⟩ (λr A W hI=>?_)
 clear b0 b1 hs hd H;obtain⟨x,hx,hxr,⟨hs,hd,b1,b2,b4⟩,b6,hok,H⟩:=hI;refine aH<|aD (aG ?_);iterate 2 refine qa ?_
 refine aC<|dY (λh=>?_) (λh=>?_)
 .have hin:x<3:=by have:=Xu h;omega
  have hpW:∀i,i<7->W.drew.cell? ((y.add (7*x)).add i)=some (.int .i64 (gL v (7*x+i))):=λi hi=>by rw[MP];exact aM (hy _ Yo) H.drew.bel
  refine aS<|aH (aK ?_);refine aD ?_;iterate 2 refine qa ?_
  refine qg (oL _ _ rfl Qv Qv Yo Yo _) ?_;refine qa ?_;refine qg (oL _ _ rfl Qv Qv Yo Yo _) ?_;refine qa ?_;refine qg (aCz (i:=7*x) (k:=7*x+7) _ _ _ rfl Qv Qv Qv Yo Yo Yo Yo Yo _) ?_;refine qa ?_;refine aC<|aH<|aCS (λA W'=>W'=W/\(A.tmps.size=136/\A.defers=[]/\A.eval (.tmp 1)=.slice (some y) 24 yc/\A.eval (.tmp 2)=.pointer (some ⟨w.heap.size,0,none⟩)/\A.eval (.tmp 4)=.pointer (some ⟨w1.heap.size,0,none⟩))/\A.eval (.tmp 6)=.int .i64 (x:Int)/\A.eval (.tmp 7)=.slice (some (y.add (7*x))) (7*x+7-7*x) (yc-7*x)/\A.eval (.tmp 31)=.bool (!kX (gL v (7*x+5)) 1)) (λhT=>?_) (λA W' hT=>?_)
  .refine aI<|qa ?_;refine qg (cK _ _ rfl Qv Qv (i:=5) rfl Yo _) ?_;refine qg (cO _ rfl Qv (hpW 5 Yo)) ?_;by_cases g:gL v (7*x+5)<0
   .refine qg (fQ (b:=true) _ _ rfl Qv Qv (Xt g) _) ?_;iterate 1 (refine qa ?_;(iterate 4 refine gB ?_);refine qg (aL _ _ _ rfl Qv Qv _) ?_)
    refine aC ?_;exact hT _ _ ⟨rfl,⟨YA,YB,Qv,Qv,Qv⟩,Qv,Qv,Eq.trans Qv (by unfold kX;rw[Xf Yo];rfl)⟩
   refine qg (fQ (b:=false) _ _ rfl Qv Qv (Xf g) _) ?_;iterate 2 refine qa ?_
   refine qg (cK _ _ rfl Qv Qv (i:=5) rfl Yo _) ?_;refine qg (cO _ rfl Qv (hpW 5 Yo)) ?_;refine qg (fJ (b:= !kX (gL v (7*x+5)) 1) _ _ rfl Qv Qv (by unfold kX;by_cases g2:1<gL v (7*x+5)<;>simp[g2]<;>omega) _) ?_;refine qg (aR _ _ _ rfl Qv Qv _) ?_;refine aC ?_;exact hT _ _ ⟨rfl,⟨YA,YB,Qv,Qv,Qv⟩,Qv,Qv,Qv⟩
  clear b1 b2 b4 b6 hs hd;obtain⟨rfl,⟨hs,hd,b1,b2,b4⟩,b6,b7,b31⟩:=hT;refine lD b31 (λh=>?_) (λh=>?_)
  .have eno:unOK v=false:=aIC hin (by simpa using h);refine aD (aG ?_);refine qa ?_;refine eO H.a0 aT (qK _ hnv) ?_;clear H;intro V1 H z5;refine qa ?_;refine aC ?_;exact aW (jK (yY (jK (UH (yY (jK (aN YB (kN rfl Qv Qv ManyK.out H.v0 (Xr _)) ⟨_,by rw[eno],qK _ hnv,λh=>(by rw[eno] at h;cases h),H.bel⟩)))))))
  have hb:kX (gL v (7*x+5)) 1=true:=by simpa using h
  refine aS ?_;replace H:=H.drew;have hS:(λZ=>Below W'.drew.heap.size W'.drew Z) W'.drew:=Below.refl _ _;refine fD (S:=λZ=>Below W'.drew.heap.size W'.drew Z) (.mv 0 (.mv 1 (.mv 2 (.rd 3 (.mv 4 (.mv 5 (.rd 6 (.mv 7 (.mv 8 (.rd 9 (.mv 10 (.mv 11 (.rd 12 (.mv 13 (.mv 14 (.rd 15 (.mv 16 (.mv 17 (.rd 18 (.mv 19 (.mv 20 (.mv 21 (.rd 22 (.mv 23 (.mv 24 (.mv 25 (.go 26 .fin))))))))))))))))))))))))))) [26] Yl Yl ?_;refine A8 ?_;refine qj ?_;refine qj ?_;refine Yk rfl (λ_=>cK _ _ rfl Qv Qv (i:=0) rfl Yo _) ?_;refine Yr rfl hS (λ_ e=>cO _ rfl Qv (aM (hpW 0 Yo) e)) ?_;refine qj ?_;refine Yk rfl (λ_=>cK _ _ rfl Qv Qv (i:=1) rfl Yo _) ?_;refine Yr rfl hS (λ_ e=>cO _ rfl Qv (aM (hpW 1 Yo) e)) ?_;refine qj ?_;refine Yk rfl (λ_=>cK _ _ rfl Qv Qv (i:=2) rfl Yo _) ?_;refine Yr rfl hS (λ_ e=>cO _ rfl Qv (aM (hpW 2 Yo) e)) ?_;refine qj ?_;refine Yk rfl (λ_=>cK _ _ rfl Qv Qv (i:=3) rfl Yo _) ?_;refine Yr rfl hS (λ_ e=>cO _ rfl Qv (aM (hpW 3 Yo) e)) ?_;refine qj ?_;refine Yk rfl (λ_=>cK _ _ rfl Qv Qv (i:=4) rfl Yo _) ?_;refine Yr rfl hS (λ_ e=>cO _ rfl Qv (aM (hpW 4 Yo) e)) ?_;refine qj ?_;refine Yk rfl (λ_=>cK _ _ rfl Qv Qv (i:=5) rfl Yo _) ?_;refine Yr rfl hS (λ_ e=>cO _ rfl Qv (aM (hpW 5 Yo) e)) ?_;refine fF rfl rfl (λ_ _ _ h=>h) Yw (λw=>fJ (b:=(unA v x).B) _ _ rfl Qv Qv rfl w) ?_;refine qj ?_;refine Yk rfl (λ_=>cK _ _ rfl Qv Qv (i:=6) rfl Yo _) ?_;refine Yr rfl hS (λ_ e=>cO _ rfl Qv (aM (hpW 6 Yo) e)) ?_;refine Yk rfl (λ_=>UX (s:=unA v x) _ _ _ _ _ _ _ rfl Qv Qv Qv Qv Qv Qv Qv _) ?_;refine qj ?_;refine fF rfl rfl (λ_ _ _ h=>h) Yw (λw=>bD _ _ _ _ rfl ArrK.out SizK.out Qv Qv rfl hin w) ?_;refine dF rfl Yw (λK hK=>aO _ _ _ _ rfl ManyK.out Qv Qv H.v1 Yo (aKW _) rfl (λV1 m1 k1 z5=>hK _ (λh=>absurd h Yc) ?_));replace H:=H.a1.s k1 (m1.congr (sS _ _ _ x hin));refine mW<|aI ?_;repeat refine qa ?_
  exact aQ ⟨3-(x+1),Yo,x+1,Yo,Yo,⟨YA,YB,Qv,Qv,Qv⟩,Eq.trans Qv YC,λa ha=>by
   by_cases e:a=x
   .rw[e];exact hb
   .exact hok a Yo,by rw[<-aGO];exact H⟩
 obtain rfl:x=3:=by have:=Xg h;omega
 rw[aED] at H;refine bP (dM ?_);refine aH<|aCS (λA W'=>(A.tmps.size=136/\A.defers=[]/\A.eval (.tmp 1)=.slice (some y) 24 yc/\A.eval (.tmp 2)=.pointer (some ⟨w.heap.size,0,none⟩)/\A.eval (.tmp 4)=.pointer (some ⟨w1.heap.size,0,none⟩))/\A.eval (.tmp 92)=.bool (decide (gL v 21<0\/15<gL v 21\/gL v 22<0\/4095<gL v 22\/gL v 23<0\/4095<gL v 23))/\Cx w W' [vhI 37 w1.heap.size 74 74 (ndF bX (.slice none 0 0)),vhI 37 w.heap.size 74 74 (ndF { n with ax:=unA v } nv)]) (λhT=>?_) (λA V hT=>?_)
 .refine aI<|qa ?_;refine qg (cK _ _ rfl Qv Qv (i:=21) rfl Yo _) ?_;refine qg (cO _ rfl Qv (aM (hy 21 Yo) H.bel)) ?_;by_cases g0:gL v 21<0
  .refine qg (fQ (b:=true) _ _ rfl Qv Qv (Xt g0) _) ?_;iterate 5 (refine qa ?_;(iterate 4 refine gB ?_);refine qg (aL _ _ _ rfl Qv Qv _) ?_)
   refine aC ?_;exact hT _ _ ⟨⟨YA,YB,Qv,Qv,Qv⟩,Eq.trans Qv (by rw[Xt (show gL v 21<0\/15<gL v 21\/gL v 22<0\/4095<gL v 22\/gL v 23<0\/4095<gL v 23 by omega)]),H⟩
  refine qg (fQ (b:=false) _ _ rfl Qv Qv (Xf g0) _) ?_;refine qa ?_;refine qa ?_;refine qg (cK _ _ rfl Qv Qv (i:=21) rfl Yo _) ?_;refine qg (cO _ rfl Qv (aM (hy 21 Yo) H.bel)) ?_;by_cases g1:15<gL v 21
  .refine qg (fJ (b:=true) _ _ rfl Qv Qv (Xt g1) _) ?_;refine qg (aR _ _ _ rfl Qv Qv _) ?_;iterate 4 (refine qa ?_;(iterate 4 refine gB ?_);refine qg (aL _ _ _ rfl Qv Qv _) ?_)
   refine aC ?_;exact hT _ _ ⟨⟨YA,YB,Qv,Qv,Qv⟩,Eq.trans Qv (by rw[Xt (show gL v 21<0\/15<gL v 21\/gL v 22<0\/4095<gL v 22\/gL v 23<0\/4095<gL v 23 by omega)]),H⟩
  refine qg (fJ (b:=false) _ _ rfl Qv Qv (Xf g1) _) ?_;refine qg (aR _ _ _ rfl Qv Qv _) ?_;refine qa ?_;refine qa ?_;refine qg (cK _ _ rfl Qv Qv (i:=22) rfl Yo _) ?_;refine qg (cO _ rfl Qv (aM (hy 22 Yo) H.bel)) ?_;by_cases g2:gL v 22<0
  .refine qg (fQ (b:=true) _ _ rfl Qv Qv (Xt g2) _) ?_;refine qg (aR _ _ _ rfl Qv Qv _) ?_;iterate 3 (refine qa ?_;(iterate 4 refine gB ?_);refine qg (aL _ _ _ rfl Qv Qv _) ?_)
   refine aC ?_;exact hT _ _ ⟨⟨YA,YB,Qv,Qv,Qv⟩,Eq.trans Qv (by rw[Xt (show gL v 21<0\/15<gL v 21\/gL v 22<0\/4095<gL v 22\/gL v 23<0\/4095<gL v 23 by omega)]),H⟩
  refine qg (fQ (b:=false) _ _ rfl Qv Qv (Xf g2) _) ?_;refine qg (aR _ _ _ rfl Qv Qv _) ?_;refine qa ?_;refine qa ?_;refine qg (cK _ _ rfl Qv Qv (i:=22) rfl Yo _) ?_;refine qg (cO _ rfl Qv (aM (hy 22 Yo) H.bel)) ?_;by_cases g3:4095<gL v 22
  .refine qg (fJ (b:=true) _ _ rfl Qv Qv (Xt g3) _) ?_;refine qg (aR _ _ _ rfl Qv Qv _) ?_;iterate 2 (refine qa ?_;(iterate 4 refine gB ?_);refine qg (aL _ _ _ rfl Qv Qv _) ?_)
   refine aC ?_;exact hT _ _ ⟨⟨YA,YB,Qv,Qv,Qv⟩,Eq.trans Qv (by rw[Xt (show gL v 21<0\/15<gL v 21\/gL v 22<0\/4095<gL v 22\/gL v 23<0\/4095<gL v 23 by omega)]),H⟩
  refine qg (fJ (b:=false) _ _ rfl Qv Qv (Xf g3) _) ?_;refine qg (aR _ _ _ rfl Qv Qv _) ?_;refine qa ?_;refine qa ?_;refine qg (cK _ _ rfl Qv Qv (i:=23) rfl Yo _) ?_;refine qg (cO _ rfl Qv (aM (hy 23 Yo) H.bel)) ?_;by_cases g4:gL v 23<0
  .refine qg (fQ (b:=true) _ _ rfl Qv Qv (Xt g4) _) ?_;refine qg (aR _ _ _ rfl Qv Qv _) ?_;iterate 1 (refine qa ?_;(iterate 4 refine gB ?_);refine qg (aL _ _ _ rfl Qv Qv _) ?_)
   refine aC ?_;exact hT _ _ ⟨⟨YA,YB,Qv,Qv,Qv⟩,Eq.trans Qv (by rw[Xt (show gL v 21<0\/15<gL v 21\/gL v 22<0\/4095<gL v 22\/gL v 23<0\/4095<gL v 23 by omega)]),H⟩
  refine qg (fQ (b:=false) _ _ rfl Qv Qv (Xf g4) _) ?_;refine qg (aR _ _ _ rfl Qv Qv _) ?_;refine qa ?_;refine qa ?_;refine qg (cK _ _ rfl Qv Qv (i:=23) rfl Yo _) ?_;refine qg (cO _ rfl Qv (aM (hy 23 Yo) H.bel)) ?_;refine qa ?_;refine qg (aR _ _ _ rfl Qv Qv _) ?_;refine aC ?_;exact hT _ _ ⟨⟨YA,YB,Qv,Qv,Qv⟩,Eq.trans Qv (congrArg Value.bool (decide_eq_decide.2 Yo)),H⟩
 clear b1 b2 b4 b6 hs hd H;obtain⟨⟨hs,hd,b1,b2,b4⟩,b92,H⟩:=hT;refine lD b92 (λh=>?_) (λh=>?_)
 .have eno:unOK v=false:=aIQ (Xu h);refine aD (aG ?_);refine qa ?_;refine eO H.a0 aT (qK _ hnv) ?_;clear H;intro V1 H z5;refine qa ?_;refine aC ?_;exact aW (jK (aN YB (kN rfl Qv Qv ManyK.out H.v0 (Xr _)) ⟨_,by rw[eno],qK _ hnv,λh=>(by rw[eno] at h;cases h),H.bel⟩))
 have hn:=Xg h;refine aS<|aH ?_;replace H:=H.drew;have hyV:∀i,i<24->V.drew.cell? (y.add i)=some (.int .i64 (gL v i)):=λi hi=>aM (hy i hi) H.bel
 have hS:(λZ=>Below V.drew.heap.size V.drew Z) V.drew:=Below.refl _ _;refine fD (S:=λZ=>Below V.drew.heap.size V.drew Z) (.mv 0 (.mv 1 (.rd 2 (.mv 3 (.mv 4 (.rd 5 (.mv 6 (.mv 7 .fin)))))))) [] Yl Yl ?_;refine A8 ?_;refine qj ?_;refine Yk rfl (λ_=>cK _ _ rfl Qv Qv (i:=22) rfl Yo _) ?_;refine Yr rfl hS (λ_ e=>cO _ rfl Qv (aM (hyV 22 Yo) e)) ?_;refine qj ?_;refine Yk rfl (λ_=>cK _ _ rfl Qv Qv (i:=23) rfl Yo _) ?_;refine Yr rfl hS (λ_ e=>cO _ rfl Qv (aM (hyV 23 Yo) e)) ?_;iterate 2 refine qj ?_
 refine fT<|aH<|aD<|qa ?_;refine aC<|aK ?_;refine bW (λr A W=>∃i:Nat,i<=4/\4-i<=r/\(A.tmps.size=136/\A.defers=[]/\A.eval (.tmp 1)=.slice (some y) 24 yc/\A.eval (.tmp 2)=.pointer (some ⟨w.heap.size,0,none⟩)/\A.eval (.tmp 4)=.pointer (some ⟨w1.heap.size,0,none⟩))/\A.eval (.tmp 8)=.int .i64 (gL v 22/8^i)/\A.eval (.tmp 9)=.int .i64 (gL v 23/8^i)/\A.eval (.tmp 10)=.int .i64 (3-(i:Int))/\Cx w W [vhI 37 w1.heap.size 74 74 (ndF bX (.slice none 0 0)),vhI 37 w.heap.size 74 74 (ndF { n with ax:=unA v,rl:=upR n.rl (gL v 21) (gL v 22) (gL v 23) i } nv)]) 4
  ⟨0,Xz _,Yo,⟨YA,YB,Qv,Qv,Qv⟩,Eq.trans Qv (by rw[Int.pow_zero,Int.ediv_one]),Eq.trans Qv (by rw[Int.pow_zero,Int.ediv_one]),Qv,by rw[aHg];exact H⟩ (λr A W3 hI=>?_)
 clear b1 b2 b4 b92 hs hd H hyV hS;obtain⟨i,hi,hir,⟨hs,hd,b1,b2,b4⟩,b8,b9,b10,H⟩:=hI;have hq2:=aAX (n:=gL v 22) Yo Yo i;have hq3:=aAX (n:=gL v 23) Yo Yo i;refine aH<|aD (aG ?_);iterate 2 refine qa ?_
 refine aC<|dY (λh=>?_) (λh=>?_)
 .have hin3:i<4:=by have:=Xu h;omega
  refine aS<|aH (aK ?_);refine aD ?_;iterate 3 refine qa ?_
  refine qg (GQ _ _ rfl Qv Qv hq2.1 _) ?_;refine qa ?_;refine qg (GQ _ _ rfl Qv Qv hq3.1 _) ?_;iterate 2 refine qa ?_
  refine qg (bD (i:=3-i) _ _ _ _ rfl ArrK.out SizK.out Qv Qv Yo Yo _) ?_;refine pK (q:=0+27+4+(3-i)*1) (g':=ndF { n with ax:=unA v,rl:=upM1 n.rl (gL v 21) (gL v 22) (gL v 23) i } nv) (u:=.int .i64 (gL v 22/8^i%8)) H.a1 (upd_rlCell (off:=0+27+4+(3-i)*1) (p:=4+(3-i)) _ nv Yo Yo (up_m hin3)) ?_;clear H;intro V1 H z5;iterate 2 refine qa ?_
  refine qg (bD (i:=3-i) _ _ _ _ rfl ArrK.out SizK.out Qv Qv Yo Yo _) ?_;refine pK (q:=0+27+8+(3-i)*1) (g':=ndF { n with ax:=unA v,rl:=upM2 n.rl (gL v 21) (gL v 22) (gL v 23) i } nv) (u:=.int .i64 (gL v 23/8^i%8)) H.a1 (upd_rlCell (off:=0+27+8+(3-i)*1) (p:=8+(3-i)) _ nv Yo Yo (up_j hin3)) ?_;clear H;intro V2 H z6;refine aC<|aD<|qa ?_;refine qg (FZ _ _ rfl Qv Qv hq2.1 hq2.2 _) ?_;refine qa ?_;refine qg (FZ _ _ rfl Qv Qv hq3.1 hq3.2 _) ?_;iterate 2 refine qa ?_
  refine aC<|aI ?_;iterate 2 refine qa ?_
  refine qg (cK _ _ rfl Qv Qv (i:=21) rfl Yo _) ?_;refine qg (cO _ rfl Qv (aM (hy 21 Yo) H.bel)) ?_;refine qa ?_;refine qg (aGz (s:=3-i) _ rfl (Eq.trans Qv (by congr 1;omega)) _) ?_;refine qg (aEg _ _ rfl Qv Qv Yo _) ?_;refine qg (aHN _ _ rfl Qv Qv (aIo Yo Yo _).1 _) ?_;iterate 3 refine qa ?_
  refine qg (bD (i:=3-i) _ _ _ _ rfl ArrK.out SizK.out Qv Qv Yo Yo _) ?_;refine pK (q:=0+27+0+(3-i)*1) (g':=ndF { n with ax:=unA v,rl:=upR n.rl (gL v 21) (gL v 22) (gL v 23) (i+1) } nv) (u:=.bool (decide (gL v 21/2^(3-i)%2=1))) H.a1 (upd_rlCell (off:=0+27+0+(3-i)*1) (p:=3-i) _ nv Yo Yo (up_i hin3)) ?_;clear H;intro V3 H z7;refine fB<|aI ?_;repeat refine qa ?_
  exact aQ ⟨4-(i+1),Yo,i+1,Yo,Yo,⟨YA,YB,Qv,Qv,Qv⟩,Eq.trans Qv (by rw[TA]),Eq.trans Qv (by rw[TA]),Eq.trans Qv (by congr 1;omega),H⟩
 obtain rfl:i=4:=by have:=Xg h;omega
 rw[aHA] at H;refine bP (dM ?_);refine aH ?_;replace H:=H.drew;have hS:Its [vhI 37 w.heap.size 74 74 (ndF { n with ax:=unA v,rl:=unR v } nv)] W3.drew:=Its.cons H.o1 (Its.nil _);refine fD (S:=Its [vhI 37 w.heap.size 74 74 (ndF { n with ax:=unA v,rl:=unR v } nv)]) (.rd 0 (.mv 1 (.rd 2 (.go 3 (.go 4 (.mv 5 .fin)))))) [] Yl Yl ?_;refine qr hS ?_;refine qj ?_;refine Yr rfl hS (λ_ H=>bL _ _ rfl fG Qv H.v0 Yo (vM _ _)) ?_;refine cZ rfl rfl Yw (λK hK=>?_);refine bQ _ 90 _ _ rfl Qv (YY _ _) (KQ (unR v) _ (λi _=>⟨QQ _ _,QQ _ _⟩)) ?_;rintro e V1 ⟨rfl,k1⟩;replace H:=H.call k1;refine⟨_,rfl,hK _ _ (λ_ _=>Its.cons H.o1 (Its.nil _)) ?_⟩;refine dF rfl Yw (λK hK=>?_);refine aO _ _ _ _ rfl ManyK.out Qv Qv H.v0 Yo (qK _ hnv) rfl (λV2 m2 k2 z5=>?_);replace H:=H.a0.s k2 (m2.congr aT);refine hK _ (λ_ _=>Its.cons H.o1 (Its.nil _)) ?_;refine qj ?_;refine fT ?_;have eok:unOK v=lH (unR v):=aDe hok Yo Yo Yo Yo Yo Yo;exact aW (aN YB (kN rfl Qv Qv ManyK.out H.v0 (Xr _)) ⟨_,by rw[eok],qK { n with ax:=unA v,rl:=unR v } hnv,λ_ _ _=>rfl,H.bel⟩)
theorem aAK(o:Option Lm):fstV o=.tuple #[P9 o,.bool o.isSome]:=by cases o<;>rfl
def cloF(n:Nd)(L:List Lm):Nd:=if (n.vS&&decide (n.vX≠n.dg))=true then cloT n L else n
variable{f:Operand->Value}
theorem aBl{o:Oper}(a b c d0 d e g:Operand)(ho:o.op=.build 86 #[(0,a),(1,b),(2,c),(3,d0),(4,d),(5,e),(6,g)])(h0:f a=.int .i64 n.id)(h1:f b=.int .i64 n.fr)(h2:f c=aP (λi=>iV (n.us i)) 0 3)(hx:f d0=aP (λi=>iV ((λa=>(n.ax a).X) i)) 0 3)(h3:f d=.int .i64 n.dg)(h4:f e=.bool n.vS)(h5:f g=aP (tF n.rl.I) 0 4)(w:World):(execOp f o).run Tryz.prog w=.ok (.value (aP (jJ n) 0 14)) w:=by
 have h2':f c=.agg #[.int .i64 (n.us 0),.int .i64 (n.us 1),.int .i64 (n.us 2)]:=h2;have hx':f d0=.agg #[.int .i64 (n.ax 0).X,.int .i64 (n.ax 1).X,.int .i64 (n.ax 2).X]:=hx;have h5':f g=.agg #[.bool (n.rl.I 0),.bool (n.rl.I 1),.bool (n.rl.I 2),.bool (n.rl.I 3)]:=h5;unfold execOp;rw[ho];simp only[List.map_toArray,List.map_cons,List.map_nil];rw[h0,h1,h2',hx',h3,h4,h5'];clear h0 h1 h2 hx h3 h4 h5 h2' hx' h5' ho;change _=_
 kernel_rfl
instance iNodD2_1:ZerK Tryz.prog 86 14 (jJ bX):=⟨BG⟩
instance iNodD2_2:EntK Tryz.prog 52:=⟨λargs w=>Yh⟩
set_option maxRecDepth 10000 in
theorem XZ:aNg 28:=by
 intro n ao c mo mc L w hok hag hmr hN hmc hRL;have hag:Sr w ao n.vA.length c (tF (bA n)):=hag;refine bO Tryz.func28 rfl 105 rfl Yd (λA hs hd hb=>?_);have b0:A.eval (.tmp 0)=aP (ndF n (.slice ao n.vA.length c)) 0 74:=hb 0 _ rfl;have b1:A.eval (.tmp 1)=.slice mo L.length mc:=hb 1 _ rfl;clear hb;have H:=Cx.start w;refine aD (aG ?_);refine iG H ?_;clear H;intro w1 H z1;refine fU H ?_;clear H;intro w2 H z2;refine fU H ?_;clear H;intro w3 H z3;refine aC<|aD<|qa ?_;refine mI (show Calls _ _ #[aP (ndF n (.slice ao n.vA.length c)) 0 74] _ _ from nM n ao c _ (hag.below H.bel) hok.vA) ?_;rintro e w4 ⟨a3,c3,rfl,o4,k4⟩;refine⟨aP (ndF n (.slice a3 n.vA.length c3)) 0 74,rfl,?_⟩;have hsz:=H.size;replace H:=H.add k4 (zW w n a3 c3) (bZ o4 hsz) (λj e=>(o4.lt j e).1);refine eO H.a3 aT (bN _ _ _ _) ?_;clear H;intro w5 H z5;refine aC<|aH<|aD<|qa ?_;refine mI (show Calls _ _ #[aP (ndF n (.slice a3 n.vA.length c3)) 0 74] _ _ from pF n _ _) ?_;rintro e w6 ⟨rfl,k6⟩;refine⟨_,rfl,?_⟩;replace H:=H.call k6;refine aC<|dY (λhno=>?_) (λhno=>?_)
 .refine aD<|qa ?_;refine qg (JC rfl _) ?_;refine eO H.a2 aT (bN _ _ _ _) ?_;clear H;intro w7 H z7;refine eO H.a1 aT (lK _ _) ?_;clear H;intro w8 H z8;refine aC ?_;have e1:gN n (L.map Lm.m)=n:=by unfold gN;rw[if_pos hno]
  have e2:qC n (L.map Lm.m)=bX:=by unfold qC;rw[if_pos hno]
  rw[e1,e2];exact aW (jK (aN YB (gH rfl Qv Qv ManyK.out ManyK.out H.v2 (Xr _) H.v1 (Xr _)) ⟨a3,c3,rfl,H.o0,H.bel⟩))
 refine aS<|IR (λA W'=>(A.tmps.size=105/\A.defers=[]/\A.eval (.tmp 1)=.slice mo L.length mc/\A.eval (.tmp 2)=.pointer (some ⟨w.heap.size,0,none⟩)/\A.eval (.tmp 4)=.pointer (some ⟨w1.heap.size,0,none⟩)/\A.eval (.tmp 5)=.pointer (some ⟨w2.heap.size,0,none⟩))/\A.eval (.tmp 6)=.bool (n.vS&&decide (n.vX≠n.dg))/\Cx w W' [zW w n a3 c3,vhI 86 w2.heap.size 14 14 (jJ bX),vhI 37 w1.heap.size 74 74 (ndF bX (.slice none 0 0)),vhI 37 w.heap.size 74 74 (ndF n (.slice a3 n.vA.length c3))]) (λhT=>?_) (λA V0 hT=>?_)
 .refine aI ?_;iterate 2 refine qa ?_
  refine qg (aZ (v:=.bool n.vS) _ _ rfl OneK.out Qv H.v3 Yo rfl) ?_;refine qa ?_;rcases hvs:n.vS with _|_
  .iterate 6 refine gB ?_
   refine qg (aR _ _ _ rfl Qv Qv _) ?_;refine qa ?_;refine aC ?_;exact hT _ _ ⟨⟨YA,YB,Qv,Qv,Qv,Qv⟩,Eq.trans Qv (by rw[hvs];rfl),H⟩
  .iterate 6 refine qa ?_
   refine qg (aL _ _ _ rfl Qv Qv _) ?_;refine qa ?_;refine aC ?_;exact hT _ _ ⟨⟨YA,YB,Qv,Qv,Qv,Qv⟩,Eq.trans Qv (by rw[hvs];rfl),H⟩
 clear b0 b1 hs hd H;obtain⟨⟨hs,hd,b1,b2,b4,b5⟩,b6,H⟩:=hT;refine aH<|aD (aG ?_);refine qa ?_;refine aC<|aK ?_;refine bW (λr A W'=>∃(i:Nat) (lb:Bool) (N:Nd),i<=4/\4-i<=r/\(A.tmps.size=105/\A.defers=[]/\A.eval (.tmp 1)=.slice mo L.length mc/\A.eval (.tmp 2)=.pointer (some ⟨w.heap.size,0,none⟩)/\A.eval (.tmp 4)=.pointer (some ⟨w1.heap.size,0,none⟩)/\A.eval (.tmp 5)=.pointer (some ⟨w2.heap.size,0,none⟩))/\A.eval (.tmp 6)=.bool lb/\A.eval (.tmp 7)=.int .i64 (i:Int)/\(N.id=n.id/\N.fr=n.fr/\N.vA=n.vA)/\(lb=true->(n.vS&&decide (n.vX≠n.dg))=true/\N=n/\∀p q,p<q->q<4->(p<i)->jF n L p q=none)/\(lb=false->N=cloF n L)/\Cx w W' [zW w n a3 c3,vhI 86 w2.heap.size 14 14 (jJ bX),vhI 37 w1.heap.size 74 74 (ndF bX (.slice none 0 0)),vhI 37 w.heap.size 74 74 (ndF N (.slice a3 n.vA.length c3))]) 4
  ⟨0,(n.vS&&decide (n.vX≠n.dg)),n,Yo,Yo,⟨YA,YB,Qv,Qv,Qv,Qv⟩,Qv,Qv,⟨rfl,rfl,rfl⟩,(λhl=>⟨hl,rfl,λp q _ _ h=>absurd h Yo⟩),(λhl=>by unfold cloF;rw[if_neg (by rw[hl];decide)]),H⟩ (λr A W hI=>?_)
 clear b1 b2 b4 b5 b6 hs hd H;obtain⟨i,lb,N,hi,hir,⟨hs,hd,b1,b2,b4,b5⟩,b6,b7,hN3,hT1,hT2,H⟩:=hI;refine aH<|aD (aG ?_);iterate 2 refine qa ?_
 refine aC<|dY (λh=>?_) (λh=>?_)
 .have hin:i<4:=by have:=Xu h;omega
  refine aS<|aH (aK ?_);refine aD ?_;iterate 3 refine qa ?_
  refine aC<|aK ?_;refine bW (λr A W'=>∃(k:Nat) (lb:Bool) (N:Nd),i<k/\k<=4/\4-k<=r/\(A.tmps.size=105/\A.defers=[]/\A.eval (.tmp 1)=.slice mo L.length mc/\A.eval (.tmp 2)=.pointer (some ⟨w.heap.size,0,none⟩)/\A.eval (.tmp 4)=.pointer (some ⟨w1.heap.size,0,none⟩)/\A.eval (.tmp 5)=.pointer (some ⟨w2.heap.size,0,none⟩))/\A.eval (.tmp 6)=.bool lb/\A.eval (.tmp 7)=.int .i64 (i:Int)/\A.eval (.tmp 8)=.int .i64 (k:Int)/\(N.id=n.id/\N.fr=n.fr/\N.vA=n.vA)/\(lb=true->(n.vS&&decide (n.vX≠n.dg))=true/\N=n/\∀p q,p<q->q<4->(p<i\/p=i/\q<k)->jF n L p q=none)/\(lb=false->N=cloF n L)/\Cx w W' [zW w n a3 c3,vhI 86 w2.heap.size 14 14 (jJ bX),vhI 37 w1.heap.size 74 74 (ndF bX (.slice none 0 0)),vhI 37 w.heap.size 74 74 (ndF N (.slice a3 n.vA.length c3))]) 4
   ⟨i+1,lb,N,Yo,Yo,Yo,⟨YA,YB,Qv,Qv,Qv,Qv⟩,Qv,Qv,Eq.trans Qv YC,hN3,(λhl=>⟨(hT1 hl).1,(hT1 hl).2.1,λp q h1 h2 h3=>(hT1 hl).2.2 p q h1 h2 Yo⟩),hT2,H⟩ (λr A W2 hI=>?_)
  clear b1 b2 b4 b5 b6 b7 hs hd H hN3 hT1 hT2 lb N;obtain⟨k,lb,N,hik,hk,hkr,⟨hs,hd,b1,b2,b4,b5⟩,b6,b7,b8,hN3,hT1,hT2,H⟩:=hI;refine aH<|aD (aG ?_);iterate 2 refine qa ?_
  refine aC<|dY (λh=>?_) (λh=>?_)
  .have hk4:k<4:=by have:=Xu h;omega
   refine aS<|aH (aK ?_);refine aD<|qa ?_;iterate 2 refine qa ?_
   refine bI rfl Yw (λK hK=>oQ _ _ _ _ _ _ _ _ rfl Qv Qv Qv Qv Qv (nL _ _ _ _ _ _) (show Calls _ _ #[aP (ndF N (.slice a3 n.vA.length c3)) 0 74,.slice mo L.length mc,.int .i64 (i:Int),.int .i64 5,.int .i64 24] _ (λe w'=>e=.returned (fstV (fL N.id N.fr L (i:Int) 5 24))/\_) from mJ N (.slice a3 n.vA.length c3) mo mc L (i:Int) 5 24 _ (hmr.below H.bel) hN) ?_);rintro e V1 ⟨rfl,k1⟩;refine⟨_,by rw[aAK,hN3.1,hN3.2.1],hK _ _ ?_⟩;replace H:=H.call k1;refine qa ?_;refine qg (lQ _ rfl Qv _) ?_;refine qg (lN _ rfl Qv _) ?_;iterate 2 refine qa ?_
   refine aC<|aD<|qa ?_;iterate 2 refine qa ?_
   refine bI rfl Yw (λK hK=>oQ _ _ _ _ _ _ _ _ rfl Qv Qv Qv Qv Qv (nL _ _ _ _ _ _) (show Calls _ _ #[aP (ndF N (.slice a3 n.vA.length c3)) 0 74,.slice mo L.length mc,.int .i64 (k:Int),.int .i64 5,.int .i64 24] _ (λe w'=>e=.returned (fstV (fL N.id N.fr L (k:Int) 5 24))/\_) from mJ N (.slice a3 n.vA.length c3) mo mc L (k:Int) 5 24 _ (hmr.below H.bel) hN) ?_);rintro e V2 ⟨rfl,k2⟩;refine⟨_,by rw[aAK,hN3.1,hN3.2.1],hK _ _ ?_⟩;replace H:=H.call k2;refine qa ?_;refine qg (lQ _ rfl Qv _) ?_;refine qg (lN _ rfl Qv _) ?_;iterate 2 refine qa ?_
   refine aC<|IR (λA W'=>(A.tmps.size=105/\A.defers=[]/\A.eval (.tmp 1)=.slice mo L.length mc/\A.eval (.tmp 2)=.pointer (some ⟨w.heap.size,0,none⟩)/\A.eval (.tmp 4)=.pointer (some ⟨w1.heap.size,0,none⟩)/\A.eval (.tmp 5)=.pointer (some ⟨w2.heap.size,0,none⟩))/\A.eval (.tmp 6)=.bool lb/\A.eval (.tmp 7)=.int .i64 (i:Int)/\A.eval (.tmp 8)=.int .i64 (k:Int)/\A.eval (.tmp 9)=P9 (fL n.id n.fr L (i:Int) 5 24)/\A.eval (.tmp 67)=.bool (lb&&(jF n L i k).isSome)/\Cx w W' [zW w n a3 c3,vhI 86 w2.heap.size 14 14 (jJ bX),vhI 37 w1.heap.size 74 74 (ndF bX (.slice none 0 0)),vhI 37 w.heap.size 74 74 (ndF N (.slice a3 n.vA.length c3))]) (λhT=>?_) (λA V3 hT=>?_)
   .refine aI ?_;iterate 2 refine qa ?_
    rcases lb with _|_
    .refine gB ?_;refine qg (aR _ _ _ rfl Qv Qv _) ?_;refine qa ?_;refine gB ?_;refine qg (aR _ _ _ rfl Qv Qv _) ?_;refine qa ?_;iterate 3 refine gB ?_
     refine qg (aR _ _ _ rfl Qv Qv _) ?_;refine aC ?_;exact hT _ _ ⟨⟨YA,YB,Qv,Qv,Qv,Qv⟩,Qv,Qv,Qv,Qv,Qv,H⟩
    refine qa ?_;refine qg (aL _ _ _ rfl Qv Qv _) ?_;refine qa ?_;rcases hfi:fL n.id n.fr L (i:Int) 5 24 with _|ci
    .refine gB ?_;refine qg (aR _ _ _ rfl Qv Qv _) ?_;refine qa ?_;iterate 3 refine gB ?_
     refine qg (aR _ _ _ rfl Qv Qv _) ?_;refine aC ?_;exact hT _ _ ⟨⟨YA,YB,Qv,Qv,Qv,Qv⟩,Qv,Qv,Qv,Eq.trans Qv (by rw[hfi]),Eq.trans Qv (by unfold jF;rw[hfi];rfl),H⟩
    refine qa ?_;refine qg (aL _ _ _ rfl Qv Qv _) ?_;refine qa ?_;rcases hfk:fL n.id n.fr L (k:Int) 5 24 with _|ck
    .iterate 3 refine gB ?_
     refine qg (aR _ _ _ rfl Qv Qv _) ?_;refine aC ?_;exact hT _ _ ⟨⟨YA,YB,Qv,Qv,Qv,Qv⟩,Qv,Qv,Qv,Eq.trans Qv (by rw[hfi]),Eq.trans Qv (by unfold jF;rw[hfi,hfk];rfl),H⟩
    obtain⟨mci,_⟩:=nV hfi;obtain⟨mck,_⟩:=nV hfk;iterate 2 refine qa ?_
    refine bI rfl (dB rfl rfl rfl Qv) (λK hK=>dG _ _ _ _ _ rfl Qv Qv (EntK.out _ _) (show Calls _ _ #[P9 (some ci),P9 (some ck)] _ _ from JN ci.m.L ck.m.L ci.ao ck.ao ci.cap ck.cap _ (by have:=(hmr.2 ci mci).2.2;omega) ((hmr.2 ci mci).below H.bel).1 ((hmr.2 ck mck).below H.bel).1) ?_);rintro e V1 ⟨rfl,k1⟩;refine⟨_,rfl,hK _ _ ?_⟩;replace H:=H.call k1;refine qg (aL _ _ _ rfl Qv Qv _) ?_;refine aC ?_;exact hT _ _ ⟨⟨YA,YB,Qv,Qv,Qv,Qv⟩,Qv,Qv,Qv,Eq.trans Qv (by rw[hfi]),Eq.trans Qv (by unfold jF;rw[hfi,hfk];by_cases he:ci.m.L=ck.m.L<;>simp[he]),H⟩
   clear b1 b2 b4 b5 b6 b7 b8 hs hd H;obtain⟨⟨hs,hd,b1,b2,b4,b5⟩,b6,b7,b8,b9,b67,H⟩:=hT;refine lD b67 (λh=>?_) (λh=>?_)
   .simp only[Bool.and_eq_true] at h;obtain⟨rfl,hps⟩:=h;obtain⟨hL0,rfl,hnp⟩:=hT1 rfl;obtain⟨ci,hpk⟩:=Option.isSome_iff_exists.1 hps;have hfi:fL N.id N.fr L (i:Int) 5 24=some ci:=by
     unfold jF at hpk;split at hpk
     .rename_i a b ha hb;split at hpk
      .cases hpk;exact ha
      .cases hpk
     .cases hpk
    obtain⟨mci,fci⟩:=nV hfi;have hl24:ci.m.L.length=24:=by have:=VJ fci;omega
    have hal:yI N L=some ci:=PG hik hk4 hpk (λp q h1 h2 h3=>hnp p q h1 h2 h3);have hsr:=((hmr.2 ci mci).below H.bel);obtain⟨y,ey,hyc⟩:=hsr.at Yo;have hlm:P9 (fL N.id N.fr L (i:Int) 5 24)=.slice (some y) 24 ci.cap:=by rw[hfi];show Value.slice ci.ao ci.m.L.length ci.cap=_;rw[ey,hl24]
    refine aD (aG ?_);refine qa ?_;refine aC<|aD<|qa ?_;refine qg (dL _ rfl (Eq.trans Qv hlm) _) ?_;refine bI rfl Yw (λK hK=>dG _ _ _ _ _ rfl Qv Qv (JG _ _ _) (show Calls _ _ #[aP (ndF N (.slice a3 N.vA.length c3)) 0 74,.slice (some y) 24 ci.cap] _ _ from KM N (.slice a3 N.vA.length c3) ci.m.L y ci.cap _ rfl (by have:=hsr.2.1;omega) (λj hj=>hyc j Yo)) ?_);rintro e V4 ⟨fx,rfl,ofx,hfx,k4'⟩;refine⟨_,rfl,hK _ _ ?_⟩;replace H:=H.call k4';refine qa ?_;refine qg (lQ _ rfl Qv _) ?_;refine qg (lN _ rfl Qv _) ?_;refine fU H ?_;clear H;intro V5 H z7;refine eO H.a0 aT ofx ?_;clear H;intro V6 H z8;refine qa ?_;refine aC<|aD<|qa ?_;refine aC<|dY (λhu=>?_) (λhu=>?_)
    .refine aI<|qa ?_;refine eO H.a4 aT ofx ?_;clear H;intro V7 H z9;refine fB<|aI ?_;repeat refine qa ?_
     refine aQ ⟨4-(k+1),Yo,k+1,false,{ N with ax:=unA ci.m.L,rl:=unR ci.m.L },Yo,Yo,Yo,⟨YA,YB,Qv,Qv,Qv,Qv⟩,Qv,Qv,Eq.trans Qv YC,⟨rfl,rfl,rfl⟩,(λh=>by cases h),(λ_=>by unfold cloF cloT;rw[if_pos hL0,hal];exact (if_pos hu).symm),?_⟩;exact (H.tl.f3.a0.put (y:=(vhI _ _ _ _ _)) ⟨rfl,rfl,rfl,(Xr _),λ_ _ _=>rfl,(Vh.congr H.tl.f3.v0 (hfx hu)),λ_ h=>Or.inl h⟩).b3
    .refine fP<|aI ?_;repeat refine qa ?_
     exact aQ ⟨4-(k+1),Yo,k+1,false,N,Yo,Yo,Yo,⟨YA,YB,Qv,Qv,Qv,Qv⟩,Qv,Qv,Eq.trans Qv YC,⟨rfl,rfl,rfl⟩,(λh=>by cases h),(λ_=>by unfold cloF cloT;rw[if_pos hL0,hal];exact (if_neg (by rw[hu];decide)).symm),H.tl⟩
   .refine fP<|aI (aG ?_);repeat refine qa ?_
    refine aQ ⟨4-(k+1),Yo,k+1,lb,N,Yo,Yo,Yo,⟨YA,YB,Qv,Qv,Qv,Qv⟩,Qv,Qv,Eq.trans Qv YC,hN3,(λhl=>⟨(hT1 hl).1,(hT1 hl).2.1,λp q h1 h2 h3=>?_⟩),hT2,H⟩;by_cases e:p=i/\q=k
    .rw[e.1,e.2];rw[hl,Bool.true_and] at h;exact Option.not_isSome_iff_eq_none.1 (by rw[h];decide)
    .exact (hT1 hl).2.2 p q h1 h2 Yo
  .obtain rfl:k=4:=by have:=Xg h;omega
   refine bP (zG ?_);refine aI ?_;repeat refine qa ?_
   exact aQ ⟨4-(i+1),Yo,i+1,lb,N,Yo,Yo,⟨YA,YB,Qv,Qv,Qv,Qv⟩,Qv,Eq.trans Qv YC,hN3,(λhl=>⟨(hT1 hl).1,(hT1 hl).2.1,λp q h1 h2 h3=>(hT1 hl).2.2 p q h1 h2 Yo⟩),hT2,H⟩
 obtain rfl:i=4:=by have:=Xg h;omega
 have eF:N=cloF n L:=by
  rcases lb with _|_
  .exact hT2 rfl
  .obtain⟨hl,e,hnp⟩:=hT1 rfl;rw[e];unfold cloF cloT;rw[if_pos hl,VS (λp q h1 h2=>hnp p q h1 h2 Yo)]
 have eN:gN n (L.map Lm.m)=N:=by
  rw[eF];unfold cloF;by_cases hl:(n.vS&&decide (n.vX≠n.dg))=true
  .rw[if_pos hl];simp only[Bool.and_eq_true,decide_eq_true_eq] at hl;exact UR hno hl
  .rw[if_neg hl];simp only[Bool.and_eq_true,decide_eq_true_eq] at hl;exact AV hno hl
 refine bP (dM ?_);refine aH ?_;replace H:=H.drew;have hS:Its [vhI 37 w.heap.size 74 74 (ndF N (.slice a3 n.vA.length c3))] W.drew:=Its.cons H.o3 (Its.nil _);refine fD (S:=Its [vhI 37 w.heap.size 74 74 (ndF N (.slice a3 n.vA.length c3))]) (.rd 0 (.mv 1 (.rd 2 (.mv 3 (.rd 4 (.mv 5 (.rd 6 (.mv 7 (.mv 8 (.mv 9 (.rd 10 (.mv 11 (.mv 12 (.mv 13 (.rd 14 (.mv 15 (.mv 16 (.mv 17 (.rd 18 (.mv 19 (.mv 20 (.rd 21 (.mv 22 (.mv 23 (.rd 24 (.mv 25 (.mv 26 (.rd 27 (.mv 28 (.go 29 (.go 30 .fin))))))))))))))))))))))))))))))) [] Yl Yl ?_;refine qr hS ?_;refine qj ?_;refine qr hS ?_;refine qj ?_;refine qr hS ?_;refine qj ?_;refine Yr rfl hS (λ_ H=>bL (h:=λi=>iV (N.us i)) _ _ rfl kK Qv H.v0 Yo (aIv N _)) ?_;refine qj ?_;refine fF rfl rfl (λ_ _ _ h=>h) Yw (λw=>bD (i:=0) _ _ _ _ rfl ArrK.out SizK.out Qv Qv rfl Yo w) ?_;refine qj ?_;refine Yr rfl hS (λ_ H=>aZ (v:=.int .i64 (N.ax 0).X) _ _ rfl OneK.out Qv H.v0 Yo rfl) ?_;refine qj ?_;refine fF rfl rfl (λ_ _ _ h=>h) Yw (λw=>bD (i:=1) _ _ _ _ rfl ArrK.out SizK.out Qv Qv rfl Yo w) ?_;refine qj ?_;refine Yr rfl hS (λ_ H=>aZ (v:=.int .i64 (N.ax 1).X) _ _ rfl OneK.out Qv H.v0 Yo rfl) ?_;refine qj ?_;refine fF rfl rfl (λ_ _ _ h=>h) Yw (λw=>bD (i:=2) _ _ _ _ rfl ArrK.out SizK.out Qv Qv rfl Yo w) ?_;refine qj ?_;refine Yr rfl hS (λ_ H=>aZ (v:=.int .i64 (N.ax 2).X) _ _ rfl OneK.out Qv H.v0 Yo rfl) ?_;refine Yk rfl (λ_=>SG _ _ _ rfl (g:=λi=>(N.ax i).X) Qv Qv Qv _) ?_;refine qj ?_;refine qr hS ?_;iterate 2 refine qj ?_
 refine qr hS ?_;iterate 2 refine qj ?_
 refine Yr rfl hS (λ_ H=>bL _ _ rfl JM Qv H.v0 Yo (C8 _ _)) ?_;refine Yk rfl (λ_=>aBl (n:=N) _ _ _ _ _ _ _ rfl Qv Qv Qv Qv Qv Qv Qv _) ?_;refine dF rfl Yw (λK hK=>?_);refine aO _ _ _ _ rfl ManyK.out Qv Qv H.v2 Yo (bN _ _ _ _) rfl (λV1 m1 k1 z7=>?_);replace H:=H.a2.s k1 (m1.congr aT);refine hK _ (λ_ _=>Its.cons H.o3 (Its.nil _)) ?_;refine dF rfl Yw (λK hK=>?_);refine aO _ _ _ _ rfl ManyK.out Qv Qv H.v1 Yo (lK _ _) rfl (λV2 m2 k2 z8=>?_);replace H:=H.a1.s k2 (m2.congr aT);refine hK _ (λ_ _=>Its.cons H.o3 (Its.nil _)) ?_;refine fT ?_;have e2:qC n (L.map Lm.m)=gN n (L.map Lm.m):=by unfold qC;rw[if_neg (by rw[hno];decide)]
 have evA:=hN3.2.2;rw[e2,eN];refine aW (aN YB (gH rfl Qv Qv ManyK.out ManyK.out H.v2 (Xr _) H.v1 (Xr _)) ⟨a3,c3,by rw[evA];rfl,?_,H.bel⟩);unfold pY bA;rw[evA];exact H.o0
end Go.Proofs.YthimcecbgpamdaaGreat
