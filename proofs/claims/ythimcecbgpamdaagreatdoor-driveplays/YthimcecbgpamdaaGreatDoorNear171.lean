import Derived.Test.YthimcecbgpamdaaGreatDoorBigDiv3
set_option maxHeartbeats 4000000
set_option maxRecDepth 10000
open Go.Proofs.YthimcecbgpamdaaGreatDoor renaming Qv->O,Yo->Y,ndF->ε,vhI->κ,slV->ν,aTY->ξ,unA->ρ,stW->φ,CodI->χ,q_c->ψ,unR->Γ,aTZ->Δ,unOK->Θ,aUa->Λ,aUb->Ξ,frR->Φ,senN->á,decG->â,decD->ã
open _root_ renaming rfl->U,if_pos->η,if_neg->θ,absurd->ο,List->σ,congrArg->Ω
open Option renaming none->β,some->γ
open Go.Value renaming slice->δ,int->ι,pointer->μ,bool->υ,tuple->ä,int->ç
open Go.IntKind renaming i64->ζ
open Go renaming Calls->π,World->τ,execOp->Ψ,Operand->æ
open Eq renaming trans->ω
open Go.Proofs.Tryz renaming prog->à
open Go.World renaming ownsRow->å
namespace Go.Proofs.YthimcecbgpamdaaGreatDoor
section
open Go.RowKit
abbrev dcN(n:Nd)(l:σ Ms)(x i:Nat):Nd:=NA n (wP n l x i) (wK n l x) (uN n l x)
abbrev dcO(w:τ)(n:Nd)(l:σ Ms)(x i:Nat)(v:Value):It:=fU w.heap.size 3 1 v (qE n.rl.I (λs=>â n l s x) i).length ((qE n.rl.I (λs=>â n l s x) i).map iV)
theorem aBF:zY uO wS 56:=by
 intro n ao c mo mc L w hok hag hmr hN hmc hRL;have hag:Sr w ao n.vA.length c (tF (bA n)):=hag;refine bC Tryz.func56 U 99 U Yd (λA hs hd hb=>?_);have b0:A.eval (.tmp 0)=aX (ε n (δ ao n.vA.length c)) 0 74:=hb 0 _ U;have b1:A.eval (.tmp 1)=δ mo L.length mc:=hb 1 _ U;clear hb;have H:=Bl w;refine aD (aG ?_);refine jO H ?_;clear H;intro w1 H z1;refine gQ H ?_;clear H;intro w2 H z2;refine gQ H ?_;clear H;intro w3 H z3;refine aC<|aD<|qa ?_;refine ψ (show π _ _ #[aX (ε n (δ ao n.vA.length c)) 0 74] _ _ from pU n ao c _ (hag.below H.bel) hok.vA) ?_;rintro e w4 ⟨a3,c3,rfl,o4,k4⟩;refine⟨aX (ε n (δ a3 n.vA.length c3)) 0 74,U,?_⟩;have hsz:=H.size;replace H:=H.add k4 (AA w n a3 c3) (cO o4 hsz) (λj e=>(o4.lt j e).1);refine gH H.a3 aZ (bQ _ _ _ _) ?_;clear H;intro w5 H z5;refine aC<|aH<|aD<|qa ?_;refine ψ (show π _ _ #[aX (ε n (δ a3 n.vA.length c3)) 0 74] _ _ from sD n _ _) ?_;rintro e w6 ⟨rfl,k6⟩;refine⟨_,U,?_⟩;replace H:=H.call k6;refine aC<|fB (λhno=>?_) (λhno=>?_)
 .refine aD<|qa ?_;refine qg (oH U _) ?_;refine gH H.a2 aZ (bQ _ _ _ _) ?_;clear H;intro w7 H z7;refine gH H.a1 aZ (fV _ _ _ _ _ _) ?_;clear H;intro w8 H z8;refine aC ?_;have e1:uO n (L.map Lm.m)=n:=by unfold uO;rw[η hno]
  have e2:wS n (L.map Lm.m)=kQ:=by unfold wS;rw[η hno]
  rw[e1,e2];exact aQ (fF (aN YB (iC U O O ManyK.out ManyK.out H.v2 (Xr _) H.v1 (Xr _)) ⟨a3,c3,β,0,U,H.o0,Am _ _ _ _,H.bel⟩))
 obtain⟨h0,h3⟩:=tQ hno;obtain⟨I,hI⟩:∃I:Nat,n.id=(I:Int):=⟨n.id.toNat,Y⟩;have hI4:I<4:=Y;refine aR<|aH<|aD<|qa ?_;refine aC<|aJ ?_;refine bR (λr A W=>∃x:Nat,x<=3/\3-x<=r/\dcA 99 A w w1 w2 (δ mo L.length mc)/\A.eval (.tmp 6)=ι ζ (x:Int)/\Cx w W (GN w w1 w2 n (dcN n (L.map Lm.m) x 0) a3 c3)) 3
  ⟨0,Y,Y,⟨YA,YB,O,O,O,O⟩,O,?_⟩ (λr A W hJ=>?_)
 .rw[show dcN n (L.map Lm.m) 0 0=n from aNr];exact H
 clear b0 b1 hs hd H;obtain⟨x,hx,hxr,⟨hs,hd,b1,b2,b4,b5⟩,b6,H⟩:=hJ;refine aH<|aD (aG ?_);iterate 2 refine qa ?_
 refine aC<|fB (λh=>?_) (λh=>?_)
 .have hx3:x<3:=by have:=Xu h;omega
  refine aR<|aH (aJ ?_);refine aD<|qa ?_;refine aC<|aH<|aD<|qa ?_;refine aC<|aJ ?_;refine bR (λr A W=>∃(i:Nat) (v:Value),i<=4/\4-i<=r/\dcA 99 A w w1 w2 (δ mo L.length mc)/\A.eval (.tmp 6)=ι ζ (x:Int)/\A.eval (.tmp 7)=v/\A.eval (.tmp 8)=ι ζ (i:Int)/\Cx w W (dcO w n (L.map Lm.m) x i v::GN w w1 w2 n (dcN n (L.map Lm.m) x i) a3 c3)) 4
   ⟨0,_,Y,Y,⟨YA,YB,O,O,O,O⟩,O,O,O,H.add (Af _ _) (dcO w n (L.map Lm.m) x 0 _) (Am _ _ _ _) (λj e=>nomatch e)⟩ (λr A W hJ=>?_)
  clear b1 b2 b4 b5 b6 hs hd H;obtain⟨i,v,hi,hir,⟨hs,hd,b1,b2,b4,b5⟩,b6,b7,b8,H⟩:=hJ;have hll:=aAS n.rl.I (λs=>â n (L.map Lm.m) s x) i;refine aH<|aD (aG ?_);iterate 2 refine qa ?_
  refine aC<|fB (λh=>?_) (λh=>?_)
  .have hi4:i<4:=by have:=Xu h;omega
   refine aR<|aH (aJ ?_);refine aH ?_;replace H:=H.drew;refine fI (S:=λV=>Vh 43 V w.heap.size 74 74 (ε (dcN n (L.map Lm.m) x i) (δ a3 n.vA.length c3))) (.mv 0 (.mv 1 (.rd 2 (.mv 3 (.mv 4 (.mv 5 (.mv 6 (.mv 7 (.mv 8 (.mv 9 (.rd 10 (.mv 11 (.mv 12 (.mv 13 (.mv 14 (.mv 16 (.mv 17 (.go 15 (.mv 18 (.go 19 .fin)))))))))))))))))))) [15,19] Yl Yl ?_;iterate 2 refine qj ?_
   refine oD U U (λ_ _ _ h=>h) Yw H.v4 (λ_ h=>bE _ _ U ManyK.out O h Yc) ?_;iterate 5 refine qj ?_
   refine dC U U (λ_ _ _ h=>h) Yw (λw=>bB _ _ _ _ U ArrK.out SizK.out O O U hi4 w) ?_;refine dC U U (λ_ _ _ h=>h) Yw (λw=>bB _ _ _ _ U ArrK.out SizK.out O O U hx3 w) ?_;refine oD U U (λ_ _ _ h=>h) Yw H.v4 (λ_ h=>aT _ _ U OneK.out O h Y (aBg _ _ hi4 hx3)) ?_;refine qj ?_;refine Yk U (λ_=>rO _ _ U (aL _ _) O Y Y _) ?_;refine qj ?_;refine Yk U (λ_=>nA _ _ U O O Y Y _) ?_;refine qj ?_;refine dC U U (λ_ _ _ h=>h) Yw (λw=>bB _ _ _ _ U ArrK.out SizK.out O O U hi4 w) ?_;refine dA U U Yw (λK hK=>aCq _ 101 _ _ _ _ _ _ _ U O O O O (Ae O (by rw[yJ,gG];rfl)) (aL _ _) (LX _ _ _ _ _ _ _) (JM (dcN n (L.map Lm.m) x i) (δ a3 n.vA.length c3) mo mc L I i (n.di i x) (3*i+x) 12 _ hI hI4 hi4 Y (hmr.below H.bel) hN) ?_);rintro e w9 ⟨rfl,k9⟩;refine⟨_,U,hK _ _ (λh=>ο h Yc) ?_⟩;clear hK K;replace H:=H.call k9;refine dC U U (λ_ _ _ h=>h) Yw (λw=>bB _ _ _ _ U ArrK.out SizK.out O O U hx3 w) ?_;refine dK U Yw (λK hK=>iO _ _ _ _ U OneK.out O O H.v4 Y U U U (λV m k z=>hK _ (λh=>ο h Yc) ?_));replace H:=H.a4.s k (m.congr (aQd hi4 hx3));refine gM<|aD ?_;iterate 3 refine qa ?_
   refine qg (bB _ _ _ _ U ArrK.out SizK.out O O U hi4 _) ?_;refine qg (aT _ _ U OneK.out O H.v4 Y (RI _ _ hi4)) ?_;refine aC<|fB (λhb=>?_) (λhb=>?_)
   .refine aI ?_;iterate 4 refine qa ?_
    refine qg (bB _ _ _ _ U ArrK.out SizK.out O O U hi4 _) ?_;refine qg (bB _ _ _ _ U ArrK.out SizK.out O O U hx3 _) ?_;refine qg (aT _ _ U OneK.out O H.v4 Y ((aRY _ _ hi4 hx3).trans (Ω (ç ζ) (aQT hi4)))) ?_;refine bI U Yw (λK hK=>qM (v:=iV (â n (L.map Lm.m) i x)) SlcK.out OneK.out Zer1.out U U U O (λV m k z=>hK _ _ ?_));replace H:=H.call k;refine OE (bytes:=8) H.a0 (zT m) (λu hu=>by rw[Ct.1 hu];rfl) Ym Y ?_;clear H;intro v' V2 H;refine qa ?_;refine fK<|aI ?_;iterate 3 refine qa ?_
    exact aU ⟨4-(i+1),Y,i+1,v',Y,Y,⟨YA,YB,O,O,O,O⟩,O,O,ω O YC,by unfold dcO;rw[aMY (show n.rl.I i=true from hb),Ag,Cb];exact H⟩
   refine gT<|aI ?_;iterate 3 refine qa ?_
   exact aU ⟨4-(i+1),Y,i+1,v,Y,Y,⟨YA,YB,O,O,O,O⟩,O,O,ω O YC,by unfold dcO;rw[aMX (show n.rl.I i=false from hb)];exact H⟩
  obtain rfl:i=4:=by have:=Xg h;omega
  refine bL (dQ ?_);refine aD ?_;obtain⟨vo,vc,rfl,hvc⟩:=dU H.o0;have ov:å _ _ _ _ _ _ _:=H.o0;rw[II] at ov;iterate 2 refine qa ?_
  refine ψ (show π _ _ #[δ vo _ vc] _ _ from aFC vo vc _ _ Y (aTd (λs=>aAi hok hRL s x) 4) (wH ov)) ?_;rintro e w9 ⟨E,rfl,k9⟩;refine⟨_,U,?_⟩;replace H:=H.call k9;refine qa ?_;refine qg (nD _ U O _) ?_;refine qg (nE _ U O _) ?_;refine qa ?_;refine qg (bB _ _ _ _ U ArrK.out SizK.out O O U hx3 _) ?_;refine kX H.a4 (aEI hx3) ?_;clear H;intro w10 H z10;refine aC ?_;replace H:=H.drew;refine fI (S:=λV=>Vh 43 V w.heap.size 74 74 (ε (NA n (wP n (L.map Lm.m) x 4) (wK n (L.map Lm.m) (x+1)) (uN n (L.map Lm.m) x)) (δ a3 n.vA.length c3))) (.mv 0 (.mv 1 (.mv 2 (.mv 3 (.rd 4 (.mv 5 (.rd 6 (.mv 7 (.mv 8 (.mv 9 (.rd 10 (.mv 15 (.go 11 (.mv 12 (.mv 13 (.mv 14 (.mv 16 (.go 17 .fin)))))))))))))))))) [11,17] Yl Yl ?_;iterate 3 refine qj ?_
  refine dC U U (λ_ _ _ h=>h) Yw (λw=>bB _ _ _ _ U ArrK.out SizK.out O O U hx3 w) ?_;refine oD U U (λ_ _ _ h=>h) Yw H.v4 (λ_ h=>cZ _ _ U ManyK.out O h Y (h:=fJ (n.ax x)) (λj hj=>(aBf _ _ hx3 j hj).trans (Ω (λs=>fJ s j) aQU))) ?_;refine qj ?_;refine oD U U (λ_ _ _ h=>h) Yw H.v4 (λ_ h=>cZ _ _ U ManyK.out O h Y (aHJ _ _)) ?_;iterate 2 refine qj ?_
  refine dC U U (λ_ _ _ h=>h) Yw (λw=>bB _ _ _ _ U ArrK.out SizK.out O O U hx3 w) ?_;refine oD U U (λ_ _ _ h=>h) Yw H.v4 (λ_ h=>aT _ _ U OneK.out O h Y ((aHK _ _ hx3).trans (Ω (ç ζ) aJg))) ?_;refine qj ?_;refine j_c (aDu (n.ax x) n.tn (decU n (L.map Lm.m) x) _ (hok.ax x) hok.tn (aGF hok hRL x)) ?_;rintro e w11 ⟨rfl,k11⟩;refine⟨_,U,λh=>ο h Yc,?_⟩;replace H:=H.call k11;refine qj ?_;refine Yk U (λ_=>nD _ U O _) ?_;refine Yk U (λ_=>nE _ U O _) ?_;refine dC U U (λ_ _ _ h=>h) Yw (λw=>bB _ _ _ _ U ArrK.out SizK.out O O U hx3 w) ?_;refine aUc (f:=fJ (decA n (L.map Lm.m) x)) H.v4 (gI _) (λV m k z=>⟨λh=>ο h Yc,?_⟩);replace H:=H.a4.s k (m.congr (aQj hx3));refine oC<|aI ?_;iterate 3 refine qa ?_
  exact aU ⟨3-(x+1),Y,x+1,Y,Y,⟨YA,YB,O,O,O,O⟩,Ae O YC,H.tl⟩
 obtain rfl:x=3:=by have:=Xg h;omega
 unfold GN dcN at H;rw[aNq] at H;refine bL (dQ ?_);refine aD<|qa ?_;refine ψ (show π _ _ #[aX (ε (NA n (â n (L.map Lm.m)) (decU n (L.map Lm.m)) (decA n (L.map Lm.m))) (δ a3 n.vA.length c3)) 0 74] _ _ from YV (NA n (â n (L.map Lm.m)) (decU n (L.map Lm.m)) (decA n (L.map Lm.m))) (δ a3 n.vA.length c3) _ ⟨λa=>aCd (hok.ax a) _ _⟩) ?_;rintro e w9 ⟨rfl,k9⟩;refine⟨_,U,?_⟩;replace H:=H.call k9;refine qa ?_;refine kX H.a3 (aJc _ _ (ã n (L.map Lm.m))) ?_;clear H;intro w10 H z10;refine aC<|aD ?_;iterate 5 refine qa ?_
 refine qg (bB _ _ _ _ U ArrK.out SizK.out O O hI hI4 _) ?_;refine kX H.a3 (FD _ _ (ã n (L.map Lm.m)) I hI4) ?_;clear H;intro w11 H z11;refine aC<|aH ?_;replace H:Cx w _ (GN w w1 w2 n (dcF n (L.map Lm.m) I) a3 c3):=H.drew;have e1:uO n (L.map Lm.m)=dcF n (L.map Lm.m) I:=by unfold uO;rw[θ (by rw[hno];decide),aGG hI]
 have e2:wS n (L.map Lm.m)=⟨3,n.id,n.fr,[ã n (L.map Lm.m)]⟩:=by unfold wS;rw[θ (by rw[hno];decide)]
 rw[e1,e2];refine fI (S:=Its [κ 43 w.heap.size 74 74 (ε (dcF n (L.map Lm.m) I) (δ a3 n.vA.length c3))]) (.rd 0 (.mv 1 (.rd 2 (.mv 3 (.rd 4 (.mv 5 (.rd 6 (.two 7 9 (.mv 8 (.go 9 (.go 10 .fin))) (.go 7 (.mv 8 (.go 10 .fin))))))))))) [] Yl Yl ?_;have hS:=Aj H.o3 (Ak _)
 (iterate 3 (refine qr hS ?_;refine qj ?_))
 refine qr hS ?_;refine KP ?_ ?_;refine dA U U Yw (λK hK=>qM (v:=iV (ã n (L.map Lm.m))) SlcK.out OneK.out Zer1.out U U U O (λV m k z=>?_));have hz:=H.size;replace H:=H.add k (κ _ _ 1 1 _) m (λj e=>Bq e.symm);refine hK _ _ (λ_ _=>Aj H.o4 (Ak _)) ?_;refine Yk U (λ_=>rH _ _ _ _ U (aL _ _) O O O _) ?_;refine aUc H.v3 (bQ _ _ _ _) (λV1 m1 k1 z9=>?_);replace H:=H.a3.s k1 (m1.congr aZ);refine⟨λ_ _=>Aj H.o4 (Ak _),?_⟩;rotate_left;refine aUc H.v2 (bQ _ _ _ _) (λV1 m1 k1 z9=>?_);replace H:=H.a2.s k1 (m1.congr aZ);refine⟨λ_ _=>Aj H.o3 (Ak _),?_⟩;refine dA U U Yw (λK hK=>qM (v:=iV (ã n (L.map Lm.m))) SlcK.out OneK.out Zer1.out U U U O (λV m k z=>?_));have hz:=H.size;replace H:=H.add k (κ _ _ 1 1 _) m (λj e=>Bq e.symm);refine hK _ _ (λ_ _=>Aj H.o4 (Ak _)) ?_;refine Yk U (λ_=>rH _ _ _ _ U (aL _ _) O O O _) ?_;rotate_left;all_goals
  refine aUc H.v2 (fV _ _ _ _ _ _) (λV1 m1 k1 z9=>?_);replace H:=H.a2.s k1 (m1.congr aZ);refine⟨λ_ _=>Aj H.o4 (Ak _),?_⟩;refine gM ?_;exact aQ (aN YB (iC U O O ManyK.out ManyK.out H.v3 (Xr _) H.v2 (Xr _)) ⟨a3,c3,_,1,U,H.o1,aEs H.v0 hz,H.bel⟩)
theorem aCQ(x)(w):(callFunc 169 #[x]).run à w=.ok (.enter 169 #[x]) w:=Yh
section
variable {f:æ->Value} {o:Oper}
variable{s:Nat}
theorem aLj(x)(ho:o.op=.convert 3 86 x)(hx:f x=.int .i64 s)(w):(Ψ f o).run à w=.ok (.value (.int .u64 ((s)%18446744073709551616))) w:=by unfold Ψ;rw[ho];dsimp only;rw[hx];go_simp;rfl
theorem aIM(x y)(ho:o.op=.binOp .shr 3 x y 86){u}(hx:f x=.int .i64 u)(hy:f y=.int .u64 ((s)%18446744073709551616))(hs:s<64)(w):(Ψ f o).run à w=.ok (.value (.int .i64 (u/2^s))) w:=by rw[show ((s:Int)%18446744073709551616)=(s:Int) by omega] at hy;unfold Ψ;rw[ho];dsimp only;rw[hx,hy];go_simp
end
def upA(n:Nd)(v:σ Int)(x a:Nat):St:=if a<x then ρ v a else n.ax a
variable{n:Nd}{v:σ Int}
theorem aMn:({ n with ax:=upA n v 0 }:Nd)=n:=by
 have:upA n v 0=n.ax:=by funext a;unfold upA;rw[θ Y]
 rw[this]
theorem aMm{x}:({ n with ax:=λa=>if a=x then ρ v x else upA n v x a }:Nd)={ n with ax:=upA n v (x+1) }:=by unfold upA;grind
variable{nv:Value}
theorem aJb:ε { n with ax:=upA n v 3 } nv=ε { n with ax:=ρ v } nv:=by grind [upA,ε]
def upR(r:Rl)(s m j:Int)(x:Nat):Rl:=⟨λi=>if 3-i<x/\i<4 then decide (s/2^i%2=1) else r.I i,λi=>if 3-i<x/\i<4 then zD m i else r.M i,λi=>if 3-i<x/\i<4 then zD j i else r.J i⟩
def upM1(r:Rl)(s m j:Int)(x:Nat):Rl:=⟨(upR r s m j x).I,(upR r s m j (x+1)).M,(upR r s m j x).J⟩
def upM2(r:Rl)(s m j:Int)(x:Nat):Rl:=⟨(upR r s m j x).I,(upR r s m j (x+1)).M,(upR r s m j (x+1)).J⟩
variable{j m s:Int}{r:Rl}
theorem aMp:upR r s m j 0=r:=by unfold upR;obtain⟨a,b,c⟩:=r;simp
theorem aMo:ε { n with ax:=ρ v,rl:=upR n.rl (gL v 21) (gL v 22) (gL v 23) 4 } nv=ε { n with ax:=ρ v,rl:=Γ v } nv:=by
 have e:∀i,i<12->dJ (upR n.rl (gL v 21) (gL v 22) (gL v 23) 4) i=dJ (Γ v) i:=λi hi=>by
  unfold dJ upR Γ;dsimp only;by_cases c4:i<4
  .rw[η c4,η c4,η Y];rfl
  rw[θ c4,θ c4];by_cases c8:i<8
  .rw[η c8,η c8,η Y];rfl
  rw[θ c8,θ c8,η Y];rfl
 funext j;unfold ε;dsimp only;by_cases c2:j<2
 .rw[η c2,η c2]
 rw[θ c2,θ c2];by_cases c6:j<6
 .rw[η c6,η c6]
 rw[θ c6,θ c6];by_cases c27:j<27
 .rw[η c27,η c27]
 rw[θ c27,θ c27];by_cases c39:j<39
 .rw[η c39,η c39,e _ Y]
 rw[θ c39,θ c39]
theorem upd_rlCell(n)(nv){off p}{x}(ho:off=27+p)(hp:p<12)(h:∀q,q<12->φ (dJ n.rl) p x q=dJ r q):∀j,j<74->φ (ε n nv) off x j=ε { n with rl:=r } nv j:=by grind [ε,φ]
variable{x:Nat}
theorem up_m(hx:x<4):∀q,q<12->φ (dJ (upR r s m j x)) (4+(3-x)) (.int .i64 (m/8^x%8)) q=dJ (upM1 r s m j x) q:=by
 intro q hq;unfold φ;by_cases e:q=4+(3-x)
 .rw[η e];unfold dJ upM1 upR;dsimp only;rw[θ Y,η Y,η Y];unfold zD;rw[show 3-(q-4)=x by omega];rfl
 rw[θ e];unfold dJ upM1 upR;dsimp only;by_cases c4:q<4
 .rw[η c4,η c4]
 rw[θ c4,θ c4];by_cases c8:q<8
 .rw[η c8,η c8];by_cases c:3-(q-4)<x
  .rw[η Y,η Y]
  rw[θ Y,θ Y]
 rw[θ c8,θ c8]
theorem up_j(hx:x<4):∀q,q<12->φ (dJ (upM1 r s m j x)) (8+(3-x)) (.int .i64 (j/8^x%8)) q=dJ (upM2 r s m j x) q:=by
 intro q hq;unfold φ;by_cases e:q=8+(3-x)
 .rw[η e];unfold dJ upM2 upR;dsimp only;rw[θ Y,θ Y,η Y];unfold zD;rw[show 3-(q-8)=x by omega];rfl
 rw[θ e];unfold dJ upM1 upM2 upR;dsimp only;by_cases c4:q<4
 .rw[η c4,η c4]
 rw[θ c4,θ c4];by_cases c8:q<8
 .rw[η c8,η c8]
 rw[θ c8,θ c8];by_cases c:3-(q-8)<x
 .rw[η Y,η Y]
 rw[θ Y,θ Y]
theorem up_i(hx:x<4):∀q,q<12->φ (dJ (upM2 r s m j x)) (3-x) (.bool (decide (s/2^(3-x)%2=1))) q=dJ (upR r s m j (x+1)) q:=by simp only[φ,dJ,upR,upM2];grind
theorem aQa(hx:x<3)(hb:mG (gL v (7*x+5)) 1=false):Θ v=false:=by have e:nK (gL v)=false:=aHN hx hb;have h:Θ v=(nK (gL v)&&(lJ (gL v 21) (gL v 22) (gL v 23)&&mR (nL (gL v 21) (gL v 22) (gL v 23)))):=TQ v;rw[h,e,Bool.false_and]
theorem aQb(h:gL v 21<0\/15<gL v 21\/gL v 22<0\/4095<gL v 22\/gL v 23<0\/4095<gL v 23):Θ v=false:=by
 have e:lJ (gL v 21) (gL v 22) (gL v 23)=false:=by
  cases hc:lJ (gL v 21) (gL v 22) (gL v 23)
  .rfl
  unfold lJ mG at hc;simp only[Br,Cv] at hc;omega
 rw[TQ v,e,Bool.false_and,Bool.and_false]
theorem aJa(h:∀a,a<3->mG (gL v (7*a+5)) 1=true)(h1:¬gL v 21<0)(h2:¬15<gL v 21)(h3:¬gL v 22<0)(h4:¬4095<gL v 22)(h5:¬gL v 23<0)(h6:¬4095<gL v 23):Θ v=mR (Γ v):=by
 have e:lJ (gL v 21) (gL v 22) (gL v 23)=true:=by unfold lJ mG;rw[Xt (show 0<=gL v 21 by omega),Xt (show gL v 21<=15 by omega),Xt (show 0<=gL v 22 by omega),Xt (show gL v 22<=4095 by omega),Xt (show 0<=gL v 23 by omega),Xt (show gL v 23<=4095 by omega)];rfl
 rw[TQ v,aEp h,e,Gr,Gr];rfl
variable{Q:Exit->Act->τ->Prop}
theorem aGu{P}{a}{w}{x y}(T:Act->τ->Prop)(hx:(∀A W,T A W->χ P y Q A W)->χ P x (Nx P y Q) a w)(hy:∀A W,T A W->χ P y Q A W):χ P (.seq x y) Q a w:=aH (hx hy)
theorem aOV(s):∀j,j<7->(fJ s j).oneCell'=true:=λj hj=>by
 match j,hj with
 |0,_=>rfl
 |1,_=>rfl
 |2,_=>rfl
 |3,_=>rfl
 |4,_=>rfl
 |5,_=>rfl
 |6,_=>rfl
theorem SK(n)(nv)(v)(y)(yc)(w)(hnv:nv.oneCell'=true)(hc:24<=yc)(hy:∀i,i<24->w.cell? (y.add i)=γ (.int .i64 (gL v i))):π à 109 #[jX n nv,.slice (γ y) 24 yc] w λe w'=>∃fx,e=.returned (.tuple #[aX fx 0 74,.bool (Θ v)])/\(∀j,j<74->(fx j).oneCell'=true)/\(Θ v=true->∀j,j<74->fx j=ε { n with ax:=ρ v,rl:=Γ v } nv j)/\Below w.heap.size w w':=by
 refine bC Tryz.func109 U 136 U Yd (λA hs hd hb=>?_);have b0:A.eval (.tmp 0)=aX (ε n nv) 0 74:=hb 0 _ U;have b1:A.eval (.tmp 1)=δ (γ y) 24 yc:=hb 1 _ U;clear hb;have H:=Bl w;refine aD (aG ?_);refine jO H ?_;clear H;intro w1 H z1;refine gQ H ?_;clear H;intro w2 H z2;refine qa ?_;refine aC<|aH<|aD<|qa ?_;refine aC<|aJ ?_;refine bR (λr A W=>∃x:Nat,x<=3/\3-x<=r/\(A.tmps.size=136/\A.defers=[]/\A.eval (.tmp 1)=δ (γ y) 24 yc/\A.eval (.tmp 2)=μ (γ ⟨w.heap.size,0,β⟩)/\A.eval (.tmp 4)=μ (γ ⟨w1.heap.size,0,β⟩))/\A.eval (.tmp 6)=ι ζ (x:Int)/\(∀a,a<x->mG (gL v (7*a+5)) 1=true)/\Cx w W [κ 43 w1.heap.size 74 74 (ε dS (δ β 0 0)),κ 43 w.heap.size 74 74 (ε { n with ax:=upA n v x } nv)]) 3
  ⟨0,Xz _,Y,⟨YA,YB,O,O,O⟩,O,λa h=>ο h Y,by rw[aMn];exact H⟩ (λr A W hI=>?_)
 clear b0 b1 hs hd H;obtain⟨x,hx,hxr,⟨hs,hd,b1,b2,b4⟩,b6,hok,H⟩:=hI;refine aH<|aD (aG ?_);iterate 2 refine qa ?_
 refine aC<|fB (λh=>?_) (λh=>?_)
 .have hin:x<3:=by have:=Xu h;omega
  have hpW:∀i,i<7->W.drew.cell? ((y.add (7*x)).add i)=γ (ι ζ (gL v (7*x+i))):=λi hi=>by rw[TZ];exact aP (hy _ Y) H.drew.bel
  refine aR<|aH (aJ ?_);refine aD ?_;iterate 2 refine qa ?_
  refine qg (rO _ _ U O O Y Y _) ?_;refine qa ?_;refine qg (rO _ _ U O O Y Y _) ?_;refine qa ?_;refine qg (aIw (i:=7*x) (k:=7*x+7) _ _ _ U O O O Y Y Y Y Y _) ?_;refine qa ?_;refine aC<|aH<|aGu (λA W'=>W'=W/\(A.tmps.size=136/\A.defers=[]/\A.eval (.tmp 1)=δ (γ y) 24 yc/\A.eval (.tmp 2)=μ (γ ⟨w.heap.size,0,β⟩)/\A.eval (.tmp 4)=μ (γ ⟨w1.heap.size,0,β⟩))/\A.eval (.tmp 6)=ι ζ (x:Int)/\A.eval (.tmp 7)=δ (γ (y.add (7*x))) (7*x+7-7*x) (yc-7*x)/\A.eval (.tmp 31)=υ (!mG (gL v (7*x+5)) 1)) (λhT=>?_) (λA W' hT=>?_)
  .refine aI<|qa ?_;refine qg (dF _ _ U O O (i:=5) U Y _) ?_;refine qg (dG _ U O (hpW 5 Y)) ?_;by_cases g:gL v (7*x+5)<0
   .refine Λ ?_;iterate 1 (refine qa ?_;(iterate 4 refine bP ?_);refine qg (aK _ _ _ U O O _) ?_)
    refine aC ?_;exact hT _ _ ⟨U,⟨YA,YB,O,O,O⟩,O,O,ω O (by unfold mG;rw[Xf Y];rfl)⟩
   refine Ξ ?_;iterate 2 refine qa ?_
   refine qg (dF _ _ U O O (i:=5) U Y _) ?_;refine qg (dG _ U O (hpW 5 Y)) ?_;refine qg (bW (b:= !mG (gL v (7*x+5)) 1) _ _ U O O (by unfold mG;by_cases g2:1<gL v (7*x+5)<;>simp[g2]<;>omega) _) ?_;refine ξ ?_;refine aC ?_;exact hT _ _ ⟨U,⟨YA,YB,O,O,O⟩,O,O,O⟩
  clear b1 b2 b4 b6 hs hd;obtain⟨rfl,⟨hs,hd,b1,b2,b4⟩,b6,b7,b31⟩:=hT;refine mK b31 (λh=>?_) (λh=>?_)
  .have eno:Θ v=false:=aQa hin (by simpa using h);refine aD (aG ?_);refine qa ?_;refine gH H.a0 aZ (tO _ hnv) ?_;clear H;intro V1 H z5;refine qa ?_;refine aC ?_;exact aQ (fF (lQ (fF (DJ (lQ (fF (aN YB (lW U O O ManyK.out H.v0 (Xr _)) ⟨_,by rw[eno],tO _ hnv,λh=>(by rw[eno] at h;cases h),H.bel⟩)))))))
  have hb:mG (gL v (7*x+5)) 1=true:=by simpa using h
  refine aR ?_;replace H:=H.drew;have hS:(λZ=>Below W'.drew.heap.size W'.drew Z) W'.drew:=Af _ _;refine fI (S:=λZ=>Below W'.drew.heap.size W'.drew Z) (.mv 0 (.mv 1 (.mv 2 (.rd 3 (.mv 4 (.mv 5 (.rd 6 (.mv 7 (.mv 8 (.rd 9 (.mv 10 (.mv 11 (.rd 12 (.mv 13 (.mv 14 (.rd 15 (.mv 16 (.mv 17 (.rd 18 (.mv 19 (.mv 20 (.mv 21 (.rd 22 (.mv 23 (.mv 24 (.mv 25 (.go 26 .fin))))))))))))))))))))))))))) [26] Yl Yl ?_;refine BB ?_;refine qj ?_;refine qj ?_;refine Yk U (λ_=>dF _ _ U O O (i:=0) U Y _) ?_;refine Yr U hS (λ_ e=>dG _ U O (aP (hpW 0 Y) e)) ?_;refine qj ?_;refine Yk U (λ_=>dF _ _ U O O (i:=1) U Y _) ?_;refine Yr U hS (λ_ e=>dG _ U O (aP (hpW 1 Y) e)) ?_;refine qj ?_;refine Yk U (λ_=>dF _ _ U O O (i:=2) U Y _) ?_;refine Yr U hS (λ_ e=>dG _ U O (aP (hpW 2 Y) e)) ?_;refine qj ?_;refine Yk U (λ_=>dF _ _ U O O (i:=3) U Y _) ?_;refine Yr U hS (λ_ e=>dG _ U O (aP (hpW 3 Y) e)) ?_;refine qj ?_;refine Yk U (λ_=>dF _ _ U O O (i:=4) U Y _) ?_;refine Yr U hS (λ_ e=>dG _ U O (aP (hpW 4 Y) e)) ?_;refine qj ?_;refine Yk U (λ_=>dF _ _ U O O (i:=5) U Y _) ?_;refine Yr U hS (λ_ e=>dG _ U O (aP (hpW 5 Y) e)) ?_;refine dC U U (λ_ _ _ h=>h) Yw (λw=>bW (b:=(ρ v x).B) _ _ U O O U w) ?_;refine qj ?_;refine Yk U (λ_=>dF _ _ U O O (i:=6) U Y _) ?_;refine Yr U hS (λ_ e=>dG _ U O (aP (hpW 6 Y) e)) ?_;refine Yk U (λ_=>aBO (s:=ρ v x) _ _ _ _ _ _ _ U O O O O O O O _) ?_;refine qj ?_;refine dC U U (λ_ _ _ h=>h) Yw (λw=>bB _ _ _ _ U ArrK.out SizK.out O O U hin w) ?_;refine aUc H.v1 (aOV _) (λV1 m1 k1 z5=>⟨λh=>ο h Yc,?_⟩);replace H:=H.a1.s k1 (m1.congr (vQ _ _ _ x hin));refine oC<|aI ?_;repeat refine qa ?_
  exact aU ⟨3-(x+1),Y,x+1,Y,Y,⟨YA,YB,O,O,O⟩,Ae O YC,λa ha=>by
   by_cases e:a=x
   .rw[e];exact hb
   exact hok a Y,by rw[<-aMm];exact H⟩
 obtain rfl:x=3:=by have:=Xg h;omega
 rw[aJb] at H;refine bL (dQ ?_);refine aH<|aGu (λA W'=>(A.tmps.size=136/\A.defers=[]/\A.eval (.tmp 1)=δ (γ y) 24 yc/\A.eval (.tmp 2)=μ (γ ⟨w.heap.size,0,β⟩)/\A.eval (.tmp 4)=μ (γ ⟨w1.heap.size,0,β⟩))/\A.eval (.tmp 92)=υ (decide (gL v 21<0\/15<gL v 21\/gL v 22<0\/4095<gL v 22\/gL v 23<0\/4095<gL v 23))/\Cx w W' [κ 43 w1.heap.size 74 74 (ε dS (δ β 0 0)),κ 43 w.heap.size 74 74 (ε { n with ax:=ρ v } nv)]) (λhT=>?_) (λA V hT=>?_)
 .refine aI<|qa ?_;refine qg (dF _ _ U O O (i:=21) U Y _) ?_;refine qg (dG _ U O (aP (hy 21 Y) H.bel)) ?_;by_cases g0:gL v 21<0
  .refine Λ ?_;iterate 5 (refine qa ?_;(iterate 4 refine bP ?_);refine qg (aK _ _ _ U O O _) ?_)
   refine aC ?_;exact hT _ _ ⟨⟨YA,YB,O,O,O⟩,Ae O (by rw[Xt (show gL v 21<0\/15<gL v 21\/gL v 22<0\/4095<gL v 22\/gL v 23<0\/4095<gL v 23 by omega)]),H⟩
  refine Ξ ?_;refine qa ?_;refine qa ?_;refine qg (dF _ _ U O O (i:=21) U Y _) ?_;refine qg (dG _ U O (aP (hy 21 Y) H.bel)) ?_;by_cases g1:15<gL v 21
  .refine Λ ?_;refine ξ ?_;iterate 4 (refine qa ?_;(iterate 4 refine bP ?_);refine qg (aK _ _ _ U O O _) ?_)
   refine aC ?_;exact hT _ _ ⟨⟨YA,YB,O,O,O⟩,Ae O (by rw[Xt (show gL v 21<0\/15<gL v 21\/gL v 22<0\/4095<gL v 22\/gL v 23<0\/4095<gL v 23 by omega)]),H⟩
  refine Ξ ?_;refine ξ ?_;refine qa ?_;refine qa ?_;refine qg (dF _ _ U O O (i:=22) U Y _) ?_;refine qg (dG _ U O (aP (hy 22 Y) H.bel)) ?_;by_cases g2:gL v 22<0
  .refine Λ ?_;refine ξ ?_;iterate 3 (refine qa ?_;(iterate 4 refine bP ?_);refine qg (aK _ _ _ U O O _) ?_)
   refine aC ?_;exact hT _ _ ⟨⟨YA,YB,O,O,O⟩,Ae O (by rw[Xt (show gL v 21<0\/15<gL v 21\/gL v 22<0\/4095<gL v 22\/gL v 23<0\/4095<gL v 23 by omega)]),H⟩
  refine Ξ ?_;refine ξ ?_;refine qa ?_;refine qa ?_;refine qg (dF _ _ U O O (i:=22) U Y _) ?_;refine qg (dG _ U O (aP (hy 22 Y) H.bel)) ?_;by_cases g3:4095<gL v 22
  .refine Λ ?_;refine ξ ?_;iterate 2 (refine qa ?_;(iterate 4 refine bP ?_);refine qg (aK _ _ _ U O O _) ?_)
   refine aC ?_;exact hT _ _ ⟨⟨YA,YB,O,O,O⟩,Ae O (by rw[Xt (show gL v 21<0\/15<gL v 21\/gL v 22<0\/4095<gL v 22\/gL v 23<0\/4095<gL v 23 by omega)]),H⟩
  refine Ξ ?_;refine ξ ?_;refine qa ?_;refine qa ?_;refine qg (dF _ _ U O O (i:=23) U Y _) ?_;refine qg (dG _ U O (aP (hy 23 Y) H.bel)) ?_;by_cases g4:gL v 23<0
  .refine Λ ?_;refine ξ ?_;iterate 1 (refine qa ?_;(iterate 4 refine bP ?_);refine qg (aK _ _ _ U O O _) ?_)
   refine aC ?_;exact hT _ _ ⟨⟨YA,YB,O,O,O⟩,Ae O (by rw[Xt (show gL v 21<0\/15<gL v 21\/gL v 22<0\/4095<gL v 22\/gL v 23<0\/4095<gL v 23 by omega)]),H⟩
  refine Ξ ?_;refine ξ ?_;refine qa ?_;refine qa ?_;refine qg (dF _ _ U O O (i:=23) U Y _) ?_;refine qg (dG _ U O (aP (hy 23 Y) H.bel)) ?_;refine qa ?_;refine ξ ?_;refine aC ?_;exact hT _ _ ⟨⟨YA,YB,O,O,O⟩,Ae O (Ω Value.bool (Dc.2 Y)),H⟩
 clear b1 b2 b4 b6 hs hd H;obtain⟨⟨hs,hd,b1,b2,b4⟩,b92,H⟩:=hT;refine mK b92 (λh=>?_) (λh=>?_)
 .have eno:Θ v=false:=aQb (Xu h);refine aD (aG ?_);refine qa ?_;refine gH H.a0 aZ (tO _ hnv) ?_;clear H;intro V1 H z5;refine qa ?_;refine aC ?_;exact aQ (fF (aN YB (lW U O O ManyK.out H.v0 (Xr _)) ⟨_,by rw[eno],tO _ hnv,λh=>(by rw[eno] at h;cases h),H.bel⟩))
 have hn:=Xg h;refine aR<|aH ?_;replace H:=H.drew;have hyV:∀i,i<24->V.drew.cell? (y.add i)=γ (ι ζ (gL v i)):=λi hi=>aP (hy i hi) H.bel;have hS:(λZ=>Below V.drew.heap.size V.drew Z) V.drew:=Af _ _;refine fI (S:=λZ=>Below V.drew.heap.size V.drew Z) (.mv 0 (.mv 1 (.rd 2 (.mv 3 (.mv 4 (.rd 5 (.mv 6 (.mv 7 .fin)))))))) [] Yl Yl ?_;refine BB ?_;refine qj ?_;refine Yk U (λ_=>dF _ _ U O O (i:=22) U Y _) ?_;refine Yr U hS (λ_ e=>dG _ U O (aP (hyV 22 Y) e)) ?_;refine qj ?_;refine Yk U (λ_=>dF _ _ U O O (i:=23) U Y _) ?_;refine Yr U hS (λ_ e=>dG _ U O (aP (hyV 23 Y) e)) ?_;iterate 2 refine qj ?_
 refine gM<|aH<|aD<|qa ?_;refine aC<|aJ ?_;refine bR (λr A W=>∃i:Nat,i<=4/\4-i<=r/\(A.tmps.size=136/\A.defers=[]/\A.eval (.tmp 1)=δ (γ y) 24 yc/\A.eval (.tmp 2)=μ (γ ⟨w.heap.size,0,β⟩)/\A.eval (.tmp 4)=μ (γ ⟨w1.heap.size,0,β⟩))/\A.eval (.tmp 8)=ι ζ (gL v 22/8^i)/\A.eval (.tmp 9)=ι ζ (gL v 23/8^i)/\A.eval (.tmp 10)=ι ζ (3-(i:Int))/\Cx w W [κ 43 w1.heap.size 74 74 (ε dS (δ β 0 0)),κ 43 w.heap.size 74 74 (ε { n with ax:=ρ v,rl:=upR n.rl (gL v 21) (gL v 22) (gL v 23) i } nv)]) 4
  ⟨0,Xz _,Y,⟨YA,YB,O,O,O⟩,Ae O (by rw[Int.pow_zero,Int.ediv_one]),Ae O (by rw[Int.pow_zero,Int.ediv_one]),O,by rw[aMp];exact H⟩ (λr A W3 hI=>?_)
 clear b1 b2 b4 b92 hs hd H hyV hS;obtain⟨i,hi,hir,⟨hs,hd,b1,b2,b4⟩,b8,b9,b10,H⟩:=hI;have hq2:=aEY (n:=gL v 22) Y Y i;have hq3:=aEY (n:=gL v 23) Y Y i;refine aH<|aD (aG ?_);iterate 2 refine qa ?_
 refine aC<|fB (λh=>?_) (λh=>?_)
 .have hin3:i<4:=by have:=Xu h;omega
  refine aR<|aH (aJ ?_);refine aD ?_;iterate 3 refine qa ?_
  refine qg (OP _ _ U O O hq2.1 _) ?_;refine qa ?_;refine qg (OP _ _ U O O hq3.1 _) ?_;iterate 2 refine qa ?_
  refine qg (bB (i:=3-i) _ _ _ _ U ArrK.out SizK.out O O Y Y _) ?_;refine kX (q:=0+27+4+(3-i)*1) (g':=ε { n with ax:=ρ v,rl:=upM1 n.rl (gL v 21) (gL v 22) (gL v 23) i } nv) (u:=ι ζ (gL v 22/8^i%8)) H.a1 (upd_rlCell (off:=0+27+4+(3-i)*1) (p:=4+(3-i)) _ nv Y Y (up_m hin3)) ?_;clear H;intro V1 H z5;iterate 2 refine qa ?_
  refine qg (bB (i:=3-i) _ _ _ _ U ArrK.out SizK.out O O Y Y _) ?_;refine kX (q:=0+27+8+(3-i)*1) (g':=ε { n with ax:=ρ v,rl:=upM2 n.rl (gL v 21) (gL v 22) (gL v 23) i } nv) (u:=ι ζ (gL v 23/8^i%8)) H.a1 (upd_rlCell (off:=0+27+8+(3-i)*1) (p:=8+(3-i)) _ nv Y Y (up_j hin3)) ?_;clear H;intro V2 H z6;refine aC<|aD<|qa ?_;refine qg (OO _ _ U O O hq2.1 hq2.2 _) ?_;refine qa ?_;refine qg (OO _ _ U O O hq3.1 hq3.2 _) ?_;iterate 2 refine qa ?_
  refine aC<|aI ?_;iterate 2 refine qa ?_
  refine qg (dF _ _ U O O (i:=21) U Y _) ?_;refine qg (dG _ U O (aP (hy 21 Y) H.bel)) ?_;refine qa ?_;refine qg (aLj (s:=3-i) _ U (Ae O (by congr 1;omega)) _) ?_;refine qg (aIM _ _ U O O Y _) ?_;refine qg (aLG _ _ U O O (aNk Y Y _).1 _) ?_;iterate 3 refine qa ?_
  refine qg (bB (i:=3-i) _ _ _ _ U ArrK.out SizK.out O O Y Y _) ?_;refine kX (q:=0+27+0+(3-i)*1) (g':=ε { n with ax:=ρ v,rl:=upR n.rl (gL v 21) (gL v 22) (gL v 23) (i+1) } nv) (u:=υ (decide (gL v 21/2^(3-i)%2=1))) H.a1 (upd_rlCell (off:=0+27+0+(3-i)*1) (p:=3-i) _ nv Y Y (up_i hin3)) ?_;clear H;intro V3 H z7;refine fK<|aI ?_;repeat refine qa ?_
  exact aU ⟨4-(i+1),Y,i+1,Y,Y,⟨YA,YB,O,O,O⟩,Ae O (by rw[aAh]),Ae O (by rw[aAh]),Ae O (by congr 1;omega),H⟩
 obtain rfl:i=4:=by have:=Xg h;omega
 rw[aMo] at H;refine bL (dQ ?_);refine aH ?_;replace H:=H.drew;have hS:Its [κ 43 w.heap.size 74 74 (ε { n with ax:=ρ v,rl:=Γ v } nv)] W3.drew:=Aj H.o1 (Ak _);refine fI (S:=Its [κ 43 w.heap.size 74 74 (ε { n with ax:=ρ v,rl:=Γ v } nv)]) (.rd 0 (.mv 1 (.rd 2 (.go 3 (.go 4 (.mv 5 .fin)))))) [] Yl Yl ?_;refine qr hS ?_;refine qj ?_;refine Yr U hS (λ_ H=>cZ _ _ U gJ O H.v0 Y (BI _ _)) ?_;refine dA U U Yw (λK hK=>?_);refine bM _ 169 _ _ U O (aCQ _ _) (SG (Γ v) _ (λi _=>⟨ZI _ _,ZI _ _⟩)) ?_;rintro e V1 ⟨rfl,k1⟩;replace H:=H.call k1;refine⟨_,U,hK _ _ (λ_ _=>Aj H.o1 (Ak _)) ?_⟩;refine dK U Yw (λK hK=>?_);refine aW _ _ _ _ U ManyK.out O O H.v0 Y (tO _ hnv) U (λV2 m2 k2 z5=>?_);replace H:=H.a0.s k2 (m2.congr aZ);refine hK _ (λ_ _=>Aj H.o1 (Ak _)) ?_;refine qj ?_;refine gM ?_;have eok:Θ v=mR (Γ v):=aJa hok Y Y Y Y Y Y;exact aQ (aN YB (lW U O O ManyK.out H.v0 (Xr _)) ⟨_,by rw[eok],tO { n with ax:=ρ v,rl:=Γ v } hnv,λ_ _ _=>rfl,H.bel⟩)
theorem aEd(o):fstV o=.tuple #[CB o,.bool o.isSome]:=by cases o<;>rfl
def cloF(n:Nd)(L:σ Lm):Nd:=if (n.vS&&decide (n.vX≠n.dg))=true then cloT n L else n
variable{f:æ->Value}
theorem aFN{o}(a b c d0 d e g)(ho:o.op=.build 57 #[(0,a),(1,b),(2,c),(3,d0),(4,d),(5,e),(6,g)])(h0:f a=.int .i64 n.id)(h1:f b=.int .i64 n.fr)(h2:f c=aX (λi=>iV (n.us i)) 0 3)(hx:f d0=aX (λi=>iV ((λa=>(n.ax a).X) i)) 0 3)(h3:f d=.int .i64 n.dg)(h4:f e=.bool n.vS)(h5:f g=aX (tF n.rl.I) 0 4)(w):(Ψ f o).run à w=.ok (.value (aX (iX n) 0 14)) w:=by have h2':f c=.agg #[ι ζ (n.us 0),ι ζ (n.us 1),ι ζ (n.us 2)]:=h2;have hx':f d0=.agg #[ι ζ (n.ax 0).X,ι ζ (n.ax 1).X,ι ζ (n.ax 2).X]:=hx;have h5':f g=.agg #[υ (n.rl.I 0),υ (n.rl.I 1),υ (n.rl.I 2),υ (n.rl.I 3)]:=h5;unfold Ψ;rw[ho];simp only[Ay,Aw,Az];rw[h0,h1,h2',hx',h3,h4,h5'];clear h0 h1 h2 hx h3 h4 h5 h2' hx' h5' ho;change _=_;kernel_rfl
theorem aDk:aQK 59:=by
 intro n ao c mo mc L w hok hag hmr hN hmc hRL;have hag:Sr w ao n.vA.length c (tF (bA n)):=hag;refine bC Tryz.func59 U 105 U Yd (λA hs hd hb=>?_);have b0:A.eval (.tmp 0)=aX (ε n (δ ao n.vA.length c)) 0 74:=hb 0 _ U;have b1:A.eval (.tmp 1)=δ mo L.length mc:=hb 1 _ U;clear hb;have H:=Bl w;refine aD (aG ?_);refine jO H ?_;clear H;intro w1 H z1;refine gQ H ?_;clear H;intro w2 H z2;refine gQ H ?_;clear H;intro w3 H z3;refine aC<|aD<|qa ?_;refine ψ (show π _ _ #[aX (ε n (δ ao n.vA.length c)) 0 74] _ _ from pU n ao c _ (hag.below H.bel) hok.vA) ?_;rintro e w4 ⟨a3,c3,rfl,o4,k4⟩;refine⟨aX (ε n (δ a3 n.vA.length c3)) 0 74,U,?_⟩;have hsz:=H.size;replace H:=H.add k4 (AA w n a3 c3) (cO o4 hsz) (λj e=>(o4.lt j e).1);refine gH H.a3 aZ (bQ _ _ _ _) ?_;clear H;intro w5 H z5;refine aC<|aH<|aD<|qa ?_;refine ψ (show π _ _ #[aX (ε n (δ a3 n.vA.length c3)) 0 74] _ _ from sD n _ _) ?_;rintro e w6 ⟨rfl,k6⟩;refine⟨_,U,?_⟩;replace H:=H.call k6;refine aC<|fB (λhno=>?_) (λhno=>?_)
 .refine aD<|qa ?_;refine qg (TB U _) ?_;refine gH H.a2 aZ (bQ _ _ _ _) ?_;clear H;intro w7 H z7;refine gH H.a1 aZ (mX _ _) ?_;clear H;intro w8 H z8;refine aC ?_;have e1:gW n (L.map Lm.m)=n:=by unfold gW;rw[η hno]
  have e2:tL n (L.map Lm.m)=dS:=by unfold tL;rw[η hno]
  rw[e1,e2];exact aQ (fF (aN YB (iC U O O ManyK.out ManyK.out H.v2 (Xr _) H.v1 (Xr _)) ⟨a3,c3,U,H.o0,H.bel⟩))
 refine aR<|PS (λA W'=>(A.tmps.size=105/\A.defers=[]/\A.eval (.tmp 1)=δ mo L.length mc/\A.eval (.tmp 2)=μ (γ ⟨w.heap.size,0,β⟩)/\A.eval (.tmp 4)=μ (γ ⟨w1.heap.size,0,β⟩)/\A.eval (.tmp 5)=μ (γ ⟨w2.heap.size,0,β⟩))/\A.eval (.tmp 6)=υ (n.vS&&decide (n.vX≠n.dg))/\Cx w W' [AA w n a3 c3,κ 57 w2.heap.size 14 14 (iX dS),κ 43 w1.heap.size 74 74 (ε dS (δ β 0 0)),κ 43 w.heap.size 74 74 (ε n (δ a3 n.vA.length c3))]) (λhT=>?_) (λA V0 hT=>?_)
 .refine aI ?_;iterate 2 refine qa ?_
  refine qg (aT (v:=υ n.vS) _ _ U OneK.out O H.v3 Y U) ?_;refine qa ?_;rcases hvs:n.vS with _|_
  .iterate 6 refine bP ?_
   refine ξ ?_;refine qa ?_;refine aC ?_;exact hT _ _ ⟨⟨YA,YB,O,O,O,O⟩,Ae O (by rw[hvs];rfl),H⟩
  iterate 6 refine qa ?_
  refine Δ ?_;refine qa ?_;refine aC ?_;exact hT _ _ ⟨⟨YA,YB,O,O,O,O⟩,Ae O (by rw[hvs];rfl),H⟩
 clear b0 b1 hs hd H;obtain⟨⟨hs,hd,b1,b2,b4,b5⟩,b6,H⟩:=hT;refine aH<|aD (aG ?_);refine qa ?_;refine aC<|aJ ?_;refine bR (λr A W'=>∃(i:Nat) (lb:Bool) (N:Nd),i<=4/\4-i<=r/\(A.tmps.size=105/\A.defers=[]/\A.eval (.tmp 1)=δ mo L.length mc/\A.eval (.tmp 2)=μ (γ ⟨w.heap.size,0,β⟩)/\A.eval (.tmp 4)=μ (γ ⟨w1.heap.size,0,β⟩)/\A.eval (.tmp 5)=μ (γ ⟨w2.heap.size,0,β⟩))/\A.eval (.tmp 6)=υ lb/\A.eval (.tmp 7)=ι ζ (i:Int)/\(N.id=n.id/\N.fr=n.fr/\N.vA=n.vA)/\(lb=true->(n.vS&&decide (n.vX≠n.dg))=true/\N=n/\∀p q,p<q->q<4->(p<i)->kM n L p q=β)/\(lb=false->N=cloF n L)/\Cx w W' [AA w n a3 c3,κ 57 w2.heap.size 14 14 (iX dS),κ 43 w1.heap.size 74 74 (ε dS (δ β 0 0)),κ 43 w.heap.size 74 74 (ε N (δ a3 n.vA.length c3))]) 4
  ⟨0,(n.vS&&decide (n.vX≠n.dg)),n,Y,Y,⟨YA,YB,O,O,O,O⟩,O,O,⟨rfl,rfl,rfl⟩,(λhl=>⟨hl,rfl,λp q _ _ h=>ο h Y⟩),(λhl=>by unfold cloF;rw[θ (by rw[hl];decide)]),H⟩ (λr A W hI=>?_)
 clear b1 b2 b4 b5 b6 hs hd H;obtain⟨i,lb,N,hi,hir,⟨hs,hd,b1,b2,b4,b5⟩,b6,b7,hN3,hT1,hT2,H⟩:=hI;refine aH<|aD (aG ?_);iterate 2 refine qa ?_
 refine aC<|fB (λh=>?_) (λh=>?_)
 .have hin:i<4:=by have:=Xu h;omega
  refine aR<|aH (aJ ?_);refine aD ?_;iterate 3 refine qa ?_
  refine aC<|aJ ?_;refine bR (λr A W'=>∃(k:Nat) (lb:Bool) (N:Nd),i<k/\k<=4/\4-k<=r/\(A.tmps.size=105/\A.defers=[]/\A.eval (.tmp 1)=δ mo L.length mc/\A.eval (.tmp 2)=μ (γ ⟨w.heap.size,0,β⟩)/\A.eval (.tmp 4)=μ (γ ⟨w1.heap.size,0,β⟩)/\A.eval (.tmp 5)=μ (γ ⟨w2.heap.size,0,β⟩))/\A.eval (.tmp 6)=υ lb/\A.eval (.tmp 7)=ι ζ (i:Int)/\A.eval (.tmp 8)=ι ζ (k:Int)/\(N.id=n.id/\N.fr=n.fr/\N.vA=n.vA)/\(lb=true->(n.vS&&decide (n.vX≠n.dg))=true/\N=n/\∀p q,p<q->q<4->(p<i\/p=i/\q<k)->kM n L p q=β)/\(lb=false->N=cloF n L)/\Cx w W' [AA w n a3 c3,κ 57 w2.heap.size 14 14 (iX dS),κ 43 w1.heap.size 74 74 (ε dS (δ β 0 0)),κ 43 w.heap.size 74 74 (ε N (δ a3 n.vA.length c3))]) 4
   ⟨i+1,lb,N,Y,Y,Y,⟨YA,YB,O,O,O,O⟩,O,O,Ae O YC,hN3,(λhl=>⟨(hT1 hl).1,(hT1 hl).2.1,λp q h1 h2 h3=>(hT1 hl).2.2 p q h1 h2 Y⟩),hT2,H⟩ (λr A W2 hI=>?_)
  clear b1 b2 b4 b5 b6 b7 hs hd H hN3 hT1 hT2 lb N;obtain⟨k,lb,N,hik,hk,hkr,⟨hs,hd,b1,b2,b4,b5⟩,b6,b7,b8,hN3,hT1,hT2,H⟩:=hI;refine aH<|aD (aG ?_);iterate 2 refine qa ?_
  refine aC<|fB (λh=>?_) (λh=>?_)
  .have hk4:k<4:=by have:=Xu h;omega
   refine aR<|aH (aJ ?_);refine aD<|qa ?_;iterate 2 refine qa ?_
   refine bI U Yw (λK hK=>pY _ _ _ _ _ _ _ _ U O O O O O (pQ _ _ _ _ _ _) (show π _ _ #[aX (ε N (δ a3 n.vA.length c3)) 0 74,δ mo L.length mc,ι ζ (i:Int),ι ζ 5,ι ζ 24] _ (λe w'=>e=.returned (fstV (fL N.id N.fr L (i:Int) 5 24))/\_) from oG N (δ a3 n.vA.length c3) mo mc L (i:Int) 5 24 _ (hmr.below H.bel) hN) ?_);rintro e V1 ⟨rfl,k1⟩;refine⟨_,by rw[aEd,hN3.1,hN3.2.1],hK _ _ ?_⟩;replace H:=H.call k1;refine qa ?_;refine qg (nD _ U O _) ?_;refine qg (nE _ U O _) ?_;iterate 2 refine qa ?_
   refine aC<|aD<|qa ?_;iterate 2 refine qa ?_
   refine bI U Yw (λK hK=>pY _ _ _ _ _ _ _ _ U O O O O O (pQ _ _ _ _ _ _) (show π _ _ #[aX (ε N (δ a3 n.vA.length c3)) 0 74,δ mo L.length mc,ι ζ (k:Int),ι ζ 5,ι ζ 24] _ (λe w'=>e=.returned (fstV (fL N.id N.fr L (k:Int) 5 24))/\_) from oG N (δ a3 n.vA.length c3) mo mc L (k:Int) 5 24 _ (hmr.below H.bel) hN) ?_);rintro e V2 ⟨rfl,k2⟩;refine⟨_,by rw[aEd,hN3.1,hN3.2.1],hK _ _ ?_⟩;replace H:=H.call k2;refine qa ?_;refine qg (nD _ U O _) ?_;refine qg (nE _ U O _) ?_;iterate 2 refine qa ?_
   refine aC<|PS (λA W'=>(A.tmps.size=105/\A.defers=[]/\A.eval (.tmp 1)=δ mo L.length mc/\A.eval (.tmp 2)=μ (γ ⟨w.heap.size,0,β⟩)/\A.eval (.tmp 4)=μ (γ ⟨w1.heap.size,0,β⟩)/\A.eval (.tmp 5)=μ (γ ⟨w2.heap.size,0,β⟩))/\A.eval (.tmp 6)=υ lb/\A.eval (.tmp 7)=ι ζ (i:Int)/\A.eval (.tmp 8)=ι ζ (k:Int)/\A.eval (.tmp 9)=CB (fL n.id n.fr L (i:Int) 5 24)/\A.eval (.tmp 67)=υ (lb&&(kM n L i k).isSome)/\Cx w W' [AA w n a3 c3,κ 57 w2.heap.size 14 14 (iX dS),κ 43 w1.heap.size 74 74 (ε dS (δ β 0 0)),κ 43 w.heap.size 74 74 (ε N (δ a3 n.vA.length c3))]) (λhT=>?_) (λA V3 hT=>?_)
   .refine aI ?_;iterate 2 refine qa ?_
    rcases lb with _|_
    .refine bP ?_;refine ξ ?_;refine qa ?_;refine bP ?_;refine ξ ?_;refine qa ?_;iterate 3 refine bP ?_
     refine ξ ?_;refine aC ?_;exact hT _ _ ⟨⟨YA,YB,O,O,O,O⟩,O,O,O,O,O,H⟩
    refine qa ?_;refine Δ ?_;refine qa ?_;rcases hfi:fL n.id n.fr L (i:Int) 5 24 with _|ci
    .refine bP ?_;refine ξ ?_;refine qa ?_;iterate 3 refine bP ?_
     refine ξ ?_;refine aC ?_;exact hT _ _ ⟨⟨YA,YB,O,O,O,O⟩,O,O,O,ω O (by rw[hfi]),ω O (by unfold kM;rw[hfi];rfl),H⟩
    refine qa ?_;refine Δ ?_;refine qa ?_;rcases hfk:fL n.id n.fr L (k:Int) 5 24 with _|ck
    .iterate 3 refine bP ?_
     refine ξ ?_;refine aC ?_;exact hT _ _ ⟨⟨YA,YB,O,O,O,O⟩,O,O,O,ω O (by rw[hfi]),ω O (by unfold kM;rw[hfi,hfk];rfl),H⟩
    obtain⟨mci,_⟩:=qD hfi;obtain⟨mck,_⟩:=qD hfk;iterate 2 refine qa ?_
    refine ψ (show π _ _ #[CB (γ ci),CB (γ ck)] _ _ from SH ci.m.L ck.m.L ci.ao ck.ao ci.cap ck.cap _ (by have:=(hmr.2 ci mci).2.2;omega) ((hmr.2 ci mci).below H.bel).1 ((hmr.2 ck mck).below H.bel).1) ?_;rintro e V1 ⟨rfl,k1⟩;refine⟨_,U,?_⟩;replace H:=H.call k1;refine Δ ?_;refine aC ?_;exact hT _ _ ⟨⟨YA,YB,O,O,O,O⟩,O,O,O,ω O (by rw[hfi]),ω O (by unfold kM;rw[hfi,hfk];by_cases he:ci.m.L=ck.m.L<;>simp[he]),H⟩
   clear b1 b2 b4 b5 b6 b7 b8 hs hd H;obtain⟨⟨hs,hd,b1,b2,b4,b5⟩,b6,b7,b8,b9,b67,H⟩:=hT;refine mK b67 (λh=>?_) (λh=>?_)
   .simp only[Br] at h;obtain⟨rfl,hps⟩:=h;obtain⟨hL0,rfl,hnp⟩:=hT1 rfl;obtain⟨ci,hpk⟩:=Gb.1 hps;have hfi:fL N.id N.fr L (i:Int) 5 24=γ ci:=by
     unfold kM at hpk;split at hpk
     .rename_i a b ha hb;split at hpk
      .cases hpk;exact ha
      cases hpk
     cases hpk
    obtain⟨mci,fci⟩:=qD hfi;have hl24:ci.m.L.length=24:=by have:=aAA fci;omega
    have hal:T9 N L=γ ci:=WE hik hk4 hpk (λp q h1 h2 h3=>hnp p q h1 h2 h3);have hsr:=((hmr.2 ci mci).below H.bel);obtain⟨y,ey,hyc⟩:=hsr.at Y;have hlm:CB (fL N.id N.fr L (i:Int) 5 24)=δ (γ y) 24 ci.cap:=by rw[hfi];show Value.slice ci.ao ci.m.L.length ci.cap=_;rw[ey,hl24]
    refine aD (aG ?_);refine qa ?_;refine aC<|aD<|qa ?_;refine qg (fC _ U (Ae O hlm) _) ?_;refine ψ (show π _ _ #[aX (ε N (δ a3 N.vA.length c3)) 0 74,δ (γ y) 24 ci.cap] _ _ from SK N (δ a3 N.vA.length c3) ci.m.L y ci.cap _ U (by have:=hsr.2.1;omega) (λj hj=>hyc j Y)) ?_;rintro e V4 ⟨fx,rfl,ofx,hfx,k4'⟩;refine⟨_,U,?_⟩;replace H:=H.call k4';refine qa ?_;refine qg (nD _ U O _) ?_;refine qg (nE _ U O _) ?_;refine gQ H ?_;clear H;intro V5 H z7;refine gH H.a0 aZ ofx ?_;clear H;intro V6 H z8;refine qa ?_;refine aC<|aD<|qa ?_;refine aC<|fB (λhu=>?_) (λhu=>?_)
    .refine aI<|qa ?_;refine gH H.a4 aZ ofx ?_;clear H;intro V7 H z9;refine fK<|aI ?_;repeat refine qa ?_
     refine aU ⟨4-(k+1),Y,k+1,false,{ N with ax:=ρ ci.m.L,rl:=Γ ci.m.L },Y,Y,Y,⟨YA,YB,O,O,O,O⟩,O,O,ω O YC,⟨rfl,rfl,rfl⟩,(λh=>by cases h),(λ_=>by unfold cloF cloT;rw[η hL0,hal];exact (η hu).symm),?_⟩;exact (H.tl.f3.a0.put (y:=(κ _ _ _ _ _)) ⟨U,U,U,(Xr _),λ_ _ _=>rfl,(Ac H.tl.f3.v0 (hfx hu)),λ_ h=>Aa h⟩).b3
    refine gT<|aI ?_;repeat refine qa ?_
    exact aU ⟨4-(k+1),Y,k+1,false,N,Y,Y,Y,⟨YA,YB,O,O,O,O⟩,O,O,ω O YC,⟨U,U,U⟩,(λh=>by cases h),(λ_=>by unfold cloF cloT;rw[η hL0,hal];exact (θ (by rw[hu];decide)).symm),H.tl⟩
   refine gT<|aI (aG ?_);repeat refine qa ?_
   refine aU ⟨4-(k+1),Y,k+1,lb,N,Y,Y,Y,⟨YA,YB,O,O,O,O⟩,O,O,Ae O YC,hN3,(λhl=>⟨(hT1 hl).1,(hT1 hl).2.1,λp q h1 h2 h3=>?_⟩),hT2,H⟩;by_cases e:p=i/\q=k
   .rw[e.1,e.2];rw[hl,Gr] at h;exact Hl.1 (by rw[h];decide)
   exact (hT1 hl).2.2 p q h1 h2 Y
  obtain rfl:k=4:=by have:=Xg h;omega
  refine bL (BQ ?_);refine aI ?_;repeat refine qa ?_
  exact aU ⟨4-(i+1),Y,i+1,lb,N,Y,Y,⟨YA,YB,O,O,O,O⟩,O,Ae O YC,hN3,(λhl=>⟨(hT1 hl).1,(hT1 hl).2.1,λp q h1 h2 h3=>(hT1 hl).2.2 p q h1 h2 Y⟩),hT2,H⟩
 obtain rfl:i=4:=by have:=Xg h;omega
 have eF:N=cloF n L:=by
  rcases lb with _|_
  .exact hT2 U
  obtain⟨hl,e,hnp⟩:=hT1 rfl;rw[e];unfold cloF cloT;rw[η hl,ZW (λp q h1 h2=>hnp p q h1 h2 Y)]
 have eN:gW n (L.map Lm.m)=N:=by
  rw[eF];unfold cloF;by_cases hl:(n.vS&&decide (n.vX≠n.dg))=true
  .rw[η hl];simp only[Br,Cv] at hl;exact aAd hno hl
  rw[θ hl];simp only[Br,Cv] at hl;exact GL hno hl
 refine bL (dQ ?_);refine aH ?_;replace H:=H.drew;have hS:Its [κ 43 w.heap.size 74 74 (ε N (δ a3 n.vA.length c3))] W.drew:=Aj H.o3 (Ak _);refine fI (S:=Its [κ 43 w.heap.size 74 74 (ε N (δ a3 n.vA.length c3))]) (.rd 0 (.mv 1 (.rd 2 (.mv 3 (.rd 4 (.mv 5 (.rd 6 (.mv 7 (.mv 8 (.mv 9 (.rd 10 (.mv 11 (.mv 12 (.mv 13 (.rd 14 (.mv 15 (.mv 16 (.mv 17 (.rd 18 (.mv 19 (.mv 20 (.rd 21 (.mv 22 (.mv 23 (.rd 24 (.mv 25 (.mv 26 (.rd 27 (.mv 28 (.go 29 (.go 30 .fin))))))))))))))))))))))))))))))) [] Yl Yl ?_;refine qr hS ?_;refine qj ?_;refine qr hS ?_;refine qj ?_;refine qr hS ?_;refine qj ?_;refine Yr U hS (λ_ H=>cZ (h:=λi=>iV (N.us i)) _ _ U mW O H.v0 Y (aNh N _)) ?_;refine qj ?_;refine dC U U (λ_ _ _ h=>h) Yw (λw=>bB (i:=0) _ _ _ _ U ArrK.out SizK.out O O U Y w) ?_;refine qj ?_;refine Yr U hS (λ_ H=>aT (v:=ι ζ (N.ax 0).X) _ _ U OneK.out O H.v0 Y U) ?_;refine qj ?_;refine dC U U (λ_ _ _ h=>h) Yw (λw=>bB (i:=1) _ _ _ _ U ArrK.out SizK.out O O U Y w) ?_;refine qj ?_;refine Yr U hS (λ_ H=>aT (v:=ι ζ (N.ax 1).X) _ _ U OneK.out O H.v0 Y U) ?_;refine qj ?_;refine dC U U (λ_ _ _ h=>h) Yw (λw=>bB (i:=2) _ _ _ _ U ArrK.out SizK.out O O U Y w) ?_;refine qj ?_;refine Yr U hS (λ_ H=>aT (v:=ι ζ (N.ax 2).X) _ _ U OneK.out O H.v0 Y U) ?_;refine Yk U (λ_=>OJ _ _ _ U (g:=λi=>(N.ax i).X) O O O _) ?_;refine qj ?_;refine qr hS ?_;iterate 2 refine qj ?_
 refine qr hS ?_;iterate 2 refine qj ?_
 refine Yr U hS (λ_ H=>cZ _ _ U QY O H.v0 Y (BH _ _)) ?_;refine Yk U (λ_=>aFN (n:=N) _ _ _ _ _ _ _ U O O O O O O O _) ?_;refine dK U Yw (λK hK=>?_);refine aW _ _ _ _ U ManyK.out O O H.v2 Y (bQ _ _ _ _) U (λV1 m1 k1 z7=>?_);replace H:=H.a2.s k1 (m1.congr aZ);refine hK _ (λ_ _=>Aj H.o3 (Ak _)) ?_;refine dK U Yw (λK hK=>?_);refine aW _ _ _ _ U ManyK.out O O H.v1 Y (mX _ _) U (λV2 m2 k2 z8=>?_);replace H:=H.a1.s k2 (m2.congr aZ);refine hK _ (λ_ _=>Aj H.o3 (Ak _)) ?_;refine gM ?_;have e2:tL n (L.map Lm.m)=gW n (L.map Lm.m):=by unfold tL;rw[θ (by rw[hno];decide)]
 have evA:=hN3.2.2;rw[e2,eN];refine aQ (aN YB (iC U O O ManyK.out ManyK.out H.v2 (Xr _) H.v1 (Xr _)) ⟨a3,c3,by rw[evA];rfl,?_,H.bel⟩);unfold sM bA;rw[evA];exact H.o0
end
section
open Go.RowKit
variable{P:Program}{f:æ->Value}{v:Value}{w:τ}
theorem aLu{o}{ty}{x}(T:OneC P ty){b off}(hc:w.cell? ⟨b,off,β⟩=γ v)(ho:o.op=.load ty x)(hx:f x=.pointer (γ ⟨b,off,β⟩)):(Ψ f o).run P w=.ok (.value v) w:=by unfold Ψ;simp only[ho,hx,Instr.loadAt,Instr.sureAddr,loadVar,Aq,Bo,Bb,T.agg];go_simp
variable{Q:Exit->Act->τ->Prop}{a:Act}
theorem aRf{x y}(T:Act->τ->Prop)(hx:(∀A W,T A W->χ P y Q A W)->χ P (.seq x y) Q a w)(hy:∀A W,T A W->χ P y Q A W):χ P (.seq x y) Q a w:=hx hy
def aTH(w0:τ)(d:Nd×Ad):It:=⟨λ_=>zX w0 d.1 d.2.1 d.2.2,λ_=>False,λh _=>h,λ_ h=>h.elim⟩
def IK(w0:τ)(e:(Nd×Ad)×Bool):It:=if e.2=true then zC w0.heap.size e.1 else aTH w0 e.1
def gnI(w0:τ)(E:Nat->(Nd×Ad)×Bool):It:=CU (λi=>IK w0 (E i))
variable{E:Nat->(Nd×Ad)×Bool}{i:Nat}{w0:τ}
theorem aFh(h:(gnI w0 E).p w)(k:Below w0.heap.size w0 w)(hi:i<4):zX w (E i).1.1 (E i).1.2.1 (E i).1.2.2:=by
 have h1:(IK w0 (E i)).p w:=h i hi;unfold IK at h1;split at h1
 .have h2:å _ _ _ _ _ _ _:=h1;obtain⟨a,c,e,s,_⟩:=iT h2;unfold ν at e;cases e;exact s
 exact Sr.below h1 k
def noT:It:=⟨λ_=>True,λ_=>False,λ_ _=>trivial,λ_ h=>h.elim⟩
def mpJ(B:Nat)(t:(Ms×Ad)×Option Nat):It:=match t.2 with
 |some b=>(κ 79 b 4 4 (msF t.1.1.K t.1.1.F t.1.1.R (ν t.1.2 t.1.1.L.length))).and (tlJ B t.1)
 |none=>noT
def U9(B:Nat)(T:Nat->(Ms×Ad)×Option Nat):It:=CU (λi=>mpJ B (T i))
def sK(T:Nat->(Ms×Ad)×Option Nat)(j:Nat):Value:=μ ((T j).2.map λb=>⟨b,0,β⟩)
def noM:Nat->(Ms×Ad)×Option Nat:=λ_=>((kQ,(β,0)),β)
theorem aKQ(T:Nat->(Ms×Ad)×Option Nat)(i)(m)(b):∀j,j<4->φ (sK T) i (.pointer (γ ⟨b,0,β⟩)) j=sK (fP T i (m,γ b)) j:=λj _=>by unfold φ sK fP;split<;>rfl
theorem aKP(T:Nat->(Ms×Ad)×Option Nat):∀j,j<4->(sK T j).oneCell'=true:=λ_ _=>rfl
instance iRefCl3_1:ZerK à 119 4 (sK noM):=⟨λw=>Yl⟩
theorem aEn(B)(w):(U9 B noM).p w:=λ_ _=>trivial
variable{B:Nat}{T:Nat->(Ms×Ad)×Option Nat}
theorem aNd{j b}(h:(U9 B T).p w)(hj:j<4)(e:(T j).2=γ b):Vh 79 w b 4 4 (msF (T j).1.1.K (T j).1.1.F (T j).1.1.R (ν (T j).1.2 (T j).1.1.L.length))/\(T j).1.1.L.length<=(T j).1.2.2/\Sr w (T j).1.2.1 (T j).1.1.L.length (T j).1.2.2 (iF (gL (T j).1.1.L)):=by have h1:(mpJ B (T j)).p w:=h j hj;unfold mpJ at h1;rw[e] at h1;have h2:å _ _ _ _ _ _ _:=h1.2;obtain⟨a,c,ec,s,hc⟩:=iT h2;unfold ν at ec;cases ec;exact⟨h1.1,hc,s⟩
theorem GK(fr)D{j}(hj:j<74):kZ fr D (0+1+i*74+j)=ε (D i).1 (ν (D i).2 (D i).1.vA.length) j:=by unfold kZ;rw[Ah];exact aGw _ _ _ hj
theorem GH{x:Ip}{t u:Nat->Ms}{wo ph:Nat}:∀{k:Nat},(∀j:Nat,j<k->(j:Int)≠x.bad->t j=u j)->nO x t wo ph k=nO x u wo ph k
 |0,_=>rfl
 |k+1,h=>by
  show nO x t wo ph k++_=nO x u wo ph k++_;rw[GH (λj hj hb=>h j Y hb)];by_cases hb:(k:Int)=x.bad
  .rw[η hb,η hb]
  rw[h k Y hb]
theorem KN(fr)E(i)(d):∀j,j<297->stP (kZ fr (λi=>(E i).1)) (0+1+i*74) 74 (ε d.1 (ν d.2 d.1.vA.length)) j=kZ fr (λj=>(fP E i (d,true) j).1) j:=by rw[yT (λe:(Nd×Ad)×Bool=>e.1),Ah];exact UD fr _ i d
theorem aGt{x y}(T:Act->τ->Prop)(hx:(∀A W,T A W->χ P y Q A W)->χ P x (Nx P y Q) a w)(hy:∀A W,T A W->χ P y Q A W):χ P (.seq x y) Q a w:=aH (hx hy)
abbrev rfA(A:Act)(w w1 w2 W w6:τ)(k:Nat):Prop:=A.tmps.size=193/\A.defers=[]/\A.eval (.tmp 2)=μ (γ ⟨w.heap.size,0,β⟩)/\A.eval (.tmp 3)=μ (γ ⟨w1.heap.size,0,β⟩)/\A.eval (.tmp 4)=μ (γ ⟨w2.heap.size,0,β⟩)/\A.eval (.tmp 8)=μ (γ ⟨W.heap.size,0,β⟩)/\A.eval (.tmp 9)=μ (γ ⟨w6.heap.size,0,β⟩)/\A.eval (.tmp 10)=ι ζ k
abbrev rfL(w w1 w2:τ)(x:Ip)(lo:Option Addr)(lc:Nat)(LL:σ Lj)(fr:Int)(D:Nat->Nd×Ad):σ It:=[κ 46 w2.heap.size 297 297 (tK 0 (λ_=>dS) (λ_=>ν (β,0) 0)),κ 52 w1.heap.size 14 14 (jW x.rd x.bad (δ lo LL.length lc)),κ 46 w.heap.size 297 297 (kZ fr D)]
def PhK(k:Nat)(fr:Int)(rd:Nat->Int)(fn:Nat):Prop:=∃N M,zY N M fn/\(∀n l,phN k n fr rd l=N n l)/\∀n l,phM k n fr rd l=M n l
set_option maxHeartbeats 4000000 in
theorem aDn:aQN 24:=by
 intro x fr D lo lc LL w hx hip hcl hag hj;have hxl:x.ly.length=LL.length:=by rw[hx,Ao]
 obtain⟨c,ec⟩:∃c,c=(⟨fr,λi=>(D i).1⟩:Cl):=⟨_,rfl⟩;have ecf:c.fr=fr:=by rw[ec]
 have ecn:∀i,c.nd i=(D i).1:=λi=>by rw[ec]
 rw[<-ec] at hcl ⊢;have hno:∀(E:Int) (W:τ) (l:σ It),gY x c=E->E≠0->Cx w W l->∃(D':Nat->Nd×Ad) (v:Value),Ending.returned (ä #[aX (tK 0 (λ_=>dS) (λ_=>ν (β,0) 0)) 0 297,δ β 0 0,ι ζ E])=.returned (ä #[aX (kZ (lC x c).fr D') 0 297,v,ι ζ (gY x c)])/\(∀i,i<4->(D' i).1=(lC x c).nd i)/\Cx w W [fU w.heap.size 57 14 v (Φ x c).length (qP iX 14 (Φ x c)),oU w.heap.size D']:=λE W l he h0 H=>by
  have e1:lC x c=ZP:=by unfold lC;rw[θ (by rw[he];exact h0)]
  have e2:Φ x c=[]:=by unfold Φ;rw[θ (by rw[he];exact h0)]
  refine⟨λ_=>(dS,(β,0)),δ β 0 0,by rw[e1,he];rfl,λi hi=>by rw[e1];rfl,?_⟩;rw[e2];exact (((H.sub (El _)).add (Af _ _) (oU w.heap.size (λ_=>(dS,(β,0)))) (λ_ _=>Am _ _ _ _) (λj ⟨_,_,e⟩=>ο e (λe=>nomatch e))).add (Af _ _) (fU _ _ _ _ _ _) (Am _ _ _ _) (λj e=>nomatch e))
 refine bC Tryz.func24 U 193 U Yd (λA hs hd hb=>?_);have b0:A.eval (.tmp 0)=aX (kZ fr D) 0 297:=hb 0 _ U;have b1:A.eval (.tmp 1)=aX (jW x.rd x.bad (δ lo LL.length lc)) 0 14:=hb 1 _ U;clear hb;have H:=Bl w;refine aD (aG ?_);refine jO H ?_;clear H;intro w1 H z1;refine jO H ?_;clear H;intro w2 H z2;refine gQ H ?_;clear H;intro w3 H z3;iterate 2 refine qa ?_
 refine aC<|aH<|aRf (λA W=>A.tmps.size=193/\A.defers=[]/\A.eval (.tmp 2)=μ (γ ⟨w.heap.size,0,β⟩)/\A.eval (.tmp 3)=μ (γ ⟨w1.heap.size,0,β⟩)/\A.eval (.tmp 4)=μ (γ ⟨w2.heap.size,0,β⟩)/\A.eval (.tmp 35)=υ (decide (x.bad< -1\/4<=x.bad\/fr<0\/1073741823<fr))/\Cx w W (rfL w w1 w2 x lo lc LL fr D)) (λhT=>?_) (λA W hT=>?_)
 .refine aD ?_;iterate 2 refine qa ?_
  by_cases g1:x.bad< -1
  .refine Λ ?_;refine qa ?_;iterate 3 refine bP ?_
   refine Δ ?_;refine qa ?_;iterate 3 refine bP ?_
   refine Δ ?_;refine qa ?_;iterate 3 refine bP ?_
   refine Δ ?_;refine aC ?_;exact hT _ _ ⟨YA,YB,O,O,O,Ae O (by rw[Xt (Aa g1)]),H⟩
  refine Ξ ?_;iterate 3 refine qa ?_
  by_cases g2:3<x.bad
  .refine Λ ?_;refine ξ ?_;refine qa ?_;iterate 3 refine bP ?_
   refine Δ ?_;refine qa ?_;iterate 3 refine bP ?_
   refine Δ ?_;refine aC ?_;exact hT _ _ ⟨YA,YB,O,O,O,Ae O (by rw[Xt (show x.bad< -1\/4<=x.bad\/fr<0\/1073741823<fr by omega)]),H⟩
  refine Ξ ?_;refine ξ ?_;iterate 2 refine qa ?_
  refine qg (aT (v:=ι ζ fr) _ _ U OneK.out O H.v2 Y U) ?_;by_cases g3:fr<0
  .refine Λ ?_;refine ξ ?_;refine qa ?_;iterate 3 refine bP ?_
   refine Δ ?_;refine aC ?_;exact hT _ _ ⟨YA,YB,O,O,O,Ae O (by rw[Xt (show x.bad< -1\/4<=x.bad\/fr<0\/1073741823<fr by omega)]),H⟩
  refine Ξ ?_;refine ξ ?_;iterate 2 refine qa ?_
  refine qg (aT (v:=ι ζ fr) _ _ U OneK.out O H.v2 Y U) ?_;refine qa ?_;refine ξ ?_;refine aC ?_;exact hT _ _ ⟨YA,YB,O,O,O,Ae O (Ω Value.bool (Dc.2 Y)),H⟩
 clear b0 b1 hs hd H;obtain⟨hs,hd,b2,b3,b4,b35,H⟩:=hT;refine mK b35 (λh=>?_) (λh=>?_)
 .have hE:gY x c=3:=by unfold gY;rw[η (by rw[ecf];exact Xu h)]
  refine aD (aG ?_);refine qg (X4 U _) ?_;refine gH H.a0 aZ (AQ _ _ _ _) ?_;clear H;intro w4 H z4;iterate 2 refine qa ?_
  refine aC ?_;exact aQ (fF (aN YB (zV U O O O ManyK.out H.v0 (Xr _)) (hno 3 _ _ hE Y H)))
 have g0:=Xg h;refine aR<|aH<|aD (aG ?_);iterate 3 refine qa ?_
 refine qa ?_;refine aC<|fB (λh=>?_) (λh=>?_)
 .have hE:gY x c=6:=by have:=Xu h;unfold gY;rw[θ (by rw[ecf];exact g0),η Y]
  refine aD<|qg (X4 rfl _) ?_;refine gH H.a0 aZ (AQ _ _ _ _) ?_;clear H;intro w4 H z4;iterate 2 refine qa ?_
  refine aC ?_;exact aQ (fF (aN YB (zV U O O O ManyK.out H.v0 (Xr _)) (hno 6 _ _ hE Y H)))
 have hl4:LL.length<=400:=by have:=Xg h;omega
 refine aR<|aH<|aD<|qa ?_;refine aC<|aJ ?_;refine bR (λr A W=>∃i:Nat,i<=4/\4-i<=r/\A.tmps.size=193/\A.defers=[]/\A.eval (.tmp 2)=μ (γ ⟨w.heap.size,0,β⟩)/\A.eval (.tmp 3)=μ (γ ⟨w1.heap.size,0,β⟩)/\A.eval (.tmp 4)=μ (γ ⟨w2.heap.size,0,β⟩)/\A.eval (.tmp 42)=ι ζ (i:Int)/\(∀j:Nat,j<i->(c.nd j).id=(j:Nat))/\Cx w W (rfL w w1 w2 x lo lc LL fr D)) 4
  ⟨0,Xz _,Y,YA,YB,O,O,O,O,λj hj=>ο hj Y,H⟩ (λr A W hI=>?_)
 clear b2 b3 b4 b35 hs hd H;obtain⟨i,hi,hr,hs,hd,b2,b3,b4,b42,hid,H⟩:=hI;refine aD (aG ?_);refine qa ?_;refine aC<|aH<|fB (λh=>?_) (λh=>?_)
 .have hin:i<4:=by have:=Xu h;omega
  refine aR<|aH (aJ ?_);refine aD ?_;iterate 2 refine qa ?_
  refine aC<|aD ?_;iterate 2 refine qa ?_
  refine qg (bB _ _ _ _ U ArrK.out SizK.out O O U hin _) ?_;refine qa ?_;refine qg (aT (v:=ι ζ (D i).1.id) _ _ U OneK.out O H.v2 Y (GK fr D (i:=i) (j:=0) Y)) ?_;refine qa ?_;refine qa ?_;refine aC<|fB (λh=>?_) (λh=>?_)
  .have hE:gY x c=7:=by
    have:=Xu h;unfold gY;rw[θ (by rw[ecf];exact g0),θ Y,θ (λ⟨e0,e1,e2,e3⟩=>this (by
     rw[<-ecn];have:i=0\/i=1\/i=2\/i=3:=Y;rcases this with rfl|rfl|rfl|rfl
     .exact e0
     .exact e1
     .exact e2
     exact e3))]
   refine aD<|qg (X4 rfl _) ?_;refine gH H.a0 aZ (AQ _ _ _ _) ?_;clear H;intro w4 H z4;iterate 2 refine qa ?_
   refine aC ?_;exact aQ (lQ (fF (DJ (lQ (fF (aN YB (zV U O O O ManyK.out H.v0 (Xr _)) (hno 7 _ _ hE Y H)))))))
  have hidi:(D i).1.id=(i:Nat):=by simpa using h
  refine gT<|aI ?_;repeat refine qa ?_
  exact aU ⟨4-(i+1),Y,i+1,Y,Y,YA,YB,O,O,O,Ae O YC,λj hj=>by
   by_cases e:j=i
   .rw[e,ecn];exact hidi
   exact hid j Y,H⟩
 obtain rfl:i=4:=by have:=Xg h;omega
 have hE:gY x c=0:=by unfold gY;rw[θ (by rw[ecf];exact g0),θ Y,η ⟨hid 0 Y,hid 1 Y,hid 2 Y,hid 3 Y⟩]
 refine bL (dQ ?_);refine aD<|qa ?_;refine gQ H ?_;clear H;intro w5 H z5;refine gH H.a0 aZ (oN _ _) ?_;clear H;intro w6 H z6;refine aC<|aD<|gQ H ?_;clear H;intro w7 H z7;refine aC<|aH<|aD<|qa ?_;refine aC<|aJ ?_;have hNd:∀k i,k<=5->i<4->NdOK ((iK x c k).nd i):=λk i _ hi=>(xD hip hcl k).1 i hi;replace H:=(H.add (Af _ _) (U9 w.heap.size noM) (aEn _ _) (λj ⟨_,_,e⟩=>e.elim)).f2;replace H:=H.add (Af _ _) (gnI w (λi=>(D i,false))) (λi hi=>hag i hi) (λj ⟨_,_,e⟩=>e.elim);refine bR (λr A W'=>∃(k:Nat) (E:Nat->(Nd×Ad)×Bool) (T:Nat->(Ms×Ad)×Option Nat),k<=5/\5-k<=r/\rfA A w w1 w2 W w6 k/\(∀i,i<4->(E i).1.1=(iK x c k).nd i)/\(0<k->∀i,i<4->(E i).2=true)/\(0<k->∀j:Nat,j<4->(j:Int)≠x.bad->(∃b,(T j).2=γ b)/\(T j).1.1=xI x fr (iK x c (k-1)) (k-1) j)/\Cx w W' (gnI w E::κ 46 W.heap.size 297 297 (kZ fr (λi=>(E i).1))::U9 w.heap.size T::κ 119 w6.heap.size 4 4 (sK T)::rfL w w1 w2 x lo lc LL fr D)) 5
  ⟨0,λi=>(D i,false),noM,Xz _,Y,⟨YA,YB,O,O,O,O,O,O⟩,λi hi=>(ecn i).symm,λh=>ο h Y,λh=>ο h Y,H⟩ (λr A V hI=>?_)
 clear b2 b3 b4 b42 hs hd H;obtain⟨k,E,T,hk,hkr,⟨hs,hd,b2,b3,b4,b8,b9,b10⟩,hE1,hE2,hTm,H⟩:=hI;refine aH<|aD (aG ?_);iterate 2 refine qa ?_
 refine aC<|fB (λh=>?_) (λh=>?_)
 .have hk5:k<5:=by have:=Xu h;omega
  refine aR<|aH (aJ ?_);refine aD<|gQ H ?_;clear H;intro V1 H z1';obtain⟨b11,eb11⟩:∃b11,b11=V.heap.size:=⟨_,rfl⟩;rw[<-eb11] at H ⊢;refine aC<|aH<|aD<|qa ?_;refine aC<|aJ ?_;replace H:=(H.add (Af _ _) (U9 w.heap.size noM) (aEn _ _) (λj ⟨_,_,e⟩=>e.elim)).f2.f3.f1;refine bR (λr A W'=>∃(i:Nat) (E':Nat->(Nd×Ad)×Bool) (N:Nat->(Ms×Ad)×Option Nat),i<=4/\4-i<=r/\rfA A w w1 w2 W w6 k/\A.eval (.tmp 11)=μ (γ ⟨b11,0,β⟩)/\A.eval (.tmp 59)=ι ζ (i:Int)/\(∀j,j<i->(E' j).1.1=zH x fr (iK x c k) k j/\(E' j).2=true)/\(∀j,i<=j->E' j=E j)/\(∀j:Nat,j<i->(j:Int)≠x.bad->(∃b,(N j).2=γ b)/\(N j).1.1=xI x fr (iK x c k) k j)/\Cx w W' (gnI w E'::κ 46 W.heap.size 297 297 (kZ fr (λi=>(E' i).1))::U9 w.heap.size N::κ 119 b11 4 4 (sK N)::U9 w.heap.size T::κ 119 w6.heap.size 4 4 (sK T)::rfL w w1 w2 x lo lc LL fr D)) 4
   ⟨0,E,noM,Xz _,Y,⟨YA,YB,O,O,O,O,O,O⟩,O,O,λj hj=>ο hj Y,λ_ _=>rfl,λj hj=>ο hj Y,H⟩ (λr A V2 hI=>?_)
  clear b2 b3 b4 b8 b9 b10 hs hd H;obtain⟨i,E',N,hi,hir,⟨hs,hd,b2,b3,b4,b8,b9,b10⟩,b11',b59,hN1,hN2,hN3,H⟩:=hI;refine aD (aG ?_);refine qa ?_;refine aC<|aH<|fB (λh=>?_) (λh=>?_)
  .have hin:i<4:=by have:=Xu h;omega
   have hEi:(E' i).1.1=(iK x c k).nd i:=by rw[hN2 i (Xr _),hE1 i hin]
   have nok:NdOK (E' i).1.1:=by rw[hEi];exact hNd k i hk hin
   refine aR<|aH (aJ ?_);refine aD ?_;iterate 2 refine qa ?_
   refine aC<|aH<|aD ?_;iterate 4 refine qa ?_
   refine aC<|fB (λh=>?_) (λh=>?_)
   .have hbad:(i:Int)=x.bad:=Xu h;have hDi:(D i).1=(iK x c k).nd i:=by rw[BO hbad,ecn]
    have dok:NdOK (D i).1:=by rw[hDi];exact hNd k i hk hin
    refine aD ?_;iterate 3 refine qa ?_
    refine qg (bB _ _ _ _ U ArrK.out SizK.out O O U hin _) ?_;refine qg (Ae (bE _ _ U ManyK.out O H.v8 Y) (by rw[mZ (f:=ε (D i).1 (ν (D i).2 (D i).1.vA.length)) (λj hj=>GK fr D hj)])) ?_;refine ψ (show π _ _ #[aX (ε (D i).1 (ν (D i).2 (D i).1.vA.length)) 0 74] _ _ from pU (D i).1 (D i).2.1 (D i).2.2 _ (Sr.below (hag i hin) H.bel) dok.vA) ?_;rintro e w8 ⟨a',c',rfl,o8,k8⟩;refine⟨aX (ε (D i).1 (ν (a',c') (D i).1.vA.length)) 0 74,U,?_⟩;have hsz:=H.size;replace H:=H.add k8 (zC w.heap.size ((D i).1,(a',c'))) (cO o8 hsz) (λj e=>(o8.lt j e).1);refine qa ?_;refine qg (bB _ _ _ _ U ArrK.out SizK.out O O U hin _) ?_;refine gH H.a2 (KN fr E' i ((D i).1,(a',c'))) (bQ _ _ _ _) ?_;clear H;intro w9 H z9;refine aC<|bL (Z0 ?_);refine aI ?_;repeat refine qa ?_
    exact aU ⟨4-(i+1),Y,i+1,fP E' i (((D i).1,(a',c')),true),N,Y,Y,⟨YA,YB,O,O,O,O,O,O⟩,O,Ae O YC,λj hj=>by
     by_cases e:j=i
     .rw[e,dZ];refine⟨?_,U⟩;show (D i).1=zH x fr (iK x c k) k i;unfold zH;rw[η hbad,hDi]
     rw[dI _ _ e];exact hN1 j Y,λj hj=>by rw[dI _ _ Y];exact hN2 j Y,λj hj hb=>hN3 j (by
     have:j≠i:=λe=>hb (by rw[e];exact hbad);omega) hb,nX (g:=IK w) (y:=(((D i).1,(a',c')),true)) i H⟩
   have hbad:(i:Int)≠x.bad:=by simpa using h
   refine aR<|aD<|gQ H ?_;clear H;intro V3 H z3';obtain⟨b13,eb13⟩:∃b13,b13=V2.heap.size:=⟨_,rfl⟩;rw[<-eb13] at H ⊢;refine aC<|aD<|qa ?_;refine aC<|aGt (λA W'=>∃(mo:Option Addr) (mc:Nat) (M:σ Lm),rfA A w w1 w2 W w6 k/\A.eval (.tmp 11)=μ (γ ⟨b11,0,β⟩)/\A.eval (.tmp 12)=ι ζ (i:Int)/\A.eval (.tmp 13)=μ (γ ⟨b13,0,β⟩)/\A.eval (.tmp 59)=ι ζ (i:Int)/\A.eval (.tmp 14)=δ mo M.length mc/\M.map Lm.m=(iK x c k).bx i/\MRd W' mo M/\M.length<=mc/\Cx w W' (κ 79 b13 4 4 (msF 0 0 0 (δ β 0 0))::gnI w E'::κ 46 W.heap.size 297 297 (kZ fr (λi=>(E' i).1))::U9 w.heap.size N::κ 119 b11 4 4 (sK N)::U9 w.heap.size T::κ 119 w6.heap.size 4 4 (sK T)::rfL w w1 w2 x lo lc LL fr D)) (λhT=>?_) (λA V4 hT=>?_)
   .refine aD ?_;iterate 2 refine qa ?_
    refine aC<|fB (λh=>?_) (λh=>?_)
    .have hk0:0<k:=by have:=Xu h;omega
     refine aI ?_;iterate 4 refine qa ?_
     refine qg (Ae (kT _ _ U O O Y Y _) (by rw[show (k:Int)-1=((k-1:Nat):Int) by omega])) ?_;have hmp:(U9 w.heap.size T).p V3:=H.o5;refine ψ (show π _ _ #[ι ζ (i:Int),aX (sK T) 0 4,aX (jW x.rd x.bad (δ lo LL.length lc)) 0 14,ι ζ ((k-1:Nat):Int)] _ _ from JL x (λj=>(T j).1.1) (λj=>(T j).1.2) (λj=>(T j).2.map λb=>⟨b,0,β⟩) lo lc LL i (k-1) _ hx (hj.below H.bel) hl4 (λj hj4 _ hb=>by obtain⟨⟨b,eb⟩,em⟩:=hTm hk0 j hj4 hb;obtain⟨v1,v2,v3⟩:=aNd hmp hj4 eb;exact⟨b,by rw[eb];rfl,v1,by rw[em, <-ecf];exact aFm hip hcl hj4 hb,v2,v3⟩)) ?_;rintro e V5 ⟨mo,mc,M,rfl,hM,oM,k5⟩;refine⟨_,U,?_⟩;replace H:=H.call k5;refine qa ?_;refine aC ?_;have hM':M.map Lm.m=(iK x c k).bx i:=by rw[hM];obtain⟨k',rfl⟩:∃k',k=k'+1:=⟨k-1,Y⟩;show _=nO x (xI x c.fr (iK x c k') k') i k' 4;refine GH (λj hj hb=>?_);rw[(hTm hk0 j hj hb).2,ecf];rfl
     have hMo:=RF hM' ((xD hip hcl k).2 i hin);obtain⟨_,_,em,hmc⟩:=dU oM.1;cases em;exact hT _ _ ⟨mo,mc,M,⟨YA,YB,O,O,O,O,O,O⟩,O,O,O,O,O,hM',oM.rd (λc hc=>by have:=(hMo c hc).n;omega),hmc,H⟩
    have hk0:k=0:=by have:=Xg h;omega
    refine aR ?_;exact hT _ _ ⟨β,0,[],⟨YA,YB,O,O,O,O,O,O⟩,O,O,O,O,O,by rw[hk0];rfl,⟨λh=>ο h (by simp),λ_ h=>ο h (by simp)⟩,Xr _,H⟩
   clear b2 b3 b4 b8 b9 b10 b11' b59 hs hd H;obtain⟨mo,mc,M,⟨hs,hd,b2,b3,b4,b8,b9,b10⟩,b11',b12,b13',b59,b14,hM,hMr,hMc,H⟩:=hT;have hMo:=RF hM ((xD hip hcl k).2 i hin);have hMl:M.length<=1600:=by have h1:=Ω List.length hM;rw[Ao] at h1;rw[h1];exact aAb Y k i
   refine aGt (λA W'=>∃(d:Nd×Ad) (m:Ms×Ad),rfA A w w1 w2 W w6 k/\A.eval (.tmp 11)=μ (γ ⟨b11,0,β⟩)/\A.eval (.tmp 12)=ι ζ (i:Int)/\A.eval (.tmp 13)=μ (γ ⟨b13,0,β⟩)/\A.eval (.tmp 59)=ι ζ (i:Int)/\d.1=zH x fr (iK x c k) k i/\m.1=xI x fr (iK x c k) k i/\Cx w W' (κ 79 b13 4 4 (msF m.1.K m.1.F m.1.R (ν m.2 m.1.L.length))::tlJ w.heap.size m::gnI w (fP E' i (d,true))::κ 46 W.heap.size 297 297 (kZ fr (λj=>(fP E' i (d,true) j).1))::U9 w.heap.size N::κ 119 b11 4 4 (sK N)::U9 w.heap.size T::κ 119 w6.heap.size 4 4 (sK T)::rfL w w1 w2 x lo lc LL fr D)) (λhT2=>?_) (λA V5 hT2=>?_)
   .refine aD (aG ?_);refine qa ?_;refine aC<|aJ<|aD ?_;iterate 2 refine qa ?_
    refine aC<|fB (λh=>?_) (λh=>?_)
    .obtain rfl:k=0:=by have:=Xu h;omega
     replace H:=H.drew;have hc8:∀q,q<74->V4.drew.cell? ⟨W.heap.size,0+1+i*74+q,β⟩=γ (ε (E' i).1.1 (ν (E' i).1.2 (E' i).1.1.vA.length) q):=λq hq=>by rw[<-GK fr (λi=>(E' i).1) hq];exact H.v2.cell Y
     have hcf:V4.drew.cell? ⟨w.heap.size,0+0,β⟩=γ (ι ζ fr):=H.v9.cell (show 0<297 by omega);have hcr:∀q,q<3->V4.drew.cell? ⟨w1.heap.size,0+0+i*3+q,β⟩=γ (iV (x.rd i q)):=λq hq=>by have:=H.v8.cell (i:=0+0+i*3+q) Y;rw[this];unfold jW;rw[η Y,show (0+0+i*3+q)/3=i by omega,show (0+0+i*3+q)%3=q by omega]
     have hS:(λW'=>Below V4.drew.heap.size V4.drew W') V4.drew:=Af _ _;refine fI (S:=λW'=>Below V4.drew.heap.size V4.drew W') (.mv 0 (.mv 1 (.mv 2 (.mv 3 (.rd 4 (.mv 5 (.rd 6 (.mv 7 (.mv 8 (.mv 9 (.rd 10 (.mv 15 (.go 11 (.mv 12 (.mv 13 (.mv 14 (.mv 16 (.go 17 (.go 18 .fin))))))))))))))))))) [17,18] Yl Yl ?_;iterate 3 refine qj ?_
     refine dC U U (λ_ _ _ h=>h) Yw (λw=>bB _ _ _ _ U ArrK.out SizK.out O O U hin w) ?_;refine Yr U hS (λ_ H=>nR (g:=ε (E' i).1.1 (ν (E' i).1.2 (E' i).1.1.vA.length)) ManyK.out (λq hq=>aP (hc8 q hq) H) U O) ?_;refine qj ?_;refine Yr U hS (λ_ H=>aLu OneK.out (aP hcf H) U O) ?_;iterate 2 refine qj ?_
     refine dC U U (λ_ _ _ h=>h) Yw (λw=>bB _ _ _ _ U ArrK.out SizK.out O O U hin w) ?_;refine Yr U hS (λ_ H=>nR (g:=λa=>iV (x.rd i a)) ManyK.out (λq hq=>aP (hcr q hq) H) U O) ?_;refine qj ?_;refine dA U U Yw (λK0 hK=>jH _ _ _ _ _ _ U O O O (by go_simp) (show π _ _ #[aX (ε (E' i).1.1 (ν (E' i).1.2 (E' i).1.1.vA.length)) 0 74,ι ζ fr,aX (λa=>iV (x.rd i a)) 0 3] _ _ from aDt (E' i).1.1 (E' i).1.2.1 (E' i).1.2.2 fr (x.rd i) _ nok (aFh H.o1 H.bel hin) (by rw[<-ecf];exact hcl.1) (hip.rd i)) ?_);rintro e w10 ⟨a',c',a2,c2,rfl,oA,oV,k10⟩;refine⟨ä #[aX (ε (á (E' i).1.1 fr (x.rd i)) (ν (a',c') (á (E' i).1.1 fr (x.rd i)).vA.length)) 0 74,aX (msF (mO (E' i).1.1 fr (x.rd i)).K (mO (E' i).1.1 fr (x.rd i)).F (mO (E' i).1.1 fr (x.rd i)).R (ν (a2,c2) (mO (E' i).1.1 fr (x.rd i)).L.length)) 0 4],by rw[LC];rfl,hK _ _ (λ_ h=>h.trans (k10.mono h.size)) ?_⟩;replace H:=DR (n:=á (E' i).1.1 fr (x.rd i)) (a1:=(a',c')) (a2:=(a2,c2)) H k10 (ZV oA (LC _ _ _)) oV;iterate 3 refine qj ?_
     refine dC U U (λ_ _ _ h=>h) Yw (λw=>bB _ _ _ _ U ArrK.out SizK.out O O U hin w) ?_;refine dK U Yw (λK0 hK=>aW _ _ _ _ U ManyK.out O O H.v4 Y (bQ _ _ _ _) U (λw11 m11 k11 z11=>hK _ (λh=>ο h Yc) ?_));replace H:=H.a4.s k11 (m11.congr (KN fr E' i (á (E' i).1.1 fr (x.rd i),(a',c'))));refine dK U Yw (λK0 hK=>aW _ _ _ _ U ManyK.out O O H.v2 Y (fV _ _ _ _ _ _) U (λw12 m12 k12 z12=>hK _ (λh=>ο h Yc) ?_));replace H:=H.a2.s k12 (m12.congr aZ);refine oC ?_;exact hT2 _ _ ⟨(á (E' i).1.1 fr (x.rd i),(a',c')),(mO (E' i).1.1 fr (x.rd i),(a2,c2)),⟨YA,YB,O,O,O,O,O,O⟩,O,O,O,O,by show á (E' i).1.1 fr (x.rd i)=zH x fr (iK x c 0) 0 i;rw[hEi];unfold zH;rw[θ hbad];rfl,by show mO (E' i).1.1 fr (x.rd i)=xI x fr (iK x c 0) 0 i;rw[hEi];unfold xI;rw[θ hbad];rfl,(nX (g:=IK w) (y:=((á (E' i).1.1 fr (x.rd i),(a',c')),true)) i H.f3.f1).f2.f2.f1⟩
    have h0:=Xg h;refine aD ?_;iterate 2 refine qa ?_
    refine aC<|fB (λh=>?_) (λh1=>?_);have hP:PhK k fr (x.rd i) 55:=by
     obtain rfl:k=1:=by have:=Xu h;omega
     exact⟨_,_,aDs,λ_ _=>rfl,λ_ _=>rfl⟩
    rotate_left;refine aD ?_;iterate 2 refine qa ?_
    refine aC<|fB (λh=>?_) (λh2=>?_);have hP:PhK k fr (x.rd i) 56:=by
     obtain rfl:k=2:=by have:=Xu h;omega
     exact⟨_,_,aBF,λ_ _=>rfl,λ_ _=>rfl⟩
    rotate_left;refine aD ?_;iterate 2 refine qa ?_
    refine aC<|fB (λh=>?_) (λh3=>?_);have hP:PhK k fr (x.rd i) 57:=by
     obtain rfl:k=3:=by have:=Xu h;omega
     exact⟨_,_,aFE,λ_ _=>rfl,λ_ _=>rfl⟩
    rotate_left;have hP:PhK k fr (x.rd i) 58:=by have h1:=Xg h1;have h2:=Xg h2;have h3:=Xg h3;obtain rfl:k=4:=Y;exact⟨_,_,aDo,λ_ _=>rfl,λ_ _=>rfl⟩
    all_goals
     obtain⟨N',M',hP,eN,eM⟩:=hP;have eN:=eN (E' i).1.1 (M.map Lm.m);have eM:=eM (E' i).1.1 (M.map Lm.m);refine aI ?_;iterate 3 refine qa ?_
     refine qg (bB _ _ _ _ U ArrK.out SizK.out O O U hin _) ?_;refine qg (Ae (bE _ _ U ManyK.out O H.v2 Y) (by rw[mZ (f:=ε (E' i).1.1 (ν (E' i).1.2 (E' i).1.1.vA.length)) (λj hj=>GK fr (λi=>(E' i).1) hj)])) ?_;refine qa ?_;refine ψ (show π _ _ #[aX (ε (E' i).1.1 (ν (E' i).1.2 (E' i).1.1.vA.length)) 0 74,δ mo M.length mc] _ _ from hP (E' i).1.1 (E' i).1.2.1 (E' i).1.2.2 mo mc M _ nok (aFh H.o1 H.bel hin) hMr Y hMc (λm hm=>(hMo m hm).L)) ?_;rintro e w10 ⟨a',c',a2,c2,rfl,oA,oV,k10⟩;generalize N' (E' i).1.1 (M.map Lm.m)=n' at eN oA ⊢;generalize M' (E' i).1.1 (M.map Lm.m)=m' at eM oV ⊢;refine⟨ä #[aX (ε n' (ν (a',c') n'.vA.length)) 0 74,aX (msF m'.K m'.F m'.R (ν (a2,c2) m'.L.length)) 0 4],U,?_⟩;replace H:=DR (a1:=(a',c')) (a2:=(a2,c2)) H k10 oA oV;iterate 4 refine qa ?_
     refine qg (bB _ _ _ _ U ArrK.out SizK.out O O U hin _) ?_;refine gH H.a4 (KN fr E' i (n',(a',c'))) (bQ _ _ _ _) ?_;clear H;intro w11 H z11;refine gH H.a2 aZ (fV _ _ _ _ _ _) ?_;clear H;intro w12 H z12;refine fK ?_;exact hT2 _ _ ⟨(n',(a',c')),(m',(a2,c2)),⟨YA,YB,O,O,O,O,O,O⟩,O,O,O,O,by unfold zH;rw[θ hbad, <-hEi, <-hM];exact eN.symm,by unfold xI;rw[θ hbad, <-hEi, <-hM];exact eM.symm,(nX (g:=IK w) (y:=((n',(a',c')),true)) i H.f3.f1).f2.f2.f1⟩
   clear b2 b3 b4 b8 b9 b10 b11' b59 b12 b13' b14 hs hd H;obtain⟨d,m,⟨hs,hd,b2,b3,b4,b8,b9,b10⟩,b11',b12,b13',b59,hd1,hm1,H⟩:=hT2;refine aI (aG ?_);refine qa ?_;refine qg (bB _ _ _ _ U ArrK.out SizK.out O O U hin _) ?_;refine kX (q:=0+i*1) (g':=sK (fP N i (m,γ b13))) (u:=μ (γ ⟨b13,0,β⟩)) H.a5 (λj hj=>by rw[show 0+i*1=i by omega];exact aKQ N i m b13 j hj) ?_;clear H;intro V6 H z6';refine fK<|aI ?_;repeat refine qa ?_
   exact aU ⟨4-(i+1),Y,i+1,fP E' i (d,true),fP N i (m,γ b13),Y,Y,⟨YA,YB,O,O,O,O,O,O⟩,O,Ae O YC,λj hj=>by
    by_cases e:j=i
    .rw[e,dZ];exact⟨hd1,U⟩
    .rw[dI _ _ e];exact hN1 j Y,λj hj=>by rw[dI _ _ Y];exact hN2 j Y,λj hj hb=>by
    by_cases e:j=i
    .rw[e,dZ];exact⟨⟨b13,U⟩,hm1⟩
    rw[dI _ _ e];exact hN3 j Y hb,(nX (g:=mpJ w.heap.size) (y:=(m,γ b13)) i H.merge.f3.f1).f2.f2⟩
  obtain rfl:i=4:=by have:=Xg h;omega
  refine bL (dQ ?_);refine aI<|qa ?_;refine gH H.a5 aZ (aKP _) ?_;clear H;intro V3 H z3';refine fK<|aI ?_;repeat refine qa ?_
  exact aU ⟨5-(k+1),Y,k+1,E',N,Y,Y,⟨YA,YB,O,O,O,O,O,Ae O YC⟩,λi hi=>by show _=zH x c.fr (iK x c k) k i;rw[ecf];exact (hN1 i hi).1,λ_ i hi=>(hN1 i hi).2,λ_ j hj hb=>hN3 j hj hb,H.sub (.cons_cons _ (.cons_cons _ (.cons_cons _ (.cons _ (.cons _ (List.Sublist.refl _))))))⟩
 obtain rfl:k=5:=by have:=Xg h;omega
 have hE2:=hE2 Y;have hTm:=hTm Y;refine bL (dQ ?_);refine aD<|qa ?_;refine aC<|aH<|aD<|qa ?_;refine aC<|aJ ?_;replace H:=H.add (Af _ _) (fU w.heap.size 57 14 (δ β 0 0) 0 []) (Am _ _ _ _) (λj e=>nomatch e);refine bR (λr A W'=>∃(i:Nat) (E':Nat->(Nd×Ad)×Bool) (u:Value),i<=4/\4-i<=r/\(A.tmps.size=193/\A.defers=[]/\A.eval (.tmp 2)=μ (γ ⟨w.heap.size,0,β⟩)/\A.eval (.tmp 3)=μ (γ ⟨w1.heap.size,0,β⟩)/\A.eval (.tmp 4)=μ (γ ⟨w2.heap.size,0,β⟩)/\A.eval (.tmp 8)=μ (γ ⟨W.heap.size,0,β⟩)/\A.eval (.tmp 9)=μ (γ ⟨w6.heap.size,0,β⟩))/\A.eval (.tmp 15)=u/\A.eval (.tmp 160)=ι ζ (i:Int)/\(∀j,j<i->(E' j).1.1=wC x c j)/\(∀j,i<=j->E' j=E j)/\(∀j,j<4->(E' j).2=true)/\Cx w W' (fU w.heap.size 57 14 u (nW x.bad (iK x c 5).nd (iK x c 5).bx i).length (qP iX 14 (nW x.bad (iK x c 5).nd (iK x c 5).bx i))::gnI w E'::κ 46 W.heap.size 297 297 (kZ fr (λi=>(E' i).1))::U9 w.heap.size T::κ 119 w6.heap.size 4 4 (sK T)::rfL w w1 w2 x lo lc LL fr D)) 4
  ⟨0,E,_,Xz _,Y,⟨YA,YB,O,O,O,O,O⟩,O,O,λj hj=>ο hj Y,λ_ _=>rfl,hE2,H⟩ (λr A V2 hI=>?_)
 clear b2 b3 b4 b8 b9 b10 hs hd H;obtain⟨i,E',u,hi,hir,⟨hs,hd,b2,b3,b4,b8,b9⟩,b15,b160,hN1,hN2,hN3,H⟩:=hI;refine aD (aG ?_);refine qa ?_;refine aC<|aH<|fB (λh=>?_) (λh=>?_)
 .have hin:i<4:=by have:=Xu h;omega
  have hEi:(E' i).1.1=(iK x c 5).nd i:=by rw[hN2 i (Xr _),hE1 i hin]
  have nok:NdOK (E' i).1.1:=by rw[hEi];exact hNd 5 i (Xr _) hin
  refine aR<|aH (aJ ?_);refine aD ?_;iterate 2 refine qa ?_
  refine aC<|aH<|aD ?_;iterate 4 refine qa ?_
  refine aC<|fB (λh=>?_) (λh=>?_)
  .have hbad:(i:Int)=x.bad:=Xu h;refine bL (Z0 ?_);refine aI ?_;repeat refine qa ?_
   exact aU ⟨4-(i+1),Y,i+1,E',u,Y,Y,⟨YA,YB,O,O,O,O,O⟩,O,Ae O YC,λj hj=>by
    by_cases e:j=i
    .rw[e,hEi,BO hbad];unfold wC;rw[η hbad]
    exact hN1 j Y,λj hj=>hN2 j Y,hN3,by rw[aDN hbad];exact H⟩
  have hbad:(i:Int)≠x.bad:=by simpa using h
  refine aR<|aD<|gQ H ?_;clear H;intro V3 H z3';obtain⟨b17,eb17⟩:∃b17,b17=V2.heap.size:=⟨_,rfl⟩;rw[<-eb17] at H ⊢;refine aC<|aH ?_;replace H:=H.drew;have hc8:∀q,q<74->V3.drew.cell? ⟨W.heap.size,0+1+i*74+q,β⟩=γ (ε (E' i).1.1 (ν (E' i).1.2 (E' i).1.1.vA.length) q):=λq hq=>by rw[<-GK fr (λi=>(E' i).1) hq];exact H.v3.cell Y
  have hc9:∀q,q<4->V3.drew.cell? ⟨w6.heap.size,0+q,β⟩=γ (sK T q):=λq hq=>H.v5.cellz hq;have hc3:∀q,q<14->V3.drew.cell? ⟨w1.heap.size,0+q,β⟩=γ (jW x.rd x.bad (δ lo LL.length lc) q):=λq hq=>H.v7.cellz hq;have hmp:(U9 w.heap.size T).p V3.drew:=H.o4;have hS:(λW'=>Below V3.drew.heap.size V3.drew W') V3.drew:=Af _ _;refine fI (S:=λW'=>Below V3.drew.heap.size V3.drew W') (.mv 0 (.mv 1 (.mv 2 (.mv 3 (.rd 4 (.mv 5 (.rd 6 (.rd 7 (.mv 13 (.go 8 (.go 9 (.mv 10 (.mv 11 (.mv 12 (.mv 14 (.go 15 (.go 16 .fin))))))))))))))))) [15,16] Yl Yl ?_;iterate 3 refine qj ?_
  refine dC U U (λ_ _ _ h=>h) Yw (λw=>bB _ _ _ _ U ArrK.out SizK.out O O U hin w) ?_;refine Yr U hS (λ_ H=>nR (g:=ε (E' i).1.1 (ν (E' i).1.2 (E' i).1.1.vA.length)) ManyK.out (λq hq=>aP (hc8 q hq) H) U O) ?_;refine qj ?_;refine Yr U hS (λ_ H=>nR (g:=sK T) ManyK.out (λq hq=>aP (hc9 q hq) H) U O) ?_;refine Yr U hS (λ_ H=>nR (g:=jW x.rd x.bad (δ lo LL.length lc)) ManyK.out (λq hq=>aP (hc3 q hq) H) U O) ?_;refine qj ?_;refine dA U U Yw (λK0 hK=>?_);refine qU _ _ _ _ _ _ _ U O O O O (by go_simp) (show π _ _ #[ι ζ (i:Int),aX (sK T) 0 4,aX (jW x.rd x.bad (δ lo LL.length lc)) 0 14,ι ζ ((4:Nat):Int)] _ _ from JL x (λj=>(T j).1.1) (λj=>(T j).1.2) (λj=>(T j).2.map λb=>⟨b,0,β⟩) lo lc LL i 4 _ hx (hj.below H.bel) hl4 (λj hj4 _ hb=>by obtain⟨⟨b,eb⟩,em⟩:=hTm j hj4 hb;obtain⟨v1,v2,v3⟩:=aNd hmp hj4 eb;exact⟨b,by rw[eb];rfl,v1,by rw[em, <-ecf];exact aFm hip hcl hj4 hb,v2,v3⟩)) ?_;rintro e V5 ⟨mo,mc,M,rfl,hM,oM,k5⟩;refine⟨_,U,hK _ _ (λ_ h=>h.trans (k5.mono h.size)) ?_⟩;clear hK K0;replace H:=H.call k5;have hM':M.map Lm.m=(iK x c 5).bx i:=by rw[hM];show _=nO x (xI x c.fr (iK x c 4) 4) i 4 4;refine GH (λj hj hb=>?_);rw[(hTm j hj hb).2,ecf]
  have hMo:=RF hM' ((xD hip hcl 5).2 i hin);have hMl:M.length<=1600:=by have h1:=Ω List.length hM';rw[Ao] at h1;rw[h1];exact aAb Y 5 i
  obtain⟨_,_,em,hmc⟩:=dU oM.1;cases em;have hMr:=oM.rd (λc hc=>by have:=(hMo c hc).n;omega);refine dA U U Yw (λK0 hK=>?_);refine eB _ _ _ _ _ U O O (by go_simp) (show π _ _ #[aX (ε (E' i).1.1 (ν (E' i).1.2 (E' i).1.1.vA.length)) 0 74,δ mo M.length mc] _ _ from aDk (E' i).1.1 (E' i).1.2.1 (E' i).1.2.2 mo mc M _ nok (aFh H.o2 H.bel hin) hMr Y hmc (λm hm=>(hMo m hm).L)) ?_;rintro e V6 ⟨a',c',rfl,oA,k6⟩;have ecr:tL (E' i).1.1 (M.map Lm.m)=gW (E' i).1.1 (M.map Lm.m):=by unfold tL;rw[θ (by rw[hEi,aGd hE (Xr _) hin,uY hin];decide)]
  rw[ecr];refine⟨ä #[aX (ε (gW (E' i).1.1 (M.map Lm.m)) (ν (a',c') (gW (E' i).1.1 (M.map Lm.m)).vA.length)) 0 74,aX (iX (gW (E' i).1.1 (M.map Lm.m))) 0 14],U,hK _ _ (λ_ h=>h.trans (k6.mono h.size)) ?_⟩;clear hK K0;have hsz6:=H.size;replace H:=H.add k6 (zC w.heap.size (gW (E' i).1.1 (M.map Lm.m),(a',c'))) (cO oA hsz6) (λj e=>(oA.lt j e).1);iterate 3 refine qj ?_
  refine dC U U (λ_ _ _ h=>h) Yw (λw=>bB _ _ _ _ U ArrK.out SizK.out O O U hin w) ?_;refine dK U Yw (λK0 hK=>aW _ _ _ _ U ManyK.out O O H.v4 Y (bQ _ _ _ _) U (λV7 m7 k7 z7'=>hK _ (λh=>ο h Yc) ?_));replace H:=H.a4.s k7 (m7.congr (KN fr E' i (gW (E' i).1.1 (M.map Lm.m),(a',c'))));refine dK U Yw (λK0 hK=>aW _ _ _ _ U ManyK.out O O H.v1 Y (mX _ _) U (λV8 m8 k8 z8'=>hK _ (λh=>ο h Yc) ?_));replace H:=H.a1.s k8 (m8.congr aZ);refine gM<|aI ?_;iterate 2 refine qa ?_
  refine bI U Yw (λK0 hK=>LH SlcK.out ManyK.out ZerK.out Yc Yc U O (λV9 m9 k9 z9'=>hK _ _ ?_));have hsz9:=H.size;replace H:=H.call k9;have hln:=aDO x.bad (iK x c 5).nd (iK x c 5).bx i;refine OE (bytes:=80) H.a2 (zU (EL (B:=w.heap.size) (F:=iX) (x:=gW (E' i).1.1 (M.map Lm.m)) m9 Y)) (KZ (λx _=>mX x 3)) Ym Y ?_;clear H;intro u' V10 H;refine qa ?_;refine fK<|aI ?_;repeat refine qa ?_
  have ecl:nW x.bad (iK x c 5).nd (iK x c 5).bx (i+1)=nW x.bad (iK x c 5).nd (iK x c 5).bx i++[gW (E' i).1.1 (M.map Lm.m)]:=by rw[aAc hbad,hEi,hM']
  refine aU ⟨4-(i+1),Y,i+1,fP E' i ((gW (E' i).1.1 (M.map Lm.m),(a',c')),true),u',Y,Y,⟨YA,YB,O,O,O,O,O⟩,O,Ae O YC,λj hj=>?_,λj hj=>by rw[dI _ _ Y];exact hN2 j Y,λj hj=>?_,?_⟩
  .by_cases e:j=i
   .rw[e,dZ];show gW (E' i).1.1 (M.map Lm.m)=wC x c i;unfold wC;rw[θ hbad,hEi,hM']
   rw[dI _ _ e];exact hN1 j Y
  .by_cases e:j=i
   .rw[e,dZ]
   rw[dI _ _ e];exact hN3 j hj
  rw[ecl,Ag,KY];exact (nX (g:=IK w) (y:=((gW (E' i).1.1 (M.map Lm.m),(a',c')),true)) i H.f3.f1).f2.f2.tl
 obtain rfl:i=4:=by have:=Xg h;omega
 refine bL (dQ ?_);refine aD<|qa ?_;refine qg (aT (v:=ι ζ fr) _ _ U OneK.out O H.v2 Y U) ?_;have hfr:=F7 hE;rw[ecf] at hfr;iterate 2 refine qa ?_
 refine kX (q:=0+0) (g':=kZ (fr+1) (λi=>(E' i).1)) (u:=ι ζ (fr+1)) H.a2 (λj hj=>by
  unfold φ kZ tK;by_cases e:j=0
  .rw[η Y,η e];rfl
  rw[θ Y,θ e,θ e]) ?_
 clear H;intro V4 H z4';refine aC<|aD ?_;iterate 2 refine qa ?_
 refine gH H.a5 aZ (oN _ _) ?_;clear H;intro V5 H z5';iterate 2 refine qa ?_
 refine aC ?_;have e1:lC x c=⟨fr+1,wC x c⟩:=by unfold lC;rw[η hE,ecf]
 have e2:=aGy (Dn:=(iK x c 5).nd) (Bn:=(iK x c 5).bx) hE (λ_ _=>rfl) (λ_ _=>rfl);rw[e2] at H;refine aQ (aN YB (zV U O O O ManyK.out H.v5 (Xr _)) ⟨λi=>(E' i).1,u,by rw[e1,hE],λi hi=>by rw[e1];exact hN1 i hi,?_⟩);exact (H.f1.wk (y:=oU w.heap.size (λi=>(E' i).1)) (λh i hi=>by
  have h1:(IK w (E' i)).p V5:=h i hi;unfold IK at h1;rw[η (hN3 i hi)] at h1;exact h1) (λk ⟨i,hi,hk⟩=>⟨i,hi,by
  show (IK w (E' i)).foot k;unfold IK;rw[η (hN3 i hi)];exact hk⟩)).f1.sub (.cons_cons _ (.cons_cons _ (El _)))
def RlE(r s:Rl):Prop:=∀j,j<4->r.I j=s.I j/\r.M j=s.M j/\r.J j=s.J j
theorem RlE.symm{r s}(h:RlE r s):RlE s r:=λj hj=>⟨(h j hj).1.symm,(h j hj).2.1.symm,(h j hj).2.2.symm⟩
theorem RlE.trans{r s t}(h:RlE r s)(h':RlE s t):RlE r t:=λj hj=>⟨(h j hj).1.trans (h' j hj).1,(h j hj).2.1.trans (h' j hj).2.1,(h j hj).2.2.trans (h' j hj).2.2⟩
theorem RlE.refl(r):RlE r r:=λ_ _=>⟨rfl,rfl,rfl⟩
section
variable {x:Ip} {c:Cl}
theorem aTg(hE:gY x c=0)(hi:i<4)(g:(i)≠x.bad):(ndK x c 5 i).dg=(ndK x c 3 i).dg:=by rw[aAU hE hi g,aBs hE hi g]
theorem aTf(hE:gY x c=0)(hi:i<4)(g:(i)≠x.bad):(ndK x c 2 i).rl=(c.nd i).rl:=by rw[VO hE hi g,TG hE hi g]
theorem aSY(hE:gY x c=0)(hi:i<4)(g:(i)≠x.bad):(ndK x c 3 i).dg=dgN (ndK x c 3 i).ax (c.nd i).rl:=by rw[aAj hE hi g, <-aTf hE hi g];rfl
end
structure Inv (t:Tn) (bad:Int) (c:Cl):Prop where
 id:∀i,i<4->(c.nd i).id=(i:Nat)
 tn:∀i,i<4->(c.nd i).tn=t
 ax:∀i k:Nat,i<4->k<4->(i:Int)≠bad->(k:Int)≠bad->∀a,a<3->(c.nd i).ax a=(c.nd k).ax a
 rl:∀i k:Nat,i<4->k<4->(i:Int)≠bad->(k:Int)≠bad->RlE (c.nd i).rl (c.nd k).rl
 gd:∀i:Nat,i<4->(i:Int)≠bad->mR (c.nd i).rl=true
 on:∀i s:Nat,i<4->s<4->(i:Int)≠bad->(s:Int)≠bad->(c.nd i).rl.I s=true/\(c.nd i).rl.M s=0
theorem vR(t)(hi:i<4):jT i t={ dS with id:=(i),tn:=t,ax:=λ_=>St.beg0,rl:=beginR }:=by unfold jT;rw[θ (by rw[uY hi];decide)]
theorem aJE(t:Tn)(bad:Int):Inv t bad (begC t) where
 id i hi:=by show (jT (i:Nat) t).id=_;rw[vR t hi]
 tn i hi:=by show (jT (i:Nat) t).tn=_;rw[vR t hi]
 ax i k hi hk _ _ a _:=by show (jT (i:Nat) t).ax a=(jT (k:Nat) t).ax a;rw[vR t hi,vR t hk]
 rl i k hi hk _ _:=by show RlE (jT (i:Nat) t).rl (jT (k:Nat) t).rl;rw[vR t hi,vR t hk];exact RlE.refl _
 gd i hi _:=by show mR (jT (i:Nat) t).rl=true;rw[vR t hi];rfl
 on i s hi _ _ _:=by show (jT (i:Nat) t).rl.I s=true/\(jT (i:Nat) t).rl.M s=0;rw[vR t hi];exact⟨U,U⟩
section
variable {t:Tn} {bad:Int} {x:Ip} {c:Cl}
end
section
variable {t:Tn} {bad:Int} {x:Ip} {c:Cl}
end
section
variable {x:Ip} {c:Cl}
end
section
variable {n:Nd} {l m:σ Ms}
end
structure Al (t:Tn) (b:Nat) (q:Nat) (c:Cl):Prop where
 id:∀i,i<4->(c.nd i).id=(i:Nat)
 tn:∀i,i<4->(c.nd i).tn=t
 ax:∀i k:Nat,i<4->k<4->∀a,a<3->(c.nd i).ax a=(c.nd k).ax a
 rl:∀i k:Nat,i<4->k<4->RlE (c.nd i).rl (c.nd k).rl
 gd:∀i:Nat,i<4->mR (c.nd i).rl=true
 on:∀i s:Nat,i<4->s<4->s≠b->(c.nd i).rl.I s=true/\(c.nd i).rl.M s=0
 jn:∀i,i<4->((c.nd i).rl.I b=true)\/(q:Int)<=(c.nd i).rl.J b
section
variable {t:Tn} {b:Nat} {x:Ip} {c:Cl}
end
variable{l:σ It}
theorem Cx.plus{w'}{m}(H:Cx w0 w l)(G:Cx w w' m):Cx w0 w' (m++l):=by
 have H':=H.call G.bel;have hs:=H.size;refine⟨H'.bel,λx hx=>?_,λx hx k hk=>?_,List.pairwise_append.2 ⟨G.dis,H.dis,λx hx y hy k h1 h2=>?_⟩⟩
 .rcases De.1 hx with hx|hx
  .exact G.it x hx
  exact H'.it x hx
 .rcases De.1 hx with hx|hx
  .have:=G.up x hx k hk;omega
  exact H.up x hx k hk
 have h3:=G.up x hx k h1;have h4:=y.lt (H.it y hy) h2;omega
theorem JB{C}{t}{s}{n}{xs}(H:Cx w0 w (fU B t s v n xs::l))(h:C<=B):Cx w0 w (fU C t s v n xs::l):=H.wk (λh1=>cO h1 h) (λ_ h=>h)
variable{D:Nat->Nd×Ad}
theorem xJ{C}(H:Cx w0 w (oU B D::l))(h:C<=B):Cx w0 w (oU C D::l):=H.wk (λh1 i hi=>cO (h1 i hi) h) (λ_ h=>h)
theorem aNU(n)(l):(gW n l).id=n.id:=by
 unfold gW;split
 .rfl
 split
 .split<;>rfl
 rfl
variable{c:Cl}{x:Ip}
theorem aRG(hE:gY x c=0)(hi:i<4):(wC x c i).id=(i):=by
 unfold wC;split
 .exact WS hE hi
 rw[aNU];exact aGd hE (Xr _) hi
theorem aJZ(h1: -1<=x.bad/\x.bad<4)(h2:0<=c.fr/\c.fr<=1073741823)(h3:x.ly.length<=400)(h4:∀i,i<4->(c.nd i).id=(i)):gY x c=0:=by grind [gY]
theorem WQ{fr}(hf:c.fr=fr)(hn:∀i,i<4->(D i).1=c.nd i):gY x ⟨fr,λi=>(D i).1⟩=gY x c/\(lC x ⟨fr,λi=>(D i).1⟩).fr=(lC x c).fr/\(∀i,i<4->(lC x ⟨fr,λi=>(D i).1⟩).nd i=(lC x c).nd i)/\Φ x ⟨fr,λi=>(D i).1⟩=Φ x c:=by
 have hk:∀k,∀i,i<4->(iK x ⟨fr,λi=>(D i).1⟩ k).nd i=(iK x c k).nd i/\(iK x ⟨fr,λi=>(D i).1⟩ k).bx i=(iK x c k).bx i:=by
  intro k;induction k with
  |zero=>exact λi hi=>⟨hn i hi,rfl⟩
  |succ k ih=>
   intro i hi;obtain⟨h1,h2⟩:=ih i hi;refine⟨?_,?_⟩
   .show zH x fr _ k i=zH x c.fr _ k i;rw[hf];exact (JZ h1 h2).1
   show nO x _ i k 4=nO x _ i k 4;refine GI λj hj=>?_;obtain⟨h3,h4⟩:=ih j hj;show xI x fr _ k j=xI x c.fr _ k j;rw[hf];exact (JZ h3 h4).2
 have hN:∀i,i<4->wC x ⟨fr,λi=>(D i).1⟩ i=wC x c i:=λi hi=>by unfold wC;rw[(hk 5 i hi).1,(hk 5 i hi).2];show (if _ then (D i).1 else _)=_;rw[hn i hi]
 have hE:gY x ⟨fr,λi=>(D i).1⟩=gY x c:=by unfold gY;dsimp only;simp only[hf,hn 0 Y,hn 1 Y,hn 2 Y,hn 3 Y]
 refine⟨hE,?_,λi hi=>?_,?_⟩
 .unfold lC;rw[hE];split
  .show fr+1=c.fr+1;rw[hf]
  rfl
 .unfold lC;rw[hE];split
  .exact hN i hi
  rfl
 unfold Φ;rw[hE];split
 .refine Cw λi hi=>hN i ?_;unfold IJ at hi;exact Df.1 (List.mem_filter.1 hi).1
 rfl
def rK(t:Tn)(L:σ Li)(k:Nat):Rn:=((L.take k).map Li.x).foldl rnS ⟨begC t,[],0⟩
theorem UM(x)(c):(Φ x c).length<=4:=by grind [Φ,IJ]
def t1:Tn:=⟨4294967296,0,4294967296,429496729600⟩
def aTK(_ a:Nat):Int:=if a=0 then 4294967296 else 0
def x1:Ip:=⟨aTK, -1,[]⟩
theorem hE1:gY x1 (begC t1)=0:=aJZ (by unfold x1;decide) (show (0:Int)<=0/\(0:Int)<=1073741823 by decide) (Xz _) (λi hi=>(aJE t1 (-1)).id i hi)
section
variable {f:æ->Value} {o:Oper}
end
instance:ZerK à 41 3 (qG 0 false (.slice β 0 0)):=⟨λw=>Yl⟩
structure Twn (n m:Nd):Prop where
 ax:∀a,a<3->n.ax a=m.ax a
 rl:RlE n.rl m.rl
 ag:∀s a,s<4->a<3->n.ag s a=m.ag s a
 us:∀a,a<3->n.us a=m.us a
 dg:n.dg=m.dg
 fr:n.fr=m.fr
 vX:n.vX=m.vX
 vS:n.vS=m.vS
 vA:n.vA=m.vA
section
variable {n m:Nd} {v u:Value}
end
section
variable {t:Tn} {bad:Int} {L:σ Li} {k:Nat} {c:Li}
end
def QV(B:Nat)(c:Lj):It:=fU B 5 1 (ljV c) c.y.n (rowV (bF c.y.g) c.y.n)
def CY{α:Type}(f:α->It)(L:σ α):It:=⟨λw=>∀c,c∈L->(f c).p w,λk=>∃c,c∈L/\(f c).foot k,λh e c hc=>(f c).ok (h c hc) (λk h1 h2=>e k h1 ⟨c,hc,h2⟩),λh ⟨c,hc,e⟩=>(f c).lt (h c hc) e⟩
theorem aAZ{α}{f:α->It}{L}{c}(H:Cx w0 w (f c::CY f L::l)):Cx w0 w (CY f (L++[c])::l):=
 H.merge.wk (λh d hd=>by
  rcases De.1 hd with hd|hd
  .exact h.2 d hd
  .rw[Ct.1 hd];exact h.1) (λk ⟨d,hd,hk⟩=>by
  rcases De.1 hd with hd|hd
  .exact Ab ⟨d,hd,hk⟩
  rw[Ct.1 hd] at hk;exact Aa hk)
def liJ(B:Nat)(c:Li):It:=(fU B 81 3 (δ c.lo c.LL.length c.lc) c.LL.length (qP QW 3 c.LL)).and (CY (QV B) c.LL)
theorem aNb{c}(h:(liJ B c).p w)(hb:∀d,d∈c.LL->d.y.n<=140737488351232/\∀i,d.y.g i<256):JRd w c.lo c.LL:=by refine⟨VB (F:=QW) (s:=3) h.1 Yc,λd hd=>?_⟩;have h2:å _ _ _ _ _ _ _:=h.2 d hd;obtain⟨a,q,e,s,hc⟩:=iT h2;unfold ljV at e;cases e;exact⟨s,hc,hb d hd⟩
end
end Go.Proofs.YthimcecbgpamdaaGreatDoor
