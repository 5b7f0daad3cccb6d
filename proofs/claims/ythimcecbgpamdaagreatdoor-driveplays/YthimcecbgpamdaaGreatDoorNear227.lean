import Derived.Test.YthimcecbgpamdaaGreatDoorNear220
import Derived.RangeFuncNested
import Derived.RangeFuncBound
import Derived.OwnWalkIn
import Derived.Shelf.RegionOpen
import Derived.LoopNIn
import Derived.LoopIn
set_option maxHeartbeats 4000000
set_option maxRecDepth 100000
open Go.Proofs.YthimcecbgpamdaaGreatDoor renaming hide->β,SeqJ->ν,rowV->ο,aPF->π,wrongM->σ,MgAt->υ,enF->ω,aNl->Ω,wp_leaves->ë
open _root_ renaming rfl->γ,Nat->ζ,Int->ι,if_neg->τ,absurd->Λ,if_pos->Ξ,Option->â
open Option renaming some->δ,none->ε
open Go.Value renaming int->η,slice->θ,pointer->φ,int->à,ownBlock->ç,tuple->è
open Go.IntKind renaming i64->κ
open Go.Proofs.Tryz renaming prog->μ,results98->ä
open Go.Act renaming put->ξ
open Go.Obj renaming cells->ρ
open Go renaming Calls->χ,World->ψ,execOp->Δ,Act->Θ,bodyPost_ret->Φ,results->Ψ,Addr->á,undef->ã,Oper->æ,maxLen->é
open Go.RowKit renaming intOf->Γ,wrap64->ê
open Go.Oper renaming wp->å
namespace Go.Proofs.YthimcecbgpamdaaGreatDoor
section
open Go.RowKit
theorem aAr(K F R)(n)f(i)(hi:i<3):#[à .u8 87,.int .u8 (K%256),.int .u8 (F%256)][i]?=δ (bF (ω K F R n f) i):=by
 have:i=0\/i=1\/i=2:=Yo;rcases this with rfl|rfl|rfl
 .rfl
 .show δ (à .u8 (K%256))=δ (à .u8 (((K%256).toNat:ζ):ι));congr 2;omega
 show δ (à .u8 (F%256))=δ (à .u8 (((F%256).toNat:ζ):ι));congr 2;omega
theorem aAq(K F R)(n)f:ο (bF (ω K F R n f)) 3++ο (bF (bt R 4)) 4=ο (bF (ω K F R n f)) 7:=rfl
theorem aAp(K F R)(n)(f:ζ->ι)u(hu:u 0=.int .u8 n)(hn:n<=24):ο (bF (ω K F R n f)) 7++ο u 1=ο (bF (ω K F R n f)) 8:=by
 rw[mH];refine iW (λi hi=>?_);by_cases h:i<7
 .rw[Ξ h]
 have:i=7:=Yo;subst this;show u 0=à .u8 ((n%256:ζ):ι);grind
theorem aDZ(K F R)(n)f(j):ο (bF (ω K F R n f)) (8+8*j)++ο (bF (bt (f j) 8)) 8=ο (bF (ω K F R n f)) (8+8*(j+1)):=by
 rw[mH];refine iW (λi hi=>?_);by_cases h:i<8+8*j
 .rw[Ξ h]
 unfold bF;have:=aDY K F R n f j (i-(8+8*j)) Yo;grind
theorem SF(K F R)(ao)(n cap)(w)(hw:σ K F R n≠0):χ μ 23 #[iB K F R (.slice ao n cap)] w λe w'=>e=.returned (.tuple #[.slice ε 0 0,.int .i64 (σ K F R n)])/\Below w.heap.size w w':=by obtain⟨l,e1,f,k1,j⟩:=rC w K F R (θ ao n cap);have a:=β k1;unfold iB;go_in;go_wp2_with fail;rw[<-aA (β e1)];go_wp2_with fail;refine (M0 K F R ao n cap _).mono ?_;rintro e m ⟨rfl,d⟩;obtain⟨x,c⟩:=wZ (σ K F R n);go_wp2_with fail;go_ret2;exact⟨by rw[<-aA (β c)];rfl,aA (β ((aA a).trans (d.mono (aA a).size)))⟩
theorem SC(K F R)(ao)(n cap)f(w)(hR:R64 R)(hf:∀i,R64 (f i))(hr:Rd w ao n (iF f))(hw:σ K F R n=0):χ μ 23 #[iB K F R (.slice ao n cap)] w λe w'=>∃v,e=.returned (.tuple #[v,.int .i64 0])/\w'.ownsRow w.heap.size 5 1 v (12+8*n) (ο (bF (enS K F R n f)) (12+8*n))/\Below w.heap.size w w':=by
 have hn:=(oI hw).2.2.2.2.2.2;obtain⟨w1,e1,m1,k1,s1⟩:=rC w K F R (θ ao n cap);obtain⟨c0,c1,c2,c3⟩:=m1.cs;have E1:=β e1;have M1:=β m1;have U:=β k1;have S1:=β s1;have HW:=β hw;have HF:=β hf;have HR:=β hr;have A:=β hR;unfold iB;go_in;go_wp2_with fail;rw[<-aA E1];go_wp2_with fail;refine (M0 K F R ao n cap _).mono ?_;rintro e q ⟨rfl,J⟩;rw[aA HW];have Y:=β (show w.heap.size+1<=q.heap.size by have:=aA S1;have:=J.size;omega);have V:=β (show nS w q from (aA U).trans (J.mono (aA U).size));have z:=(aA M1).below J;have p:=bU q (ρ #[η .u8 87,η .u8 (K%256),η .u8 (F%256)] 5);have V3:=Vh.new q 5 #[η .u8 87,η .u8 (K%256),η .u8 (F%256)] (bF (ω K F R n f)) (by show 3<=é;decide) (λi hi=>aAr K F R n f i Jc);have X:=β (V3.owns (base:=w.heap.size+1) (aA Y));obtain⟨w3,e3⟩:=wZ (q.alloc (ρ #[η .u8 87,η .u8 (K%256),η .u8 (F%256)] 5));have d2:=(z.below p).cell2;rw[<-e3] at p X;have c0:=z.cell0;have c1:=z.cell1;have m3:=z.below p;have E3:=β e3;have M3:=β m3;have W:=β (show nS w w3 from (aA V).trans (p.mono (aA V).size));have S3:=β (show w.heap.size+1<=w3.heap.size by have:=aA Y;have:=p.size;omega);go_wp2_with fail;rw[<-aA E3];refine (Y7 R 4 _ (aA A) Yo).mono ?_;rintro e w4 ⟨v4,rfl,o4,t⟩;obtain⟨a4,l4,rfl,r4,_⟩:=iT o4;have m4:=(aA M3).below t;have O4:=β (oF (aA X) t);have R4:=β r4;have M4:=β m4;have K4:=β (show nS w w4 from (aA W).trans (t.mono (aA W).size));have Z:=β (show w.heap.size+1<=w4.heap.size by have:=aA S3;have:=t.size;omega);go_wp2_with (at_builtin;refine kK _ γ _ _ γ (w.heap.size+1) (aA Z) _ 3 (ο (bF (ω K F R n f)) 3) γ (aA O4) a4 4 l4 (bF (bt R 4)) γ (aA R4) (λi _=>rfl) Yo ?_);intro v5 d o5 L;rw[aAq] at o5;obtain⟨a5,l5,rfl⟩:=jK o5;have m5:=(aA M4).under L Yo;have s:=bU d (ρ #[η .u8 (n:ι)] 5);have V6:=Vh.new d 5 #[η .u8 (n:ι)] (λ_=>η .u8 (n:ι)) Od (λi hi=>by have:i=0:=Nq;subst this;rfl);have S5:w.heap.size+1<=d.heap.size:=by have:=aA Z;have:=L.size;omega
 have c3:=m5.cell3;have O6:=β (oF o5 s);have R6:=β (show Sr (d.alloc (ρ #[η .u8 (n:ι)] 5)) (δ ⟨d.heap.size,0,ε⟩) 1 1 (λ_=>η .u8 (n:ι)) from Ab ⟨_,γ,λi hi=>by rw[Dq,Ah];exact V6.cell hi⟩);have M6:=β (m5.below s);have K6:=β (show nS w (d.alloc (ρ #[η .u8 (n:ι)] 5)) from ((aA K4).trans (L.mono Yo)).trans (s.mono Yo));have S6:=β (show w.heap.size+1<=(d.alloc (ρ #[η .u8 (n:ι)] 5)).heap.size by have:=s.size;omega);go_wp2_with (at_builtin;refine kK _ γ _ _ γ (w.heap.size+1) (aA S6) _ 7 (ο (bF (ω K F R n f)) 7) γ (aA O6) (δ ⟨d.heap.size,0,ε⟩) 1 1 (λ_=>η .u8 (n:ι)) γ (aA R6) (λi _=>rfl) Yo ?_);intro v7 w7 Q O;rw[aAp K F R n f _ γ hn] at Q;obtain⟨a7,l7,rfl⟩:=jK Q;have m7:=(aA M6).under O Yo;have c3:=m7.cell3;have O7:=β Q;have K7:=β (show nS w w7 from (aA K6).trans (O.mono Yo));have S7:=β (show w.heap.size+1<=w7.heap.size by have:=aA S6;have:=O.size;omega);go_wp2_with fail;go_loopw [5,7,35] (λbs _ I T=>∃(j c:ζ) (a:â á),I=iY j/\j<=n/\bs=θ a (8+8*j) c/\T.ownsRow (w.heap.size+1) 5 1 (θ a (8+8*j) c) (8+8*j) (ο (bF (ω K F R n f)) (8+8*j))/\w.heap.size+1<=T.heap.size/\nS w T)
  (λ_ _ I _=>n-(Γ I).toNat)
 case atStart=>exact⟨0,l7,a7,rfl,Xz _,rfl,aA O7,aA S7,aA K7⟩
 case round=>
  obtain⟨j,c,a,rfl,hj,rfl,ho,hs,hK⟩:=hrel;by_cases hin:j<n
  .obtain⟨b,o,rfl,hc⟩:=aA HR Yo;have cj:=aP (hc j hin) hK;have B:=β ho;have l:=β hK;go_wp2_with fail;refine (Y7 (f j) 8 _ (aA HF j) Yo).mono ?_;rintro e w8 ⟨v8,rfl,o8,P⟩;obtain⟨a8,l8,rfl,S,_⟩:=iT o8;have S8:=β (show w.heap.size+1<=w8.heap.size by have:=aA (β hs);have:=P.size;omega);go_wp2_with (at_builtin;refine kK _ γ _ _ γ (w.heap.size+1) (aA S8) _ (8+8*j) (ο (bF (ω K F R n f)) (8+8*j)) γ (aA (β (oF (aA B) P))) a8 8 l8 (bF (bt (f j) 8)) γ (aA (β S)) (λi _=>rfl) Yo ?_);intro v9 w9 m y;rw[aDZ,show 8+8*j+8=8+8*(j+1) by omega] at m;obtain⟨a9,l9,rfl⟩:=jK m;have D:=β m;have C:=β ((aA (β (show nS w w8 from (aA l).trans (P.mono (aA l).size)))).trans (y.mono Yo));go_wp2_with fail;go_roundw;case rel=>exact⟨j+1,l9,a9,Je,Yo,rfl,aA D,aA (β (show w.heap.size+1<=w9.heap.size by have:=aA S8;have:=y.size;omega)),aA C⟩
   case measure=>simp[Γ]<;>omega
  .have:j=n:=Yo;subst this;obtain⟨a8,l8,e8,S,_⟩:=iT ho;cases e8;have B:=β S;have l:=β hK;go_wp2_with fail;refine (MJ a (8+8*j) c (ω K F R j f) _ (aAn K F R j f) Yo (aA B)).mono ?_;rintro e w9 ⟨v9,rfl,m,y⟩;rw[show 8+8*j+4=12+8*j by omega] at m;have D:=β m;have C:=β ((aA l).trans (y.mono (aA l).size));go_wp2_with fail;go_ret2;exact⟨_,γ,xS (aA D) (aA (β (aA l).size)),aA C⟩
theorem JK:aQM 23:=by
 intro K F R c n a f w _ _ d j _ _ hr;by_cases h:σ K F R n=0
 .refine (SC K F R c n a f w d j hr.rd h).mono ?_;rintro e w' ⟨v,rfl,o,k⟩;refine⟨v,by rw[h],?_,k⟩;unfold rT;grind
 refine (SF K F R c n a w h).mono ?_;rintro e w' ⟨rfl,k⟩;refine⟨_,γ,?_,k⟩;unfold rT;rw[τ h];exact Am _ _ _ _
theorem GJ(K F R)(ao)(n cap)(w):χ μ 141 #[iB K F R (.slice ao n cap)] w λe w'=>e=.returned (.int .i64 (σ K F R n))/\Below w.heap.size w w':=by
 obtain⟨s,e1,c,k1,_⟩:=rC w K F R (θ ao n cap);obtain⟨d,f,j,l⟩:=c.cs;have E1:=β e1;have a:=β k1;unfold iB;by_cases h1:K<1
 .have G:=β (show σ K F R n=4 by unfold σ;rw[Ξ Yo]);go_enter Gv,Gw;go_wp2_with fail;rw[<-aA E1];go_wp2_with fail;go_ret;exact⟨Np,aA a⟩
 .skip;by_cases h2:5<K
  .have G:=β (show σ K F R n=4 by unfold σ;rw[Ξ Yo]);go_enter Gv,Gw;go_wp2_with fail;rw[<-aA E1];go_wp2_with fail;go_ret;exact⟨Np,aA a⟩
  .by_cases h3:F<0
   .have G:=β (show σ K F R n=3 by unfold σ;rw[τ Yo,Ξ Yo]);go_enter Gv,Gw;go_wp2_with fail;rw[<-aA E1];go_wp2_with fail;go_ret;exact⟨Np,aA a⟩
   by_cases m:4<=F
   .have G:=β (show σ K F R n=3 by unfold σ;rw[τ Yo,Ξ Yo]);go_enter Gv,Gw;go_wp2_with fail;rw[<-aA E1];go_wp2_with fail;go_ret;exact⟨Np,aA a⟩
   by_cases o:R<0
   .have G:=β (show σ K F R n=3 by unfold σ;rw[τ Yo,Ξ Yo]);go_enter Gv,Gw;go_wp2_with fail;rw[<-aA E1];go_wp2_with fail;go_ret;exact⟨Np,aA a⟩
   by_cases p:2147483647<R
   .have G:=β (show σ K F R n=3 by unfold σ;rw[τ Yo,Ξ Yo]);go_enter Gv,Gw;go_wp2_with fail;rw[<-aA E1];go_wp2_with fail;go_ret;exact⟨Np,aA a⟩
   by_cases q:(24:ι)<(n:ι)
   .have G:=β (show σ K F R n=6 by unfold σ;rw[τ Yo,τ Yo,Ξ Yo]);go_enter Gv,Gw;go_wp2_with fail;rw[<-aA E1];go_wp2_with fail;go_ret;exact⟨Np,aA a⟩
   have G:=β (show σ K F R n=0 by unfold σ;rw[τ Yo,τ Yo,τ Yo]);go_enter Gv,Gw;go_wp2_with fail;rw[<-aA E1];go_wp2_with fail;go_ret;exact⟨Np,aA a⟩
theorem TI(n:ζ)(w)(h:n<=255):χ μ 142 #[.int .i64 (n)] w λe w'=>e=.returned (.int .i64 ((8+8*n:ζ)))/\w'=w:=by go_in;go_wp2_with fail;go_ret;exact⟨Je,γ⟩
theorem aMl(V)(j)(hj:j<8):IntKind.u64.wrap V/2^(8*j)%256=V/256^j%256:=by have e:IntKind.u64.wrap V=V%18446744073709551616:=rfl;have:j=0\/j=1\/j=2\/j=3\/j=4\/j=5\/j=6\/j=7:=Yo;rcases this with e|e|e|e|e|e|e|e<;>subst e<;>omega
theorem aLZ(V)(N k)(hk:k<N)(y)(hy:y=V/256^(N-1-k)%256):ο (bF (bt V N)) k++ο (λ_=>à .u8 y) 1=ο (bF (bt V N)) (k+1):=by
 rw[mH];refine iW (λi hi=>?_);by_cases h:i<k
 .rw[Ξ h]
 rw[τ h];have:i=k:=Yo;subst this;show à .u8 y=à .u8 ((bt V N i:ζ):ι);rw[aAa,hy]
theorem YE(B)(ao)(n cap)(xs)(V)(N:ζ)(w)(hv:R64 V)(hN:N<=8)(hB:B<=w.heap.size)(hn:n<=1000)(ho:w.ownsRow B 5 1 (.slice ao n cap) n xs):χ μ 143 #[.slice ao n cap,.int .i64 V,.int .i64 (N)] w λe w'=>∃v,e=.returned v/\w'.ownsRow B 5 1 v (n+N) (xs++ο (bF (bt V N)) N)/\Below B w w':=by
 have s:=β hv;have d:=β hB;go_in;go_wp2_with fail;go_loopw [0,7] (λp is wr=>∃(k c:ζ) (ao:â á),k<=N/\is=iY ((N:ι)-1-k)/\p=θ ao (n+k) c/\wr.ownsRow B 5 1 (θ ao (n+k) c) (n+k) (xs++ο (bF (bt V N)) k)/\Below B w wr)
  (λ_ is _=>(Γ is+1).toNat)
 case atStart=>exact⟨0,cap,ao,Xz _,Je,rfl,by simpa [ο] using aA (β ho),Below.refl _ _⟩
 case round=>
  obtain⟨k,c,ai,t,rfl,rfl,ho,hK⟩:=hrel;by_cases hin:k<N
  .obtain⟨j,q⟩:∃j:ζ,(N:ι)-1-k=j:=⟨N-1-k,Yo⟩;obtain⟨x,a⟩:=wZ (IntKind.u64.wrap V/2^(8*j)%256);have ey:x=V/256^(N-1-k)%256:=by rw[a,aMl V j Yo,show N-1-k=j by omega]
   have o:=β (aLZ V N k hin x ey);have A:=bU wr (ρ #[η .u8 x] 5);have hv:Vh 5 (wr.alloc (ρ #[η .u8 x] 5)) wr.heap.size 1 1 (λ_=>η .u8 x):=Vh.new wr 5 #[η .u8 x] _ Od (λi hi=>by have:i=0:=Nq;subst this;rfl);have kB:=hK.trans (A.mono (Ap (aA d) hK.size));have f:=β (oF ho A);have KB:=β kB;have l:=β (Ap (aA d) kB.size);have R1:=β (show Sr (wr.alloc (ρ #[η .u8 x] 5)) (δ ⟨wr.heap.size,0,ε⟩) 1 1 (λ_=>η .u8 x) from Ab ⟨_,γ,λi hi=>by rw[Dq,Ah];exact hv.cell hi⟩);obtain⟨w1,e1⟩:=wZ (wr.alloc (ρ #[η .u8 x] 5));rw[<-e1] at f KB l R1;rw[a] at e1;have E1:=β e1;clear ho hK hv kB A a ey e1;go_wp2_with (at_builtin;rw[<-aA E1];refine kK _ γ _ _ γ B (aA l) _ (n+k) (xs++ο (bF (bt V N)) k) γ (aA f) (δ ⟨wr.heap.size,0,ε⟩) 1 1 (λ_=>η .u8 x) γ (aA R1) (λi _=>rfl) Yo ?_);intro m w2 h2 k2;have h3:w2.ownsRow B 5 1 m (n+(k+1)) (xs++ο (bF (bt V N)) (k+1)):=by rw[<-aA o];exact h2
   rename w2.ownsRow B 5 1 m (n+(k+1)) (xs++ο (bF (bt V N)) (k+1))=>h2;obtain⟨a2,c2,rfl⟩:=jK h2;go_wp2_with fail;go_roundw;case rel=>exact⟨k+1,c2,a2,Yo,by rw[aA (β (show (N:ι)-1-((k+1:ζ):ι)=(j:ι)-1 by have:=aA (β q);omega))],rfl,aA (β h2),aA (β ((aA KB).trans k2))⟩
   case measure=>simp[Γ]<;>omega
  have:k=N:=Yo;subst this;go_wp2_with fail;go_ret;exact⟨_,γ,aA (β ho),aA (β hK)⟩
theorem PH(K F R)(ao)(n cap)(w)(hw:σ K F R n≠0):χ μ 82 #[iB K F R (.slice ao n cap)] w λe w'=>e=.returned (.tuple #[.slice ε 0 0,.int .i64 (σ K F R n)])/\Below w.heap.size w w':=by obtain⟨l,e1,f,k1,j⟩:=rC w K F R (θ ao n cap);have a:=β k1;unfold iB;go_in;go_wp2_with fail;rw[<-aA (β e1)];go_wp2_with fail;refine (GJ K F R ao n cap _).mono ?_;rintro e m ⟨rfl,d⟩;obtain⟨x,c⟩:=wZ (σ K F R n);go_wp2_with fail;go_ret2;exact⟨by rw[<-aA (β c)];rfl,aA (β ((aA a).trans (d.mono (aA a).size)))⟩
theorem PG(K F R)(ao)(n cap)f(w)(hR:R64 R)(hf:∀i,R64 (f i))(hr:Rd w ao n (iF f))(hw:σ K F R n=0):χ μ 82 #[iB K F R (.slice ao n cap)] w λe w'=>∃v,e=.returned (.tuple #[v,.int .i64 0])/\w'.ownsRow w.heap.size 5 1 v (12+8*n) (ο (bF (enS K F R n f)) (12+8*n))/\Below w.heap.size w w':=by
 have hn:=(oI hw).2.2.2.2.2.2;obtain⟨w1,e1,m1,k1,s1⟩:=rC w K F R (θ ao n cap);obtain⟨c0,c1,c2,p⟩:=m1.cs;have E1:=β e1;have M1:=β m1;have Q:=β k1;have S1:=β s1;have HW:=β hw;have HF:=β hf;have HR:=β hr;have O:=β hR;clear e1 m1 k1 s1 hw hf hr hR;unfold iB;go_in;go_wp2_with fail;rw[<-aA E1];go_wp2_with fail;refine (GJ K F R ao n cap _).mono ?_;rintro e w2 ⟨rfl,z⟩;rw[aA HW];have W:=β (show w.heap.size+1<=w2.heap.size by have:=aA S1;have:=z.size;omega);have S:=β (show nS w w2 from (aA Q).trans (z.mono (aA Q).size));have m2:=(aA M1).below z;have M2:=β m2;clear z c0 c1 c2 p Q M1 S1;have p:=m2.cell3;clear m2;go_wp2_with fail;refine (TI n _ Yo).mono ?_;rintro e a0 ⟨rfl,rfl⟩;clear p;go_wp2_with (at_make;refine wpList_makeC _ γ _ _ γ 0 (8+8*n) γ γ Yo Yo ?_);intro d z3 v3 k3;have O3:=β (v3.owns (base:=w.heap.size+1) (aA W));have T:=β (show nS w d from (aA S).trans (k3.mono (aA S).size));have I:=(aA M2).below k3;have S3:=β (show w.heap.size+1<=d.heap.size by have:=aA W;omega);clear v3 k3 z3 M2 S W;have s:=bU d (ρ #[η .u8 87,η .u8 (K%256),η .u8 (F%256)] 5);have V4:=Vh.new d 5 #[η .u8 87,η .u8 (K%256),η .u8 (F%256)] (bF (ω K F R n f)) (by show 3<=é;decide) (λi hi=>aAr K F R n f i Jc);have O4:=β (oF (aA O3) s);have R4:=β (show Sr (d.alloc (ρ #[η .u8 87,η .u8 (K%256),η .u8 (F%256)] 5)) (δ ⟨d.heap.size,0,ε⟩) 3 3 (bF (ω K F R n f)) from Ab ⟨_,γ,λi hi=>by rw[Dq,Ah];exact V4.cell hi⟩);have K4:=β (show nS w (d.alloc (ρ #[η .u8 87,η .u8 (K%256),η .u8 (F%256)] 5)) from (aA T).trans (s.mono (aA T).size));have X:=β (show w.heap.size+1<=(d.alloc (ρ #[η .u8 87,η .u8 (K%256),η .u8 (F%256)] 5)).heap.size by have:=aA S3;have:=s.size;omega);have M4:=β (I.below s);have c0:=I.cell0;have c1:=I.cell1;clear s V4 I O3 T S3;go_wp2_with (at_builtin;refine kK _ γ _ _ γ (w.heap.size+1) (aA X) _ 0 (ο (bF (λ_=>0)) 0) γ (aA O4) (δ ⟨d.heap.size,0,ε⟩) 3 3 (bF (ω K F R n f)) γ (aA R4) (λi _=>rfl) Yo ?_);intro v5 w5 o5 A;have m:w5.ownsRow (w.heap.size+1) 5 1 v5 3 (ο (bF (ω K F R n f)) 3):=o5;clear o5 c0 c1;obtain⟨a5,l5,rfl⟩:=jK m;have m5:=(aA M4).under A Yo;have c2:=m5.cell2;have O5:=β m;have K5:=β (show nS w w5 from (aA K4).trans (A.mono Yo));have Y:=β (show w.heap.size+1<=w5.heap.size by have:=aA X;have:=A.size;omega);have M5:=β m5;clear m A m5 O4 R4 M4 K4 X;go_wp2_with fail;clear c2;refine (YE (w.heap.size+1) a5 3 l5 _ R 4 _ (aA O) Yo (aA Y) Yo (aA O5)).mono ?_;rintro e l ⟨v6,rfl,J,B⟩;rw[aAq] at J;obtain⟨a6,l6,rfl⟩:=jK J;have m6:=(aA M5).under B Yo;have t:=bU l (ρ #[η .u8 (n:ι)] 5);have V7:=Vh.new l 5 #[η .u8 (n:ι)] (λ_=>η .u8 (n:ι)) Od (λi hi=>by have:i=0:=Nq;subst this;rfl);have S6:w.heap.size+1<=l.heap.size:=by have:=aA Y;have:=B.size;omega
 have p:=m6.cell3;have O7:=β (oF J t);have R7:=β (show Sr (l.alloc (ρ #[η .u8 (n:ι)] 5)) (δ ⟨l.heap.size,0,ε⟩) 1 1 (λ_=>η .u8 (n:ι)) from Ab ⟨_,γ,λi hi=>by rw[Dq,Ah];exact V7.cell hi⟩);have M7:=β (m6.below t);have K7:=β (show nS w (l.alloc (ρ #[η .u8 (n:ι)] 5)) from ((aA K5).trans (B.mono Yo)).trans (t.mono Yo));have Z:=β (show w.heap.size+1<=(l.alloc (ρ #[η .u8 (n:ι)] 5)).heap.size by have:=t.size;omega);clear J B m6 t V7 S6 O5 M5 K5 Y;go_wp2_with (at_builtin;refine kK _ γ _ _ γ (w.heap.size+1) (aA Z) _ 7 (ο (bF (ω K F R n f)) 7) γ (aA O7) (δ ⟨l.heap.size,0,ε⟩) 1 1 (λ_=>η .u8 (n:ι)) γ (aA R7) (λi _=>rfl) Yo ?_);intro v8 w8 L C;rw[aAp K F R n f _ γ hn] at L;obtain⟨a8,l8,rfl⟩:=jK L;have m8:=(aA M7).under C Yo;clear p;have p:=m8.cell3;have O8:=β L;have K8:=β (show nS w w8 from (aA K7).trans (C.mono Yo));have S8:=β (show w.heap.size+1<=w8.heap.size by have:=aA Z;have:=C.size;omega);clear L C m8 O7 R7 M7 K7 Z;go_wp2_with fail;go_loopw [5,7,41] (λbs _ is wr=>∃(j c:ζ) (a:â á),is=iY j/\j<=n/\bs=θ a (8+8*j) c/\wr.ownsRow (w.heap.size+1) 5 1 (θ a (8+8*j) c) (8+8*j) (ο (bF (ω K F R n f)) (8+8*j))/\w.heap.size+1<=wr.heap.size/\nS w wr)
  (λ_ _ is _=>n-(Γ is).toNat)
 case atStart=>exact⟨0,l8,a8,rfl,Xz _,rfl,aA O8,aA S8,aA K8⟩
 case round=>
  obtain⟨j,c,a,rfl,hj,rfl,ho,hs,hK⟩:=hrel;by_cases hin:j<n
  .obtain⟨b,o,rfl,hc⟩:=aA HR Yo;have cj:=aP (hc j hin) hK;have P:=β ho;have HS:=β hs;have y:=β hK;go_wp2_with fail;refine (YE (w.heap.size+1) a (8+8*j) c _ (f j) 8 _ (aA HF j) Yo (aA HS) Yo (aA P)).mono ?_;rintro e w9 ⟨v9,rfl,q,D⟩;rw[aDZ,show 8+8*j+8=8+8*(j+1) by omega] at q;obtain⟨a9,l9,rfl⟩:=jK q;have V:=β q;have U:=β ((aA y).trans (D.mono Yo));go_wp2_with fail;go_roundw;case rel=>exact⟨j+1,l9,a9,Je,Yo,rfl,aA V,aA (β (show w.heap.size+1<=w9.heap.size by have:=aA HS;have:=D.size;omega)),aA U⟩
   case measure=>simp[Γ]<;>omega
  .have:j=n:=Yo;subst this;have P:=β (wH ho);have y:=β hK;go_wp2_with fail;refine (aLP a (8+8*j) c (ω K F R j f) _ (aAn K F R j f) Yo (aA P)).mono ?_;rintro e w9 ⟨v9,rfl,q,D⟩;rw[show 8+8*j+4=12+8*j by omega] at q;have V:=β q;have U:=β ((aA y).trans (D.mono (aA y).size));go_wp2_with fail;go_ret2;exact⟨_,γ,xS (aA V) (aA (β (aA y).size)),aA U⟩
theorem FY:aQM 82:=by
 intro K F R c n a f w _ _ d j _ _ hr;by_cases h:σ K F R n=0
 .refine (PG K F R c n a f w d j hr.rd h).mono ?_;rintro e w' ⟨v,rfl,o,k⟩;refine⟨v,by rw[h],?_,k⟩;unfold rT;grind
 refine (PH K F R c n a w h).mono ?_;rintro e w' ⟨rfl,k⟩;refine⟨_,γ,?_,k⟩;unfold rT;rw[τ h];exact Am _ _ _ _
end
section
open Go Go.RowKit
section
variable {P:Program} {ops:Array æ} {Q:Exit->Θ->ψ->Prop} {n l:ζ}
variable{K:Θ->ψ->Prop}{a:Θ}{o:æ}{w:ψ}
theorem aFr(hd:∀c,o.op≠.defer c)(h:å P o a w K Q):o.wpIn (Fence.wide.inRound l) n P a w K Q:=by
 refine⟨λ_ _=>trivial,?_⟩;rw[Oper.semAt_plain (Fence.wide.inRound l) a.eval o hd];unfold å at h;generalize (Δ a.eval o).run P w=r at h ⊢;cases r with
 |ok x w'=>
  cases x with
  |value v=>exact h
  |skip=>exact h
  |defer d=>exact h
  |enter f args=>exact⟨λe=>by (cases e),CallsIn.inRound l (callsIn_wide.2 h)⟩
  |row row args=>exact⟨λe=>by (cases e),λc j _=>let ⟨v,w',r,s⟩:=h c j;⟨v,w',r,stepsIn_wide.2 s⟩⟩
  |_=>exact h.elim
 |halt x w'=>cases x<;>exact h
def KU(ops:Array æ):Bool:=ops.toList.all λo=>match o.op with|.defer _=>false|_=>true
variable{i:ζ}
theorem aBh(h:KU ops=true)(ho:ops[i]?=δ o):∀c,o.op≠.defer c:=by
 intro c e;have a:o∈ops.toList:=by grind
 have:=Cj.1 h o a;grind
theorem aKG(hd:KU ops=true)(hQ:¬LetsOut Q)(h:wpOp P ops Q i K a w):wpOpIn (Fence.wide.inRound l) n P ops Q i K a w:=by
 unfold wpOp at h;unfold wpOpIn;cases ho:ops[i]? with
 |none=>rw[ho] at h;exact h
 |some o=>
  rw[ho] at h;simp only at h ⊢;split
  .rename_i hw;rw[Ξ hw] at h;rcases h with h|⟨_,h⟩
   .exact aFr (aBh hd ho) h
   grind
  rename_i hw;rw[τ hw] at h;exact⟨λ_ _=>trivial,h⟩
variable{md:Region.Mode}
theorem WF(hd:KU ops=true)(hQ:¬LetsOut Q):∀(fuel:ζ) (listed:Array Bool) (a:Θ) (w:ψ),wpAny P md ops Q fuel listed a w->wpAnyIn (Fence.wide.inRound l) n P md ops Q fuel listed a w
 |0,_,_,_,h=>h
 |fuel+1,_,_,_,h=>⟨h.1,λi hi=>aKG hd hQ (Cn (λa' w' k=>WF hd hQ fuel _ a' w' k) (h.2 i hi))⟩
theorem aKX{S:ψ->Prop}{id:ζ}(p:PlanJ)(lt:List ζ)(hm:P.follows .mixedOrders=true)(hd:KU ops=true)(hQ:¬LetsOut Q)(hb:(Region.noSelect ops&&lt.all (λj=>decide (j<ops.size))&&decide (p.len=ops.size)&&pF .any ops (nJ lt) p (Array.replicate ops.size false))=true)(h:ν P ops Q S (nJ lt) p a w.drew):(Code.region id ops true).wpIn (Fence.wide.inRound l) n P Q a w:=by
 simp only[Br,Cv] at hb;obtain⟨⟨⟨h1,h2⟩,h3⟩,h4⟩:=hb;have h5:=lF (P:=P) (Q:=Q) (S:=S) h1 (λj hj=>by have:=List.all_eq_true.1 h2 j (by simpa [nJ] using hj);simpa using this) p _ a w.drew h4 (uL ops.size) h.out;rw[h3] at h5;exact wpIn_region_any hm (WF hd hQ _ _ _ _ (LP _ _ _ _ h5))
theorem aDF{F}{c:Code}(R:Θ->Θ->ψ->Prop)(h:∀a0,a0=a->c.wpIn F n P (λe a' w'=>e=.normal/\R a0 a' w') a0 w)(k:∀a' w',R a a' w'->Q .normal a' w'):c.wpIn F n P Q a w:=
 wpIn_mono (h a rfl) (λe a' w' ⟨d,hr⟩=>by rw[d];exact k a' w' hr)
theorem aKC{R:Θ->ψ->Prop}:¬LetsOut (λe a' w'=>e=Exit.normal/\R a' w'):=λ⟨_,_,h,_⟩=>nomatch h
end
end
section
open Go.RowKit Go.Shelf
attribute [local go_sem] Oper.semAt_some
def WZ(b p c k:ζ):Value:=θ (δ ⟨b,p+8*k,ε⟩) 8 (c-8*k)
def BxAt(W:ψ)(X:ζ)(v:Value):Prop:=W.heap[X]?=δ (ρ #[v] 65 (0,0))
variable{W:ψ}{X:ζ}{v:Value}
theorem BxAt.cell(h:BxAt W X v):W.cell? ⟨X,0,ε⟩=δ v:=by unfold BxAt at h;unfold World.cell?;rw[h];rfl
theorem BxAt.lt(h:BxAt W X v):X<W.heap.size:=Cq h
theorem aIL{b p len c:ζ}(k)(h:8*k+8<=len)(hc:len<=c)(w):(Instr.slice 65 (.slice (δ ⟨b,p,ε⟩) len c) (δ (.int .i64 (8*(k)))) (δ (.int .i64 (8*(k)+8))) ε).run μ w=.ok (WZ b p c k) w:=by unfold WZ;go_simp;grind
theorem aLY{n k}hk:(List.finRange n).take (k+1)=(List.finRange n).take k++[⟨k,hk⟩]:=by rw[List.take_succ_eq_append_getElem (by simpa using hk)];simp
theorem aFu(m l X b p n c)(hm:1<=m)(hn:n<=24)(hc:8*n<=c)(J Jx:List (Fin n)->ψ->Prop)(hY:∀pre x W,J pre W->pre.length<n->YieldAt Fence.wide (m-1) μ l #[WZ b p c x.1] W λe W'=>(e=.returned (.bool true)/\J (pre++[x]) W'/\W'.heap[X]?=W.heap[X]?)\/(e=.returned (.bool false)/\Jx (pre++[x]) W'))(W)(hX:BxAt W X (.slice (δ ⟨b,p,ε⟩) (8*n) c))(h0:J [] W):CallsIn Fence.wide m μ 299 #[.func (.yield l) #[] #[],.pointer (δ ⟨X,0,ε⟩)] W λe W'=>(∃v,e=.returned v)/\((∃ys,ys=List.finRange n/\J ys W')\/(∃pre,True/\Jx pre W')):=by
 refine callsIn_of_wp Tryz.func299 γ trivial ?_ γ;simp only[Tryz.ntmps299,Co,Ai,Au,Nat.reduceAdd,Nat.reduceSub,Array.replicate_succ,Array.replicate_zero,List.push_toArray,List.append_toArray,Da,Ez];gi_wp2;gi_loopw [3] (λq wr=>∃k:ζ,k<=n/\q=iY (8*(k:ι))/\J ((List.finRange n).take k) wr/\wr.heap[X]?=W.heap[X]?)
  (λq _=>8*n-(Γ q).toNat)
 case atStart=>exact⟨0,Xz _,rfl,by simpa using h0,rfl⟩
 case round=>
  obtain⟨k,t,rfl,hJs,hx⟩:=hrel;have s:=BxAt.cell (hx.trans hX);by_cases hlt:k<n
  .obtain⟨fn,tmps,d,j,hy,o⟩:=hY _ ⟨k,hlt⟩ wr hJs Mm;have rp:=aIL (b:=b) (p:=p) k Yo hc;gi_wp2;refine o.mono ?_;rintro e W3 (⟨rfl,hJ3,f⟩|⟨rfl,a⟩)
   .gi_wp2;go_roundw;case rel=>exact⟨k+1,Yo,Je,by rw[aLY hlt];exact hJ3,f.trans hx⟩
    case measure=>simp[Γ];omega
   gi_wp2;exact Φ (results_none γ _ _ _) γ<|⟨⟨_,rfl⟩,.inr ⟨_,trivial,a⟩⟩
  obtain rfl:k=n:=Yo;gi_wp2;go_end0;exact⟨⟨_,γ⟩,.inl ⟨_,γ,by simpa [List.take_of_length_le] using hJs⟩⟩
theorem aFv(ao)(len c)(w):χ μ 284 #[.slice ao len c] w λe w'=>e=.returned (.func (.func 299) #[] #[.pointer (δ ⟨w.heap.size,0,ε⟩)])/\BxAt w' w.heap.size (.slice ao len c)/\Below w.heap.size w w'/\w'.heap.size=w.heap.size+1:=by have h1:=World.alloc_heap_new w (ρ #[θ ao len c] 65);have h2:=bU w (ρ #[θ ao len c] 65);have h3:=fA w (ρ #[θ ao len c] 65);obtain⟨a,e1⟩:=wZ (w.alloc (ρ #[θ ao len c] 65));rw[<-e1] at h1 h2 h3;go_in;go_wp2_with fail;rw[<-aA (β e1)];go_ret;exact⟨γ,aA (β (⟨h1,h2,h3⟩:_/\_/\_))⟩
def KpX(X:ζ)(W W':ψ):Prop:=W'.heap[X]?=W.heap[X]?
theorem aBw(m X b p n c)(hm:1<=m)(hn:n<=24)(hc:8*n<=c)(w)(hX:BxAt w X (.slice (δ ⟨b,p,ε⟩) (8*n) c)):SeqStopsK Fence.wide m μ 299 #[.pointer (δ ⟨X,0,ε⟩)] (λx=>#[WZ b p c x.1]) (KpX X) (λys=>ys=List.finRange n) (λ_=>True) n w:=λl J a W f _ _ j d=>
 aFu m l X b p n c hm hn hc J a j W ((f.block X hX.lt).trans hX) d
end
section
open Go.RowKit
theorem aOZ(x c:ζ)(hx:x*256<18446744073709551616)(hc:c<256):bits .or .u64 (x*256) c=((x*256+c:ζ)):=by have h:=u64_or_nat (x*256) c Yo Yo;rw[nat_join 8 (x*256) c Yo Yo] at h;grind
theorem aKH{x c:ζ}(h:x*256+c<18446744073709551616)(hc:c<256):bits .or .u64 (x*256) c=((x*256+c:ζ))/\(x:ι)*256<18446744073709551616:=by exact⟨aOZ x c (Nat.lt_of_le_of_lt (Nat.le_add_right _ _) h) hc,Yo⟩
variable{v:ζ}
theorem aQH(h:v<18446744073709551616):ê v=sg v:=by
 unfold sg;split
 .unfold ê;omega
 unfold ê;omega
theorem DC(ao)(len cap)g(w)(hg:∀i,g i<256)(hl:len<=8)(hr:Rd w ao len (bF g)):χ μ 283 #[.slice ao len cap] w λe w'=>e=.returned (.int .i64 (sg (vn g len)))/\w'=w:=by
 have l:=β hg;have q:=β hr;clear hg hr;go_in;go_wp2_with fail;go_loopw [3,5,8] (λy _ m z=>∃k:ζ,k<=len/\y=η .u64 (vn g k:ζ)/\m=iY (k:ζ)/\z=w)
  (λ_ _ m _=>len-(Γ m).toNat)
 case atStart=>exact⟨0,Xz _,rfl,rfl,rfl⟩
 case round=>
  obtain⟨k,B,rfl,rfl,rfl⟩:=hrel;have t:=FI (aA l) k;by_cases hin:k<len
  .obtain⟨b,o,rfl,hc⟩:=aA q Yo;have n:=hc k hin;clear hc;unfold bF bV at n;have hs:vn g (k+1)=vn g k*256+g k:=rfl;have d:=FI (aA l) (k+1);have hx:=aA l k;have p:256^(k+1)<=18446744073709551616:=by have:(256:ζ)^(k+1)<=256^8:=Ej Yc Yo;omega
   have s:=β hs;obtain⟨c,j⟩:=wZ (g k);obtain⟨x,a⟩:=wZ (vn g k);rw[<-j] at n hx;rw[hs, <-j, <-a] at d;rw[<-a];have A:=Dz d p;have Y:=β (show vn g (k+1)=x*256+c by rw[hs,a,j]);clear hs t d j a p s;obtain⟨C,D⟩:=aKH A hx;go_wp2_with fail;go_roundw;case rel=>exact⟨k+1,Yo,by rw[aA Y];go_num,Je,trivial⟩
   case measure=>simp[Γ]<;>omega
  .have:k=len:=Yo;subst this;have f:vn g k<18446744073709551616:=by have:(256:ζ)^k<=256^8:=Ej Yc Yo;omega
   obtain⟨x,a⟩:=wZ (vn g k);rw[<-a] at f ⊢;go_wp2_with fail;go_ret;exact⟨by rw[<-aA (β a), <-aA (β (aQH f))];rfl,rfl⟩
theorem J2(w):∃w1,w1=(w.alloc (.cells #[.int .i64 0,.int .i64 0,.int .i64 0,.slice ε 0 0] 79)).alloc (.cells #[.int .i64 0,.int .i64 0,.int .i64 0,.slice ε 0 0] 79)/\υ w1 w.heap.size 0 0 0 (.slice ε 0 0)/\υ w1 (w.heap.size+1) 0 0 0 (.slice ε 0 0)/\Below w.heap.size w w1/\w1.heap.size=w.heap.size+1+1:=by
 refine⟨_,γ,(MgAt.new w 0 0 0 _).below (bU _ _),?_,?_,?_⟩
 .have h:=MgAt.new (w.alloc (ρ #[iY 0,iY 0,iY 0,θ ε 0 0] 79)) 0 0 0 (θ ε 0 0);simp_all
 .exact ((Af _ _).alloc (Xr _) _).alloc (by rw[fA];omega) _
 rw[fA,fA]
theorem VF(ao)(len cap)(w)(h1:220<len):χ μ 98 #[.slice ao len cap] w λe w'=>e=.returned (.tuple #[iB 0 0 0 (.slice ε 0 0),.int .i64 1])/\Below w.heap.size w w':=by obtain⟨a,e1,_,_,k1,_⟩:=J2 w;go_in;go_wp2_with fail;refine Φ (by simp[Ψ,ä,go_sem,iB]) γ ⟨γ,?_⟩;rw[<-aA (β e1)];exact aA (β k1)
theorem SB(ao)(len cap)(w)(h1:len<12):χ μ 98 #[.slice ao len cap] w λe w'=>e=.returned (.tuple #[iB 0 0 0 (.slice ε 0 0),.int .i64 2])/\Below w.heap.size w w':=by obtain⟨a,e1,_,_,k1,_⟩:=J2 w;go_in;go_wp2_with fail;refine Φ (by simp[Ψ,ä,go_sem,iB]) γ ⟨γ,?_⟩;rw[<-aA (β e1)];exact aA (β k1)
theorem VD(ao)(len cap)g(w)(h1:len<=220)(h2:12<=len)(hr:Rd w ao len (bF g))(h3:g 0≠87):χ μ 98 #[.slice ao len cap] w λe w'=>e=.returned (.tuple #[iB 0 0 0 (.slice ε 0 0),.int .i64 2])/\Below w.heap.size w w':=by obtain⟨b,o,rfl,hc⟩:=hr Yo;obtain⟨c,e1,_,_,k1,_⟩:=J2 w;have a:c.cell? ⟨b,o,ε⟩=δ (η .u8 (g 0:ζ)):=aP (hc 0 Yo) k1;rw[e1] at a;have d:(((g 0:ζ):ι)!=87)=true:=Mm;go_in;go_wp2_with fail;refine Φ (by simp[Ψ,ä,go_sem,iB]) γ ⟨γ,?_⟩;rw[<-aA (β e1)];exact aA (β k1)
theorem YU(ao)(len cap)g(w)(hg:∀i,g i<256)(hcap:len<=cap)(h1:len<=220)(h2:12<=len)(hr:Rd w ao len (bF g))(h3:g 0=87)(h4:¬rW g len):χ μ 98 #[.slice ao len cap] w λe w'=>e=.returned (.tuple #[iB 0 0 0 (.slice ε 0 0),.int .i64 5])/\Below w.heap.size w w':=by
 obtain⟨b,o,rfl,hc⟩:=hr Yo;obtain⟨z,e1,c,l,k1,R⟩:=J2 w;have p:z.cell? ⟨b,o,ε⟩=δ (η .u8 87):=Mx;rw[e1] at p;have f:=β c;have d:=β k1;go_in;go_wp2_with fail;rw[<-aA (β e1)];refine (yD (δ ⟨b,o,ε⟩) len cap g _ (aA (β hg)) Yo hcap ((aA (β hr)).below (aA d))).mono ?_;rintro e T ⟨S,n,rfl,a,_,_,j⟩;have c:=(aA f).below j;have l:=(aA (β l)).below j;have m:=β ((aA d).trans (j.mono (aA d).size));have s:n=false:=by cases n;rfl;exact Λ (a.1 γ) h4
 obtain⟨F,I,J,K⟩:=l.cs;obtain⟨A,B,C,D⟩:=c.cs;obtain⟨L,O,P,Q⟩:=c.fs;have f:=β c;go_wp2_with fail;obtain⟨U,q,y,t⟩:=(aA f).put 0 0 0 (θ ε 0 0);rw[<-q];obtain⟨p0,p1,p2,p3⟩:=y.cs;refine Φ (by simp[Ψ,ä,go_sem,iB,p0,p1,p2,p3]) γ ⟨γ,aA (β (aF (aA m) t (Xr _) (aA m).size))⟩
theorem VE(ao)(len cap)g(w)(hg:∀i,g i<256)(hcap:len<=cap)(h1:len<=220)(h2:12<=len)(hr:Rd w ao len (bF g))(h3:g 0=87)(h4:rW g len)(h5:24<g 7):χ μ 98 #[.slice ao len cap] w λe w'=>e=.returned (.tuple #[iB 0 0 0 (.slice ε 0 0),.int .i64 6])/\Below w.heap.size w w':=by obtain⟨b,o,rfl,hc⟩:=hr Yo;obtain⟨D,e1,c,m,k1,C⟩:=J2 w;have s:D.cell? ⟨b,o,ε⟩=δ (η .u8 87):=Mx;rw[e1] at s;have f:=β c;have p:=β m;have d:=β k1;have q:=β C;have n:=β hg;go_in;go_wp2_with fail;rw[<-aA (β e1)];refine (yD (δ ⟨b,o,ε⟩) len cap g _ (aA n) Yo hcap ((aA (β hr)).below (aA d))).mono ?_;rintro e F ⟨Y,X,rfl,a,_,_,j⟩;have c:=(aA f).below j;have m:=(aA p).below j;have l:=β ((aA d).trans (j.mono (aA d).size));have y:=a.2 h4;clear j a f p d q;have S:F.cell? ⟨b,o+7,ε⟩=δ (η .u8 (g 7:ζ)):=aP (aA (β hc) 7 Yo) (aA l);have z:=aA n 7;obtain⟨O,P,Q,R⟩:=m.cs;obtain⟨I,J,K,L⟩:=c.cs;obtain⟨T,U,V,W⟩:=c.fs;have f:=β c;go_wp2_with fail;obtain⟨Z,t,B,A⟩:=(aA f).put 0 0 0 (θ ε 0 0);rw[<-t];obtain⟨p0,p1,p2,p3⟩:=B.cs;refine Φ (by simp[Ψ,ä,go_sem,iB,p0,p1,p2,p3]) γ ⟨γ,aA (β (aF (aA l) A (Xr _) (aA l).size))⟩
theorem SA(ao)(len cap)g(w)(hg:∀i,g i<256)(hcap:len<=cap)(h1:len<=220)(h2:12<=len)(hr:Rd w ao len (bF g))(h3:g 0=87)(h4:rW g len)(h5:g 7<=24)(h6:len≠12+8*g 7):χ μ 98 #[.slice ao len cap] w λe w'=>e=.returned (.tuple #[iB 0 0 0 (.slice ε 0 0),.int .i64 2])/\Below w.heap.size w w':=by obtain⟨b,o,rfl,hc⟩:=hr Yo;obtain⟨D,e1,c,m,k1,C⟩:=J2 w;have t:D.cell? ⟨b,o,ε⟩=δ (η .u8 87):=Mx;rw[e1] at t;have hb:b<w.heap.size:=Gy w ⟨b,o+0,ε⟩ (hc 0 Yo);have E1:=β e1;have f:=β c;have n:=β m;have d:=β k1;have s:=β C;have p:=β hc;have q:=β hr;go_in;go_wp2_with fail;rw[<-aA E1];refine (yD (δ ⟨b,o,ε⟩) len cap g _ (aA (β hg)) Yo hcap ((aA q).below (aA d))).mono ?_;rintro e F ⟨Y,X,rfl,a,_,_,j⟩;have c:=(aA f).below j;have m:=(aA n).below j;have l:=β ((aA d).trans (j.mono (aA d).size));have z:=a.2 h4;clear j a f n d s;have S:F.cell? ⟨b,o+7,ε⟩=δ (η .u8 (g 7:ζ)):=aP (aA p 7 Yo) (aA l);obtain⟨O,P,Q,R⟩:=m.cs;obtain⟨I,J,K,L⟩:=c.cs;obtain⟨T,U,V,W⟩:=c.fs;have f:=β c;go_wp2_with fail;obtain⟨Z,y,B,A⟩:=(aA f).put 0 0 0 (θ ε 0 0);rw[<-y];obtain⟨p0,p1,p2,p3⟩:=B.cs;refine Φ (by simp[Ψ,ä,go_sem,iB,p0,p1,p2,p3]) γ ⟨γ,aA (β (aF (aA l) A (Xr _) (aA l).size))⟩
variable{f:Operand->Value}{o:æ}
theorem vE(x)(ho:o.op=.convert 5 3 x)(hx:f x=bV v)(hv:v<256)(w):(Δ f o).run μ w=.ok (.value (.int .i64 v)) w:=by unfold bV at hx;go_simp;rw[Db];omega
variable{a:á}{v:ι}{w:ψ}
theorem aIG(x)(ho:o.op=.load 3 x)(hx:f x=.pointer (δ a))(hc:w.cell? a=δ (.int .i64 v)):(Δ f o).run μ w=.ok (.value (.int .i64 v)) w:=Yg
variable{ao:â á}
theorem aIH(x)(ho:o.op=.load 72 x){n c}(hx:f x=.pointer (δ a))(hc:w.cell? a=δ (.slice ao n c)):(Δ f o).run μ w=.ok (.value (.slice ao n c)) w:=Yg
variable{b:ζ}
theorem X7(x)(i)(ho:o.op=.fieldAddr 79 x i)(hx:f x=.pointer (δ ⟨b,0,ε⟩))(hi:i<4)(w):(Δ f o).run μ w=.ok (.value (.pointer (δ ⟨b,i,ε⟩))) w:=by have:i=0\/i=1\/i=2\/i=3:=Yo;rcases this with rfl|rfl|rfl|rfl<;>go_simp
theorem aLD(x y)(ho:o.op=.binOp .mul 3 x y 3){u}(hx:f x=.int .i64 u)(hy:f y=.int .i64 v)(h1: -9223372036854775808<=u*v)(h2:u*v<=9223372036854775807)(w):(Δ f o).run μ w=.ok (.value (.int .i64 (u*v))) w:=by go_simp;rw[Db];omega
theorem aLe(x y)(ho:o.op=.binOp .add 3 x y 3){u}(hx:f x=.int .i64 u)(hy:f y=.int .i64 v)(h1: -9223372036854775808<=u+v)(h2:u+v<=9223372036854775807)(w):(Δ f o).run μ w=.ok (.value (.int .i64 (u+v))) w:=by go_simp;rw[Db];omega
variable{K:Θ->ψ->Prop}{Q:Exit->Θ->ψ->Prop}{a:Θ}
theorem aJo(w)(x y)(ho:o.op=.store 3 x y){ad}(hx:a.eval x=.pointer (δ ad))(hy:a.eval y=.int .i64 v){u}(hc:w.cell? ad=δ u)(hf:w.frozen? ad=false)(hd:o.dst=ε)(h:K a (w.setCell ad (.int .i64 v))):WpI μ o a w K Q:=by refine⟨?_⟩;unfold å Δ;rw[ho];dsimp only;rw[hx,hy];go_simp;exact h
theorem aDy(x y)(ho:o.op=.build 79 #[(0,x),(1,y)]){u}(hx:f x=.int .i64 u)(hy:f y=.int .i64 v)(w):(Δ f o).run μ w=.ok (.value (iB u v 0 (.slice ε 0 0))) w:=by go_simp;rfl
theorem KC(w)(ho:o.op=.alloc 79)(h:∀w',υ w' w.heap.size 0 0 0 (.slice ε 0 0)->Below w.heap.size w w'->w'.heap.size=w.heap.size+1->K (a.put o.dst (.pointer (δ ⟨w.heap.size,0,ε⟩))) w'):WpI μ o a w K Q:=by refine⟨?_⟩;go_simp;exact (h _ (MgAt.new w 0 0 0 (θ ε 0 0)) (bU _ _) (fA _ _))
variable{vo:â á}
theorem aJp(w)(x y)(ho:o.op=.store 79 x y){k1 f1 r1 k f r}{v1}{vn vc}(hx:a.eval x=.pointer (δ ⟨b,0,ε⟩))(hy:a.eval y=iB k f r (.slice vo vn vc))(hm:υ w b k1 f1 r1 v1)(hd:o.dst=ε)(h:∀w',υ w' b k f r (.slice vo vn vc)->Kept b w w'->K a w'):WpI μ o a w K Q:=by refine⟨?_⟩;obtain⟨j,l,n,p⟩:=hm.cs;obtain⟨q,f1,s,t⟩:=hm.fs;obtain⟨w',e,m,d⟩:=hm.put k f r (θ vo vn vc);have c:=h w' m d;rw[e] at c;unfold iB at hy;unfold å Δ;rw[ho];dsimp only;rw[hx,hy];go_simp;exact c
def Cb2(b p q x y:ζ)(w:ψ):Prop:=w.cell? ⟨b,p,ε⟩=δ (bV x)/\w.cell? ⟨b,q,ε⟩=δ (bV y)
theorem Cb2.below{p q x y}{w'}(h:Cb2 b p q x y w)(k:Below w.heap.size w w'):Cb2 b p q x y w':=⟨aP h.1 k,aP h.2 k⟩
theorem Cb2.kept{p q x y z}{w'}(h:Cb2 b p q x y w)(k:Kept z w w')(hz:b≠z):Cb2 b p q x y w':=⟨AC h.1 k hz,AC h.2 k hz⟩
def Cmb(m b p:ζ)(x:ι)(y:ζ)(w:ψ):Prop:=w.cell? ⟨m,2,ε⟩=δ (η κ x)/\w.cell? ⟨b,p,ε⟩=δ (bV y)
theorem aPN(v:ζ)(h:v<18446744073709551616):IntKind.i64.wrap v=sg v:=by rw[IntKind.wrap_i64];unfold sg;split<;>omega
theorem YT(ao)(len cap)g(w)(hg:∀i,g i<256)(hcap:len<=cap)(h1:len<=220)(h2:12<=len)(hr:Rd w ao len (bF g))(h3:g 0=87)(h4:rW g len)(h5:g 7<=24)(h6:len=12+8*g 7):χ μ 98 #[.slice ao len cap] w λe w'=>∃(E:ι) (v:Value),E=σ (g 1) (g 2) (dR g) (g 7)/\e=.returned (.tuple #[iB (dN E (g 1)) (dN E (g 2)) (dN E (dR g)) v,.int .i64 E])/\w'.ownsRow w.heap.size 3 1 v (dN E (g 7)) (ο (iF (dV g)) (dN E (g 7)))/\Below w.heap.size w w':=by
 have H6:=β h6;clear h6;obtain⟨b,o,rfl,hc⟩:=hr Yo;obtain⟨w1,e1,mA,mB,k1,s1⟩:=J2 w;have c0:w1.cell? ⟨b,o,ε⟩=δ (η .u8 87):=by have:=aP (hc 0 Yo) k1;rw[show bF g 0=η .u8 87 by unfold bF bV;rw[h3];rfl] at this;exact this
 rw[e1] at c0;have hb:b<w.heap.size:=Gy w ⟨b,o+0,ε⟩ (hc 0 Yo);have E1:=β e1;have MA:=β mA;have MB:=β mB;have K1:=β k1;have S1:=β s1;have HC:=β hc;have HR:=β hr;have HG:=β hg;clear e1 mA mB k1 s1 hc hr hg;go_in;go_wp2_with fail;rw[<-aA E1];clear c0;refine (yD (δ ⟨b,o,ε⟩) len cap g _ (aA HG) Yo hcap ((aA HR).below (aA K1))).mono ?_;rintro e w2 ⟨v2,ok,rfl,iff2,_,_,k2⟩;have mA:=(aA MA).below k2;have mB:=(aA MB).below k2;have K2:=β (show Below w.heap.size w w2 from (aA K1).trans (k2.mono (aA K1).size));have S2:=β (show w.heap.size+1+1<=w2.heap.size by have:=aA S1;have:=k2.size;omega);have hok:ok=true:=iff2.2 h4;subst hok;clear k2 iff2 MA MB K1 S1;have c7:w2.cell? ⟨b,o+7,ε⟩=δ (η .u8 (g 7:ζ)):=aP (aA HC 7 Yo) (aA K2);have hx7:g 7<256:=aA HG 7;obtain⟨n,en⟩:∃n,g 7=n:=⟨_,rfl⟩;have EN:=β en;have h6:=aA H6;rw[en] at c7 h5 h6 hx7;have t6:(((len:ζ):ι)!=12+8*(n:ι))=false:=by rw[h6];simp
 have H7:=β h6;clear h6 H6;have hS0:Cb2 b (o+1) (o+2) (g 1) (g 2) w2.drew:=⟨aP (w':=w2.drew) (aA HC 1 Yo) (aY (aA K2)),aP (w':=w2.drew) (aA HC 2 Yo) (aY (aA K2))⟩;obtain⟨x1,ex1⟩:∃x,g 1=x:=⟨_,rfl⟩;obtain⟨x2,ex2⟩:∃x,g 2=x:=⟨_,rfl⟩;have EX1:=β ex1;have EX2:=β ex2;rw[ex1,ex2] at hS0;have HS:=β hS0;have Y1:=β (show x1<256 by rw[<-ex1];exact aA HG 1);have Y2:=β (show x2<256 by rw[<-ex2];exact aA HG 2);have MA:=β mA;have MB:=β mB;clear mA mB en ex1 ex2 HR h3 h4 hS0;go_wp2_with fail;clear c7 t6;refine ë (λa0 a' w'=>(υ w' w2.heap.size (x1:ζ) (x2:ζ) 0 (θ ε 0 0)/\Below w2.heap.size w2 w'/\w2.heap.size+1<=w'.heap.size)/\a'=((((((((((a0.put (δ 51) (θ (δ ⟨b,o,ε⟩) len cap)).put (δ 52) (φ (δ ⟨b,o+1,ε⟩))).put (δ 53) (bV x1)).put (δ 54) (η κ (x1:ζ))).put (δ 55) (θ (δ ⟨b,o,ε⟩) len cap)).put (δ 56) (φ (δ ⟨b,o+2,ε⟩))).put (δ 57) (bV x2)).put (δ 58) (η κ (x2:ζ))).put (δ 59) (iB (x1:ζ) (x2:ζ) 0 (θ ε 0 0))).put (δ 8) (φ (δ ⟨w2.heap.size,0,ε⟩)))) ?reg ?rest;case reg=>
  intro A eA;have b0:A.eval (.tmp 0)=θ (δ ⟨b,o,ε⟩) len cap:=by rw[eA];rfl
  have hs:109<=A.tmps.size:=by rw[eA];exact Xu γ
  have hS:=aA HS;clear eA;refine aKV (S:=Cb2 b (o+1) (o+2) x1 x2) (.rd 0 (.rd 1 (.rd 2 (.rd 3 (.rd 4 (.rd 5 (.rd 6 (.rd 7 (.rd 8 (.go 9 (.go 10 .fin))))))))))) [] Yl Yl ?_;refine π (v:=(θ (δ ⟨b,o,ε⟩) len cap)) γ Yn Yw hS (λwx _=>fC (.tmp 0) γ b0 wx) ?_;show ν _ _ _ _ _ _ (ξ _ (δ 51) _) _;refine π (v:=(φ (δ ⟨b,o+1,ε⟩))) γ Yn Yw hS (λwx _=>nM (i:=1) (.tmp 51) (.const (η κ 1)) γ Et γ Yo wx) ?_;show ν _ _ _ _ _ _ (ξ _ (δ 52) _) _;refine π (v:=(bV x1)) γ Yn Yw hS (λwx hx=>pO (.tmp 52) γ Es hx.1) ?_;show ν _ _ _ _ _ _ (ξ _ (δ 53) _) _;refine π (v:=(η κ (x1:ζ))) γ Yn Yw hS (λwx _=>vE (.tmp 53) γ Es (aA Y1) wx) ?_;show ν _ _ _ _ _ _ (ξ _ (δ 54) _) _;refine π (v:=(θ (δ ⟨b,o,ε⟩) len cap)) γ Yn Yw hS (λwx _=>fC (.tmp 0) γ (Ex (Ex (Ex (Ex b0)))) wx) ?_;show ν _ _ _ _ _ _ (ξ _ (δ 55) _) _;refine π (v:=(φ (δ ⟨b,o+2,ε⟩))) γ Yn Yw hS (λwx _=>nM (i:=2) (.tmp 55) (.const (η κ 2)) γ Es γ Yo wx) ?_;show ν _ _ _ _ _ _ (ξ _ (δ 56) _) _;refine π (v:=(bV x2)) γ Yn Yw hS (λwx hx=>pO (.tmp 56) γ Es hx.2) ?_;show ν _ _ _ _ _ _ (ξ _ (δ 57) _) _;refine π (v:=(η κ (x2:ζ))) γ Yn Yw hS (λwx _=>vE (.tmp 57) γ Es (aA Y2) wx) ?_;show ν _ _ _ _ _ _ (ξ _ (δ 58) _) _;refine π (v:=(iB (x1:ζ) (x2:ζ) 0 (θ ε 0 0))) γ Yn Yw hS (λwx _=>aDy (.tmp 54) (.tmp 58) γ (Ex (Ex (Ex (Ex Es)))) Es wx) ?_;show ν _ _ _ _ _ _ (ξ _ (δ 59) _) _;refine Ω γ Yw (λK hK=>?_);refine KC _ γ ?_;intro w3 m3 k3 s3;have hS3:=hS.below k3;refine hK _ _ (λ_ _=>hS3) ?_;clear hK K;show ν _ _ _ _ _ _ (ξ _ (δ 8) _) _;refine Ω γ Yw (λK hK=>?_);refine aJp _ (.tmp 8) (.tmp 59) γ Es (Ex Es) m3 γ ?_;intro w4 m4 k4;have hbw:b≠w2.drew.heap.size:=by have:=aA S2;show b≠w2.heap.size;omega
  have hS4:=hS3.kept k4 hbw;refine hK _ _ (λ_ _=>hS4) ?_;clear hK K;refine BK ?_;exact⟨γ,⟨m4,aF ((aY (Af _ _)).trans k3) k4 (Xr _) (by rw[s3];exact Nat.le_succ _),by have:=k4.size;have e:w2.drew.heap.size=w2.heap.size:=rfl;omega⟩,rfl⟩
 case rest=>
  rintro a' w3 ⟨⟨m3,k3,s3⟩,rfl⟩;have M3:=β m3;have S3:=β s3;have K3:=β (show Below w.heap.size w w3 from (aA K2).trans (k3.mono (aA K2).size));have A3:=β ((aA MA).below k3);have B3:=β ((aA MB).below k3);clear m3 k3 s3 MA MB HS;go_frame;go_wp2_with fail;have SZ:=β (aA S2);obtain⟨M,eM⟩:∃M,w2.heap.size=M:=⟨_,rfl⟩;rw[eM] at SZ M3 S3 ⊢;clear K2 S2 eM;go_loopw [9] (λks wr=>∃k:ζ,ks=η κ (3+k:ζ)/\k<=4/\υ wr M (x1:ζ) (x2:ζ) (vn (λi=>g (3+i)) k:ζ) (θ ε 0 0)/\υ wr w.heap.size 0 0 0 (θ ε 0 0)/\υ wr (w.heap.size+1) 0 0 0 (θ ε 0 0)/\M+1<=wr.heap.size/\Below w.heap.size w wr)
   (λks _=>7-(Γ ks).toNat)
  case atStart=>exact⟨0,rfl,Yo,aA M3,aA A3,aA B3,aA S3,aA K3⟩
  case round=>
   obtain⟨k,rfl,hk,mM,mA,mB,hs,hK⟩:=hrel
   rename ψ=>wr;have RM:=β mM;have RA:=β mA;have RB:=β mB;have RS:=β hs;have RK:=β hK;clear mM mA mB hs hK A3 B3 M3 S3 K3;by_cases hk4:k<4
   .have hu:vn (λi=>g (3+i)) k<16777216:=Dz (FI (λi=>aA HG _) k) (by have:256^k<=256^3:=Ej Yo Yo;exact this);have hy:=aA HG (3+k);have hS0:Cmb M b (o+(3+k)) (vn (λi=>g (3+i)) k:ζ) (g (3+k)) wr.drew:=⟨(aA RM).cell2,aP (w':=wr.drew) (aA HC (3+k) (by have:=aA H7;omega)) (aY (aA RK))⟩;have EV:=β (show vn (λi=>g (3+i)) (k+1)=vn (λi=>g (3+i)) k*256+g (3+k) from rfl);obtain⟨u,eu⟩:∃u,vn (λi=>g (3+i)) k=u:=⟨_,rfl⟩;obtain⟨y,ey⟩:∃y,g (3+k)=y:=⟨_,rfl⟩;rw[eu,ey] at hS0 EV;rw[eu] at hu RM;rw[ey] at hy;have HS:=β hS0;clear hS0 eu ey;have hk':((3+k:ζ):ι)<7:=Yo;go_wp2_with fail;refine ë (λa0 a' w'=>(υ w' M (x1:ζ) (x2:ζ) ((u:ζ)*256+(y:ζ)) (θ ε 0 0)/\Kept M wr w')/\a'=((((((((((a0.put (δ 64) (φ (δ ⟨M,2,ε⟩))).put (δ 65) (η κ (u:ζ))).put (δ 66) (η κ ((u:ζ)*256))).put (δ 67) (θ (δ ⟨b,o,ε⟩) len cap)).put (δ 68) (η κ ((3+k:ζ):ι))).put (δ 69) (φ (δ ⟨b,o+(3+k),ε⟩))).put (δ 70) (bV y)).put (δ 71) (η κ (y:ζ))).put (δ 72) (η κ ((u:ζ)*256+(y:ζ)))).put (δ 73) (φ (δ ⟨M,2,ε⟩)))) ?reg2 ?rest2;case reg2=>
     intro A eA;have b0:A.eval (.tmp 0)=θ (δ ⟨b,o,ε⟩) len cap:=by rw[eA];rfl
     have b8:A.eval (.tmp 8)=φ (δ ⟨M,0,ε⟩):=by rw[eA];rfl
     have b9:A.eval (.tmp 9)=η κ ((3+k:ζ):ι):=by rw[eA];rfl
     have hs:109<=A.tmps.size:=by rw[eA];exact Xu γ
     have hS:=aA HS;clear eA;refine aKV (S:=Cmb M b (o+(3+k)) (u:ζ) y) (.rd 0 (.rd 1 (.rd 2 (.rd 3 (.rd 4 (.rd 5 (.rd 6 (.rd 7 (.rd 8 (.rd 9 (.go 10 .fin))))))))))) [10] Yl Yl ?_;refine π (v:=(φ (δ ⟨M,2,ε⟩))) γ Yn Yw hS (λwx _=>X7 (.tmp 8) 2 γ b8 Yo wx) ?_;show ν _ _ _ _ _ _ (ξ _ (δ 64) _) _;refine π (v:=(η κ (u:ζ))) γ Yn Yw hS (λwx hx=>aIG (.tmp 64) γ Et hx.1) ?_;show ν _ _ _ _ _ _ (ξ _ (δ 65) _) _;refine π (v:=(η κ ((u:ζ)*256))) γ Yn Yw hS (λwx _=>aLD (.tmp 65) (.const (η κ 256)) γ Es γ Yo Yo wx) ?_;show ν _ _ _ _ _ _ (ξ _ (δ 66) _) _;refine π (v:=(θ (δ ⟨b,o,ε⟩) len cap)) γ Yn Yw hS (λwx _=>fC (.tmp 0) γ (Ex (Ex (Ex b0))) wx) ?_;show ν _ _ _ _ _ _ (ξ _ (δ 67) _) _;refine π (v:=(η κ ((3+k:ζ):ι))) γ Yn Yw hS (λwx _=>fC (.tmp 9) γ (Ex (Ex (Ex (Ex b9)))) wx) ?_;show ν _ _ _ _ _ _ (ξ _ (δ 68) _) _;refine π (v:=(φ (δ ⟨b,o+(3+k),ε⟩))) γ Yn Yw hS (λwx _=>nM (.tmp 67) (.tmp 68) γ (Ex Es) Es (by have:=aA H7;omega) wx) ?_;show ν _ _ _ _ _ _ (ξ _ (δ 69) _) _;refine π (v:=(bV y)) γ Yn Yw hS (λwx hx=>pO (.tmp 69) γ Es hx.2) ?_;show ν _ _ _ _ _ _ (ξ _ (δ 70) _) _;refine π (v:=(η κ (y:ζ))) γ Yn Yw hS (λwx _=>vE (.tmp 70) γ Es hy wx) ?_;show ν _ _ _ _ _ _ (ξ _ (δ 71) _) _;refine π (v:=(η κ ((u:ζ)*256+(y:ζ)))) γ Yn Yw hS (λwx _=>aLe (.tmp 66) (.tmp 71) γ (Ex (Ex (Ex (Ex (Ex Es))))) Es Yo Yo wx) ?_;show ν _ _ _ _ _ _ (ξ _ (δ 72) _) _;refine π (v:=(φ (δ ⟨M,2,ε⟩))) γ Yn Yw hS (λwx _=>X7 (.tmp 8) 2 γ (Ex (Ex (Ex (Ex (Ex (Ex (Ex (Ex (Ex b8))))))))) Yo wx) ?_;show ν _ _ _ _ _ _ (ξ _ (δ 73) _) _;refine Ω γ Yw (λK hK=>?_);obtain⟨w4,e4,m4,k4⟩:=(aA RM).put2 ((u:ζ)*256+(y:ζ));have f4:wr.frozen? ⟨M,2,ε⟩=false:=(aA RM).free 2;refine aJo _ (.tmp 73) (.tmp 72) γ Es (Ex Es) (show wr.drew.cell? ⟨M,2,ε⟩=δ _ from hS.1) f4 γ ?_;refine hK _ _ (λh=>Λ h Yc) ?_;clear hK K;refine BK ?_;refine⟨γ,⟨?_,?_⟩,γ⟩
     .obtain⟨w5,e5,m5,_⟩:=(show υ wr.drew M (x1:ζ) (x2:ζ) (u:ζ) (θ ε 0 0) from aA RM).put2 ((u:ζ)*256+(y:ζ));rw[<-e5];exact m5
     .exact (oZ wr).trans (bN wr.drew M 2 _) (Aa γ)
    case rest2=>
     rintro a' w4 ⟨⟨m4,k4⟩,rfl⟩;have M4:=β (show υ w4 M (x1:ζ) (x2:ζ) (vn (λi=>g (3+i)) (k+1):ζ) (θ ε 0 0) by rw[aA EV];exact m4);have A4:=β ((aA RA).kept k4 (by have:=aA SZ;omega));have B4:=β ((aA RB).kept k4 (by have:=aA SZ;omega));have S4:=β (show M+1<=w4.heap.size by have:=aA RS;have:=k4.size;omega);have K4:=β (aF (aA RK) k4 (by have:=aA SZ;omega) (aA RK).size);clear m4 k4 RM RA RB RS RK HS EV;go_frame;go_wp2_with fail;go_roundw;case rel=>exact⟨k+1,by go_num,Yo,aA M4,aA A4,aA B4,aA S4,aA K4⟩
     case measure=>simp[Γ]<;>omega
   .have e4:k=4:=Yo;subst e4;have RM2:=β (show υ wr M (x1:ζ) (x2:ζ) (dR g:ζ) (θ ε 0 0) from aA RM);clear RM;rw[show ((3+4:ζ):ι)=7 from rfl];go_wp2_with fail;go_loopw [10,11,12] (λis _ _ wr=>∃(i c:ζ) (at_:â á),is=η κ i/\i<=n/\υ wr M (x1:ζ) (x2:ζ) (dR g:ζ) (θ at_ i c)/\wr.ownsRow (M+1) 3 1 (θ at_ i c) i (ο (iF (dV g)) i)/\υ wr w.heap.size 0 0 0 (θ ε 0 0)/\υ wr (w.heap.size+1) 0 0 0 (θ ε 0 0)/\M+1<=wr.heap.size/\Below w.heap.size w wr)
     (λis _ _ _=>n-(Γ is).toNat)
    case atStart=>exact⟨0,0,ε,rfl,Xz _,aA RM2,Am _ _ _ _,aA RA,aA RB,aA RS,aA RK⟩
    case round=>
     obtain⟨i,c,at_,rfl,hi,mM,ho,mA,mB,hs,hK⟩:=hrel
     rename ψ=>wq;have c3:=mM.cell3;have f3:=mM.free 3;have QM:=β mM;have QO:=β ho;have QA:=β mA;have QB:=β mB;have QS:=β hs;have QK:=β hK;clear mM ho mA mB hs hK RM2 RA RB RS RK;by_cases hin:i<n
     .go_wp2_with fail;go_loopw [11,12] (λvs ks wx=>wq=wx/\∃k:ζ,ks=η κ k/\k<=8/\vs=η .u64 (vn (λk=>g (8+8*i+k)) k:ζ)) (λ_ ks _=>8-(Γ ks).toNat);case atStart=>exact⟨rfl,0,rfl,Yo,rfl⟩
      case round=>
       obtain⟨rfl,k,rfl,hk,rfl⟩:=hrel;by_cases hk8:k<8
       .have hv:vn (λk=>g (8+8*i+k)) k<72057594037927936:=Dz (FI (λi=>aA HG _) k) (by have:256^k<=256^7:=Ej Yo Yo;exact this);have hy:=aA HG (8+8*i+k);have cy:wq.cell? ⟨b,o+(8+8*i+k),ε⟩=δ (η .u8 (g (8+8*i+k):ζ)):=aP (aA HC (8+8*i+k) (by have:=aA H7;omega)) (aA QK);have EV:=β (show vn (λk=>g (8+8*i+k)) (k+1)=vn (λk=>g (8+8*i+k)) k*256+g (8+8*i+k) from rfl);obtain⟨v,ev⟩:∃v,vn (λk=>g (8+8*i+k)) k=v:=⟨_,rfl⟩;obtain⟨y,ey⟩:∃y,g (8+8*i+k)=y:=⟨_,rfl⟩;rw[ev] at hv EV ⊢;rw[ey] at hy EV cy;clear ev ey;have hp:8+8*i+k<len:=by have:=aA H7;omega
        go_wp2_with fail;go_roundw;case rel=>exact⟨trivial,k+1,by go_num,Yo,by rw[aA EV];go_num⟩
        case measure=>simp[Γ]<;>omega
       .have e8:k=8:=Yo;subst e8;have hv:vn (λk=>g (8+8*i+k)) 8<18446744073709551616:=Nat.lt_of_lt_of_eq (FI (λi=>aA HG _) 8) Yc;have EV:=β (show sg (vn (λk=>g (8+8*i+k)) 8)=dV g i from rfl);obtain⟨v,ev⟩:∃v,vn (λk=>g (8+8*i+k)) 8=v:=⟨_,rfl⟩;rw[ev] at hv EV ⊢;clear ev;have wv:=aPN v hv;rw[aA EV] at wv;obtain⟨x,ex⟩:∃x,dV g i=x:=⟨_,rfl⟩;rw[ex] at wv;have EX:=β ex;have AL:=bU wq (ρ #[η κ x] 3);have VL:=Vh.new wq 3 #[η κ x] (λ_=>η κ x) (by show 1<=é;decide) (λi hi=>by
         have:i=0:=by simp at hi;omega
         subst this;rfl)
        have SL:=β (show Sr (wq.alloc (ρ #[η κ x] 3)) (δ ⟨wq.heap.size,0,ε⟩) 1 1 (λ_=>η κ x) from Ab ⟨_,γ,λi hi=>by rw[Dq,Ah];exact VL.cell hi⟩);have OL:=β (oF (aA QO) AL);have ZL:=β (show M+1<=(wq.alloc (ρ #[η κ x] 3)).heap.size by have:=aA QS;have:=AL.size;omega);have ML:=β ((aA QM).below AL);have PA:=β ((aA QA).below AL);have PB:=β ((aA QB).below AL);have KL:=β ((aA QK).trans (AL.mono (aA QK).size));clear AL VL ex EV QM QO QA QB QS QK;go_wp2_with (at_builtin;refine wpList_joinI _ γ _ _ γ (M+1) (aA ZL) _ i (ο (iF (dV g)) i) γ (aA OL) (δ ⟨wq.heap.size,0,ε⟩) 1 1 (λ_=>η κ x) γ (aA SL) (λi _=>rfl) Yo ?_);intro v5 w5 o5 k5;rw[aIh (show iF (dV g) i=_ by unfold iF;rw[aA EX])] at o5;obtain⟨a5,c5,rfl⟩:=jK o5;have m5:=(aA ML).under k5 Yo;clear c3 f3;have c3:=m5.cell3;have f3:=m5.free 3;have hsz:=aA SZ;obtain⟨w6,e6,m6,k6⟩:=m5.put3 (θ a5 (i+1) c5);have z5:=Ap (aA ZL) k5.size;have K5:=(aA KL).trans (k5.mono Yo);have M6:=β m6;have O6:=β (wG o5 k6 Yo);have A6:=β (((aA PA).under k5 Yo).kept k6 Yo);have B6:=β (((aA PB).under k5 Yo).kept k6 Yo);have Z6:=β (Ap z5 k6.size);have K6:=β (aF K5 k6 Yo Yo);have E6:=β e6;clear o5 k5 m5 e6 m6 k6 z5 K5 ML PA PB ZL KL OL SL;go_wp2_with fail;rw[<-aA E6];go_roundw;case rel=>exact⟨i+1,c5,a5,by go_num,Yo,aA M6,aA O6,aA A6,aA B6,aA Z6,aA K6⟩
        case measure=>simp[Γ]<;>omega
     .have e7:i=n:=Yo;subst e7;clear c3 f3;have mM:=aA QM;obtain⟨c0,c1,c2,c3⟩:=mM.cs;clear mM;go_wp2_with fail;refine (M0 (x1:ζ) (x2:ζ) (dR g:ζ) at_ i c _).mono ?_;rintro e w5 ⟨rfl,k5⟩;clear c0 c1 c2 c3;have mA:=(aA QA).below k5;obtain⟨a0,a1,a2,a3⟩:=mA.cs;obtain⟨f0,f1,f2,f3⟩:=mA.fs;have hsz:=aA SZ;have K5:=β ((aA QK).trans (k5.mono (aA QK).size));by_cases hE:σ (x1:ζ) (x2:ζ) (dR g:ζ) i=0
      .have EE:=β hE;rw[hE];have mM:=(aA QM).below k5;obtain⟨c0,c1,c2,c3⟩:=mM.cs;obtain⟨w6,e6,m6,k6⟩:=mA.put (x1:ζ) (x2:ζ) (dR g:ζ) (θ at_ i c);obtain⟨p0,p1,p2,p3⟩:=m6.cs;have O6:=β (wG (oF (aA QO) k5) k6 Yo);have K6:=β (aF (aA K5) k6 (Xr _) (aA K5).size);have E6:=β e6;clear k5 mA mM e6 m6 k6 hE;go_wp2_with fail;rw[<-aA E6];clear c0 c1 c2 c3 a0 a1 a2 a3 f0 f1 f2 f3;refine Φ (v:=è #[iB (x1:ζ) (x2:ζ) (dR g:ζ) (θ at_ i c),η κ 0]) (by simp[Ψ,ä,go_sem,iB,p0,p1,p2,p3]) γ ⟨0,θ at_ i c,?_,?_,?_,aA K6⟩
       .rw[aA EX1,aA EX2,aA EN,aA EE]
       .rw[aA EX1,aA EX2];rfl
       rw[show dN 0 (g 7)=i from aA EN];exact xS (aA O6) Yo
      obtain⟨x,ex⟩:∃x,σ (x1:ζ) (x2:ζ) (dR g:ζ) i=x:=⟨_,rfl⟩;have EE:=β ex;rw[ex] at hE ⊢;have tx:(x !=0)=true:=by simp[hE]
      have mB:=(aA QB).below k5;obtain⟨c0,c1,c2,c3⟩:=mB.cs;obtain⟨w6,e6,m6,k6⟩:=mA.put 0 0 0 (θ ε 0 0);obtain⟨p0,p1,p2,p3⟩:=m6.cs;have K6:=β (aF (aA K5) k6 (Xr _) (aA K5).size);have E6:=β e6;clear k5 mA mB e6 m6 k6 ex;go_wp2_with fail;rw[<-aA E6];clear c0 c1 c2 c3 a0 a1 a2 a3 f0 f1 f2 f3;have HE:=β hE;clear hE tx;refine Φ (v:=è #[iB 0 0 0 (θ ε 0 0),η κ x]) (by simp[Ψ,ä,go_sem,iB,p0,p1,p2,p3]) γ ⟨x,θ ε 0 0,?_,?_,?_,aA K6⟩
      .rw[aA EX1,aA EX2,aA EN,aA EE]
      .unfold dN;rw[τ (aA HE),τ (aA HE),τ (aA HE)];rfl
      unfold dN;rw[τ (aA HE)];exact Am _ _ _ _
theorem JJ:aJu 98:=by
 intro j a c g w m q d hs;have hr:=hs.rd;have z:∀E:ι,E≠0->iB (dN E (g 1):ζ) (dN E (g 2):ζ) (dN E (dR g):ζ) (θ ε 0 0)=iB 0 0 0 (θ ε 0 0):=λE h=>by unfold dN;rw[τ h,τ h,τ h];rfl
 have y:∀(E:ι) (w':ψ),E≠0->w'.ownsRow w.heap.size 3 1 (θ ε 0 0) (dN E (g 7)) (ο (iF (dV g)) (dN E (g 7))):=λE w' h=>by unfold dN;rw[τ h];exact Am _ _ _ _
 by_cases h1:220<a
 .refine (VF j a c w h1).mono ?_;rintro e w' ⟨rfl,k⟩;exact⟨1,_,Aa ⟨h1,γ⟩,by rw[z 1 Yc],y 1 w' Yc,k⟩
 by_cases h2:a<12
 .refine (SB j a c w h2).mono ?_;rintro e w' ⟨rfl,k⟩;exact⟨2,_,Ab (Aa ⟨Yo,Aa h2,γ⟩),by rw[z 2 Yc],y 2 w' Yc,k⟩
 by_cases h3:g 0=87
 .by_cases f:rW g a
  .by_cases n:24<g 7
   .refine (VE j a c g w m d Yo Yo hr h3 f n).mono ?_;rintro e w' ⟨rfl,k⟩;exact⟨6,_,Ab (Ab ⟨Yo,Yo,h3,Ab ⟨f,Aa ⟨n,γ⟩⟩⟩),by rw[z 6 Yc],y 6 w' Yc,k⟩
   by_cases l:a=12+8*g 7
   .refine (YT j a c g w m d Yo Yo hr h3 f Yo l).mono ?_;rintro e w' ⟨E,v,p,rfl,o,k⟩;exact⟨E,v,Ab (Ab ⟨Yo,Yo,h3,Ab ⟨f,Ab ⟨Yo,Ab ⟨l,p⟩⟩⟩⟩),γ,o,k⟩
   refine (SA j a c g w m d Yo Yo hr h3 f Yo l).mono ?_;rintro e w' ⟨rfl,k⟩;exact⟨2,_,Ab (Ab ⟨Yo,Yo,h3,Ab ⟨f,Ab ⟨Yo,Aa ⟨l,γ⟩⟩⟩⟩),by rw[z 2 Yc],y 2 w' Yc,k⟩
  refine (YU j a c g w m d Yo Yo hr h3 f).mono ?_;rintro e w' ⟨rfl,k⟩;exact⟨5,_,Ab (Ab ⟨Yo,Yo,h3,Aa ⟨f,γ⟩⟩),by rw[z 5 Yc],y 5 w' Yc,k⟩
 refine (VD j a c g w Yo Yo hr h3).mono ?_;rintro e w' ⟨rfl,k⟩;exact⟨2,_,Ab (Aa ⟨Yo,Ab h3,γ⟩),by rw[z 2 Yc],y 2 w' Yc,k⟩
end
section
open Go.RowKit Go.Shelf
attribute [local go_sem] Oper.semAt_some
theorem E9(v)(w):(callFunc 283 #[v]).run μ w=.ok (.enter 283 #[v]) w:=Yh
variable{b n:ζ}{f:Operand->Value}{o:æ}
theorem aLA(x y z)(ho:o.op=.slice 65 x (δ y) (δ z) ε){off c l m:ζ}(hx:f x=.slice (δ ⟨b,off,ε⟩) n c)(hy:f y=.int .i64 l)(hz:f z=.int .i64 m)(h1:l<m)(h2:m<=c)(w):(Δ f o).run μ w=.ok (.value (.slice (δ ⟨b,off+l,ε⟩) (m-l) (c-l))) w:=by go_simp;grind
theorem MM(x y z)(ho:o.op=.build 79 #[(0,x),(1,y),(2,z)]){u v t}(hx:f x=.int .i64 u)(hy:f y=.int .i64 v)(hz:f z=.int .i64 t)(w):(Δ f o).run μ w=.ok (.value (iB u v t (.slice ε 0 0))) w:=by go_simp;rfl
variable{K:Θ->ψ->Prop}{Q:Exit->Θ->ψ->Prop}{a:Θ}
theorem aQF(w)(x)(ho:o.op=.buildSlice 72 1 #[(0,x)]){v}(hx:a.eval x=.int .i64 v)(h:K (a.put o.dst (.slice (δ ⟨w.heap.size,0,ε⟩) 1 1)) (w.alloc (.cells #[.int .i64 v] 3))):WpI μ o a w K Q:=by
 have e:(Δ a.eval o).run uC w=.ok (.value (AZ w.heap.size 1 1)) (w.alloc (ρ #[iY v] 3)):=by generalize a.eval=f at hx;go_simp
 refine⟨?_⟩;unfold å;rw[e];exact h
theorem aML(w)(s x)(ho:o.op=.call { callee:=.builtin .append,args:=#[s,x],argTypes:=#[72,72] })(B)(hB:B<=w.heap.size)(v)(n)(xs)(hs:a.eval s=v)(hown:w.ownsRow B 3 1 v n xs)(y)(u)(hx:a.eval x=.slice (δ y) 1 1)(hc:w.cell? y=δ (.int .i64 u))(hl:(n+1)*8<=140737488355328)(h:∀v' w',w'.ownsRow B 3 1 v' (n+1) (xs++[.int .i64 u])->w.grownBy w' v.ownBlock->K (a.put o.dst v') w'):WpI μ o a w K Q:=by
 obtain⟨q,hi,f,l,m⟩:=Ef UR;refine⟨wp_append_own w s x 72 ho B 3 q (iY 0) 1 8 Fu hi f l m γ Yc v n xs hs hown y 1 1 [iY u] hx γ ?_ (by simp[Value.oneCell']) Ym Yo hB (λv' z d c _=>h v' z d c)⟩;intro j t p;have:j=0:=by grind
 subst this;cases p;simpa [Addr.add] using hc
variable{vo:â á}
theorem aJq(w)(x y)(ho:o.op=.store 72 x y){ad}{vn vc}(hx:a.eval x=.pointer (δ ad))(hy:a.eval y=.slice vo vn vc){u}(hc:w.cell? ad=δ u)(hf:w.frozen? ad=false)(hd:o.dst=ε)(h:K a (w.setCell ad (.slice vo vn vc))):WpI μ o a w K Q:=by refine⟨?_⟩;unfold å Δ;rw[ho];dsimp only;rw[hx,hy];go_simp;exact h
theorem TT(w)(x y)(ho:o.op=.store 79 x y){k1 f1 r1 k f r}{v1}{vn vc}(hx:a.eval x=.pointer (δ ⟨b,0,ε⟩))(hy:a.eval y=iB k f r (.slice vo vn vc))(hm:υ w b k1 f1 r1 v1)(hd:o.dst=ε)(h:∀w',υ w' b k f r (.slice vo vn vc)->Kept b w w'->w'.heap.size=w.heap.size->K a w'):WpI μ o a w K Q:=by refine⟨?_⟩;obtain⟨j,l,n,p⟩:=hm.cs;obtain⟨q,f1,s,t⟩:=hm.fs;obtain⟨w',e,m,d⟩:=hm.put k f r (θ vo vn vc);have c:=h w' m d (by rw[e];simp[World.setCell]);rw[e] at c;unfold iB at hy;unfold å Δ;rw[ho];dsimp only;rw[hx,hy];go_simp;exact c
theorem aLv{o p len cap}(ep:p=if cap=8 then o else o+8)(hl:len=8+8*n)(hc:len<=cap)(wx):(Instr.slice 65 (.slice (δ ⟨b,o,ε⟩) len cap) (δ (.int .i64 8)) ε ε).run μ wx=.ok (.slice (δ ⟨b,p,ε⟩) (8*n) (cap-8)) wx:=by subst hl;have a:(8:ι)<=8+8*(n:ι):=Yo;go_simp;split<;>rfl
theorem aOj(g:ζ->ζ)(n):(List.finRange n).map (λk=>à .i64 (dV g k.1))=ο (iF (dV g)) n:=by
 apply Gg;intro i;by_cases h:i<n
 .rw[iU _ h];simp[h];rfl
 rw[jQ _ Yo];simp[h]
def RdI(w:ψ)(K F R:ι)(g:ζ->ζ)(n)(pre:List (Fin n))(W:ψ):Prop:=
 ∃(ao:â á) (c:ζ),υ W (w.heap.size+1) K F R (θ ao pre.length c)/\W.ownsRow (w.heap.size+3) 3 1 (θ ao pre.length c) pre.length (pre.map λk=>η κ (dV g k.1))/\
  υ W w.heap.size 0 0 0 (θ ε 0 0)/\Below w.heap.size w W/\w.heap.size+3<=W.heap.size
variable{g:ζ->ζ}{w:ψ}
theorem aPj{K F R}{B}(hB:B=w.heap.size+3):OwnFrom B (RdI w K F R g n):=by
 rintro pre X Y row ⟨f,c,h1,h2,h3,m,h5⟩ a hrow;have hlow:∀j,j<w.heap.size+3->δ j≠row:=λj p e=>by have:=(hrow j e.symm).1;omega
 refine⟨f,c,h1.same (a.block _ h1.lt (hlow _ Yo)),h2.kept a ?_,h3.same (a.block _ h3.lt (hlow _ Yo)),m.trans ⟨a.os,a.tape,a.output,a.size,λj p=>a.block j Yo (hlow j Yo)⟩,Ap h5 a.size⟩;rcases h2.2 with ⟨e,_⟩|⟨b,cap,l,e,_,d,_⟩
 .exact .inl (by rw[e];rfl)
 rw[e];refine .inr λe'=>?_;obtain⟨_,o,ho,hc⟩:=hrow b (by simpa [ç] using e'.symm);rw[d] at ho;cases ho;cases hc
theorem aTp(hg:∀i,g i<256):sg (vn (λi=>g (3+i)) 4)=((dR g)):=by have h:=aMV hg;unfold dR at h ⊢;unfold sg;rw[Ξ Yo]
variable{ao:â á}
theorem aKT{W w3}{K F R}{pre}{x}{ac g' cap'}{y}(B0)(h1:υ W (w.heap.size+1) K F R (.slice ao pre.length ac))(h2:W.ownsRow (w.heap.size+3) 3 1 (.slice ao pre.length ac) pre.length (pre.map λk=>.int .i64 (dV g k.1)))(h3:υ W w.heap.size 0 0 0 (.slice ε 0 0))(h4:Below w.heap.size w W)(h5:w.heap.size+3<=W.heap.size)(ho:w3.ownsRow (w.heap.size+3) 3 1 (.slice (δ ⟨g',0,ε⟩) (pre.length+1) cap') (pre.length+1) ((pre.map λk=>.int .i64 (dV g k.1))++[.int .i64 y]))(hg:(W.drew.alloc (.cells #[.int .i64 y] 3)).grownBy w3 (Value.slice ao pre.length ac).ownBlock)(hy:y=dV g x.1):υ w3 (w.heap.size+1) K F R (.slice ao pre.length ac)/\KeepsFrom B0 W (w3.setCell ⟨w.heap.size+1,3,ε⟩ (.slice (δ ⟨g',0,ε⟩) (pre.length+1) cap'))/\KpX (w.heap.size+2) W (w3.setCell ⟨w.heap.size+1,3,ε⟩ (.slice (δ ⟨g',0,ε⟩) (pre.length+1) cap'))/\RdI w K F R g n (pre++[x]) (w3.setCell ⟨w.heap.size+1,3,ε⟩ (.slice (δ ⟨g',0,ε⟩) (pre.length+1) cap')):=by
 have A:(W.drew.alloc (ρ #[iY y] 3)).heap.size=W.heap.size+1:=fA _ _;have f:∀j,j<w.heap.size+3->δ j≠(Value.slice ao pre.length ac).ownBlock:=by
  intro j d e;rcases h2.2 with ⟨e2,_⟩|⟨b,m,p,e2,hb,_⟩
  .rw[e2] at e;simp[ç] at e
  rw[e2] at e;simp[ç] at e;omega
 have a:=λj d=>(hg.block j (by rw[A];omega) (f j d)).trans ((bU W.drew (ρ #[iY y] 3)).block j (show j<W.heap.size by omega));have C:=hg.size;rw[A] at C;have z:=h1.same (a _ Yo);obtain⟨D,t,B,c⟩:=z.put3 (AZ g' (pre.length+1) cap');refine⟨z,?_,?_,?_⟩
 .refine (((KeepsOthers.drew W).trans (KeepsOthers.alloc W.drew (ρ #[iY y] 3))).trans ((KeepsOthers.of_grownBy hg λj o l d=>?_).trans (KeepsOthers.setCell _ _ _))).from _;have q:W.drew.ownsRow (w.heap.size+3) 3 1 (θ ao pre.length ac) pre.length (pre.map λk=>iY (dV g k.1)):=h2;rcases (q.alloc (ρ #[iY y] 3)).2 with ⟨e2,_⟩|⟨b,m,p,e2,_,s,_⟩
  .rw[e2] at l;simp[ç] at l
  rw[e2] at l;obtain rfl:b=j:=by simpa [ç] using l
  rw[s] at d;cases d;rfl
 .rw[<-t];exact (c.block _ Yo Yo).trans (a _ Yo)
 rw[<-t];refine⟨δ ⟨g',0,ε⟩,cap',?_,?_,?_,?_,?_⟩
 .simpa using B
 .have:=wG ho c Yo;grind
 .exact h3.same ((c.block _ Yo Yo).trans (a _ Yo))
 .exact h4.trans ⟨by rw[c.os];exact hg.os,by rw[c.tape];exact hg.tape,by rw[c.output];exact hg.output,by have:=c.size;omega,λj d=>(c.block j Yo Yo).trans (a j Yo)⟩
 have:=c.size;omega
theorem aKU(b o n len cap)g(w)(hg:∀i,g i<256)(hn:n<=24)(hlen:len=8+8*n)(hcap:len<=cap)(hc:∀i,i<len->w.cell? ⟨b,o+i,ε⟩=δ (bF g i)):χ μ 255 #[.slice (δ ⟨b,o,ε⟩) len cap] w λe w'=>∃v,e=.returned (iB (g 1) (g 2) (dR g) v)/\w'.ownsRow w.heap.size 3 1 v n (ο (iF (dV g)) n)/\Below w.heap.size w w':=by
 obtain⟨x1,ex1⟩:∃x,g 1=x:=⟨_,rfl⟩;obtain⟨x2,ex2⟩:∃x,g 2=x:=⟨_,rfl⟩;obtain⟨R,eR⟩:∃x,dR g=x:=⟨_,rfl⟩;rw[ex1,ex2,eR];have ER:=β (show sg (vn (λi=>g (3+i)) 4)=((R:ζ):ι) by rw[<-eR];exact aTp hg);have Y1:=β (show x1<256 by rw[<-ex1];exact hg 1);have Y2:=β (show x2<256 by rw[<-ex2];exact hg 2);obtain⟨w1,e1,m1,k1,s1⟩:=rC w 0 0 0 (θ ε 0 0);have hS0:Cb2 b (o+1) (o+2) x1 x2 w1.drew:=by
  refine⟨aP (w':=w1.drew) ?_ (aY k1),aP (w':=w1.drew) ?_ (aY k1)⟩
  .rw[<-ex1];exact hc 1 Yo
  rw[<-ex2];exact hc 2 Yo
 have HS:=β hS0;have E1:=β e1;have MA:=β m1;have K1:=β k1;have S1:=β s1;have HG:=β hg;have HC:=β hc;have HL:=β hlen;have l8:8<=len:=Yo;have hb:b<w.heap.size:=Gy w ⟨b,o+0,ε⟩ (hc 0 Yo);clear hS0 e1 m1 k1 s1 hg hc hlen ex1 ex2 eR;refine (callsIn_wide (n:=3)).1 ?_;refine callsIn_of_wp_marks Tryz.func255 γ trivial ?_ γ;refine wpIn_wide.2 ?_;simp only[Tryz.ntmps255,Co,Ai,Au,Nat.reduceAdd,Nat.reduceSub,Array.replicate_succ,Array.replicate_zero,List.push_toArray,List.append_toArray,Da,Ez];go_wp2_with fail;rw[<-aA E1];refine ë (λa0 a' w'=>(υ w' (w.heap.size+1) (x1:ζ) (x2:ζ) (R:ζ) (θ ε 0 0)/\υ w' w.heap.size 0 0 0 (θ ε 0 0)/\Below w.heap.size w w'/\w'.heap.size=w.heap.size+2)/\a'=(((((((((((((a0.put (δ 5) (θ (δ ⟨b,o,ε⟩) len cap)).put (δ 6) (φ (δ ⟨b,o+1,ε⟩))).put (δ 7) (bV x1)).put (δ 8) (η κ (x1:ζ))).put (δ 9) (θ (δ ⟨b,o,ε⟩) len cap)).put (δ 10) (φ (δ ⟨b,o+2,ε⟩))).put (δ 11) (bV x2)).put (δ 12) (η κ (x2:ζ))).put (δ 13) (θ (δ ⟨b,o,ε⟩) len cap)).put (δ 14) (θ (δ ⟨b,o+3,ε⟩) 4 (cap-3))).put (δ 15) (η κ (R:ζ))).put (δ 16) (iB (x1:ζ) (x2:ζ) (R:ζ) (θ ε 0 0))).put (δ 3) (φ (δ ⟨w.heap.size+1,0,ε⟩)))) ?reg ?rest;case reg=>
  intro A eA;have b0:A.eval (.tmp 0)=θ (δ ⟨b,o,ε⟩) len cap:=by rw[eA];rfl
  have hs:29<=A.tmps.size:=by rw[eA];exact Xu γ
  have hS:=aA HS;have PC3:∀i,i<4->w1.drew.cell? ⟨b,o+3+i,ε⟩=δ (bF (λi=>g (3+i)) i):=λi hi=>by have:=aP (w':=w1.drew) (aA HC (3+i) Yo) (aY (aA K1));rw[<-Ew] at this;exact this
  clear eA;refine aKV (S:=Cb2 b (o+1) (o+2) x1 x2) (.rd 0 (.rd 1 (.rd 2 (.rd 3 (.rd 4 (.rd 5 (.rd 6 (.rd 7 (.rd 8 (.rd 9 (.two 10 12 (.rd 11 (.go 12 (.go 13 .fin))) (.go 10 (.rd 11 (.go 13 .fin)))))))))))))) [13] Yl Yl ?_;refine π (v:=(θ (δ ⟨b,o,ε⟩) len cap)) γ Yn Yw hS (λwx _=>fC (.tmp 0) γ b0 wx) ?_;show ν _ _ _ _ _ _ (ξ _ (δ 5) _) _;refine π (v:=(φ (δ ⟨b,o+1,ε⟩))) γ Yn Yw hS (λwx _=>nM (i:=1) (.tmp 5) (.const (η κ 1)) γ Et γ Yo wx) ?_;show ν _ _ _ _ _ _ (ξ _ (δ 6) _) _;refine π (v:=(bV x1)) γ Yn Yw hS (λwx hx=>pO (.tmp 6) γ Es hx.1) ?_;show ν _ _ _ _ _ _ (ξ _ (δ 7) _) _;refine π (v:=(η κ (x1:ζ))) γ Yn Yw hS (λwx _=>vE (.tmp 7) γ Es (aA Y1) wx) ?_;show ν _ _ _ _ _ _ (ξ _ (δ 8) _) _;refine π (v:=(θ (δ ⟨b,o,ε⟩) len cap)) γ Yn Yw hS (λwx _=>fC (.tmp 0) γ (Ex (Ex (Ex (Ex b0)))) wx) ?_;show ν _ _ _ _ _ _ (ξ _ (δ 9) _) _;refine π (v:=(φ (δ ⟨b,o+2,ε⟩))) γ Yn Yw hS (λwx _=>nM (i:=2) (.tmp 9) (.const (η κ 2)) γ Es γ Yo wx) ?_;show ν _ _ _ _ _ _ (ξ _ (δ 10) _) _;refine π (v:=(bV x2)) γ Yn Yw hS (λwx hx=>pO (.tmp 10) γ Es hx.2) ?_;show ν _ _ _ _ _ _ (ξ _ (δ 11) _) _;refine π (v:=(η κ (x2:ζ))) γ Yn Yw hS (λwx _=>vE (.tmp 11) γ Es (aA Y2) wx) ?_;show ν _ _ _ _ _ _ (ξ _ (δ 12) _) _;refine π (v:=(θ (δ ⟨b,o,ε⟩) len cap)) γ Yn Yw hS (λwx _=>fC (.tmp 0) γ (Ex (Ex (Ex (Ex (Ex (Ex (Ex (Ex b0)))))))) wx) ?_;show ν _ _ _ _ _ _ (ξ _ (δ 13) _) _;refine π (v:=(θ (δ ⟨b,o+3,ε⟩) 4 (cap-3))) γ Yn Yw hS (λwx _=>aLA (l:=3) (m:=7) (.tmp 13) (.const (η κ 3)) (.const (η κ 7)) γ Es γ γ Yo Yo wx) ?_;show ν _ _ _ _ _ _ (ξ _ (δ 14) _) _;refine aUm γ γ Yw Yw (λK hK=>?_) (λK hK=>?_)
  .refine bM _ 283 (.tmp 14) #[65] γ Es (E9 _ _) (DC (δ ⟨b,o+3,ε⟩) 4 (cap-3) (λi=>g (3+i)) _ (λi=>aA HG _) Yo (λ_=>⟨b,o+3,γ,λi hi=>PC3 i hi⟩)) ?_;rintro e wA ⟨rfl,rfl⟩;rw[aA ER];refine⟨_,γ,hK _ _ (λ_ _=>hS) ?_⟩;clear hK K;show ν _ _ _ _ _ _ (ξ _ (δ 15) _) _;refine π (v:=(iB (x1:ζ) (x2:ζ) (R:ζ) (θ ε 0 0))) γ Yn Yw hS (λwx _=>MM (.tmp 8) (.tmp 12) (.tmp 15) γ (Ex (Ex (Ex (Ex (Ex (Ex (Ex Es))))))) (Ex (Ex (Ex Es))) Es wx) ?_;show ν _ _ _ _ _ _ (ξ _ (δ 16) _) _;refine Ω γ Yw (λK hK=>?_);refine KC _ γ ?_;intro w2 m2 k2 s2;have hS2:=hS.below k2;refine hK _ _ (λ_ _=>hS2) ?_;clear hK K;show ν _ _ _ _ _ _ (ξ _ (δ 3) _) _;refine Ω γ Yw (λK hK=>?_);refine TT _ (.tmp 3) (.tmp 16) γ Es (Ex Es) m2 γ ?_;intro w3 m3 k3 s3;refine hK _ _ (λh=>Λ h Yc) ?_;clear hK K;refine BK ⟨γ,?_⟩;have e1:w1.drew.heap.size=w.heap.size+1:=aA S1;rw[e1] at m3 k3 s2 k2;refine⟨⟨m3,(aA MA).same ((k3.block _ Yo Yo).trans (k2.block w.heap.size Yo)),aF ((aA K1).trans ((aY (Af _ _)).trans (k2.mono Yo))) k3 Yo Yo,Yo⟩,?_⟩;rw[e1]
  .refine KC _ γ ?_;intro w2 m2 k2 s2;have hS2:=hS.below k2;refine hK _ _ (λ_ _=>hS2) ?_;clear hK K;show ν _ _ _ _ _ _ (ξ _ (δ 3) _) _;refine Ω γ Yw (λK hK=>?_);refine bM _ 283 (.tmp 14) #[65] γ (Ex Es) (E9 _ _) (DC (δ ⟨b,o+3,ε⟩) 4 (cap-3) (λi=>g (3+i)) _ (λi=>aA HG _) Yo (λ_=>⟨b,o+3,γ,λi hi=>aP (PC3 i hi) k2⟩)) ?_;rintro e wB ⟨rfl,rfl⟩;rw[aA ER];refine⟨_,γ,hK _ _ (λ_ _=>hS2) ?_⟩;clear hK K;show ν _ _ _ _ _ _ (ξ _ (δ 15) _) _;refine π (v:=(iB (x1:ζ) (x2:ζ) (R:ζ) (θ ε 0 0))) γ Yn Yw hS2 (λwx _=>MM (.tmp 8) (.tmp 12) (.tmp 15) γ (Ex (Ex (Ex (Ex (Ex (Ex (Ex (Ex Es)))))))) (Ex (Ex (Ex (Ex Es)))) Es wx) ?_;show ν _ _ _ _ _ _ (ξ _ (δ 16) _) _;refine Ω γ Yw (λK hK=>?_);refine TT _ (.tmp 3) (.tmp 16) γ (Ex (Ex Es)) Es m2 γ ?_;intro w3 m3 k3 s3;refine hK _ _ (λh=>Λ h Yc) ?_;clear hK K;refine BK ⟨γ,?_⟩;have e1:w1.drew.heap.size=w.heap.size+1:=aA S1;rw[e1] at m3 k3 s2 k2;refine⟨⟨m3,(aA MA).same ((k3.block _ Yo Yo).trans (k2.block w.heap.size Yo)),aF ((aA K1).trans ((aY (Af _ _)).trans (k2.mono Yo))) k3 Yo Yo,Yo⟩,?_⟩;rw[e1,aBz _ 16 3 _ _ Yc,aBz _ 15 3 _ _ Yc]
 case rest=>
  rintro a' w2 ⟨⟨m2,a2,k2,s2⟩,rfl⟩;obtain⟨p,ep⟩:∃p,p=if cap=8 then o else o+8:=⟨_,rfl⟩;have rl:∀wx,(Instr.slice 65 (θ (δ ⟨b,o,ε⟩) len cap) (δ (η κ 8)) ε ε).run μ wx=.ok (θ (δ ⟨b,p,ε⟩) (8*n) (cap-8)) wx:=aLv ep (aA HL) hcap;have M2:=β m2;have A2:=β a2;have K2:=β k2;have S2:=β s2;have EP:=β ep;clear m2 a2 k2 s2 ep HS
  go_frame;go_wp2_with fail;refine (aFv (δ ⟨b,p,ε⟩) (8*n) (cap-8) _).mono ?_;rintro e W0 ⟨rfl,bx,k3,s3⟩;rw[aA S2] at bx k3 s3 ⊢;have M3:=β ((aA M2).same (k3.block _ Yo));have A3:=β ((aA A2).same (k3.block _ Yo));have K3:=β ((aA K2).trans (k3.mono Yo));have BX:=β bx;clear bx k3;go_wp2_with fail;refine (wpIn_wide (n:=3)).1 ?_;refine wpIn_rangeFunc_ownG γ Yo (gf:=299) (lb:=#[φ (δ ⟨w.heap.size+2,0,ε⟩)]) γ trivial (enters_of Tryz.func299 Yl γ)
   (aBw 2 (w.heap.size+2) b p n (cap-8) Yo hn (by have:=aA HL;omega) W0 (aA BX)) (λh k=>k.trans h) (λW l o o' hl h _ _=>World.putObj_heap_other Yo) (Af _ _) (λ_=>rfl)
   (RdI w (x1:ζ) (x2:ζ) (R:ζ) g n) (λ_ _ _=>False) (aPj s3) (λ_ _ _ _ _ hs _ _=>hs)
   ⟨ε,0,aA M3,Am _ _ _ _,aA A3,aA K3,Yo⟩
   (λx=>{ tmps:=#[θ (δ ⟨b,o,ε⟩) len cap,ã,φ (δ ⟨w.heap.size,0,ε⟩),φ (δ ⟨w.heap.size+1,0,ε⟩),WZ b p (cap-8) x.1,θ (δ ⟨b,o,ε⟩) len cap,φ (δ ⟨b,o+1,ε⟩),bV x1,η κ (x1:ζ),θ (δ ⟨b,o,ε⟩) len cap,φ (δ ⟨b,o+2,ε⟩),bV x2,η κ (x2:ζ),θ (δ ⟨b,o,ε⟩) len cap,θ (δ ⟨b,o+3,ε⟩) 4 (cap-3),η κ (R:ζ),iB (x1:ζ) (x2:ζ) (R:ζ) (θ ε 0 0),θ (δ ⟨b,o,ε⟩) len cap,θ (δ ⟨b,p,ε⟩) (8*n) (cap-8),.func (.func 299) #[] #[φ (δ ⟨w.heap.size+2,0,ε⟩)],WZ b p (cap-8) x.1,ã,ã,ã,ã,ã,ã,ã,ã],defers:=[] }) ?assign ?body ?done ?stop
  case assign=>
   intro l x W K hK;gi_wp2;exact hK
  case body=>
   rintro l pre x W ⟨ao,ac,h1,h2,h3,h4,h5⟩ hlt;gi_wp2;refine aDF (λ_ _ W'=>KeepsFrom W0.heap.size W W'/\KpX (w.heap.size+2) W W'/\RdI w (x1:ζ) (x2:ζ) (R:ζ) g n (pre++[x]) W') ?reg4 ?rest4;case reg4=>
    intro A eA;have b3:A.eval (.tmp 3)=φ (δ ⟨w.heap.size+1,0,ε⟩):=by rw[eA];rfl
    have b4:A.eval (.tmp 4)=WZ b p (cap-8) x.1:=by rw[eA];rfl
    have hs:29<=A.tmps.size:=by rw[eA];exact Xu γ
    clear eA;have h2d:W.drew.ownsRow (w.heap.size+3) 3 1 (θ ao pre.length ac) pre.length (pre.map λk=>η κ (dV g k.1)):=h2;have hS:W.drew.cell? ⟨w.heap.size+1,3,ε⟩=δ (θ ao pre.length ac):=h1.cell3;have PC:∀i,i<8->W.drew.cell? ⟨b,p+8*x.1+i,ε⟩=δ (bF (λi=>g (8+8*x.1+i)) i):=λi hi=>by have hx:=x.2;have:=aP (w':=W.drew) (aA HC (8+8*x.1+i) (by have:=aA HL;omega)) (aY h4);rw[show o+(8+8*x.1+i)=p+8*x.1+i by have:=aA EP;rw[τ (by have:=aA HL;omega)] at this;omega] at this;exact this
    refine aKX (S:=λu=>u.cell? ⟨w.heap.size+1,3,ε⟩=δ (θ ao pre.length ac)) (.rd 0 (.rd 1 (.rd 2 (.go 3 (.go 4 (.go 5 (.rd 6 (.go 7 .fin)))))))) [7] Yl Yl aKC Yl ?_;refine π (v:=(φ (δ ⟨w.heap.size+1,3,ε⟩))) γ Yn Yw hS (λwx _=>X7 (.tmp 3) 3 γ b3 Yo wx) ?_;show ν _ _ _ _ _ _ (ξ _ (δ 21) _) _;refine π (v:=(θ ao pre.length ac)) γ Yn Yw hS (λwx hx=>aIH (.tmp 21) γ Et hx) ?_;show ν _ _ _ _ _ _ (ξ _ (δ 22) _) _;refine π (v:=(WZ b p (cap-8) x.1)) γ Yn Yw hS (λwx _=>fC (.tmp 4) γ (Ex (Ex b4)) wx) ?_;show ν _ _ _ _ _ _ (ξ _ (δ 23) _) _;refine Ω γ Yw (λK hK=>?_);refine bM _ 283 (.tmp 23) #[65] γ Es (E9 _ _) (DC _ 8 _ (λi=>g (8+8*x.1+i)) _ (λi=>aA HG _) (Xr _) (λ_=>⟨b,p+8*x.1,γ,λi hi=>PC i hi⟩)) ?_;rintro e w2 ⟨rfl,rfl⟩;refine⟨_,γ,hK _ _ (λ_ _=>hS) ?_⟩;clear hK K;show ν _ _ _ _ _ _ (ξ _ (δ 24) _) _;refine Ω γ Yw (λK hK=>?_);refine aQF _ (.tmp 24) γ Es ?_;have hS2:=aP hS (bU W.drew (ρ #[η κ (sg (vn (λi=>g (8+8*x.1+i)) 8))] 3));refine hK _ _ (λ_ _=>hS2) ?_;clear hK K;show ν _ _ _ _ _ _ (ξ _ (δ 25) _) _;refine Ω γ Yw (λK hK=>?_);refine aML _ (.tmp 22) (.tmp 25) γ (w.heap.size+3) (by rw[fA];show w.heap.size+3<=W.heap.size+1;omega) _ _ _ (Ex (Ex (Ex Es))) (h2d.alloc _) ⟨W.heap.size,0,ε⟩ (sg (vn (λi=>g (8+8*x.1+i)) 8)) Es (Boxed.new W.drew 3 (η κ (sg (vn (λi=>g (8+8*x.1+i)) 8)))).cell Yo ?_;intro v' w3 hown3 hgr3;obtain⟨g',cap',rfl⟩:=ownsRow_succ hown3;obtain⟨m3,kf,kx,ki⟩:=aKT (x:=x) W0.heap.size h1 h2 h3 h4 h5 hown3 hgr3 rfl;have hS3:=m3.cell3;refine hK _ _ (λ_ _=>hS3) ?_;clear hK K;show ν _ _ _ _ _ _ (ξ _ (δ 26) _) _;refine π (v:=(φ (δ ⟨w.heap.size+1,3,ε⟩))) γ Yn Yw hS3 (λwx _=>X7 (.tmp 3) 3 γ (Ex (Ex (Ex (Ex (Ex (Ex b3)))))) Yo wx) ?_;show ν _ _ _ _ _ _ (ξ _ (δ 27) _) _;refine Ω γ Yw (λK hK=>?_);refine aJq _ (.tmp 27) (.tmp 26) γ Es (Ex Es) m3.cell3 (m3.free 3) γ ?_;refine hK _ _ (λh=>Λ h Yc) ?_;clear hK K;refine BK ⟨γ,kf,kx,ki⟩
   case rest4=>
    rintro a' W' ⟨kf,kx,ki⟩;exact⟨kf,kx,ki⟩
  case done=>
   rintro D ys W hD rfl ⟨ao,ac,h1,h2,h3,h4,h5⟩ hK;rw[List.length_finRange] at h1 h2;obtain⟨c0,c1,c2,c3⟩:=h1.cs;obtain⟨a0,a1,a2,a3⟩:=h3.cs;obtain⟨f0,f1,f2,f3⟩:=h3.fs;obtain⟨w4,e4,m4,k4⟩:=h3.put (x1:ζ) (x2:ζ) (R:ζ) (θ ao n ac);have hK4:w4.heap[D]?=δ (.deferred (δ [])):=(k4.block D (Array.getElem?_eq_some_iff.1 hK).1 Yo).trans hK;have o4:=wG h2 k4 Yo;have b4:=aF h4 k4 (Xr _) h4.size;have E4:=β e4;have H:=β (⟨h1,h2,h3,h4,h5⟩:_/\_/\_/\_/\_);have M4:=β m4;have O4:=β o4;have B4:=β b4;have HK4:=β hK4;clear h1 h2 h3 h4 h5 e4 m4 k4 hK o4 b4 hK4;go_wp2_with fail;rw[<-aA E4];have m5:υ (w4.putObj D (.deferred ε)) w.heap.size (x1:ζ) (x2:ζ) (R:ζ) (θ ao n ac):=(aA M4).same (World.putObj_heap_other Yo);obtain⟨p0,p1,p2,p3⟩:=m5.cs;have o5:=ownsRow_putObj (aA O4) (.deferred ε) (aA HK4) γ;have b5:=(aA B4).trans (belowK_b (w:=w) (Xr _) w4 D _ (.deferred ε) Yo (aA HK4) γ γ);rw[aOj] at o5;refine⟨by simp,.inl ⟨_,_,γ,run_takeDeferred (aA HK4),?_⟩⟩;exact⟨iB (x1:ζ) (x2:ζ) (R:ζ) (θ ao n ac),by simp[Ψ,Tryz.results255,go_sem,iB,p0,p1,p2,p3],⟨_,γ,xS o5 Yo,b5⟩⟩
  case stop=>
   rintro D c pre W _ _ h _;exact h.elim
end
section
open Go.RowKit
def opE(g:ζ->ζ)(len:ζ)(e:ι):Prop:=
 (220<len/\e=1)\/(len<=220/\(len<12\/g 0≠87)/\e=2)\/(len<=220/\12<=len/\g 0=87/\
  ((¬rW g len/\e=5)\/(rW g len/\((24<g 7/\e=6)\/(g 7<=24/\((len≠12+8*g 7/\e=2)\/(len=12+8*g 7/\e=0)))))))
theorem aGg(ao)(len cap)(w)(h1:220<len):χ μ 254 #[.slice ao len cap] w λe w'=>e=.returned (.tuple #[.slice ε 0 0,.int .i64 1])/\Below w.heap.size w w':=by go_in;go_wp2_with fail;go_ret2;exact⟨γ,Af _ _⟩
theorem aDE(ao)(len cap)(w)(h1:len<12):χ μ 254 #[.slice ao len cap] w λe w'=>e=.returned (.tuple #[.slice ε 0 0,.int .i64 2])/\Below w.heap.size w w':=by go_in;go_wp2_with fail;go_ret2;exact⟨γ,Af _ _⟩
theorem aGe(ao)(len cap)g(w)(h1:len<=220)(h2:12<=len)(hr:Rd w ao len (bF g))(h3:g 0≠87):χ μ 254 #[.slice ao len cap] w λe w'=>e=.returned (.tuple #[.slice ε 0 0,.int .i64 2])/\Below w.heap.size w w':=by obtain⟨b,o,rfl,hc⟩:=hr Yo;have a:w.cell? ⟨b,o,ε⟩=δ (η .u8 (g 0:ζ)):=hc 0 Yo;have c:(((g 0:ζ):ι)!=87)=true:=Mm;go_in;go_wp2_with fail;go_ret2;exact⟨γ,Af _ _⟩
theorem aJm(ao)(len cap)g(w)(hg:∀i,g i<256)(hcap:len<=cap)(h1:len<=220)(h2:12<=len)(hr:Rd w ao len (bF g))(h3:g 0=87)(h4:¬rW g len):χ μ 254 #[.slice ao len cap] w λe w'=>e=.returned (.tuple #[.slice ε 0 0,.int .i64 5])/\Below w.heap.size w w':=by
 obtain⟨b,o,rfl,hc⟩:=hr Yo;have l:w.cell? ⟨b,o,ε⟩=δ (η .u8 87):=Nk;go_in;go_wp2_with fail;refine (OA (δ ⟨b,o,ε⟩) len cap g _ (aA (β hg)) Yo hcap (aA (β hr))).mono ?_;rintro e n ⟨m,c,rfl,a,_,f,j⟩;have d:c=false:=by cases c;rfl;exact Λ (a.1 γ) h4
 go_wp2_with fail;go_ret2;exact⟨γ,aA (β j)⟩
theorem aGf(ao)(len cap)g(w)(hg:∀i,g i<256)(hcap:len<=cap)(h1:len<=220)(h2:12<=len)(hr:Rd w ao len (bF g))(h3:g 0=87)(h4:rW g len)(h5:24<g 7):χ μ 254 #[.slice ao len cap] w λe w'=>e=.returned (.tuple #[.slice ε 0 0,.int .i64 6])/\Below w.heap.size w w':=by obtain⟨b,o,rfl,hc⟩:=hr Yo;have z:w.cell? ⟨b,o,ε⟩=δ (η .u8 87):=Nk;have l:=β hr;have d:=β hg;go_in;go_wp2_with fail;refine (OA (δ ⟨b,o,ε⟩) len cap g _ (aA d) Yo hcap (aA l)).mono ?_;rintro e t ⟨D,C,rfl,a,c,_,m⟩;have f:=a.2 h4;subst f;have j:=c γ;obtain⟨y,B,rfl⟩:=jK j;obtain⟨q,p2,rfl,n⟩:=wH j Yo;have A:t.cell? ⟨q,p2+7,ε⟩=δ (η .u8 (g 7:ζ)):=n 7 Yo;have p:=β m;have s:=aA d 7;clear m a c j n d l h4 h3;go_wp2_with fail;go_ret2;exact⟨γ,aA p⟩
theorem aDD(ao)(len cap)g(w)(hg:∀i,g i<256)(hcap:len<=cap)(h1:len<=220)(h2:12<=len)(hr:Rd w ao len (bF g))(h3:g 0=87)(h4:rW g len)(h5:g 7<=24):χ μ 254 #[.slice ao len cap] w λe w'=>∃v E,e=.returned (.tuple #[v,.int .i64 E])/\((len≠12+8*g 7/\E=2/\v=.slice ε 0 0)\/(len=12+8*g 7/\E=0/\w'.ownsRow w.heap.size 5 1 v (len-4) (ο (bF g) (len-4))))/\Below w.heap.size w w':=by
 obtain⟨b,o,rfl,hc⟩:=hr Yo;have P:w.cell? ⟨b,o,ε⟩=δ (η .u8 87):=Nk;obtain⟨x,j⟩:=yZ (g 7);obtain⟨m,t⟩:=yZ (len-4);have J:x<256:=by rw[<-j];exact hg 7
 have q:=β hr;have p:=β hg;have n:=β h4;have B:=β j;have c:=β t;rw[j,t];go_in;go_wp2_with fail;refine (OA (δ ⟨b,o,ε⟩) len cap g _ (aA p) Yo hcap (aA q)).mono ?_;rintro e L ⟨S,R,rfl,a,d,_,z⟩;have l:=a.2 (aA n);subst l;have f:=d γ;rw[aA c] at f;obtain⟨O,Q,rfl⟩:=jK f;obtain⟨D,p2,rfl,A⟩:=wH f (by have:=aA c;omega);have F:L.cell? ⟨D,p2+7,ε⟩=δ (η .u8 (g 7:ζ)):=A 7 (by have:=aA c;omega);have s:=β z;have C:=β f;have I:(7:ι)<(m:ι):=by have:=aA c;omega
 clear z a d f A p q n B;go_wp2_with fail;refine (TI x _ Yo).mono ?_;rintro e U ⟨rfl,rfl⟩;by_cases y:m=8+8*x
 .have K:(((m:ζ):ι)!=((8+8*x:ζ):ι))=false:=by rw[y];simp
  have T:=β (show len=12+8*x by have:=aA c;omega);clear y F;go_wp2_with fail;go_ret2;exact⟨_,_,γ,Ab ⟨aA T,γ,aA C⟩,aA s⟩
 have K:(((m:ζ):ι)!=((8+8*x:ζ):ι))=true:=Mm;have T:=β (show len≠12+8*x by have:=aA c;omega);go_wp2_with fail;go_ret2;exact⟨_,_,γ,Aa ⟨aA T,γ,γ⟩,aA s⟩
theorem aJl(ao)(len cap)g(w)(hg:∀i,g i<256)(hcap:len<=cap)(hr:Rd w ao len (bF g)):χ μ 254 #[.slice ao len cap] w λe w'=>∃v E,e=.returned (.tuple #[v,.int .i64 E])/\opE g len E/\(E=0->w'.ownsRow w.heap.size 5 1 v (len-4) (ο (bF g) (len-4)))/\Below w.heap.size w w':=by
 by_cases h1:220<len
 .exact (aGg ao len cap w h1).mono (λe w' ⟨h,k⟩=>⟨_,_,h,Aa ⟨h1,γ⟩,λh=>Λ h Yc,k⟩)
 by_cases h2:len<12
 .exact (aDE ao len cap w h2).mono (λe w' ⟨h,k⟩=>⟨_,_,h,Ab (Aa ⟨Yo,Aa h2,γ⟩),λh=>Λ h Yc,k⟩)
 by_cases h3:g 0=87
 .by_cases a:rW g len
  .by_cases d:24<g 7
   .exact (aGf ao len cap g w hg hcap Yo Yo hr h3 a d).mono (λe w' ⟨h,k⟩=>⟨_,_,h,Ab (Ab ⟨Yo,Yo,h3,Ab ⟨a,Aa ⟨d,γ⟩⟩⟩),λh=>Λ h Yc,k⟩)
   refine (aDD ao len cap g w hg hcap Yo Yo hr h3 a Yo).mono ?_;rintro e w' ⟨v,E,rfl,⟨c,rfl,rfl⟩|⟨c,rfl,ho⟩,k⟩
   .exact⟨_,_,γ,Ab (Ab ⟨Yo,Yo,h3,Ab ⟨a,Ab ⟨Yo,Aa ⟨c,γ⟩⟩⟩⟩),λh=>Λ h Yc,k⟩
   exact⟨_,_,γ,Ab (Ab ⟨Yo,Yo,h3,Ab ⟨a,Ab ⟨Yo,Ab ⟨c,γ⟩⟩⟩⟩),λ_=>ho,k⟩
  exact (aJm ao len cap g w hg hcap Yo Yo hr h3 a).mono (λe w' ⟨h,k⟩=>⟨_,_,h,Ab (Ab ⟨Yo,Yo,h3,Aa ⟨a,γ⟩⟩),λh=>Λ h Yc,k⟩)
 exact (aGe ao len cap g w Yo Yo hr h3).mono (λe w' ⟨h,k⟩=>⟨_,_,h,Ab (Aa ⟨Yo,Ab h3,γ⟩),λh=>Λ h Yc,k⟩)
theorem ZG:aJu 226:=by
 intro ao a a4 g w hg hl hc hs;obtain⟨w1,e1,m1,k1,s1⟩:=rC w 0 0 0 (θ ε 0 0);have E1:=β e1;have M1:=β m1;have K1:=β k1;have S1:=β s1;have HS:=β (hs.below k1).rd;have HG:=β hg;clear e1 m1 k1 s1 hs hg;go_in;go_wp2_with fail;rw[<-aA E1];refine (aJl ao a a4 g _ (aA HG) hc (aA HS)).mono ?_;rintro e W ⟨v2,E,rfl,R,ho,S⟩;have O:=β (show nS w W from (aA K1).trans (S.mono (aA K1).size));have K:=(aA M1).below S;have Z2:=β (show w.heap.size+1<=W.heap.size by have:=aA S1;have:=S.size;omega);have Z1:=β (show w.heap.size<=w1.heap.size by have:=aA S1;omega);obtain⟨a0,a1,a2,q⟩:=K.cs;obtain⟨f0,f1,f2,f3⟩:=K.fs;by_cases Q:E=0
 .
  subst Q;have o2:=ho γ;have a5:12<=a/\a<=220/\g 0=87/\rW g a/\g 7<=24/\a=12+8*g 7:=by
   unfold opE at R;rcases R with ⟨h,e⟩|⟨_,_,e⟩|⟨h1,h2,h3,⟨_,e⟩|⟨j,⟨_,e⟩|⟨s,⟨_,e⟩|⟨I,_⟩⟩⟩⟩
   .cases e
   .cases e
   .cases e
   .cases e
   .cases e
   exact⟨h2,h1,h3,j,s,I⟩
  obtain⟨h2,h1,h3,j,s,I⟩:=a5;obtain⟨a6,l2,rfl,r2,c2⟩:=iT o2;obtain⟨b2,p2,rfl,q2⟩:=r2.rd Yo;have J:a-4=8+8*g 7:=Yo;have R2:=β q2;have M2:=β K;have H:=β (⟨h1,h2,h3,j,s,I⟩:_/\_/\_/\_/\_/\_);have HL:=β J;obtain⟨m,em⟩:=wZ (a-4);rw[<-em] at R2 HL c2 ⊢;clear ho R o2 S r2 q2 K h1 h2 h3 j I J em a0 a1 a2 q f0 f1 f2 f3;go_wp2_with fail;refine (aKU b2 p2 (g 7) m l2 g _ (aA HG) s (aA HL) c2 (aA R2)).mono ?_;rintro e w3 ⟨v3,rfl,o3,U⟩;obtain⟨q,P,rfl⟩:=jK o3;have X:=aA Z2;have m3:=(aA M2).below U;have Z:=(aA O).trans (U.mono (aA O).size);obtain⟨w4,e4,m4,V,s4⟩:=rC w3 (g 1:ζ) (g 2:ζ) (dR g:ζ) (θ q (g 7) P);obtain⟨c0,c1,D,F⟩:=m4.cs;have E4:=β e4;have M4:=β m4;have A4:=β (m3.below V);have K4:=β (Z.trans (V.mono Z.size));have O4:=β (oF o3 V);have Z4:=β (show w3.heap.size+1=w4.heap.size by omega);have Z3:=β (show W.heap.size<=w3.heap.size from U.size);clear o3 U m3 Z e4 m4 V s4 X;have l:=aA H;have EQ:∀T:ι,T=σ (g 1:ζ) (g 2:ζ) (dR g:ζ) (g 7)->FM g a T:=λT t=>Ab (Ab ⟨l.1,l.2.1,l.2.2.1,Ab ⟨l.2.2.2.1,Ab ⟨l.2.2.2.2.1,Ab ⟨l.2.2.2.2.2,t⟩⟩⟩⟩);have Y:=β EQ;clear l EQ;unfold iB;go_wp2_with fail;rw[<-aA E4];go_wp2_with fail;refine (GJ (g 1:ζ) (g 2:ζ) (dR g:ζ) q (g 7) P _).mono ?_;rintro e w5 ⟨rfl,y⟩;clear c0 c1 D F;have m5:=(aA M4).below y;have z:=(aA A4).below y;obtain⟨c0,c1,D,F⟩:=m5.cs;obtain⟨a0,a1,a2,a7⟩:=z.cs;obtain⟨f0,f1,f2,f3⟩:=z.fs;have p:=(aA K4).trans (y.mono (aA K4).size);have o5:=oF (aA O4) y;obtain⟨T,eT⟩:=wZ (σ (g 1:ζ) (g 2:ζ) (dR g:ζ) (g 7));rw[<-eT];have L:=β (aA Y T eT);have X:=aA Z2;have z3:=aA Z3;by_cases t:T=0
  .subst t;obtain⟨w6,f,n,c⟩:=z.put (g 1:ζ) (g 2:ζ) (dR g:ζ) (θ q (g 7) P);obtain⟨p0,p1,o,p3⟩:=n.cs;have A:=β f;have C:=β (aF p c (Xr _) p.size);have O6:=β (xS (wG o5 c Yo) (show w.heap.size<=W.heap.size by omega));clear f n c p o5 y m5 z eT X z3;go_wp2_with fail;rw[<-aA A];refine Φ (v:=è #[iB (g 1:ζ) (g 2:ζ) (dR g:ζ) (θ q (g 7) P),iY 0]) (by simp[Ψ,Tryz.results226,go_sem,iB,p0,p1,o,p3]) γ ⟨0,_,aA L,γ,aA O6,aA C⟩
  .have tw:(T !=0)=true:=by simp[t]
   obtain⟨w6,f,n,c⟩:=z.put 0 0 0 (θ ε 0 0);obtain⟨p0,p1,o,p3⟩:=n.cs;have A:=β f;have C:=β (aF p c (Xr _) p.size);have B:=β t;clear f n c p o5 y m5 z eT X z3 t;go_wp2_with fail;rw[<-aA A];refine Φ (v:=è #[iB 0 0 0 (θ ε 0 0),iY T]) (by simp[Ψ,Tryz.results226,go_sem,iB,p0,p1,o,p3]) γ ⟨T,θ ε 0 0,aA L,?_,?_,aA C⟩
   .have d:∀x,dN T x=0:=λx=>τ (aA B);rw[d,d,d];rfl
   have d:dN T (g 7)=0:=τ (aA B);rw[d];exact Am _ _ _ _
 .have tw:(E !=0)=true:=by simp[Q]
  have dE:FM g a E:=by
   rcases R with h|h|⟨h1,h2,h3,h|⟨j,h|⟨s,h|⟨I,e⟩⟩⟩⟩
   .exact Aa h
   .exact Ab (Aa h)
   .exact Ab (Ab ⟨h1,h2,h3,Aa h⟩)
   .exact Ab (Ab ⟨h1,h2,h3,Ab ⟨j,Aa h⟩⟩)
   .exact Ab (Ab ⟨h1,h2,h3,Ab ⟨j,Ab ⟨s,Aa h⟩⟩⟩)
   exact Λ e Q
  obtain⟨w6,f,n,c⟩:=K.put 0 0 0 (θ ε 0 0);obtain⟨p0,p1,p2,p3⟩:=n.cs;have A:=β f;have C:=β (aF (aA O) c (Xr _) (aA O).size);have B:=β Q;have L:=β dE;go_wp2_with fail;rw[<-aA A];refine Φ (v:=è #[iB 0 0 0 (θ ε 0 0),iY E]) (by simp[Ψ,Tryz.results226,go_sem,iB,p0,p1,p2,p3]) γ ⟨E,θ ε 0 0,aA L,?_,?_,aA C⟩
  .have d:∀x,dN E x=0:=λx=>τ (aA B);rw[d,d,d];rfl
  have d:dN E (g 7)=0:=τ (aA B);rw[d];exact Am _ _ _ _
end
end Go.Proofs.YthimcecbgpamdaaGreatDoor
