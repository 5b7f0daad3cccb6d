import Derived.Lib.SmallJoins
import Derived.Test.YthimcecbgpamdaaGreatDoorNear195
set_option maxHeartbeats 2000000
open Go.Proofs.YthimcecbgpamdaaGreatDoor renaming Qv->E,Yo->M,iY->r,hide->β,vhI->δ,hrO->ε
open _root_ renaming rfl->G,Nat->N,if_pos->θ,if_neg->κ,absurd->μ,Option->ξ
open Option renaming some->γ,none->ζ
open Go.Proofs.Tryz renaming prog->η
open Go.Value renaming int->ι,pointer->ν,slice->ο
namespace Go.Proofs.YthimcecbgpamdaaGreatDoor
section
open Go.ChangeShapes Go.WideShapes Go.ChangeAt Go.RowKit Go.Joins
def ArgS(w:World)(ao:ξ Addr)(len cap:N)(f:N->Int):Prop:=
 ((ao=ζ/\len=0/\cap=0)\/∃x,ao=γ x/\∀i,i<len->w.cell? (x.add i)=γ (ι .i64 (f i)))/\len*8<=140737488351232/\∀i,R64 (f i)
variable{ao:ξ Addr}
theorem ArgS.below{w w'}{len cap}{f:N->Int}(h:ArgS w ao len cap f)(k:Below w.heap.size w w'):ArgS w' ao len cap f:=by
 refine⟨?_,h.2⟩;rcases h.1 with h|⟨x,rfl,hc⟩
 .exact Aa h
 exact Ab ⟨x,G,λi hi=>aP (hc i hi) k⟩
section
variable {H:Type} {enc:TypeId×Value->H} {w:World} {base:N} {held:Bool}
end
end
section
open Go.RowKit
def l3F(a b c:Int)(i:N):Int:=if i=0 then a else if i=1 then b else c
def Lf(f:N->Int)(i:N)(l:Int)(m:N):Prop:=m<=i/\2*ce f i l<=i+m/\∀v,v≠l->2*ce f i v+m<=i
theorem aOG(f:N->Int)(l):Lf f 0 l 0:=⟨Xr _,Xr _,λ_ _=>Xr _⟩
variable{f:N->Int}{i:N}{l:Int}
theorem aRQ(h:Lf f i l 0):Lf f (i+1) (f i) 1:=by
 obtain⟨_,h2,h3⟩:=h;refine⟨M,?_,λv a=>?_⟩
 .rw[vT,θ G];grind
 rw[vT,κ (λe=>a e.symm)];grind
theorem aOF{m}(e:f i=l)(h:Lf f i l m):Lf f (i+1) l (m+1):=by
 obtain⟨h1,h2,h3⟩:=h;refine⟨M,?_,λv a=>?_⟩
 .rw[vT,θ e];omega
 rw[vT,κ M];grind
theorem aOE{m}(e:f i≠l)(h:Lf f i l (m+1)):Lf f (i+1) l m:=by
 obtain⟨h1,h2,h3⟩:=h;refine⟨M,?_,λv a=>?_⟩
 .rw[vT,κ e];omega
 rw[vT];grind
theorem PL(ao)(n cap)f(w)(hl:n<=17592186043904)(hr:Rd w ao n (iF f)):Calls η 270 #[.slice ao n cap] w λe w'=>∃l m,Lf f n l m/\e=.returned (.int .i64 l)/\w'=w:=by
 have y:=β hr;clear hr;go_in;go_wp2_with fail;go_loopw [3,4,9] (λB C t F=>w=F/\∃(i m:N) (l:Int),B=r l/\C=r m/\t=r i/\i<=n/\Lf f i l m) (λ_ _ t _=>n-(intOf t).toNat);case atStart=>exact⟨rfl,0,0,0,rfl,rfl,rfl,Xz _,aOG f 0⟩
 case round=>
  obtain⟨rfl,i,m,l,rfl,rfl,rfl,hi,a⟩:=hrel;have d:=β a;have I:m<=i:=a.1;clear a;by_cases hin:i<n
  .obtain⟨b,o,rfl,hc⟩:=aA y M;have z:w.cell? ⟨b,o+i,ζ⟩=γ (r (f i)):=hc i hin;obtain⟨v,p⟩:=yZ (f i);rw[p] at z;have j:=β p;clear p hc;by_cases s:m=0
   .subst s;have c:=β (aRQ (aA d));rw[aA j] at c;rw[show ((0:N):Int)=0 from rfl];go_wp2_with fail;go_roundw;case rel=>exact⟨trivial,i+1,1,v,rfl,rfl,Je,M,aA c⟩
    case measure=>simp[intOf]<;>omega
   have J:(((m:N):Int)==0)=false:=Mm;by_cases q:v=l
   .subst q;have D:(v==v)=true:=Mt;have c:=β (aOF (aA j) (aA d));go_wp2_with fail;go_roundw;case rel=>exact⟨trivial,i+1,m+1,v,rfl,Je,Je,M,aA c⟩
    case measure=>simp[intOf]<;>omega
   have D:(v==l)=false:=by simp[q]
   obtain⟨k,rfl⟩:∃k,m=k+1:=⟨m-1,M⟩;have c:=β (aOE (show f i≠l by rw[aA j];exact q) (aA d));go_wp2_with fail;go_roundw;case rel=>exact⟨trivial,i+1,k,l,rfl,Je,Je,M,aA c⟩
   case measure=>simp[intOf]<;>omega
  have A:i=n:=M;subst A;go_wp2_with fail;go_ret;exact⟨l,m,aA d,G,G⟩
theorem aCy(ao)(n cap)f(v)(w)(hl:n<=17592186043904)(hr:Rd w ao n (iF f)):Calls η 271 #[.slice ao n cap,.int .i64 v] w λe w'=>e=.returned (.int .i64 (ce f n v))/\w'=w:=by
 have t:=β hr;clear hr;go_in;go_wp2_with fail;go_loopw [5,10] (λB m D=>w=D/\∃j:N,m=r j/\j<=n/\B=r (ce f j v:N)) (λ_ m _=>n-(intOf m).toNat);case atStart=>exact⟨rfl,0,rfl,Xz _,rfl⟩
 case round=>
  obtain⟨rfl,j,rfl,F,rfl⟩:=hrel;have y:ce f j v<=j:=zI _ _;by_cases l:j<n
  .obtain⟨b,o,rfl,hc⟩:=aA t M;have z:w.cell? ⟨b,o+j,ζ⟩=γ (r (f j)):=hc j l;have a:=β (vT f j v);clear hc;obtain⟨q,p⟩:=yZ (ce f j v);obtain⟨u,s⟩:=yZ (f j);rw[p] at y a ⊢;rw[s] at z a;clear p s;by_cases d:u=v
   .subst d;have C:(u==u)=true:=Mt;have c:=β (show ce f (j+1) u=q+1 by rw[aA a,θ G]);go_wp2_with fail;go_roundw;case rel=>exact⟨trivial,j+1,Je,M,by rw[aA c];go_num⟩
    case measure=>simp[intOf]<;>omega
   have C:(u==v)=false:=by simp[d]
   have c:=β (show ce f (j+1) v=q by rw[aA a,κ d];rfl);go_wp2_with fail;go_roundw;case rel=>exact⟨trivial,j+1,Je,M,by rw[aA c]⟩
   case measure=>simp[intOf]<;>omega
  have A:j=n:=M;subst A;go_wp2_with fail;go_ret;exact⟨G,G⟩
theorem UA(ao)(n cap)f(other)(w)(hl:n<=17592186043904)(hr:Rd w ao n (iF f)):Calls η 243 #[.slice ao n cap,.int .i64 other] w λe w'=>∃m,KH f n other m/\e=.returned (.int .i64 m)/\w'=w:=by
 have d:=β hr;go_in;go_wp2_with fail;refine (PL ao n cap f _ hl (aA d)).mono ?_;rintro e p ⟨l,m,c,rfl,rfl⟩;go_wp2_with fail;refine (aCy ao n cap f l _ hl (aA d)).mono ?_;rintro e s ⟨rfl,rfl⟩;have o:ce f n l<=n:=zI _ _;obtain⟨q,j⟩:=yZ (ce f n l);by_cases h2:n<2*q
 .have a:(n:Int)<2*(q:Int):=M;go_wp2_with fail;go_ret;exact⟨l,Aa (by rw[aA (β j)];exact h2),G,G⟩
 have a:¬(n:Int)<2*(q:Int):=M;go_wp2_with fail;go_ret;refine⟨other,Ab ⟨λv=>?_,G⟩,G,G⟩;by_cases e:v=l
 .grind
 have:=(aA (β c)).2.2 v e;omega
theorem YF(a b c)(w):Calls η 218 #[.int .i64 a,.int .i64 b,.int .i64 c] w λe w'=>e=.returned (.int .i64 (WI a b c))/\Below w.heap.size w w':=by
 have d:=Vh.new w 3 #[r a,r b,r c] (iF (l3F a b c)) (by show 3<=maxLen;decide) (λi hi=>by have:i=0\/i=1\/i=2:=Nq;rcases this with rfl|rfl|rfl<;>rfl);go_in;go_wp2_with fail;refine (UA (γ ⟨w.heap.size,0,ζ⟩) 3 3 (l3F a b c) 0 _ M (aA (β d.rd))).mono ?_;rintro e l ⟨m,f,rfl,rfl⟩;have j:=aEk f (aDR (l3F a b c));go_wp2_with fail;go_ret;exact⟨G,aA (β (bU w (.cells #[r a,r b,r c] 3)))⟩
theorem UB:aTu 218:=λa b c w _ _ _=>YF a b c w
theorem GZ(x y z u v)(w):(callFunc 179 #[x,y,z,u,v]).run η w=.ok (.enter 179 #[x,y,z,u,v]) w:=Yh
theorem aDc(n)(mo)(L)(many i k:N)(w)(hmr:MRd w mo L)(hi4:i<4)(hk:k<many):Calls η 217 #[aX (ε n.id n.fr L 2 many) 0 4,.int .i64 i,.int .i64 (k)] w λe w'=>e=.returned (.int .i64 (kY n (L.map Lm.m) i k many))/\Below w.heap.size w w':=by
 refine bC Tryz.func217 G 18 G Yd (λA hs hd hb=>?_);obtain⟨h,j⟩:=wZ (ε n.id n.fr L 2 (many:Int));have s:A.iQ 0=aX h 0 4:=by rw[j];exact hb 0 _ G
 have t:A.iQ 1=r (i:Int):=hb 1 _ G;have z:A.iQ 2=r (k:Int):=hb 2 _ G;obtain⟨m,c,l,d,q,_,f⟩:=aTQ (n:=n) hmr 2 (many:Int) i;have d:h (0+i*1)=ο m l.length c:=by rw[Ah,Cs,j,d]
 refine aD (aG ?_);refine jO (Bl w) ?_;intro B H C;refine qa ?_;refine aC<|aH<|aD ?_;iterate 2 refine qa ?_
 refine qg (aT _ _ G OneK.out E H.v0 M d) ?_;iterate 2 refine qa ?_
 refine aC<|fB (λhc=>?_) (λhc=>?_)
 .have hc:=Xu hc;refine aD<|qa ?_;refine aC<|aQ (fF (aN YB (bS rfl E) ⟨?_,H.bel⟩));rcases f with ⟨_,e⟩|⟨o,e,_,e2⟩
  .rw[aCi e]
  omega
 have hc:=Xg hc;rcases q with ⟨_,e,_⟩|⟨y,rfl,hy⟩
 .exact μ (congrArg Int.ofNat e) hc
 rcases f with ⟨⟨rfl,_⟩,_⟩|⟨o,e,p,e2⟩
 .exact μ G hc
 refine aR<|aD ?_;iterate 2 refine qa ?_
 refine qg (aT _ _ G OneK.out E H.v0 M d) ?_;refine qa ?_;refine qg (dF _ _ G (a:=y) (n:=l.length) (cap:=c) E E (i:=k) G M _) ?_;refine qg (dG _ G E (aP (hy k M) H.bel)) ?_;refine Qz ?_;exact aQ (aN YB (bS G E) ⟨by rw[aCj e,p],H.bel⟩)
def FX(I s:N)(T:N->Int):N->List Int
 |0=>[]
 |i+1=>FX I s T i++if i=I\/i=s then [] else [T i]
theorem aPT(I s)T(i):(FX I s T i).length<=i:=by
 induction i with
 |zero=>exact Xr 0
 |succ i ih=>show (FX I s T i++_).length<=_;grind
variable{T:N->Int}
theorem aCh{I s}(e:i=I\/i=s):FX I s T (i+1)=FX I s T i:=by show FX I s T i++_=_;grind
theorem aMd{I s}(e1:i≠I)(e2:i≠s):FX I s T (i+1)=FX I s T i++[T i]:=by show FX I s T i++_=_;grind
theorem aMc{I s}(hI:I<4)(hs:s<4)(e:I≠s):FX I s T 4=[T (o1 I s),T (o2 I s)]:=by have:I=0\/I=1\/I=2\/I=3:=M;have:s=0\/s=1\/s=2\/s=3:=M;rcases ‹I=0\/_› with rfl|rfl|rfl|rfl<;>rcases ‹s=0\/_› with rfl|rfl|rfl|rfl<;>first|(exact μ rfl e)|rfl
variable{a:ξ Addr}{w:World}
theorem JQ{B n c}{g:N->Value}{t}(h:w.ownsRow B t 1 (.slice a n c) n (rowV g n)):Sr w a n c g:=by obtain⟨f,d,e,hs,_⟩:=iT h;cases e;exact hs
def TkA(A:Act)(I:Int)(s k:N)(h:Int)(b i:N)(v:Value):Prop:=A.tmps.size=44/\A.defers=[]/\A.eval (.tmp 1)=ι .i64 I/\A.eval (.tmp 2)=ι .i64 s/\A.eval (.tmp 3)=ι .i64 h/\A.eval (.tmp 4)=ι .i64 k/\A.eval (.tmp 5)=ν (γ ⟨b,0,ζ⟩)/\A.eval (.tmp 17)=ι .i64 i/\A.eval (.tmp 11)=v
theorem BA(n:Nd)(mo)(L)(I s:N)(h)(k many:N)(w)(hI:n.id=(I))(hI4:I<4)(hs4:s<4)(hk:k<many)(hh:R64 h)(hmr:MRd w mo L)(hRL:∀m,m∈L->∀i,R64 (gL m.m.L i)):Calls η 179 #[aX (ε n.id n.fr L 2 many) 0 4,.int .i64 n.id,.int .i64 s,.int .i64 h,.int .i64 (k)] w λe w'=>e=.returned (.int .i64 (yS n (L.map Lm.m) s h k many))/\Below w.heap.size w w':=by
 refine bC Tryz.func179 G 44 G Yd (λA hs hd hb=>?_);have b0:A.iQ 0=aX (ε n.id n.fr L 2 (many:Int)) 0 4:=hb 0 _ G;have o:A.iQ 1=r n.id:=hb 1 _ G;have p:A.iQ 2=r (s:Int):=hb 2 _ G;have t:A.iQ 3=r h:=hb 3 _ G;have z:A.iQ 4=r (k:Int):=hb 4 _ G;obtain⟨T,eT⟩:∃T:N->Int,T=(λi=>kY n (L.map Lm.m) i k many):=⟨_,rfl⟩;refine aD (aG ?_);refine jO (Bl w) ?_;intro w1 H z1;refine qa ?_;refine aC<|aH<|aD ?_;iterate 3 refine qa ?_
 refine aC<|fB (λhc=>?_) (λhc=>?_)
 .refine aD ?_;iterate 2 refine qa ?_
  refine aC ?_;exact aQ (fF (aN YB (bS G E) ⟨by unfold yS;rw[θ (Xu hc)],H.bel⟩))
 have J:¬(s:Int)=n.id:=Xg hc;refine aR<|aD<|qa ?_;refine aC<|aH<|aD<|qa ?_;refine aC<|aJ<|bR (λq a W=>∃(i:N) (v:Value),i<=4/\4-i<=q/\TkA a n.id s k h w.heap.size i v/\Cx w W [fU w.heap.size 3 1 v (FX I s T i).length ((FX I s T i).map iV),δ 178 w.heap.size 4 4 (ε n.id n.fr L 2 (many:Int))]) 4 ⟨0,ο ζ 0 0,M,M,⟨YA,YB,E,E,E,E,E,E,E⟩,H.add (Af _ _) (fU w.heap.size 3 1 (ο ζ 0 0) 0 []) (Am _ _ _ _) (λ_ e=>nomatch e)⟩ (λq B W hI=>?_);obtain⟨i,v,hi,X,⟨hs,hd,o,p,t,z,F,d,c⟩,H⟩:=hI;have R:=aPT I s T i;refine aD (aG ?_);refine qa ?_;refine aC<|aH<|fB (λhc=>?_) (λhc=>?_)
 .have hin:i<4:=Jf;refine aR<|lS (λa Z=>∃v:Value,TkA a n.id s k h w.heap.size i v/\Cx w Z [fU w.heap.size 3 1 v (FX I s T (i+1)).length ((FX I s T (i+1)).map iV),δ 178 w.heap.size 4 4 (ε n.id n.fr L 2 (many:Int))]) ?_ (λC Z hI=>?_)
  .refine aJ<|aD ?_;iterate 2 refine qa ?_
   refine aC<|lS (λa Z=>TkA a n.id s k h w.heap.size i v/\a.iQ 12=r (i:Int)/\a.iQ 27=.bool (decide (¬(i=I\/i=s)))/\Z=W) ?_ (λC Z hI=>?_)
   .refine aI ?_;iterate 2 refine qa ?_
    by_cases e1:i=I
    .refine aUb ?_;refine qa ?_;iterate 3 refine bP ?_
     refine aTY ?_;exact kL ⟨G,⟨YA,YB,E,E,E,E,E,E,E⟩,E,Ae E (by simp[e1]),G⟩
    refine aUa ?_;iterate 3 refine qa ?_
    refine qg (dO (b:=decide (¬i=s)) _ _ G E E Mm _) ?_;refine aTZ ?_;exact kL ⟨G,⟨YA,YB,E,E,E,E,E,E,E⟩,E,Ae E (by simp[e1]),G⟩
   obtain⟨⟨hs,hd,o,p,t,z,F,d,c⟩,V,D,rfl⟩:=hI;refine mK D (λl=>?_) (λl=>?_)
   .have l:=Xu l;refine aI (aG ?_);refine qa ?_;refine qg (bE _ _ G ManyK.out E H.v1 M) ?_;iterate 2 refine qa ?_
    refine q_c (aDc n mo L many i k _ (hmr.below H.bel) hin hk) ?_;rintro e Q ⟨rfl,f⟩;replace H:=H.call f;refine⟨_,G,?_⟩;refine bI G Yw (λK hK=>BP _ _ G E ?_);intro a1 P O a2;replace H:=H.call O;refine hK _ _ ?_;refine OE (bytes:=8) H.a0 (aTP P) (aTO _ _) Ym M ?_;intro v7 w7 H;refine qa ?_;refine kL ⟨G,v7,⟨YA,YB,E,E,E,E,E,E,E⟩,?_⟩;rw[aMd (λe=>l (.inl e)) (λe=>l (.inr e)),Ag,Cb,eT];rw[eT] at H;exact H
   exact iE ⟨G,v,⟨hs,hd,o,p,t,z,F,d,c⟩,by rw[aCh (Classical.not_not.1 (Xg l))];exact H⟩
  obtain⟨v2,⟨hs,hd,o,p,t,z,F,d,c⟩,H⟩:=hI;refine aI (aG ?_);iterate 2 refine qa ?_
  exact aU ⟨4-(i+1),M,i+1,v2,M,M,⟨YA,YB,E,E,E,E,E,Ae E YC,E⟩,H⟩
 obtain rfl:i=4:=Jg;refine bL (dQ ?_);refine aH ?_;rw[aMc hI4 hs4 (show I≠s by omega),II] at H;obtain⟨ta,U,rfl,Y⟩:=dU H.o0;obtain⟨y,rfl,hy⟩:∃y,ta=γ y/\∀i,i<2->W.cell? (y.add i)=γ (r (gL [T (o1 I s),T (o2 I s)] i)):=by
  rcases JQ H.o0 with ⟨_,e,_⟩|⟨y,e,hc⟩
  .exact μ (show (2:N)=0 from e) Yc
  exact⟨y,e,λi hi=>hc i hi⟩
 have j:(λZ:World=>∀i,i<2->Z.cell? (y.add i)=γ (r (gL [T (o1 I s),T (o2 I s)] i))) W.drew:=hy;replace H:=H.drew;refine fI (S:=λZ=>∀i,i<2->Z.cell? (y.add i)=γ (r (gL [T (o1 I s),T (o2 I s)] i))) (.mv 0 (.mv 1 (.mv 2 (.rd 3 (.mv 4 (.mv 5 (.rd 6 (.go 7 (.mv 8 .fin))))))))) [7] Yl Yl ?_;iterate 2 refine qj ?_
 refine Yk G (λ_=>dF _ _ G (a:=y) (n:=2) (cap:=U) E E (i:=0) G Yc _) ?_;refine Yr G j (λ_ j=>dG _ G E (j 0 Yc)) ?_;refine qj ?_;refine Yk G (λ_=>dF _ _ G (a:=y) (n:=2) (cap:=U) E E (i:=1) G Yc _) ?_;refine Yr G j (λ_ j=>dG _ G E (j 1 Yc)) ?_;refine j_c (UB h (T (o1 I s)) (T (o2 I s)) _ hh (by rw[eT];exact aFX hRL _ _ _) (by rw[eT];exact aFX hRL _ _ _)) ?_;rintro e Q ⟨rfl,f⟩;replace H:=H.call f;refine⟨_,G,λh=>μ h Yc,?_⟩;refine qj ?_;refine gM<|aQ (aN YB (bS rfl E) ⟨?_,H.bel⟩);unfold yS;rw[κ J,hI,Hm,eT]
variable{Q:Exit->Act->World->Prop}
theorem aJs{P}{J:Act->World->Prop}{a}{x y}{id id2}(h:CodI P y Q a w):Nx P x (Exit.then J (Exit.inBlock id (Exit.inBlock id2 (Nx P y Q)))) (.exit id) a w:=BQ h
def vV(d:N->N->Int)(j:N):Value:=iV (d (j/3) (j%3))
theorem aNf(n)(v):∀j,j<12->ndF n v (0+39+j)=vV n.di j:=by grind [ndF,vV]
variable{x:N}
theorem UG(d:N->N->Int):aX (vV d) (x*3) 3=aX (λa=>iV (d x a)) 0 3:=by unfold aX vV;congr 2;refine Cw (λj c=>?_);grind
def LM(n:Nd)(l:List Ms)(m j:N):Value:=iV (if j<m then decG n l (j/3) (j%3) else n.di (j/3) (j%3))
theorem aNB(n)(l):∀j,j<12->vV n.di j=LM n l (3*0) j:=λj _=>by unfold LM vV;rw[κ M]
theorem aNz(n)(l)(hx:x<3):∀j,j<12->stW (LM n l (3*i+x)) (0+i*3+x*1) (.int .i64 (yS n l i (n.di i x) (3*i+x) 12)) j=LM n l (3*i+(x+1)) j:=by
 intro j _;unfold stW;rw[show 0+i*3+x*1=3*i+x by omega];by_cases e:j=3*i+x
 .rw[θ e];unfold LM;rw[θ M,show j/3=i by omega,show j%3=x by omega];rfl
 unfold LM;grind
theorem aNx(n)(l):∀j,j<12->LM n l (3*4) j=vV (decG n l) j:=λj a=>by unfold LM vV;rw[θ M]
def AgA(a:Act)(b b1 b2 b3:N)(v:Value)(i:N):Prop:=a.tmps.size=40/\a.defers=[]/\a.eval (.tmp 2)=ν (γ ⟨b,0,ζ⟩)/\a.eval (.tmp 3)=ν (γ ⟨b1,0,ζ⟩)/\a.eval (.tmp 4)=ν (γ ⟨b2,0,ζ⟩)/\a.eval (.tmp 5)=ν (γ ⟨b3,0,ζ⟩)/\a.eval (.tmp 13)=v/\a.eval (.tmp 14)=ι .i64 i
theorem aEN(n)(nv)(mo)(L)(I:N)(w)(hok:NdOK n)(hI:n.id=(I))(hI4:I<4)(hmr:MRd w mo L)(hRL:∀m,m∈L->∀i,R64 (gL m.m.L i)):Calls η 123 #[jX n nv,aX (ε n.id n.fr L 2 ((12:N))) 0 4] w λe w'=>e=.returned (aX (vV (decG n (L.map Lm.m))) 0 12)/\Below w.heap.size w w':=by
 refine bC Tryz.func123 G 40 G Yd (λA hs hd hb=>?_);have b0:A.iQ 0=jX n nv:=hb 0 _ G;have b1:A.iQ 1=aX (ε n.id n.fr L 2 ((12:N):Int)) 0 4:=hb 1 _ G;refine aD (aG ?_);refine jO (Bl w) ?_;intro f H z1;refine jO H ?_;intro l H z2;refine gQ H ?_;intro o H z3;refine aC<|aD<|qa ?_;refine qg (cZ (h:=vV n.di) _ _ G ManyK.out E H.v2 M (aNf n nv)) ?_;refine gQ H ?_;intro w4 H z4;refine gH H.a0 aZ (λj C=>rfl) ?_;intro w5 H z5;replace H:=H.a0.s ⟨rfl,rfl,rfl,Xr _,λ_ _ _=>rfl⟩ (H.v0.congr (aNB n (L.map Lm.m)));refine aC<|aH<|aD<|qa ?_;refine qg (cZ (h:=vV n.di) _ _ G ManyK.out E H.v3 M (aNf n nv)) ?_;refine qa ?_;refine aC<|aJ<|bR (λq a W=>∃i:N,i<=4/\4-i<=q/\AgA a w.heap.size f.heap.size l.heap.size o.heap.size (aX (vV n.di) 0 12) i/\Cx w W [δ 38 o.heap.size 12 12 (LM n (L.map Lm.m) (3*i)),δ 38 l.heap.size 12 12 (λ_=>iV 0),δ 178 f.heap.size 4 4 (ε n.id n.fr L 2 ((12:N):Int)),δ 43 w.heap.size 74 74 (ndF n nv)]) 4 ⟨0,M,M,⟨YA,YB,E,E,E,E,E,E⟩,H⟩ (λq B W hI=>?_);obtain⟨i,hi,R,⟨hs,hd,J,O,P,Q,p,t⟩,H⟩:=hI;refine aD (aG ?_);refine qa ?_;refine aC<|aH<|fB (λhc=>?_) (λhc=>?_)
 .have hin:i<4:=Jf;refine aR<|aH (aJ ?_);refine aD<|qa ?_;refine qg ((nH _ _ _ _ G ArrK.out ManyK.out E G E G hin _).trans (by rw[UG n.di])) ?_;refine gQ H ?_;intro Y H Z;refine qa ?_;refine gH H.a0 aZ (λj C=>rfl) ?_;intro w7 H z7;refine aC<|aD<|qg (bE _ _ rfl ManyK.out E H.v0 M) ?_;refine qa ?_;refine aC<|aJ<|bR (λq a W=>∃x:N,x<=3/\3-x<=q/\AgA a w.heap.size f.heap.size l.heap.size o.heap.size (aX (vV n.di) 0 12) i/\a.iQ 6=r (i:Int)/\a.iQ 18=aX (λa=>iV (n.di i a)) 0 3/\a.iQ 19=r (x:Int)/\Cx w W [δ 38 o.heap.size 12 12 (LM n (L.map Lm.m) (3*i+x)),δ 38 l.heap.size 12 12 (λ_=>iV 0),δ 178 f.heap.size 4 4 (ε n.id n.fr L 2 ((12:N):Int)),δ 43 w.heap.size 74 74 (ndF n nv)]) 3 ⟨0,M,M,⟨YA,YB,E,E,E,E,E,E⟩,E,E,E,H.tl⟩ (λq B W hI=>?_);obtain⟨x,hx,T,⟨hs,hd,J,O,P,Q,p,t⟩,b6,D,F,H⟩:=hI;refine aD (aG ?_);refine qa ?_;refine aC<|aH<|fB (λd=>?_) (λd=>?_)
  .have c:x<3:=by have:=Xu d;omega
   refine aR<|aH (aJ ?_);refine aD<|qa ?_;refine qg (nG _ _ _ _ G ArrK.out OneK.out E E G c _) ?_;iterate 2 refine qa ?_
   refine aC ?_;replace H:=H.drew;have z:Its [δ 178 f.heap.size 4 4 (ε n.id n.fr L 2 ((12:N):Int)),δ 43 w.heap.size 74 74 (ndF n nv)] W.drew:=Aj H.o2 (Aj H.o3 (Ak _));have y:((i:Int)*3+(x:Int))=((3*i+x:N):Int):=M;refine fI (S:=Its [δ 178 f.heap.size 4 4 (ε n.id n.fr L 2 ((12:N):Int)),δ 43 w.heap.size 74 74 (ndF n nv)]) (.mv 0 (.mv 1 (.rd 2 (.mv 3 (.rd 4 (.mv 5 (.mv 6 (.mv 7 (.mv 8 (.mv 9 (.mv 10 (.mv 12 (.go 11 (.mv 13 (.go 14 .fin))))))))))))))) [14] Yl Yl ?_;iterate 2 refine qj ?_
   refine Yr G z (λ_ H=>bE _ _ G ManyK.out E H.v0 M) ?_;refine qj ?_;refine Yr G z (λ_ H=>aT (v:=r n.id) _ _ G OneK.out E H.v1 M G) ?_;iterate 3 refine qj ?_
   refine Yk G (λ_=>rO _ _ G E E M M _) ?_;iterate 3 refine qj ?_
   refine dA G G Yw (λK hK=>pY _ 179 _ _ _ _ _ _ G E E E E (Ae E (by rw[y])) Yh (BA n mo L I i (n.di i x) (3*i+x) 12 _ hI hI4 hin M (hok.di i x) (hmr.below H.bel) hRL) ?_);rintro e w8 ⟨rfl,U⟩;replace H:=H.call U;refine⟨_,G,hK _ _ (λ_ _=>Aj H.o2 (Aj H.o3 (Ak _))) ?_⟩;refine qj ?_;refine dK G Yw (λK hK=>iO _ _ _ _ G OneK.out E E H.v0 M G G G (λw9 X V z9=>hK _ (λh=>μ h Yc) ?_));replace H:=H.a0.s V (X.congr (aNz n (L.map Lm.m) c));refine oC<|aI ?_;iterate 2 refine qa ?_
   exact aU ⟨3-(x+1),M,x+1,M,M,⟨YA,YB,E,E,E,E,E,E⟩,E,E,Ae E YC,H⟩
  obtain rfl:x=3:=by have:=Xg d;omega
  refine bL (aJs ?_);refine aI ?_;iterate 2 refine qa ?_
  exact aU ⟨4-(i+1),M,i+1,M,M,⟨YA,YB,E,E,E,E,E,Ae E YC⟩,H⟩
 obtain rfl:i=4:=Jg;replace H:=H.a0.s ⟨rfl,rfl,rfl,Xr _,λ_ _ _=>rfl⟩ (H.v0.congr (aNx n (L.map Lm.m)));refine bL (dQ ?_);refine aD<|qg (bE _ _ rfl ManyK.out E H.v0 M) ?_;refine gH H.a1 aZ (λj C=>rfl) ?_;intro Y H Z;refine aC ?_;exact aQ (aN YB (sW G E ManyK.out H.v1 (Xr _)) ⟨G,H.bel⟩)
end
end Go.Proofs.YthimcecbgpamdaaGreatDoor
