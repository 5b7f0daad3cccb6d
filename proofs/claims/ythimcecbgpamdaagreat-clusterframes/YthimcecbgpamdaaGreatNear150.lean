import Derived.Test.YthimcecbgpamdaaGreatNear169
import Derived.Lib.SmallJoins
namespace Go.Proofs.YthimcecbgpamdaaGreat
open Go.ChangeShapes Go.WideShapes Go.ChangeAt Go.RowKit Go.Joins
def ArgS(w:World)(ao:Option Addr)(len cap:Nat)(f:Nat->Int):Prop:=
 ((ao=none/\len=0/\cap=0)\/∃x,ao=some x/\∀i,i<len->w.cell? (x.add i)=some (.int .i64 (f i)))/\len*8<=140737488351232/\∀i,R64 (f i)
variable{ao:Option Addr}
theorem ArgS.below{w w':World}{len cap:Nat}{f:Nat->Int}(h:ArgS w ao len cap f)(k:Below w.heap.size w w'):ArgS w' ao len cap f:=by
 refine⟨?_,h.2⟩;rcases h.1 with h|⟨x,rfl,hc⟩
 .exact Or.inl h
 .exact Or.inr ⟨x,rfl,λi hi=>aM (hc i hi) k⟩
section
variable {H:Type} {enc:TypeId×Value->H} {w:World} {base:Nat} {held:Bool}
end
end Go.Proofs.YthimcecbgpamdaaGreat
namespace Go.Proofs.YthimcecbgpamdaaGreat
open Go.RowKit
structure St where
 X:Int
 V:Int
 P00:Int
 P01:Int
 P11:Int
 B:Bool
 M:Int
structure St.Ok (s:St):Prop where
 X:R64 s.X
 V:R64 s.V
 P00:R64 s.P00
 P01:R64 s.P01
 P11:R64 s.P11
 M:R64 s.M
def jB(a b:Int):Int:=gM (a+b)
def tO(a b:Int):Int:=gM (a-b)
def dM(a b:Int):Int:=gM (vR a b)
def zT(a b:Int):Bool:=gK (a+b)
def NK(a b:Int):Bool:=gK (a-b)
def vD(a b:Int):Bool:=gK (vR a b)
theorem nM(a b:Int):R64 (jB a b):=I8 _
theorem wJ(a b:Int):R64 (tO a b):=I8 _
theorem kH(a b:Int):R64 (dM a b):=I8 _
def pW(s:St)(dt q:Int):St where
 X:=jB s.X (dM s.V dt)
 V:=s.V
 P00:=jB (jB (jB s.P00 (dM s.P01 dt)) (dM s.P01 dt)) (dM (dM s.P11 dt) dt)
 P01:=jB s.P01 (dM s.P11 dt)
 P11:=jB s.P11 q
 B:=s.B||vD s.P01 dt||vD s.P11 dt||vD s.V dt||zT s.X (dM s.V dt)||zT s.P00 (dM s.P01 dt)||zT (jB s.P00 (dM s.P01 dt)) (dM s.P01 dt)||vD (dM s.P11 dt) dt||
  zT (jB (jB s.P00 (dM s.P01 dt)) (dM s.P01 dt)) (dM (dM s.P11 dt) dt)||zT s.P01 (dM s.P11 dt)||zT s.P11 q
 M:=s.M
variable{s:St}
theorem GQ(h:s.Ok)(dt q:Int):(pW s dt q).Ok:=⟨nM _ _,h.V,nM _ _,nM _ _,nM _ _,h.M⟩
def moreM(m:Int):Int:=wrap64 (m+1)
def offY(s:St)(z:Int):Int:=tO z s.X
def offW(s:St)(r:Int):Int:=jB s.P00 r
def pK(s:St)(z r gate:Int):Bool:=decide (offW s r<=0)||decide (dM gate (offW s r)<dM (offY s z) (offY s z))
def takeS(s:St)(y w:Int):St where
 X:=jB s.X (dM (fH s.P00 w) y)
 V:=jB s.V (dM (fH s.P01 w) y)
 P00:=tO s.P00 (dM (fH s.P00 w) s.P00)
 P01:=tO s.P01 (dM (fH s.P00 w) s.P01)
 P11:=tO s.P11 (dM (fH s.P01 w) s.P01)
 B:=s.B||vT s.P00 w||vT s.P01 w||vD (fH s.P00 w) y||zT s.X (dM (fH s.P00 w) y)||vD (fH s.P01 w) y||zT s.V (dM (fH s.P01 w) y)||
  vD (fH s.P00 w) s.P00||NK s.P00 (dM (fH s.P00 w) s.P00)||vD (fH s.P00 w) s.P01||NK s.P01 (dM (fH s.P00 w) s.P01)||vD (fH s.P01 w) s.P01||NK s.P11 (dM (fH s.P01 w) s.P01)
 M:=0
def bentU(s:St)(z r gate:Int):Bool:=s.B||NK z s.X||zT s.P00 r||vD (offY s z) (offY s z)||vD gate (offW s r)
def lM(s:St)(z r gate:Int):St:=if pK s z r gate then { s with M:=moreM s.M } else takeS { s with B:=bentU s z r gate } (offY s z) (offW s r)
def mR(s:St)(z r gate:Int):Bool:= !pK s z r gate
theorem aIF(m:Int):R64 (moreM m):=by unfold moreM R64;unfold wrap64;omega
theorem aKK(h:s.Ok)(z r gate:Int):(lM s z r gate).Ok:=by
 unfold lM;split
 .exact⟨h.X,h.V,h.P00,h.P01,h.P11,aIF _⟩
 .exact⟨nM _ _,nM _ _,wJ _ _,wJ _ _,wJ _ _,gU⟩
structure Tn where
 Dt:Int
 Q:Int
 R:Int
 G:Int
structure Tn.Ok (t:Tn):Prop where
 Dt:R64 t.Dt
 Q:R64 t.Q
 R:R64 t.R
 G:R64 t.G
def xR(s:St)(t:Tn)(z:Int):St:=lM (pW s t.Dt t.Q) z t.R t.G
def DC(s:St)(t:Tn)(z:Int):Bool:=mR (pW s t.Dt t.Q) z t.R t.G
theorem SY(h:s.Ok)(t:Tn)(z:Int):(xR s t z).Ok:=aKK (GQ h _ _) _ _ _
end Go.Proofs.YthimcecbgpamdaaGreat
namespace Go.Proofs.YthimcecbgpamdaaGreat
def cn(p:Nat->Bool):Nat->Nat
 |0=>0
 |n+1=>cn p n+if p n then 1 else 0
theorem wI(p:Nat->Bool)(n:Nat):cn p n<=n:=by
 induction n with
 |zero=>exact Xr _
 |succ n ih=>show cn p n+(if p n then 1 else 0)<=n+1;split<;>omega
variable{p:Nat->Bool}{n:Nat}
theorem aAV{q:Nat->Bool}(h:∀i,i<n->p i=true->q i=true):cn p n<=cn q n:=by
 induction n with
 |zero=>exact Xr _
 |succ n ih=>
  show cn p n+(if p n then 1 else 0)<=cn q n+(if q n then 1 else 0)
  have:=ih (λi hi=>h i Yo);by_cases c:p n=true
  .rw[if_pos c,if_pos (h n Yo c)];omega
  .rw[if_neg c];omega
theorem aMq(h:∀i,i<n->p i=true):cn p n=n:=by
 induction n with
 |zero=>rfl
 |succ n ih=>show cn p n+(if p n then 1 else 0)=n+1;rw[ih (λi hi=>h i Yo),if_pos (h n Yo)]
theorem TE(h:0<cn p n):∃i,i<n/\p i=true:=by
 induction n with
 |zero=>exact absurd h (Nat.lt_irrefl 0)
 |succ n ih=>
  by_cases c:p n=true
  .exact⟨n,Yo,c⟩
  .have e:cn p (n+1)=cn p n:=by show cn p n+(if p n then 1 else 0)=_;rw[if_neg c];rfl
   rw[e] at h;obtain⟨i,hi,hp⟩:=ih h;exact⟨i,Yo,hp⟩
theorem aMV{q r:Nat->Bool}(h:∀i,i<n->((p i=true/\q i=false/\r i=true)\/(p i=false/\q i=true/\r i=true)\/(p i=false/\q i=false/\r i=false))):cn p n+cn q n=cn r n:=by
 induction n with
 |zero=>rfl
 |succ n ih=>
  show (cn p n+if p n then 1 else 0)+(cn q n+if q n then 1 else 0)=cn r n+if r n then 1 else 0
  have e:=ih (λi hi=>h i Yo);rcases h n Yo with ⟨h1,h2,h3⟩|⟨h1,h2,h3⟩|⟨h1,h2,h3⟩<;>rw[h1,h2,h3]<;>simp<;>omega
def cl(f:Nat->Int)(n:Nat)(v:Int):Nat:=cn (λi=>decide (f i<v)) n
def ce(f:Nat->Int)(n:Nat)(v:Int):Nat:=cn (λi=>decide (f i=v)) n
def sD(f:Nat->Int)(n k:Nat)(v:Int):Prop:=cl f n v<=k/\k<cl f n v+ce f n v
theorem QF(f:Nat->Int)(n:Nat)(v:Int):cl f n v+ce f n v=cn (λi=>decide (f i<=v)) n:=by
 refine aMV (λi _=>?_);by_cases h1:f i<v
 .exact Or.inl ⟨Xt h1,Xf Yo,Xt Yo⟩
 .by_cases h2:f i=v
  .exact Or.inr (Or.inl ⟨Xf h1,Xt h2,Xt Yo⟩)
  .exact Or.inr (Or.inr ⟨Xf h1,Xf h2,Xf Yo⟩)
variable{v u:Int}{f:Nat->Int}
theorem aJK(h:v<u):cl f n v+ce f n v<=cl f n u:=by
 rw[QF];exact aAV (λi _ hp=>Xt (by have:=Xu hp;omega))
variable{j k:Nat}
theorem aAh(h:sD f n k v)(h':sD f n j u)(hk:k<=j):v<=u:=by
 rcases Int.lt_or_le u v with c|c
 .have:=aJK (f:=f) (n:=n) c;have h1:=h.1;have h2:=h'.2;omega
 .exact c
theorem aEa(h:sD f n k v)(h':sD f n k u):v=u:=by
 have:=aAh h h' (Xr _);have:=aAh h' h (Xr _);omega
theorem aLW(h:sD f n k v):∃i,i<n/\f i=v:=by
 have:0<ce f n v:=by have:=h.1;have:=h.2;omega
 obtain⟨i,hi,hp⟩:=TE this;exact⟨i,hi,Xu hp⟩
theorem aDX(m:Nat):(∃i,i<m/\k<cl f n (f i)+ce f n (f i))->∃i,i<m/\k<cl f n (f i)+ce f n (f i)/\∀j,j<m->k<cl f n (f j)+ce f n (f j)->f i<=f j:=by
 induction m with
 |zero=>rintro⟨i,hi,_⟩;omega
 |succ m ih=>
  rintro⟨i,hi,hk⟩;by_cases c:∃i,i<m/\k<cl f n (f i)+ce f n (f i)
  .obtain⟨a,ha,hka,hl⟩:=ih c;by_cases d:k<cl f n (f m)+ce f n (f m)/\f m<f a
   .refine⟨m,Yo,d.1,λj hj hkj=>?_⟩;by_cases e:j=m
    .subst e;exact Int.le_refl _
    .have:=hl j Yo hkj;omega
   .refine⟨a,Yo,hka,λj hj hkj=>?_⟩;by_cases e:j=m
    .subst e;rcases Int.lt_or_le (f j) (f a) with x|x
     .exact absurd ⟨hkj,x⟩ d
     .exact x
    .exact hl j Yo hkj
  .have e:i=m:=by
    by_cases e:i=m
    .exact e
    .exact absurd ⟨i,Yo,hk⟩ c
   subst e;refine⟨i,Yo,hk,λj hj hkj=>?_⟩;by_cases e:j=i
   .subst e;exact Int.le_refl _
   .exact absurd ⟨j,Yo,hkj⟩ c
theorem aDk(m:Nat):(∃i,i<m/\f i<u)->∃i,i<m/\f i<u/\∀j,j<m->f j<u->f j<=f i:=by
 induction m with
 |zero=>rintro⟨i,hi,_⟩;omega
 |succ m ih=>
  rintro⟨i,hi,hu⟩;by_cases c:∃i,i<m/\f i<u
  .obtain⟨a,ha,hua,hl⟩:=ih c;by_cases d:f m<u/\f a<f m
   .refine⟨m,Yo,d.1,λj hj hju=>?_⟩;by_cases e:j=m
    .subst e;exact Int.le_refl _
    .have:=hl j Yo hju;omega
   .refine⟨a,Yo,hua,λj hj hju=>?_⟩;by_cases e:j=m
    .subst e;rcases Int.lt_or_le (f a) (f j) with x|x
     .exact absurd ⟨hju,x⟩ d
     .exact x
    .exact hl j Yo hju
  .have e:i=m:=by
    by_cases e:i=m
    .exact e
    .exact absurd ⟨i,Yo,hu⟩ c
   subst e;refine⟨i,Yo,hu,λj hj hju=>?_⟩;by_cases e:j=i
   .subst e;exact Int.le_refl _
   .exact absurd ⟨j,Yo,hju⟩ c
theorem aJR(f:Nat->Int)(m:Nat)(hm:0<m):∃i,i<m/\∀j,j<m->f j<=f i:=by
 induction m with
 |zero=>omega
 |succ m ih=>
  rcases Nat.eq_zero_or_pos m with h|h
  .subst h;exact⟨0,Yo,λj hj=>by rw[show j=0 by omega];exact Int.le_refl _⟩
  .obtain⟨i,hi,hl⟩:=ih h;by_cases c:f i<=f m
   .refine⟨m,Yo,λj hj=>?_⟩;by_cases e:j=m
    .subst e;exact Int.le_refl _
    .have:=hl j Yo;omega
   .refine⟨i,Yo,λj hj=>?_⟩;by_cases e:j=m
    .subst e;omega
    .exact hl j Yo
theorem aNR(f:Nat->Int)(n k:Nat)(hk:k<n):∃i,i<n/\sD f n k (f i):=by
 obtain⟨t,ht,htop⟩:=aJR f n Yo;have full:cl f n (f t)+ce f n (f t)=n:=by
  rw[QF];exact aMq (λi hi=>Xt (htop i hi))
 obtain⟨i,hi,hki,hl⟩:=aDX (f:=f) (n:=n) (k:=k) n ⟨t,ht,Yo⟩;refine⟨i,hi,?_,hki⟩;rcases Nat.eq_zero_or_pos (cl f n (f i)) with h0|h0
 .omega
 .obtain⟨j,hj,hp⟩:=TE h0;obtain⟨a,ha,hau,hal⟩:=aDk (f:=f) (u:=f i) n ⟨j,hj,Xu hp⟩;have e:cl f n (f i)<=cl f n (f a)+ce f n (f a):=by
   rw[QF];exact aAV (λb hb hp=>Xt (hal b hb (Xu hp)))
  rcases Nat.lt_or_ge k (cl f n (f a)+ce f n (f a)) with c|c
  .have:=hl a ha c;omega
  .omega
def yG(f:Nat->Int)(n:Nat)(m:Int):Prop:=∃a b,sD f n ((n-1)/3) a/\sD f n (n-1-(n-1)/3) b/\m=(a+b)/2
theorem aIG{m m':Int}(h:yG f n m)(h':yG f n m'):m=m':=by
 obtain⟨a,b,ha,hb,rfl⟩:=h;obtain⟨a',b',ha',hb',rfl⟩:=h';rw[aEa ha ha',aEa hb hb']
def GV(p:Prop)[Decidable p]:Nat:=if p then 1 else 0
theorem aLV(p:Prop)[Decidable p]:GV p<=1:=by unfold GV;split<;>omega
variable{p:Prop}
theorem sV[Decidable p](h:p):GV p=1:=if_pos h
theorem BV[Decidable p](h:¬p):GV p=0:=if_neg h
structure Rl where
 I:Nat->Bool
 M:Nat->Int
 J:Nat->Int
def dS{α:Type}(f:Nat->α)(q:Nat)(x:α)(j:Nat):α:=if j=q then x else f j
variable{α:Type}
theorem dD(f:Nat->α)(q:Nat)(x:α):dS f q x q=x:=if_pos rfl
theorem bZ(f:Nat->α){q:Nat}(x:α)(h:j≠q):dS f q x j=f j:=if_neg h
def fI:Rl:=⟨λ_=>false,λ_=>0,λ_=>0⟩
def beginR:Rl:=⟨λ_=>true,λ_=>0,λ_=>0⟩
def gd(r:Rl)(j:Nat):Bool:=if r.I j then decide (0<=r.M j)&&decide (r.M j<=2)&&decide (r.J j=0) else decide (r.M j=0)&&decide (0<=r.J j)&&decide (r.J j<=2)
def kY(r:Rl):Bool:=gd r 0&&gd r 1&&gd r 2&&gd r 3
variable{r:Rl}
theorem gd_in(h:r.I j=true):gd r j=true↔0<=r.M j/\r.M j<=2/\r.J j=0:=by unfold gd;rw[if_pos h];simp[and_assoc]
theorem rG(h:r.I j=false):gd r j=true↔r.M j=0/\0<=r.J j/\r.J j<=2:=by unfold gd;rw[if_neg (by rw[h];decide)];simp[and_assoc]
theorem uP:kY r=true↔∀j,j<4->gd r j=true:=by grind [kY]
theorem wT(hj:j<4)(h:gd r j=false):kY r=false:=by
 cases e:kY r with
 |false=>rfl
 |true=>rw[uP.1 e j hj] at h;cases h
def kZ(A:Nat->Bool)(i:Nat)(r:Rl):Rl:=
 if r.I i=true then (if A i=true then ⟨r.I,dS r.M i 0,r.J⟩ else if 2<=r.M i+1/\2<cn r.I 4 then ⟨dS r.I i false,dS r.M i 0,r.J⟩ else ⟨r.I,dS r.M i (min (r.M i+1) 2),r.J⟩)
 else if A i=true then (if 3<=r.J i+1 then ⟨dS r.I i true,r.M,dS r.J i 0⟩ else ⟨r.I,r.M,dS r.J i (r.J i+1)⟩) else ⟨r.I,r.M,dS r.J i 0⟩
def lJ(A:Nat->Bool)(i:Nat)(r:Rl):List (Int×Nat):=
 if r.I i=true then (if A i=true then [] else if 2<=r.M i+1/\2<cn r.I 4 then [(1,i)] else []) else if A i=true then (if 3<=r.J i+1 then [(2,i)] else []) else []
section
variable {A:Nat->Bool} {i:Nat} {r:Rl}
theorem st_agree(h:r.I i=true)(a:A i=true):kZ A i r=⟨r.I,dS r.M i 0,r.J⟩/\lJ A i r=[]:=by unfold kZ lJ;rw[if_pos h,if_pos a,if_pos h,if_pos a];exact⟨rfl,rfl⟩
theorem UT(h:r.I i=true)(a:A i=false)(c:2<=r.M i+1/\2<cn r.I 4):kZ A i r=⟨dS r.I i false,dS r.M i 0,r.J⟩/\lJ A i r=[(1,i)]:=by grind [kZ,lJ]
theorem zV(h:r.I i=true)(a:A i=false)(c:¬(2<=r.M i+1/\2<cn r.I 4)):kZ A i r=⟨r.I,dS r.M i (min (r.M i+1) 2),r.J⟩/\lJ A i r=[]:=by grind [kZ,lJ]
theorem aBz(h:r.I i=false)(a:A i=true)(c:3<=r.J i+1):kZ A i r=⟨dS r.I i true,r.M,dS r.J i 0⟩/\lJ A i r=[(2,i)]:=by grind [kZ,lJ]
theorem LQ(h:r.I i=false)(a:A i=true)(c:¬3<=r.J i+1):kZ A i r=⟨r.I,r.M,dS r.J i (r.J i+1)⟩/\lJ A i r=[]:=by grind [kZ,lJ]
theorem VI(h:r.I i=false)(a:A i=false):kZ A i r=⟨r.I,r.M,dS r.J i 0⟩/\lJ A i r=[]:=by grind [kZ,lJ]
theorem FN(A:Nat->Bool)(i:Nat)(r:Rl):(r.I i=true/\A i=true/\kZ A i r=⟨r.I,dS r.M i 0,r.J⟩/\lJ A i r=[])\/(r.I i=true/\A i=false/\(2<=r.M i+1/\2<cn r.I 4)/\kZ A i r=⟨dS r.I i false,dS r.M i 0,r.J⟩/\lJ A i r=[(1,i)])\/(r.I i=true/\A i=false/\¬(2<=r.M i+1/\2<cn r.I 4)/\kZ A i r=⟨r.I,dS r.M i (min (r.M i+1) 2),r.J⟩/\lJ A i r=[])\/(r.I i=false/\A i=true/\3<=r.J i+1/\kZ A i r=⟨dS r.I i true,r.M,dS r.J i 0⟩/\lJ A i r=[(2,i)])\/(r.I i=false/\A i=true/\¬3<=r.J i+1/\kZ A i r=⟨r.I,r.M,dS r.J i (r.J i+1)⟩/\lJ A i r=[])\/(r.I i=false/\A i=false/\kZ A i r=⟨r.I,r.M,dS r.J i 0⟩/\lJ A i r=[]):=by
 cases h:r.I i with
 |true=>
  cases a:A i with
  |true=>exact Or.inl ⟨rfl,rfl,st_agree h a⟩
  |false=>
   by_cases c:2<=r.M i+1/\2<cn r.I 4
   .exact Or.inr (Or.inl ⟨rfl,rfl,c,UT h a c⟩)
   .exact Or.inr (Or.inr (Or.inl ⟨rfl,rfl,c,zV h a c⟩))
 |false=>
  cases a:A i with
  |true=>
   by_cases c:3<=r.J i+1
   .exact Or.inr (Or.inr (Or.inr (Or.inl ⟨rfl,rfl,c,aBz h a c⟩)))
   .exact Or.inr (Or.inr (Or.inr (Or.inr (Or.inl ⟨rfl,rfl,c,LQ h a c⟩))))
  |false=>exact Or.inr (Or.inr (Or.inr (Or.inr (Or.inr ⟨rfl,rfl,VI h a⟩))))
theorem VB(hj:j≠i):(kZ A i r).I j=r.I j/\(kZ A i r).M j=r.M j/\(kZ A i r).J j=r.J j:=by
 rcases FN A i r with ⟨_,_,e,_⟩|⟨_,_,_,e,_⟩|⟨_,_,_,e,_⟩|⟨_,_,_,e,_⟩|⟨_,_,_,e,_⟩|⟨_,_,e,_⟩<;>rw[e]<;>simp[bZ _ _ hj]
theorem aFo{s:Rl}(h1:s.I j=r.I j)(h2:s.M j=r.M j)(h3:s.J j=r.J j):gd s j=gd r j:=by unfold gd;rw[h1,h2,h3]
theorem aLx(h:gd r i=true):gd (kZ A i r) i=true:=by
 rcases FN A i r with ⟨a,_,e,_⟩|⟨a,_,_,e,_⟩|⟨a,_,_,e,_⟩|⟨a,_,_,e,_⟩|⟨a,_,c,e,_⟩|⟨a,_,e,_⟩<;>rw[e]
 .have:=(gd_in a).1 h;refine (gd_in (r:=⟨r.I,dS r.M i 0,r.J⟩) a).2 ?_;show 0<=dS r.M i 0 i/\dS r.M i 0 i<=2/\r.J i=0
  rw[dD];omega
 .have:=(gd_in a).1 h;refine (rG (dD _ _ _)).2 ?_;show dS r.M i 0 i=0/\0<=r.J i/\r.J i<=2
  rw[dD];omega
 .have:=(gd_in a).1 h;refine (gd_in (r:=⟨r.I,dS r.M i (min (r.M i+1) 2),r.J⟩) a).2 ?_;show 0<=dS r.M i (min (r.M i+1) 2) i/\dS r.M i (min (r.M i+1) 2) i<=2/\r.J i=0
  rw[dD];omega
 .have:=(rG a).1 h;refine (gd_in (dD _ _ _)).2 ?_;show 0<=r.M i/\r.M i<=2/\dS r.J i 0 i=0
  rw[dD];omega
 .have:=(rG a).1 h;refine (rG (r:=⟨r.I,r.M,dS r.J i (r.J i+1)⟩) a).2 ?_;show r.M i=0/\0<=dS r.J i (r.J i+1) i/\dS r.J i (r.J i+1) i<=2
  rw[dD];omega
 .have:=(rG a).1 h;refine (rG (r:=⟨r.I,r.M,dS r.J i 0⟩) a).2 ?_;show r.M i=0/\0<=dS r.J i 0 i/\dS r.J i 0 i<=2
  rw[dD];omega
theorem aFe(h:kY r=true):kY (kZ A i r)=true:=by
 rw[uP] at h ⊢;intro j hj;by_cases e:j=i
 .subst e;exact aLx (h j hj)
 .obtain⟨h1,h2,h3⟩:=VB (A:=A) (r:=r) e;rw[aFo h1 h2 h3];exact h j hj
end
def rnN(A:Nat->Bool)(r:Rl):Nat->Rl×List (Int×Nat)
 |0=>(r,[])
 |i+1=>(kZ A i (rnN A r i).1,(rnN A r i).2++lJ A i (rnN A r i).1)
section
variable {A:Nat->Bool} {r:Rl}
theorem CP(h:kY r=true):∀i,kY (rnN A r i).1=true
 |0=>h
 |i+1=>aFe (CP h i)
theorem aAk:∀i {j},i<=j->(rnN A r i).1.I j=r.I j/\(rnN A r i).1.M j=r.M j/\(rnN A r i).1.J j=r.J j
 |0,_,_=>⟨rfl,rfl,rfl⟩
 |i+1,j,h=>by
  obtain⟨a,b,c⟩:=aAk i (j:=j) Yo;obtain⟨d,e,f⟩:=VB (A:=A) (r:=(rnN A r i).1) (i:=i) (j:=j) Yo;exact⟨d.trans a,e.trans b,f.trans c⟩
theorem aMF(A:Nat->Bool)(i:Nat)(r:Rl):(lJ A i r).length<=1:=by
 rcases FN A i r with ⟨_,_,_,e⟩|⟨_,_,_,_,e⟩|⟨_,_,_,_,e⟩|⟨_,_,_,_,e⟩|⟨_,_,_,_,e⟩|⟨_,_,_,e⟩<;>rw[e]<;>simp
theorem IQ(A:Nat->Bool)(r:Rl):∀i,(rnN A r i).2.length<=i
 |0=>Xr _
 |i+1=>by
  have:=IQ A r i;have:=aMF A i (rnN A r i).1;show ((rnN A r i).2++lJ A i (rnN A r i).1).length<=i+1
  rw[List.length_append];omega
end
def stR(r:Rl)(st:Bool)(n:Nat)(A:Nat->Bool):Rl×List (Int×Nat)×Int:=
 if n≠4 then (fI,[],8) else if kY r=false then (fI,[],3) else if st=true then ((rnN A r 4).1,(rnN A r 4).2,0) else (r,[],0)
section
variable {A:Nat->Bool} {r:Rl}
theorem JK(h:kY r=true):stR r true 4 A=((rnN A r 4).1,(rnN A r 4).2,0):=by
 unfold stR;rw[if_neg Yo,if_neg (by rw[h];decide),if_pos rfl]
theorem UU(h:kY r=true):stR r false 4 A=(r,[],0):=by
 unfold stR;rw[if_neg Yo,if_neg (by rw[h];decide),if_neg Yc]
end
def vk(b:Nat->Bool)(v:Nat->Int)(x:Int):Nat->Nat
 |0=>0
 |k+1=>vk b v x k+if b k=true/\v k=x then 1 else 0
def ti(b:Nat->Bool):Nat->Nat
 |0=>0
 |k+1=>ti b k+if b k=true then 1 else 0
theorem aFx(b:Nat->Bool)(v:Nat->Int)(x:Int)(k:Nat):vk b v x k<=ti b k:=by
 induction k with
 |zero=>exact Xr _
 |succ k ih=>
  show vk b v x k+_<=ti b k+_
  by_cases h:b k=true
  .by_cases h2:v k=x
   .rw[if_pos ⟨h,h2⟩,if_pos h];omega
   .rw[if_neg (λh3=>h2 h3.2),if_pos h];omega
  .rw[if_neg (λh3=>h h3.1),if_neg h];omega
theorem JM(b:Nat->Bool)(k:Nat):ti b k<=k:=by
 induction k with
 |zero=>exact Xr _
 |succ k ih=>show ti b k+_<=k+1;split<;>omega
theorem I4(b:Nat->Bool)(v:Nat->Int)(x:Int)(k:Nat):vk b v x k<=k:=Nat.le_trans (aFx b v x k) (JM b k)
variable{b:Nat->Bool}
theorem wK(h:ti b k=0):∀i,i<k->b i=false:=by
 induction k with
 |zero=>intro i hi;omega
 |succ k ih=>
  have h2:ti b k+(if b k=true then 1 else 0)=0:=h;intro i hi;by_cases hb:b k=true
  .rw[if_pos hb] at h2;omega
  .rw[if_neg hb] at h2;by_cases e:i=k
   .subst e;simpa using hb
   .exact ih Yo i Yo
variable{i:Nat}
theorem aLM(hi:i<k)(h:b i=true):0<ti b k:=by
 rcases Nat.eq_zero_or_pos (ti b k) with e|e
 .have:=wK e i hi;rw[h] at this;cases this
 .exact e
variable{v:Nat->Int}
theorem aNq(hi:i<k)(h:b i=true):0<vk b v (v i) k:=by
 induction k with
 |zero=>omega
 |succ k ih=>
  show 0<vk b v (v i) k+_
  by_cases e:i=k
  .subst e;rw[if_pos ⟨h,rfl⟩];omega
  .have:=ih Yo;omega
def uG(v:Nat->Int)(b:Nat->Bool)(k:Nat)(X:Int):Prop:=
 (ti b k=0/\X=0)\/∃m,m<k/\b m=true/\X=v m/\(∀i,i<k->b i=true->vk b v (v i) 4<=vk b v X 4)/\∀i,i<m->b i=true->vk b v (v i) 4<vk b v X 4
theorem X3(v:Nat->Int)(b:Nat->Bool):uG v b 0 0:=Or.inl ⟨rfl,rfl⟩
variable{X:Int}
theorem isV_out(h:uG v b k X)(hb:b k=false):uG v b (k+1) X:=by
 rcases h with ⟨h1,h2⟩|⟨m,h1,h2,h3,h4,h5⟩
 .refine Or.inl ⟨?_,h2⟩;show ti b k+_=0
  rw[if_neg (by rw[hb];decide)];omega
 .refine Or.inr ⟨m,Yo,h2,h3,λi hi hbi=>?_,h5⟩;by_cases e:i=k
  .subst e;rw[hb] at hbi;cases hbi
  .exact h4 i Yo hbi
theorem FU(h:uG v b k X)(hb:b k=true)(hc:vk b v X 4<vk b v (v k) 4\/ti b k=0):uG v b (k+1) (v k):=by
 refine Or.inr ⟨k,Yo,hb,rfl,?_⟩;rcases h with ⟨h1,h2⟩|⟨m,h1,h2,h3,h4,h5⟩
 .refine⟨λi hi hbi=>?_,λi hi hbi=>?_⟩
  .by_cases e:i=k
   .subst e;exact Xr _
   .have:=wK h1 i Yo;rw[this] at hbi;cases hbi
  .have:=wK h1 i hi;rw[this] at hbi;cases hbi
 .have hp:vk b v X 4<vk b v (v k) 4:=by
   rcases hc with h|h
   .exact h
   .have:=wK h m h1;rw[this] at h2;cases h2
  refine⟨λi hi hbi=>?_,λi hi hbi=>?_⟩
  .by_cases e:i=k
   .subst e;exact Xr _
   .have:=h4 i Yo hbi;omega
  .have:=h4 i hi hbi;omega
theorem Z7(h:uG v b k X)(hc:¬(vk b v X 4<vk b v (v k) 4))(ht:ti b k≠0):uG v b (k+1) X:=by
 rcases h with ⟨h1,h2⟩|⟨m,h1,h2,h3,h4,h5⟩
 .omega
 .refine Or.inr ⟨m,Yo,h2,h3,λi hi hbi=>?_,h5⟩;by_cases e:i=k
  .subst e;omega
  .exact h4 i Yo hbi
theorem aJH{Y:Int}(h:uG v b k X)(h':uG v b k Y):X=Y:=by
 rcases h with ⟨h1,h2⟩|⟨m,h1,h2,h3,h4,h5⟩<;>rcases h' with ⟨g1,g2⟩|⟨m',g1,g2,g3,g4,g5⟩
 .rw[h2,g2]
 .have:=wK h1 m' g1;rw[this] at g2;cases g2
 .have:=wK g1 m h1;rw[this] at h2;cases h2
 .have e1:=h4 m' g1 g2;have e2:=g4 m h1 h2;rw[<-g3] at e1;rw[<-h3] at e2;rcases Nat.lt_trichotomy m m' with h|h|h
  .have:=g5 m h h2;rw[<-h3] at this;omega
  .rw[h3,g3,h]
  .have:=h5 m' h g2;rw[<-g3] at this;omega
def BF(v:Nat->Int)(b:Nat->Bool)(X:Int):Bool:=decide (0<ti b 4/\ti b 4<2*vk b v X 4)
def qL(v:Nat->Int)(b:Nat->Bool)(X:Int)(i:Nat):Bool:=decide (0<ti b 4/\v i=X)
def CF(f:Nat->Int)(n:Nat)(other m:Int):Prop:=(n<2*ce f n m)\/((∀v,¬n<2*ce f n v)/\m=other)
variable{v:Int}
theorem aLF(h:u≠v):ce f n u+ce f n v<=n:=by
 induction n with
 |zero=>exact Xr _
 |succ n ih=>
  show (cn _ n+if decide (f n=u)=true then 1 else 0)+(cn _ n+if decide (f n=v)=true then 1 else 0)<=n+1
  have ih':cn (λi=>decide (f i=u)) n+cn (λi=>decide (f i=v)) n<=n:=ih;by_cases h1:f n=u
  .rw[if_pos (Xt h1),if_neg (by rw[Xf Yo];decide)];omega
  .rw[if_neg (by rw[Xf h1];decide)];split<;>omega
theorem ZU{other m m':Int}(h:CF f n other m)(h':CF f n other m'):m=m':=by
 rcases h with h|⟨h,e⟩<;>rcases h' with h'|⟨h',e'⟩
 .by_cases c:m=m'
  .exact c
  .have:=aLF (f:=f) (n:=n) c;omega
 .exact absurd h (h' m)
 .exact absurd h' (h m')
 .rw[e,e']
def OU(a b c:Int):Int:=if a=b then a else if a=c then a else if b=c then b else 0
theorem ce3(f:Nat->Int)(v:Int):ce f 3 v=GV (f 0=v)+GV (f 1=v)+GV (f 2=v):=by
 have e:∀i,(if decide (f i=v)=true then 1 else 0)=GV (f i=v):=λi=>by unfold GV;by_cases h:f i=v<;>simp[h]
 show ((0+(if decide (f 0=v)=true then 1 else 0))+(if decide (f 1=v)=true then 1 else 0))+(if decide (f 2=v)=true then 1 else 0)=_
 rw[e,e,e];omega
theorem aAp(f:Nat->Int):CF f 3 0 (OU (f 0) (f 1) (f 2)):=by
 unfold OU;split
 .rename_i h;refine Or.inl ?_;rw[ce3,sV (p:=f 0=f 0) rfl,sV (p:=f 1=f 0) h.symm];omega
 .split
  .rename_i h;refine Or.inl ?_;rw[ce3,sV (p:=f 0=f 0) rfl,sV (p:=f 2=f 0) h.symm];omega
  .split
   .rename_i h;refine Or.inl ?_;rw[ce3,sV (p:=f 1=f 1) rfl,sV (p:=f 2=f 1) h.symm];omega
   .rename_i h1 h2 h3;refine Or.inr ⟨λv=>?_,rfl⟩;rw[ce3];by_cases a:f 0=v
    .rw[sV a,BV (p:=f 1=v) Yo,BV (p:=f 2=v) Yo];omega
    .rw[BV a];by_cases b:f 1=v
     .rw[sV b,BV (p:=f 2=v) Yo];omega
     .rw[BV b];have:=aLV (f 2=v);omega
def o1(q s:Nat):Nat:=if 0≠q/\0≠s then 0 else if 1≠q/\1≠s then 1 else 2
def o2(q s:Nat):Nat:=if 3≠q/\3≠s then 3 else if 2≠q/\2≠s then 2 else 1
def lQ(f:Nat->Int)(n:Nat):List Int:=(List.range n).map f
theorem sU(f:Nat->Int)(n:Nat):(lQ f n).length=n:=by simp[lQ]
theorem aGb(f:Nat->Int)(n:Nat):lQ f (n+1)=lQ f n++[f n]:=by simp[lQ,List.range_succ]
theorem MW(f:Nat->Int)(p:Int->Bool)(n:Nat):cn (λi=>p (f i)) n=(lQ f n).countP p:=by
 induction n with
 |zero=>rfl
 |succ n ih=>
  rw[aGb,List.countP_append, <-ih];show cn _ n+(if p (f n) then 1 else 0)=_
  by_cases h:p (f n)=true<;>simp[h]
def iZ(l:List Int):List Int:=l.mergeSort (λx y=>decide (x<=y))
theorem LW(l:List Int):(iZ l).length=l.length:=by unfold iZ;exact List.length_mergeSort _
theorem FQ(l:List Int):(iZ l).Perm l:=by unfold iZ;exact List.mergeSort_perm _ _
theorem aNk(l:List Int):(iZ l).Pairwise (λx y=>x<=y):=by
 have h:(iZ l).Pairwise (λx y=>decide (x<=y)=true):=by
  unfold iZ;exact List.pairwise_mergeSort (λa b c h1 h2=>by have:=Xu h1;have:=Xu h2;exact Xt Yo) (λa b=>by
   rcases Int.le_total a b with h|h
   .rw[Xt h];rfl
   .rw[Xt h,Bool.or_true]) l
 exact h.imp (λh=>Xu h)
variable{l:List Int}
theorem aDG{x y:Int}(hi:(iZ l)[i]?=some x)(hj:(iZ l)[j]?=some y)(h:i<=j):x<=y:=by
 rcases Nat.lt_or_ge i j with c|c
 .have hx:=List.getElem?_eq_some_iff.1 hi;have hy:=List.getElem?_eq_some_iff.1 hj;obtain⟨a,rfl⟩:=hx;obtain⟨b,rfl⟩:=hy;exact List.pairwise_iff_getElem.1 (aNk l) i j a b c
 .have:i=j:=Yo;subst this;rw[hi] at hj;cases hj;exact Int.le_refl _
theorem aGK(h:(iZ l)[k]?=some v):(iZ l).countP (λx=>decide (x<v))<=k:=by
 have e:=List.take_append_drop k (iZ l);rw[<-e,List.countP_append];have h1:((iZ l).take k).countP (λx=>decide (x<v))<=k:=Nat.le_trans List.countP_le_length (by simp;omega);have h2:((iZ l).drop k).countP (λx=>decide (x<v))=0:=by
  rw[List.countP_eq_zero];intro a ha;obtain⟨j,hj⟩:=List.mem_iff_getElem?.1 ha;rw[List.getElem?_drop] at hj;have:=aDG h hj Yo;simp;omega
 omega
theorem aHV(h:(iZ l)[k]?=some v):k<(iZ l).countP (λx=>decide (x<=v)):=by
 have hk:k<(iZ l).length:=(List.getElem?_eq_some_iff.1 h).1;have e:=List.take_append_drop (k+1) (iZ l);rw[<-e,List.countP_append];have h1:((iZ l).take (k+1)).countP (λx=>decide (x<=v))=k+1:=by
  have h2:((iZ l).take (k+1)).countP (λx=>decide (x<=v))=((iZ l).take (k+1)).length:=by
   rw[List.countP_eq_length];intro a ha;obtain⟨j,hj⟩:=List.mem_iff_getElem?.1 ha;have hj':j<k+1:=by
    have:=(List.getElem?_eq_some_iff.1 hj).1;simp at this;omega
   rw[List.getElem?_take_of_lt hj'] at hj;exact Xt (aDG hj h Yo)
  rw[h2,List.length_take];omega
 omega
theorem aDm(h:(iZ (lQ f n))[k]?=some v):sD f n k v:=by
 have e1:cl f n v=(iZ (lQ f n)).countP (λx=>decide (x<v)):=by
  rw[(FQ _).countP_eq];exact MW f (λx=>decide (x<v)) n
 have e2:cl f n v+ce f n v=(iZ (lQ f n)).countP (λx=>decide (x<=v)):=by
  rw[(FQ _).countP_eq,QF];exact MW f (λx=>decide (x<=v)) n
 exact⟨by rw[e1];exact aGK h,by rw[e2];exact aHV h⟩
variable{a:Int}
theorem aAs{b:Int}(h1:(iZ (lQ f n))[(n-1)/3]?=some a)(h2:(iZ (lQ f n))[n-1-(n-1)/3]?=some b):yG f n ((a+b)/2):=⟨a,b,aDm h1,aDm h2,rfl⟩
theorem aKt(x y:Nat):x+y=2*(x &&& y)+(x^^^y):=by
 induction x using Nat.strongRecOn generalizing y with
 |_ x ih=>
  rcases Nat.eq_zero_or_pos x with h|h
  .subst h;simp
  .have e:=ih (x/2) Yo (y/2);have a1:(x &&& y)/2=x/2 &&& y/2:=Nat.and_div_two;have a2:(x^^^y)/2=x/2^^^y/2:=Nat.xor_div_two;have b1:(x &&& y)%2=x%2 &&& y%2:=Nat.and_mod_two_pow (n:=1);have b2:(x^^^y)%2=x%2^^^y%2:=Nat.xor_mod_two_pow (n:=1);rw[<-a1, <-a2] at e;clear a1 a2 ih;generalize x &&& y=p at*;generalize x^^^y=q at*;have hx:x%2=0\/x%2=1:=Yo;have hy:y%2=0\/y%2=1:=Yo;rcases hx with hx|hx<;>rcases hy with hy|hy<;>rw[hx,hy] at b1 b2
   .have b1:p%2=0:=b1;have b2:q%2=0:=b2;omega
   .have b1:p%2=0:=b1;have b2:q%2=1:=b2;omega
   .have b1:p%2=0:=b1;have b2:q%2=1:=b2;omega
   .have b1:p%2=1:=b1;have b2:q%2=0:=b2;omega
theorem aHu(A B:BitVec 64):A.toInt+B.toInt=2*(A &&& B).toInt+(A^^^B).toInt:=by
 have h:=aKt A.toNat B.toNat;rw[<-BitVec.toNat_and, <-BitVec.toNat_xor] at h;rw[BitVec.toInt_eq_msb_cond,BitVec.toInt_eq_msb_cond,BitVec.toInt_eq_msb_cond,BitVec.toInt_eq_msb_cond,BitVec.msb_and,BitVec.msb_xor];generalize (A &&& B).toNat=p at*;generalize (A^^^B).toNat=q at*
 cases A.msb<;>cases B.msb<;>simp<;>omega
theorem SQ(A:BitVec 64):IntKind.i64.wrap (A.toNat:Int)=A.toInt:=by
 rw[IntKind.wrap_i64,BitVec.toInt_eq_toNat_cond];have:=A.isLt;split<;>omega
theorem aDR(h:R64 a):(BitVec.ofInt 64 a).toInt=a:=by
 obtain⟨h1,h2⟩:=h;rw[BitVec.toInt_ofInt,Int.bmod_def];have e:((2^64:Nat):Int)=18446744073709551616:=rfl;rw[e];split<;>omega
theorem aDv{b:Int}(ha:R64 a)(hb:R64 b):∃p q,bits .and .i64 a b=p/\bits .xor .i64 a b=q/\R64 p/\R64 q/\p+q/2=(a+b)/2:=by
 refine⟨(BitVec.ofInt 64 a &&& BitVec.ofInt 64 b).toInt,(BitVec.ofInt 64 a^^^BitVec.ofInt 64 b).toInt,?_,?_,?_,?_,?_⟩
 .exact SQ _
 .exact SQ _
 .have h1:=BitVec.le_toInt (BitVec.ofInt 64 a &&& BitVec.ofInt 64 b);have h2:=BitVec.toInt_lt (x:=BitVec.ofInt 64 a &&& BitVec.ofInt 64 b);exact⟨Yo,Yo⟩
 .have h1:=BitVec.le_toInt (BitVec.ofInt 64 a^^^BitVec.ofInt 64 b);have h2:=BitVec.toInt_lt (x:=BitVec.ofInt 64 a^^^BitVec.ofInt 64 b);exact⟨Yo,Yo⟩
 .have h:=aHu (BitVec.ofInt 64 a) (BitVec.ofInt 64 b);rw[aDR ha,aDR hb] at h;omega
def cS(x:Nat):Nat:=if x%2=0 then x/2 else x/2^^^3988292384
def cN:Nat->Nat->Nat
 |0,x=>x
 |n+1,x=>cN n (cS x)
def cF(r:Nat)(g:Nat->Nat):Nat->Nat
 |0=>r
 |n+1=>cN 8 (cF r g n^^^g n)
def cV(g:Nat->Nat):Nat->Nat
 |0=>0
 |n+1=>cV g n+g n*2^(8*n)
theorem TM(x y:Nat):(x^^^y)/2=(x/2)^^^(y/2):=by
 apply Nat.eq_of_testBit_eq;intro i;simp only[Nat.testBit_xor, <-Nat.testBit_succ]
theorem aLP(x y:Nat):(x^^^y)%2=(x%2+y%2)%2:=by
 have h:=Nat.testBit_xor (x:=x) (y:=y) (i:=0);simp only[Nat.testBit_zero] at h;rcases Nat.mod_two_eq_zero_or_one x with hx|hx<;>rcases Nat.mod_two_eq_zero_or_one y with hy|hy<;>rcases Nat.mod_two_eq_zero_or_one (x^^^y) with hz|hz<;>simp[hx,hy,hz] at h ⊢
theorem aNy(x y:Nat):cS (x^^^y)=cS x^^^cS y:=by
 unfold cS;rw[TM,aLP];rcases Nat.mod_two_eq_zero_or_one x with hx|hx<;>rcases Nat.mod_two_eq_zero_or_one y with hy|hy<;>simp[hx,hy,Nat.xor_assoc]
 .rw[Nat.xor_comm 3988292384 (y/2)]
 .rw[<-Nat.xor_assoc 3988292384 (y/2),Nat.xor_comm 3988292384 (y/2),Nat.xor_assoc (y/2),Nat.xor_self,Nat.xor_zero]
theorem aOg(n:Nat):∀(x y:Nat),cN n (x^^^y)=cN n x^^^cN n y:=by
 induction n with
 |zero=>intro x y;rfl
 |succ n ih=>intro x y;show cN n (cS (x^^^y))=_;rw[aNy,ih];rfl
theorem aMA(n:Nat):∀(m x:Nat),cN (n+m) x=cN m (cN n x):=by
 induction n with
 |zero=>intro m x;rw[Nat.zero_add];rfl
 |succ n ih=>intro m x;rw[Nat.add_right_comm];show cN (n+m) (cS x)=_;rw[ih];rfl
theorem aIv(n:Nat):∀x,cN n (x*2^n)=x:=by
 induction n with
 |zero=>intro x;show x*1=x;omega
 |succ n ih=>
  intro x;show cN n (cS (x*2^(n+1)))=x
  have h:cS (x*2^(n+1))=x*2^n:=by
   have e:x*2^(n+1)=(x*2^n)*2:=by rw[Nat.pow_succ,Nat.mul_assoc]
   unfold cS;rw[e,if_pos Yo];omega
  rw[h,ih]
variable{x:Nat}
theorem aIq(h:x<4294967296):cS x<4294967296:=by
 unfold cS;split
 .omega
 .exact Nat.xor_lt_two_pow (n:=32) Yo Yc
theorem aBV:∀{x:Nat},x<4294967296->cN n x<4294967296:=by
 induction n with
 |zero=>intro x h;exact h
 |succ n ih=>intro x h;exact ih (aIq h)
theorem aIs(n:Nat)(h:x<2^n)(y:Nat):x+y*2^n=x^^^(y*2^n):=by
 apply Nat.eq_of_testBit_eq;intro i;rw[Nat.testBit_xor,Nat.add_comm,Nat.mul_comm,Nat.testBit_two_pow_mul_add _ h,Nat.testBit_two_pow_mul];by_cases hi:i<n
 .simp[hi,Nat.not_le.2 hi]
 .have:x.testBit i=false:=Nat.testBit_lt_two_pow (Nat.lt_of_lt_of_le h (Nat.pow_le_pow_right Yo Yo));simp[hi,this,Nat.le_of_not_lt hi]
theorem aGH(r c:Nat):cN 8 (r^^^c)=cN 8 (r%256^^^c)^^^(r/256):=by
 have e:r^^^c=(r%256^^^c)^^^((r/256)*2^8):=by
  have h:=aIs (x:=r%256) 8 Yo (r/256);have h2:r=r%256^^^(r/256)*2^8:=by rw[<-h];omega
  conv=>lhs;rw[h2]
  rw[Nat.xor_assoc,Nat.xor_comm _ c, <-Nat.xor_assoc]
 rw[e,aOg,aIv]
variable{g:Nat->Nat}
theorem aIy{r:Nat}(hr:r<4294967296)(hg:∀i,g i<256)(n:Nat):cF r g n<4294967296:=by
 induction n with
 |zero=>exact hr
 |succ n ih=>exact aBV (Nat.xor_lt_two_pow (n:=32) ih (by have:=hg n;omega))
theorem aGm(r:Nat){h:Nat->Nat}(n:Nat)(e:∀i,i<n->g i=h i):cF r g n=cF r h n:=by
 induction n with
 |zero=>rfl
 |succ n ih=>show cN 8 (cF r g n^^^g n)=cN 8 (cF r h n^^^h n);rw[ih (λi hi=>e i Yo),e n Yo]
def bt(v:Int)(n i:Nat):Nat:=(v/256^(n-1-i)%256).toNat
theorem VQ(v:Int)(n i:Nat):(bt v n i:Int)=v/256^(n-1-i)%256:=by unfold bt;omega
theorem aNX(v:Int)(n i:Nat):bt v n i<256:=by unfold bt;omega
theorem aJm(v:Int)(k:Nat):(bt v (k+1) 0:Int)=v/256^k%256:=by rw[VQ];rfl
theorem aIZ(v:Int)(k i:Nat):bt v (k+1) (i+1)=bt v k i:=by
 unfold bt;rw[show k+1-1-(i+1)=k-1-i by omega]
theorem E9(k:Nat):(0:Int)<256^k:=Int.pow_pos Yc
theorem WM(v:Int)(k:Nat):v/256^k/256=v/256^(k+1):=by
 rw[Int.ediv_ediv_of_nonneg (Int.le_of_lt (E9 k)),Int.pow_succ]
def vn(g:Nat->Nat):Nat->Nat
 |0=>0
 |k+1=>vn g k*256+g k
theorem N9(hg:∀i,g i<256)(k:Nat):vn g k<256^k:=by
 induction k with
 |zero=>show 0<1;omega
 |succ k ih=>have:=hg k;show vn g k*256+g k<256^(k+1);rw[Nat.pow_succ];omega
theorem TC{f:Nat->Nat}(h:∀i,i<k->g i=f i):vn g k=vn f k:=by
 induction k with
 |zero=>rfl
 |succ k ih=>show vn g k*256+g k=vn f k*256+f k;rw[ih (λi hi=>h i Yo),h k Yo]
theorem aBK(u m:Int)(hm:0<m):u%(m*256)=u/256%m*256+u%256:=by
 have h1:u=256*(u/256)+u%256:=(Int.mul_ediv_add_emod u 256).symm;have h2:=Int.mul_ediv_add_emod (u/256) m;have h3:=Int.emod_nonneg (u/256) (Int.ne_of_gt hm);have h4:=Int.emod_lt_of_pos (u/256) hm;obtain⟨q,hq⟩:∃q,q=u/256/m:=⟨_,rfl⟩;obtain⟨r,hr⟩:∃r,r=u/256%m:=⟨_,rfl⟩;obtain⟨s,hs⟩:∃s,s=u%256:=⟨_,rfl⟩;rw[<-hq, <-hr] at h2;rw[<-hr] at h3 h4 ⊢;rw[<-hs] at h1 ⊢;have e:u=(r*256+s)+m*256*q:=by
  rw[h1, <-h2,Int.mul_add,Int.mul_comm m 256,Int.mul_assoc];omega
 rw[e,Int.add_mul_emod_self_left];apply Int.emod_eq_of_lt
 .omega
 .omega
theorem aNN(v:Int)(n k:Nat)(hk:k<=n):(vn (bt v n) k:Int)=v/256^(n-k)%256^k:=by
 induction k with
 |zero=>simp[vn,Int.emod_one]
 |succ k ih=>
  have h:=ih Yo;show ((vn (bt v n) k*256+bt v n k:Nat):Int)=_
  rw[Int.natCast_add,Int.natCast_mul,h,VQ,show n-1-k=n-(k+1) by omega,Int.pow_succ,aBK _ _ (E9 k),WM,show n-(k+1)+1=n-k by omega];rfl
theorem NP(v:Int)(n:Nat):(vn (bt v n) n:Int)=v%256^n:=by
 rw[aNN v n n (Xr _),Nat.sub_self,Int.pow_zero,Int.ediv_one]
def sg(v:Nat):Int:=if v<9223372036854775808 then (v:Int) else (v:Int)-18446744073709551616
theorem aLA{v:Nat}(h:v<18446744073709551616):R64 (sg v):=by unfold sg R64;split<;>omega
theorem aNU(h:R64 v):sg (vn (bt v 8) 8)=v:=by
 have e:=NP v 8;have e8:(256:Int)^8=18446744073709551616:=by decide
 rw[e8] at e;unfold R64 at h;unfold sg;split<;>omega
def bW(K F R:Int)(n:Nat):Int:=
 if K<1\/5<K then 4 else if F<0\/3<F\/R<0\/2147483647<R then 3 else if 24<n then 6 else 0
theorem pY{K F R:Int}(h:bW K F R n=0):1<=K/\K<=5/\0<=F/\F<=3/\0<=R/\R<=2147483647/\n<=24:=by
 unfold bW at h;split at h
 .omega
 .split at h
  .omega
  .split at h
   .omega
   .omega
def enF(K F R:Int)(n:Nat)(f:Nat->Int)(i:Nat):Nat:=
 if i=0 then 87 else if i=1 then (K%256).toNat else if i=2 then (F%256).toNat else if i<7 then bt R 4 (i-3) else if i=7 then n%256 else bt (f ((i-8)/8)) 8 ((i-8)%8)
theorem XC(K F R:Int)(n:Nat)(f:Nat->Int)(i:Nat):enF K F R n f i<256:=by grind [enF,aNX]
theorem aAm(K F R:Int)(n:Nat)(f:Nat->Int)(j k:Nat)(hk:k<8):enF K F R n f (8+8*j+k)=bt (f j) 8 k:=by grind [enF]
def dR(g:Nat->Nat):Nat:=vn (λi=>g (3+i)) 4
def dV(g:Nat->Nat)(i:Nat):Int:=sg (vn (λk=>g (8+8*i+k)) 8)
theorem aLG(hg:∀i,g i<256)(i:Nat):R64 (dV g i):=aLA (Nat.lt_of_lt_of_eq (N9 (λk=>hg _) 8) Yc)
theorem aIh(hg:∀i,g i<256):dR g<4294967296:=Nat.lt_of_lt_of_eq (N9 (λk=>hg _) 4) Yc
theorem aEe{K F R:Int}(h0:0<=R)(h1:R<=2147483647)(h:∀i,i<8+8*n->g i=enF K F R n f i):(dR g:Int)=R:=by
 have e:dR g=vn (bt R 4) 4:=TC (λi hi=>by
  show g (3+i)=_
  rw[h (3+i) Yo];unfold enF;rw[if_neg Yo,if_neg Yo,if_neg Yo,if_pos Yo,show 3+i-3=i by omega])
 rw[e,NP R 4,show (256:Int)^4=4294967296 by decide];omega
theorem aMc{K F R:Int}(hf:∀i,R64 (f i))(h:∀i,i<8+8*n->g i=enF K F R n f i)(hj:j<n):dV g j=f j:=by
 have e:vn (λk=>g (8+8*j+k)) 8=vn (bt (f j) 8) 8:=TC (λk hk=>by
  show g (8+8*j+k)=_
  rw[h (8+8*j+k) Yo,aAm K F R n f j k hk])
 unfold dV;rw[e,aNU (hf j)]
end Go.Proofs.YthimcecbgpamdaaGreat
namespace Go.Proofs.YthimcecbgpamdaaGreat
open Go.RowKit
structure Ms where
 K:Int
 F:Int
 R:Int
 L:List Int
structure Nd where
 id:Int
 fr:Int
 tn:Tn
 ax:Nat->St
 rl:Rl
 di:Nat->Nat->Int
 he:Nat->Int
 ag:Nat->Nat->Int
 us:Nat->Int
 dg:Int
 vX:Int
 vS:Bool
 vA:List Bool
def St.nil':St:=⟨0,0,0,0,0,false,0⟩
def St.beg0:St:=⟨0,0,4294967296,0,4294967296,false,0⟩
def dI:Nd:=⟨0,0,⟨0,0,0,0⟩,λ_=>St.nil',fI,λ_ _=>0,λ_=>0,λ_ _=>0,λ_=>0,0,0,false,[]⟩
def jD:Ms:=⟨0,0,0,[]⟩
def jJ(id:Int):Bool:=decide (id<0)||decide (3<id)
def jY(id:Int)(t:Tn):Nd:=if jJ id then dI else { dI with id:=id,tn:=t,ax:=λ_=>St.beg0,rl:=beginR }
def FV(id:Int):Int:=if jJ id then 3 else 0
def xK(n:Nd)(l:List Ms)(s:Nat)(kind:Int)(many:Nat):Option (List Int):=
 (l.find? λm:Ms=>decide (m.F=(s:Int))&&decide (m.F≠n.id)&&decide (m.K=kind)&&decide (m.R=n.fr)&&decide (m.L.length=many)).map (·.L)
def senN(n:Nd)(frame:Int)(rd:Nat->Int):Nd:=if jJ n.id then n else { n with fr:=frame,di:=λs a=>if (s:Int)=n.id then rd a else 0,he:=λ_=>0 }
def kV(n:Nd)(frame:Int)(rd:Nat->Int):Ms:=if jJ n.id then jD else ⟨1,n.id,frame,[rd 0,rd 1,rd 2]⟩
def relD(n:Nd)(l:List Ms)(s a:Nat):Int:=match xK n l s 1 3 with|some v=>v.getD a 0|none=>n.di s a
def relN(n:Nd)(l:List Ms):Nd:=if jJ n.id then n else { n with di:=relD n l }
def tQ(n:Nd)(l:List Ms):Ms:=if jJ n.id then jD else ⟨2,n.id,n.fr,(List.range 12).map λi=>relD n l (i/3) (i%3)⟩
def jK(n:Nd)(l:List Ms)(i k many:Nat):Int:=match xK n l i 2 many with|some v=>v.getD k 0|none=>0
def vG(n:Nd)(l:List Ms)(s:Nat)(h:Int)(k many:Nat):Int:=
 if (s:Int)=n.id then h else OU h (jK n l (o1 n.id.toNat s) k many) (jK n l (o2 n.id.toNat s) k many)
def xM(l:List Int):Int:=if 1<=l.length/\l.length<=64 then ((iZ l).getD ((l.length-1)/3) 0+(iZ l).getD (l.length-1-(l.length-1)/3) 0)/2 else 0
theorem aAI{f:Nat->Int}{n:Nat}{m:Int}(h1:1<=n)(h2:n<=64)(h:yG f n m):m=xM (lQ f n):=by
 have el:(lQ f n).length=n:=by unfold lQ;simp
 have es:(iZ (lQ f n)).length=n:=by unfold iZ;rw[List.length_mergeSort,el]
 unfold xM;rw[el,if_pos ⟨h1,h2⟩];have g:∀k,k<n->(iZ (lQ f n))[k]?=some ((iZ (lQ f n)).getD k 0):=λk hk=>by
  rw[List.getD_eq_getElem?_getD,List.getElem?_eq_getElem Yo];rfl
 exact aIG h (aAs (g _ Yo) (g _ Yo))
def nU(b:Nat->Bool)(f:Nat->Int):Nat->List Int
 |0=>[]
 |k+1=>nU b f k++(if b k then [f k] else [])
theorem VG(b:Nat->Bool)(f:Nat->Int)(k:Nat):(nU b f k).length<=k:=by
 induction k with
 |zero=>exact Xr 0
 |succ k ih=>
  show (nU b f k++_).length<=_
  rw[List.length_append];split
  .show _+1<=_;omega
  .show _+0<=_;omega
def JG(v:Nat->Int)(b:Nat->Bool):Nat->Int
 |0=>0
 |k+1=>if b k=true/\(vk b v (JG v b k) 4<vk b v (v k) 4\/ti b k=0) then v k else JG v b k
theorem aAf(v:Nat->Int)(b:Nat->Bool):∀k,uG v b k (JG v b k)
 |0=>X3 v b
 |k+1=>by
  have ih:=aAf v b k;show uG v b (k+1) (if _ then v k else JG v b k)
  cases hb:b k with
  |false=>rw[if_neg (by rintro⟨c,_⟩;exact absurd c Yc)];exact isV_out ih hb
  |true=>
   by_cases c:vk b v (JG v b k) 4<vk b v (v k) 4\/ti b k=0
   .rw[if_pos ⟨rfl,c⟩];exact FU ih hb c
   .rw[if_neg (λh=>c h.2)];exact Z7 ih (λh=>c (Or.inl h)) (λh=>c (Or.inr h))
theorem aEz{v:Nat->Int}{b:Nat->Bool}{X:Int}(h:uG v b 4 X):X=JG v b 4:=aJH h (aAf v b 4)
def X4(b:Nat->Bool):Int:=(if b 0 then 1 else 0)+(if b 1 then 2 else 0)+(if b 2 then 4 else 0)+(if b 3 then 8 else 0)
def oD(f:Nat->Int):Nat->Int
 |0=>0
 |k+1=>wrap64 (wrap64 (8*oD f k)+f k)
def zJ(s:St):List Int:=[s.X,s.V,s.P00,s.P01,s.P11,if s.B then 1 else 0,s.M]
def nV(ax:Nat->St)(r:Rl):List Int:=zJ (ax 0)++zJ (ax 1)++zJ (ax 2)++[X4 r.I,oD r.M 4,oD r.J 4]
theorem aAo(ax:Nat->St)(r:Rl):(nV ax r).length=24:=rfl
def vP(ax:Nat->St)(r:Rl)(i:Nat):Nat:=bt ((nV ax r).getD (i/8) 0) 8 (i%8)
def dgN(ax:Nat->St)(r:Rl):Int:=((4294967295-cF 4294967295 (vP ax r) 192:Nat):Int)
def decG(n:Nd)(l:List Ms)(s a:Nat):Int:=vG n l s (n.di s a) (3*s+a) 12
def decU(n:Nd)(l:List Ms)(a:Nat):Int:=xM (nU n.rl.I (λs=>decG n l s a) 4)
def decA(n:Nd)(l:List Ms)(a:Nat):St:=xR (n.ax a) n.tn (decU n l a)
def decD(n:Nd)(l:List Ms):Int:=dgN (decA n l) n.rl
def qX(n:Nd)(l:List Ms):Nd:=if jJ n.id then n else { n with ag:=decG n l,us:=decU n l,ax:=decA n l,dg:=decD n l,he:=λs=>if (s:Int)=n.id then decD n l else n.he s }
def tZ(n:Nd)(l:List Ms):Ms:=if jJ n.id then jD else ⟨3,n.id,n.fr,[decD n l]⟩
def pasH(n:Nd)(l:List Ms)(s:Nat):Int:=match xK n l s 3 1 with|some v=>v.getD 0 0|none=>n.he s
def pasN(n:Nd)(l:List Ms):Nd:=if jJ n.id then n else { n with he:=pasH n l }
def tK(n:Nd)(l:List Ms):Ms:=if jJ n.id then jD else ⟨2,n.id,n.fr,(List.range 4).map (pasH n l)⟩
def rV(n:Nd)(l:List Ms)(s:Nat):Int:=vG n l s (n.he s) s 4
def judX(n:Nd)(l:List Ms):Int:=JG (rV n l) n.rl.I 4
def judA(n:Nd)(l:List Ms)(i:Nat):Bool:=qL (rV n l) n.rl.I (judX n l) i
def judS(n:Nd)(l:List Ms):Bool:=BF (rV n l) n.rl.I (judX n l)
def judR(n:Nd)(l:List Ms):Rl:=if (stR n.rl (judS n l) 4 (judA n l)).2.2=0 then (stR n.rl (judS n l) 4 (judA n l)).1 else n.rl
def judN(n:Nd)(l:List Ms):Nd:=if jJ n.id then n else { n with vX:=judX n l,vS:=judS n l,vA:=(List.range 4).map (judA n l),rl:=judR n l }
def qW(n:Nd)(l:List Ms):Ms:=if jJ n.id then jD else ⟨5,n.id,n.fr,nV n.ax (judR n l)⟩
def unA(v:List Int)(a:Nat):St:=⟨v.getD (7*a) 0,v.getD (7*a+1) 0,v.getD (7*a+2) 0,v.getD (7*a+3) 0,v.getD (7*a+4) 0,decide (0<v.getD (7*a+5) 0),v.getD (7*a+6) 0⟩
def unR(v:List Int):Rl:=⟨λi=>decide (v.getD 21 0/2^i%2=1),λi=>v.getD 22 0/8^(3-i)%8,λi=>v.getD 23 0/8^(3-i)%8⟩
def unOK(v:List Int):Bool:=
 (List.range 3).all (λa=>decide (0<=v.getD (7*a+5) 0)&&decide (v.getD (7*a+5) 0<=1))&&decide (0<=v.getD 21 0)&&decide (v.getD 21 0<=15)&&decide (0<=v.getD 22 0)&&decide (v.getD 22 0<=4095)&&
  decide (0<=v.getD 23 0)&&decide (v.getD 23 0<=4095)&&kY (unR v)
def prs:List (Nat×Nat):=[(0,1),(0,2),(0,3),(1,2),(1,3),(2,3)]
def KY(n:Nd)(l:List Ms)(p:Nat×Nat):Option (List Int):=match xK n l p.1 5 24,xK n l p.2 5 24 with|some a,some b=>if a=b then some a else none|_,_=>none
def aBp(n:Nd)(l:List Ms):Option (List Int):=if n.vS=true/\n.vX≠n.dg then prs.findSome? (KY n l) else none
def gP(n:Nd)(l:List Ms):Nd:=if jJ n.id then n else match aBp n l with|some v=>if unOK v then { n with ax:=unA v,rl:=unR v } else n|none=>n
end Go.Proofs.YthimcecbgpamdaaGreat
