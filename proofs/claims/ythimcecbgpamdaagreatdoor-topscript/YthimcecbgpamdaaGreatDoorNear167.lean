import Derived.Test.YthimcecbgpamdaaGreatDoorNear199
import Derived.Lib.SmallJoins
namespace Go.Proofs.YthimcecbgpamdaaGreatDoor
open Go.ChangeShapes Go.WideShapes Go.ChangeAt Go.RowKit Go.Joins
def ArgS(w:World)(ao:Option Addr)(len cap:Nat)(f:Nat->Int):Prop:=
 ((ao=none/\len=0/\cap=0)\/∃x,ao=some x/\∀i,i<len->w.cell? (x.add i)=some (.int .i64 (f i)))/\len*8<=140737488351232/\∀i,R64 (f i)
variable{ao:Option Addr}
theorem ArgS.below{w w':World}{len cap:Nat}{f:Nat->Int}(h:ArgS w ao len cap f)(k:Below w.heap.size w w'):ArgS w' ao len cap f:=by
 refine⟨?_,h.2⟩;rcases h.1 with h|⟨x,rfl,hc⟩
 .exact Or.inl h
 .exact Or.inr ⟨x,rfl,λi hi=>aU (hc i hi) k⟩
section
variable {H:Type} {enc:TypeId×Value->H} {w:World} {base:Nat} {held:Bool}
end
end Go.Proofs.YthimcecbgpamdaaGreatDoor
namespace Go.Proofs.YthimcecbgpamdaaGreatDoor
open Go.RowKit
structure St where
 X:Int
 V:Int
 P00:Int
 P01:Int
 P11:Int
 B:Bool
 M:Int
structure St.Ok (s:St):Prop where
 X:R64 s.X
 V:R64 s.V
 P00:R64 s.P00
 P01:R64 s.P01
 P11:R64 s.P11
 M:R64 s.M
def lM(a b:Int):Int:=dO (a+b)
def I5(a b:Int):Int:=dO (a-b)
def dQ(a b:Int):Int:=dO (GM a b)
def Y3(a b:Int):Bool:=fP (a+b)
def sbE(a b:Int):Bool:=fP (a-b)
def I1(a b:Int):Bool:=fP (GM a b)
theorem qJ(a b:Int):R64 (lM a b):=uW _
theorem X8(a b:Int):R64 (I5 a b):=uW _
theorem qO(a b:Int):R64 (dQ a b):=uW _
def uM(s:St)(dt q:Int):St where
 X:=lM s.X (dQ s.V dt)
 V:=s.V
 P00:=lM (lM (lM s.P00 (dQ s.P01 dt)) (dQ s.P01 dt)) (dQ (dQ s.P11 dt) dt)
 P01:=lM s.P01 (dQ s.P11 dt)
 P11:=lM s.P11 q
 B:=s.B||I1 s.P01 dt||I1 s.P11 dt||I1 s.V dt||Y3 s.X (dQ s.V dt)||Y3 s.P00 (dQ s.P01 dt)||Y3 (lM s.P00 (dQ s.P01 dt)) (dQ s.P01 dt)||I1 (dQ s.P11 dt) dt||
  Y3 (lM (lM s.P00 (dQ s.P01 dt)) (dQ s.P01 dt)) (dQ (dQ s.P11 dt) dt)||Y3 s.P01 (dQ s.P11 dt)||Y3 s.P11 q
 M:=s.M
variable{s:St}
theorem PH(h:s.Ok)(dt q:Int):(uM s dt q).Ok:=⟨qJ _ _,h.V,qJ _ _,qJ _ _,qJ _ _,h.M⟩
def moreM(m:Int):Int:=wrap64 (m+1)
def offY(s:St)(z:Int):Int:=I5 z s.X
def offW(s:St)(r:Int):Int:=lM s.P00 r
def qP(s:St)(z r gate:Int):Bool:=decide (offW s r<=0)||decide (dQ gate (offW s r)<dQ (offY s z) (offY s z))
def takeS(s:St)(y w:Int):St where
 X:=lM s.X (dQ (fZ s.P00 w) y)
 V:=lM s.V (dQ (fZ s.P01 w) y)
 P00:=I5 s.P00 (dQ (fZ s.P00 w) s.P00)
 P01:=I5 s.P01 (dQ (fZ s.P00 w) s.P01)
 P11:=I5 s.P11 (dQ (fZ s.P01 w) s.P01)
 B:=s.B||FU s.P00 w||FU s.P01 w||I1 (fZ s.P00 w) y||Y3 s.X (dQ (fZ s.P00 w) y)||I1 (fZ s.P01 w) y||Y3 s.V (dQ (fZ s.P01 w) y)||
  I1 (fZ s.P00 w) s.P00||sbE s.P00 (dQ (fZ s.P00 w) s.P00)||I1 (fZ s.P00 w) s.P01||sbE s.P01 (dQ (fZ s.P00 w) s.P01)||I1 (fZ s.P01 w) s.P01||sbE s.P11 (dQ (fZ s.P01 w) s.P01)
 M:=0
def bentU(s:St)(z r gate:Int):Bool:=s.B||sbE z s.X||Y3 s.P00 r||I1 (offY s z) (offY s z)||I1 gate (offW s r)
def sF(s:St)(z r gate:Int):St:=if qP s z r gate then { s with M:=moreM s.M } else takeS { s with B:=bentU s z r gate } (offY s z) (offW s r)
def wL(s:St)(z r gate:Int):Bool:= !qP s z r gate
theorem aIb(m:Int):R64 (moreM m):=by unfold moreM R64;unfold wrap64;omega
theorem aJk(h:s.Ok)(z r gate:Int):(sF s z r gate).Ok:=by
 unfold sF;split
 .exact⟨h.X,h.V,h.P00,h.P01,h.P11,aIb _⟩
 .exact⟨qJ _ _,qJ _ _,X8 _ _,X8 _ _,X8 _ _,R64_nought⟩
structure Tn where
 Dt:Int
 Q:Int
 R:Int
 G:Int
structure Tn.Ok (t:Tn):Prop where
 Dt:R64 t.Dt
 Q:R64 t.Q
 R:R64 t.R
 G:R64 t.G
def xN(s:St)(t:Tn)(z:Int):St:=sF (uM s t.Dt t.Q) z t.R t.G
def XT(s:St)(t:Tn)(z:Int):Bool:=wL (uM s t.Dt t.Q) z t.R t.G
theorem aFA(h:s.Ok)(t:Tn)(z:Int):(xN s t z).Ok:=aJk (PH h _ _) _ _ _
end Go.Proofs.YthimcecbgpamdaaGreatDoor
namespace Go.Proofs.YthimcecbgpamdaaGreatDoor
def cn(p:Nat->Bool):Nat->Nat
 |0=>0
 |n+1=>cn p n+if p n then 1 else 0
theorem LG(p:Nat->Bool)(n:Nat):cn p n<=n:=by
 induction n with
 |zero=>exact Xr _
 |succ n ih=>show cn p n+(if p n then 1 else 0)<=n+1;split<;>omega
variable{n:Nat}{p q:Nat->Bool}
theorem aCZ(h:∀i,i<n->p i=q i):cn p n=cn q n:=by
 induction n with
 |zero=>rfl
 |succ n ih=>show cn p n+(if p n then 1 else 0)=cn q n+(if q n then 1 else 0);rw[ih (λi hi=>h i Yo),h n Yo]
theorem TV(h:∀i,i<n->p i=true->q i=true):cn p n<=cn q n:=by
 induction n with
 |zero=>exact Xr _
 |succ n ih=>
  show cn p n+(if p n then 1 else 0)<=cn q n+(if q n then 1 else 0)
  have:=ih (λi hi=>h i Yo);by_cases c:p n=true
  .rw[if_pos c,if_pos (h n Yo c)];omega
  .rw[if_neg c];omega
theorem aKk(h:∀i,i<n->p i=true):cn p n=n:=by
 induction n with
 |zero=>rfl
 |succ n ih=>show cn p n+(if p n then 1 else 0)=n+1;rw[ih (λi hi=>h i Yo),if_pos (h n Yo)]
theorem ZJ(h:0<cn p n):∃i,i<n/\p i=true:=by
 induction n with
 |zero=>exact absurd h (Nat.lt_irrefl 0)
 |succ n ih=>
  by_cases c:p n=true
  .exact⟨n,Yo,c⟩
  .have e:cn p (n+1)=cn p n:=by show cn p n+(if p n then 1 else 0)=_;rw[if_neg c];rfl
   rw[e] at h;obtain⟨i,hi,hp⟩:=ih h;exact⟨i,Yo,hp⟩
theorem aKj{r:Nat->Bool}(h:∀i,i<n->((p i=true/\q i=false/\r i=true)\/(p i=false/\q i=true/\r i=true)\/(p i=false/\q i=false/\r i=false))):cn p n+cn q n=cn r n:=by
 induction n with
 |zero=>rfl
 |succ n ih=>
  show (cn p n+if p n then 1 else 0)+(cn q n+if q n then 1 else 0)=cn r n+if r n then 1 else 0
  have e:=ih (λi hi=>h i Yo);rcases h n Yo with ⟨h1,h2,h3⟩|⟨h1,h2,h3⟩|⟨h1,h2,h3⟩<;>rw[h1,h2,h3]<;>simp<;>omega
def cl(f:Nat->Int)(n:Nat)(v:Int):Nat:=cn (λi=>decide (f i<v)) n
def ce(f:Nat->Int)(n:Nat)(v:Int):Nat:=cn (λi=>decide (f i=v)) n
def uU(f:Nat->Int)(n k:Nat)(v:Int):Prop:=cl f n v<=k/\k<cl f n v+ce f n v
theorem CO(f:Nat->Int)(n:Nat)(v:Int):cl f n v+ce f n v=cn (λi=>decide (f i<=v)) n:=by
 refine aKj (λi _=>?_);by_cases h1:f i<v
 .exact Or.inl ⟨Xt h1,Xf Yo,Xt Yo⟩
 .by_cases h2:f i=v
  .exact Or.inr (Or.inl ⟨Xf h1,Xt h2,Xt Yo⟩)
  .exact Or.inr (Or.inr ⟨Xf h1,Xf h2,Xf Yo⟩)
variable{f:Nat->Int}{u v:Int}
theorem FP(h:v<u):cl f n v+ce f n v<=cl f n u:=by
 rw[CO];exact TV (λi _ hp=>Xt (by have:=Xu hp;omega))
variable{j k:Nat}
theorem GX(h:uU f n k v)(h':uU f n j u)(hk:k<=j):v<=u:=by
 rcases Int.lt_or_le u v with c|c
 .have:=FP (f:=f) (n:=n) c;have h1:=h.1;have h2:=h'.2;omega
 .exact c
theorem aBk(h:uU f n k v)(h':uU f n k u):v=u:=by
 have:=GX h h' (Xr _);have:=GX h' h (Xr _);omega
theorem aBj(h:uU f n k v):∃i,i<n/\f i=v:=by
 have:0<ce f n v:=by have:=h.1;have:=h.2;omega
 obtain⟨i,hi,hp⟩:=ZJ this;exact⟨i,hi,Xu hp⟩
theorem aMQ(h:uU f n k v)(hu:cl f n u<=k):u<=v:=by
 rcases Int.lt_or_le v u with c|c
 .have:=FP (f:=f) (n:=n) c;have:=h.2;omega
 .exact c
theorem aMR(h:uU f n k v)(hu:k<cl f n u+ce f n u):v<=u:=by
 rcases Int.lt_or_le u v with c|c
 .have:=FP (f:=f) (n:=n) c;have:=h.1;omega
 .exact c
theorem aBl(m:Nat):(∃i,i<m/\k<cl f n (f i)+ce f n (f i))->∃i,i<m/\k<cl f n (f i)+ce f n (f i)/\∀j,j<m->k<cl f n (f j)+ce f n (f j)->f i<=f j:=by
 induction m with
 |zero=>rintro⟨i,hi,_⟩;omega
 |succ m ih=>
  rintro⟨i,hi,hk⟩;by_cases c:∃i,i<m/\k<cl f n (f i)+ce f n (f i)
  .obtain⟨a,ha,hka,hl⟩:=ih c;by_cases d:k<cl f n (f m)+ce f n (f m)/\f m<f a
   .refine⟨m,Yo,d.1,λj hj hkj=>?_⟩;by_cases e:j=m
    .subst e;exact Int.le_refl _
    .have:=hl j Yo hkj;omega
   .refine⟨a,Yo,hka,λj hj hkj=>?_⟩;by_cases e:j=m
    .subst e;rcases Int.lt_or_le (f j) (f a) with x|x
     .exact absurd ⟨hkj,x⟩ d
     .exact x
    .exact hl j Yo hkj
  .have e:i=m:=by
    by_cases e:i=m
    .exact e
    .exact absurd ⟨i,Yo,hk⟩ c
   subst e;refine⟨i,Yo,hk,λj hj hkj=>?_⟩;by_cases e:j=i
   .subst e;exact Int.le_refl _
   .exact absurd ⟨j,Yo,hkj⟩ c
theorem aCp(m:Nat):(∃i,i<m/\f i<u)->∃i,i<m/\f i<u/\∀j,j<m->f j<u->f j<=f i:=by
 induction m with
 |zero=>rintro⟨i,hi,_⟩;omega
 |succ m ih=>
  rintro⟨i,hi,hu⟩;by_cases c:∃i,i<m/\f i<u
  .obtain⟨a,ha,hua,hl⟩:=ih c;by_cases d:f m<u/\f a<f m
   .refine⟨m,Yo,d.1,λj hj hju=>?_⟩;by_cases e:j=m
    .subst e;exact Int.le_refl _
    .have:=hl j Yo hju;omega
   .refine⟨a,Yo,hua,λj hj hju=>?_⟩;by_cases e:j=m
    .subst e;rcases Int.lt_or_le (f a) (f j) with x|x
     .exact absurd ⟨hju,x⟩ d
     .exact x
    .exact hl j Yo hju
  .have e:i=m:=by
    by_cases e:i=m
    .exact e
    .exact absurd ⟨i,Yo,hu⟩ c
   subst e;refine⟨i,Yo,hu,λj hj hju=>?_⟩;by_cases e:j=i
   .subst e;exact Int.le_refl _
   .exact absurd ⟨j,Yo,hju⟩ c
theorem aJg(f:Nat->Int)(m:Nat)(hm:0<m):∃i,i<m/\∀j,j<m->f j<=f i:=by
 induction m with
 |zero=>omega
 |succ m ih=>
  rcases Nat.eq_zero_or_pos m with h|h
  .subst h;exact⟨0,Yo,λj hj=>by rw[show j=0 by omega];exact Int.le_refl _⟩
  .obtain⟨i,hi,hl⟩:=ih h;by_cases c:f i<=f m
   .refine⟨m,Yo,λj hj=>?_⟩;by_cases e:j=m
    .subst e;exact Int.le_refl _
    .have:=hl j Yo;omega
   .refine⟨i,Yo,λj hj=>?_⟩;by_cases e:j=m
    .subst e;omega
    .exact hl j Yo
theorem aGs(f:Nat->Int)(n k:Nat)(hk:k<n):∃i,i<n/\uU f n k (f i):=by
 obtain⟨t,ht,htop⟩:=aJg f n Yo;have full:cl f n (f t)+ce f n (f t)=n:=by
  rw[CO];exact aKk (λi hi=>Xt (htop i hi))
 obtain⟨i,hi,hki,hl⟩:=aBl (f:=f) (n:=n) (k:=k) n ⟨t,ht,Yo⟩;refine⟨i,hi,?_,hki⟩;rcases Nat.eq_zero_or_pos (cl f n (f i)) with h0|h0
 .omega
 .obtain⟨j,hj,hp⟩:=ZJ h0;obtain⟨a,ha,hau,hal⟩:=aCp (f:=f) (u:=f i) n ⟨j,hj,Xu hp⟩;have e:cl f n (f i)<=cl f n (f a)+ce f n (f a):=by
   rw[CO];exact TV (λb hb hp=>Xt (hal b hb (Xu hp)))
  rcases Nat.lt_or_ge k (cl f n (f a)+ce f n (f a)) with c|c
  .have:=hl a ha c;omega
  .omega
def uG(f:Nat->Int)(n:Nat)(m:Int):Prop:=∃a b,uU f n ((n-1)/3) a/\uU f n (n-1-(n-1)/3) b/\m=(a+b)/2
theorem aIa{m m':Int}(h:uG f n m)(h':uG f n m'):m=m':=by
 obtain⟨a,b,ha,hb,rfl⟩:=h;obtain⟨a',b',ha',hb',rfl⟩:=h';rw[aBk ha ha',aBk hb hb']
theorem aAL(f:Nat->Int)(n:Nat)(hn:0<n):∃m,uG f n m:=by
 obtain⟨i,_,hi⟩:=aGs f n ((n-1)/3) Yo;obtain⟨j,_,hj⟩:=aGs f n (n-1-(n-1)/3) Yo;exact⟨_,_,_,hi,hj,rfl⟩
theorem WO{m lo hi:Int}(h:uG f n m)(hb:∀i,i<n->lo<=f i/\f i<=hi):lo<=m/\m<=hi:=by
 obtain⟨a,b,ha,hb',rfl⟩:=h;obtain⟨i,hi',rfl⟩:=aBj ha;obtain⟨j,hj,rfl⟩:=aBj hb';have:=hb i hi';have:=hb j hj;omega
def ind(p:Prop)[Decidable p]:Nat:=if p then 1 else 0
theorem P8(p:Prop)[Decidable p]:ind p<=1:=by unfold ind;split<;>omega
variable{p:Prop}
theorem oD[Decidable p](h:p):ind p=1:=if_pos h
theorem yO[Decidable p](h:¬p):ind p=0:=if_neg h
theorem cn4(p:Nat->Prop)[DecidablePred p]:cn (λi=>decide (p i)) 4=ind (p 0)+ind (p 1)+ind (p 2)+ind (p 3):=by
 have e:∀i,(if decide (p i)=true then 1 else 0)=ind (p i):=λi=>by unfold ind;by_cases h:p i<;>simp[h]
 show (((0+(if decide (p 0)=true then 1 else 0))+(if decide (p 1)=true then 1 else 0))+(if decide (p 2)=true then 1 else 0))+(if decide (p 3)=true then 1 else 0)=_
 rw[e,e,e,e];omega
theorem cl4(f:Nat->Int)(v:Int):cl f 4 v=ind (f 0<v)+ind (f 1<v)+ind (f 2<v)+ind (f 3<v):=cn4 (λi=>f i<v)
theorem aNr(f:Nat->Int)(v:Int):cl f 4 v+ce f 4 v=ind (f 0<=v)+ind (f 1<=v)+ind (f 2<=v)+ind (f 3<=v):=by rw[CO];exact cn4 (λi=>f i<=v)
structure Rl where
 I:Nat->Bool
 M:Nat->Int
 J:Nat->Int
def dH{α:Type}(f:Nat->α)(q:Nat)(x:α)(j:Nat):α:=if j=q then x else f j
variable{α:Type}
theorem bZ(f:Nat->α)(q:Nat)(x:α):dH f q x q=x:=if_pos rfl
theorem dD(f:Nat->α){q:Nat}(x:α)(h:j≠q):dH f q x j=f j:=if_neg h
def dP:Rl:=⟨λ_=>false,λ_=>0,λ_=>0⟩
def beginR:Rl:=⟨λ_=>true,λ_=>0,λ_=>0⟩
def gd(r:Rl)(j:Nat):Bool:=if r.I j then decide (0<=r.M j)&&decide (r.M j<=2)&&decide (r.J j=0) else decide (r.M j=0)&&decide (0<=r.J j)&&decide (r.J j<=2)
def mI(r:Rl):Bool:=gd r 0&&gd r 1&&gd r 2&&gd r 3
variable{r:Rl}
theorem gd_in(h:r.I j=true):gd r j=true↔0<=r.M j/\r.M j<=2/\r.J j=0:=by unfold gd;rw[if_pos h];simp[and_assoc]
theorem sU(h:r.I j=false):gd r j=true↔r.M j=0/\0<=r.J j/\r.J j<=2:=by unfold gd;rw[if_neg (by rw[h];decide)];simp[and_assoc]
theorem yM:mI r=true↔∀j,j<4->gd r j=true:=by grind [mI]
theorem aKO(hj:j<4)(h:gd r j=false):mI r=false:=by
 cases e:mI r with
 |false=>rfl
 |true=>rw[yM.1 e j hj] at h;cases h
def kH(A:Nat->Bool)(i:Nat)(r:Rl):Rl:=
 if r.I i=true then (if A i=true then ⟨r.I,dH r.M i 0,r.J⟩ else if 2<=r.M i+1/\2<cn r.I 4 then ⟨dH r.I i false,dH r.M i 0,r.J⟩ else ⟨r.I,dH r.M i (min (r.M i+1) 2),r.J⟩)
 else if A i=true then (if 3<=r.J i+1 then ⟨dH r.I i true,r.M,dH r.J i 0⟩ else ⟨r.I,r.M,dH r.J i (r.J i+1)⟩) else ⟨r.I,r.M,dH r.J i 0⟩
def lQ(A:Nat->Bool)(i:Nat)(r:Rl):List (Int×Nat):=
 if r.I i=true then (if A i=true then [] else if 2<=r.M i+1/\2<cn r.I 4 then [(1,i)] else []) else if A i=true then (if 3<=r.J i+1 then [(2,i)] else []) else []
section
variable {A:Nat->Bool} {i:Nat} {r:Rl}
theorem st_agree(h:r.I i=true)(a:A i=true):kH A i r=⟨r.I,dH r.M i 0,r.J⟩/\lQ A i r=[]:=by unfold kH lQ;rw[if_pos h,if_pos a,if_pos h,if_pos a];exact⟨rfl,rfl⟩
theorem aCj(h:r.I i=true)(a:A i=false)(c:2<=r.M i+1/\2<cn r.I 4):kH A i r=⟨dH r.I i false,dH r.M i 0,r.J⟩/\lQ A i r=[(1,i)]:=by grind [kH,lQ]
theorem IG(h:r.I i=true)(a:A i=false)(c:¬(2<=r.M i+1/\2<cn r.I 4)):kH A i r=⟨r.I,dH r.M i (min (r.M i+1) 2),r.J⟩/\lQ A i r=[]:=by grind [kH,lQ]
theorem aGw(h:r.I i=false)(a:A i=true)(c:3<=r.J i+1):kH A i r=⟨dH r.I i true,r.M,dH r.J i 0⟩/\lQ A i r=[(2,i)]:=by grind [kH,lQ]
theorem VI(h:r.I i=false)(a:A i=true)(c:¬3<=r.J i+1):kH A i r=⟨r.I,r.M,dH r.J i (r.J i+1)⟩/\lQ A i r=[]:=by grind [kH,lQ]
theorem aCi(h:r.I i=false)(a:A i=false):kH A i r=⟨r.I,r.M,dH r.J i 0⟩/\lQ A i r=[]:=by grind [kH,lQ]
theorem C9(A:Nat->Bool)(i:Nat)(r:Rl):(r.I i=true/\A i=true/\kH A i r=⟨r.I,dH r.M i 0,r.J⟩/\lQ A i r=[])\/(r.I i=true/\A i=false/\(2<=r.M i+1/\2<cn r.I 4)/\kH A i r=⟨dH r.I i false,dH r.M i 0,r.J⟩/\lQ A i r=[(1,i)])\/(r.I i=true/\A i=false/\¬(2<=r.M i+1/\2<cn r.I 4)/\kH A i r=⟨r.I,dH r.M i (min (r.M i+1) 2),r.J⟩/\lQ A i r=[])\/(r.I i=false/\A i=true/\3<=r.J i+1/\kH A i r=⟨dH r.I i true,r.M,dH r.J i 0⟩/\lQ A i r=[(2,i)])\/(r.I i=false/\A i=true/\¬3<=r.J i+1/\kH A i r=⟨r.I,r.M,dH r.J i (r.J i+1)⟩/\lQ A i r=[])\/(r.I i=false/\A i=false/\kH A i r=⟨r.I,r.M,dH r.J i 0⟩/\lQ A i r=[]):=by
 cases h:r.I i with
 |true=>
  cases a:A i with
  |true=>exact Or.inl ⟨rfl,rfl,st_agree h a⟩
  |false=>
   by_cases c:2<=r.M i+1/\2<cn r.I 4
   .exact Or.inr (Or.inl ⟨rfl,rfl,c,aCj h a c⟩)
   .exact Or.inr (Or.inr (Or.inl ⟨rfl,rfl,c,IG h a c⟩))
 |false=>
  cases a:A i with
  |true=>
   by_cases c:3<=r.J i+1
   .exact Or.inr (Or.inr (Or.inr (Or.inl ⟨rfl,rfl,c,aGw h a c⟩)))
   .exact Or.inr (Or.inr (Or.inr (Or.inr (Or.inl ⟨rfl,rfl,c,VI h a c⟩))))
  |false=>exact Or.inr (Or.inr (Or.inr (Or.inr (Or.inr ⟨rfl,rfl,aCi h a⟩))))
theorem BN(hj:j≠i):(kH A i r).I j=r.I j/\(kH A i r).M j=r.M j/\(kH A i r).J j=r.J j:=by
 rcases C9 A i r with ⟨_,_,e,_⟩|⟨_,_,_,e,_⟩|⟨_,_,_,e,_⟩|⟨_,_,_,e,_⟩|⟨_,_,_,e,_⟩|⟨_,_,e,_⟩<;>rw[e]<;>simp[dD _ _ hj]
theorem aDA{s:Rl}(h1:s.I j=r.I j)(h2:s.M j=r.M j)(h3:s.J j=r.J j):gd s j=gd r j:=by unfold gd;rw[h1,h2,h3]
theorem aHw(h:gd r i=true):gd (kH A i r) i=true:=by
 rcases C9 A i r with ⟨a,_,e,_⟩|⟨a,_,_,e,_⟩|⟨a,_,_,e,_⟩|⟨a,_,_,e,_⟩|⟨a,_,c,e,_⟩|⟨a,_,e,_⟩<;>rw[e]
 .have:=(gd_in a).1 h;refine (gd_in (r:=⟨r.I,dH r.M i 0,r.J⟩) a).2 ?_;show 0<=dH r.M i 0 i/\dH r.M i 0 i<=2/\r.J i=0
  rw[bZ];omega
 .have:=(gd_in a).1 h;refine (sU (bZ _ _ _)).2 ?_;show dH r.M i 0 i=0/\0<=r.J i/\r.J i<=2
  rw[bZ];omega
 .have:=(gd_in a).1 h;refine (gd_in (r:=⟨r.I,dH r.M i (min (r.M i+1) 2),r.J⟩) a).2 ?_;show 0<=dH r.M i (min (r.M i+1) 2) i/\dH r.M i (min (r.M i+1) 2) i<=2/\r.J i=0
  rw[bZ];omega
 .have:=(sU a).1 h;refine (gd_in (bZ _ _ _)).2 ?_;show 0<=r.M i/\r.M i<=2/\dH r.J i 0 i=0
  rw[bZ];omega
 .have:=(sU a).1 h;refine (sU (r:=⟨r.I,r.M,dH r.J i (r.J i+1)⟩) a).2 ?_;show r.M i=0/\0<=dH r.J i (r.J i+1) i/\dH r.J i (r.J i+1) i<=2
  rw[bZ];omega
 .have:=(sU a).1 h;refine (sU (r:=⟨r.I,r.M,dH r.J i 0⟩) a).2 ?_;show r.M i=0/\0<=dH r.J i 0 i/\dH r.J i 0 i<=2
  rw[bZ];omega
theorem aDz(h:mI r=true):mI (kH A i r)=true:=by
 rw[yM] at h ⊢;intro j hj;by_cases e:j=i
 .subst e;exact aHw (h j hj)
 .obtain⟨h1,h2,h3⟩:=BN (A:=A) (r:=r) e;rw[aDA h1 h2 h3];exact h j hj
end
def rnN(A:Nat->Bool)(r:Rl):Nat->Rl×List (Int×Nat)
 |0=>(r,[])
 |i+1=>(kH A i (rnN A r i).1,(rnN A r i).2++lQ A i (rnN A r i).1)
section
variable {A:Nat->Bool} {r:Rl}
theorem X6(h:mI r=true):∀i,mI (rnN A r i).1=true
 |0=>h
 |i+1=>aDz (X6 h i)
theorem VA:∀i {j},i<=j->(rnN A r i).1.I j=r.I j/\(rnN A r i).1.M j=r.M j/\(rnN A r i).1.J j=r.J j
 |0,_,_=>⟨rfl,rfl,rfl⟩
 |i+1,j,h=>by
  obtain⟨a,b,c⟩:=VA i (j:=j) Yo;obtain⟨d,e,f⟩:=BN (A:=A) (r:=(rnN A r i).1) (i:=i) (j:=j) Yo;exact⟨d.trans a,e.trans b,f.trans c⟩
theorem aKg(A:Nat->Bool)(i:Nat)(r:Rl):(lQ A i r).length<=1:=by
 rcases C9 A i r with ⟨_,_,_,e⟩|⟨_,_,_,_,e⟩|⟨_,_,_,_,e⟩|⟨_,_,_,_,e⟩|⟨_,_,_,_,e⟩|⟨_,_,_,e⟩<;>rw[e]<;>simp
theorem aBn(A:Nat->Bool)(r:Rl):∀i,(rnN A r i).2.length<=i
 |0=>Xr _
 |i+1=>by
  have:=aBn A r i;have:=aKg A i (rnN A r i).1;show ((rnN A r i).2++lQ A i (rnN A r i).1).length<=i+1
  rw[List.length_append];omega
theorem PM(hI:r.I k=true)(hM:r.M k=0)(hA:A k=true):∀i,(rnN A r i).1.I k=true/\(rnN A r i).1.M k=0/\∀c∈(rnN A r i).2,c.2≠k
 |0=>⟨hI,hM,λc hc=>by cases hc⟩
 |i+1=>by
  obtain⟨a,b,c⟩:=PM hI hM hA i;by_cases e:k=i
  .subst e;obtain⟨e1,e2⟩:=st_agree (r:=(rnN A r k).1) a hA;show (kH A k (rnN A r k).1).I k=true/\(kH A k (rnN A r k).1).M k=0/\∀c∈(rnN A r k).2++lQ A k (rnN A r k).1,c.2≠k
   rw[e1,e2,List.append_nil];exact⟨a,bZ _ _ _,c⟩
  .obtain⟨d,f,_⟩:=BN (A:=A) (r:=(rnN A r i).1) (i:=i) (j:=k) e;refine⟨d.trans a,f.trans b,λx hx=>?_⟩;have hx':x∈(rnN A r i).2++lQ A i (rnN A r i).1:=hx;rcases List.mem_append.1 hx' with hx|hx
   .exact c x hx
   .have:x.2=i:=by
     rcases C9 A i (rnN A r i).1 with ⟨_,_,_,e⟩|⟨_,_,_,_,e⟩|⟨_,_,_,_,e⟩|⟨_,_,_,_,e⟩|⟨_,_,_,_,e⟩|⟨_,_,_,e⟩<;>rw[e] at hx<;>simp at hx<;>rw[hx]
    omega
end
def stR(r:Rl)(st:Bool)(n:Nat)(A:Nat->Bool):Rl×List (Int×Nat)×Int:=
 if n≠4 then (dP,[],8) else if mI r=false then (dP,[],3) else if st=true then ((rnN A r 4).1,(rnN A r 4).2,0) else (r,[],0)
section
variable {A:Nat->Bool} {r:Rl}
theorem EI(h:mI r=true):stR r true 4 A=((rnN A r 4).1,(rnN A r 4).2,0):=by
 unfold stR;rw[if_neg Yo,if_neg (by rw[h];decide),if_pos rfl]
theorem aFz(h:mI r=true):stR r false 4 A=(r,[],0):=by
 unfold stR;rw[if_neg Yo,if_neg (by rw[h];decide),if_neg Yc]
end
def vk(b:Nat->Bool)(v:Nat->Int)(x:Int):Nat->Nat
 |0=>0
 |k+1=>vk b v x k+if b k=true/\v k=x then 1 else 0
def ti(b:Nat->Bool):Nat->Nat
 |0=>0
 |k+1=>ti b k+if b k=true then 1 else 0
theorem QM(b:Nat->Bool)(v:Nat->Int)(x:Int)(k:Nat):vk b v x k<=ti b k:=by
 induction k with
 |zero=>exact Xr _
 |succ k ih=>
  show vk b v x k+_<=ti b k+_
  by_cases h:b k=true
  .by_cases h2:v k=x
   .rw[if_pos ⟨h,h2⟩,if_pos h];omega
   .rw[if_neg (λh3=>h2 h3.2),if_pos h];omega
  .rw[if_neg (λh3=>h h3.1),if_neg h];omega
theorem LQ(b:Nat->Bool)(k:Nat):ti b k<=k:=by
 induction k with
 |zero=>exact Xr _
 |succ k ih=>show ti b k+_<=k+1;split<;>omega
theorem YF(b:Nat->Bool)(v:Nat->Int)(x:Int)(k:Nat):vk b v x k<=k:=Nat.le_trans (QM b v x k) (LQ b k)
variable{b:Nat->Bool}
theorem uT(h:ti b k=0):∀i,i<k->b i=false:=by
 induction k with
 |zero=>intro i hi;omega
 |succ k ih=>
  have h2:ti b k+(if b k=true then 1 else 0)=0:=h;intro i hi;by_cases hb:b k=true
  .rw[if_pos hb] at h2;omega
  .rw[if_neg hb] at h2;by_cases e:i=k
   .subst e;simpa using hb
   .exact ih Yo i Yo
variable{i:Nat}
theorem aLP(hi:i<k)(h:b i=true):0<ti b k:=by
 rcases Nat.eq_zero_or_pos (ti b k) with e|e
 .have:=uT e i hi;rw[h] at this;cases this
 .exact e
variable{v:Nat->Int}
theorem aMd(hi:i<k)(h:b i=true):0<vk b v (v i) k:=by
 induction k with
 |zero=>omega
 |succ k ih=>
  show 0<vk b v (v i) k+_
  by_cases e:i=k
  .subst e;rw[if_pos ⟨h,rfl⟩];omega
  .have:=ih Yo;omega
def qZ(v:Nat->Int)(b:Nat->Bool)(k:Nat)(X:Int):Prop:=
 (ti b k=0/\X=0)\/∃m,m<k/\b m=true/\X=v m/\(∀i,i<k->b i=true->vk b v (v i) 4<=vk b v X 4)/\∀i,i<m->b i=true->vk b v (v i) 4<vk b v X 4
theorem JI(v:Nat->Int)(b:Nat->Bool):qZ v b 0 0:=Or.inl ⟨rfl,rfl⟩
variable{X:Int}
theorem isV_out(h:qZ v b k X)(hb:b k=false):qZ v b (k+1) X:=by
 rcases h with ⟨h1,h2⟩|⟨m,h1,h2,h3,h4,h5⟩
 .refine Or.inl ⟨?_,h2⟩;show ti b k+_=0
  rw[if_neg (by rw[hb];decide)];omega
 .refine Or.inr ⟨m,Yo,h2,h3,λi hi hbi=>?_,h5⟩;by_cases e:i=k
  .subst e;rw[hb] at hbi;cases hbi
  .exact h4 i Yo hbi
theorem NY(h:qZ v b k X)(hb:b k=true)(hc:vk b v X 4<vk b v (v k) 4\/ti b k=0):qZ v b (k+1) (v k):=by
 refine Or.inr ⟨k,Yo,hb,rfl,?_⟩;rcases h with ⟨h1,h2⟩|⟨m,h1,h2,h3,h4,h5⟩
 .refine⟨λi hi hbi=>?_,λi hi hbi=>?_⟩
  .by_cases e:i=k
   .subst e;exact Xr _
   .have:=uT h1 i Yo;rw[this] at hbi;cases hbi
  .have:=uT h1 i hi;rw[this] at hbi;cases hbi
 .have hp:vk b v X 4<vk b v (v k) 4:=by
   rcases hc with h|h
   .exact h
   .have:=uT h m h1;rw[this] at h2;cases h2
  refine⟨λi hi hbi=>?_,λi hi hbi=>?_⟩
  .by_cases e:i=k
   .subst e;exact Xr _
   .have:=h4 i Yo hbi;omega
  .have:=h4 i hi hbi;omega
theorem JH(h:qZ v b k X)(hc:¬(vk b v X 4<vk b v (v k) 4))(ht:ti b k≠0):qZ v b (k+1) X:=by
 rcases h with ⟨h1,h2⟩|⟨m,h1,h2,h3,h4,h5⟩
 .omega
 .refine Or.inr ⟨m,Yo,h2,h3,λi hi hbi=>?_,h5⟩;by_cases e:i=k
  .subst e;omega
  .exact h4 i Yo hbi
theorem aHG{Y:Int}(h:qZ v b k X)(h':qZ v b k Y):X=Y:=by
 rcases h with ⟨h1,h2⟩|⟨m,h1,h2,h3,h4,h5⟩<;>rcases h' with ⟨g1,g2⟩|⟨m',g1,g2,g3,g4,g5⟩
 .rw[h2,g2]
 .have:=uT h1 m' g1;rw[this] at g2;cases g2
 .have:=uT g1 m h1;rw[this] at h2;cases h2
 .have e1:=h4 m' g1 g2;have e2:=g4 m h1 h2;rw[<-g3] at e1;rw[<-h3] at e2;rcases Nat.lt_trichotomy m m' with h|h|h
  .have:=g5 m h h2;rw[<-h3] at this;omega
  .rw[h3,g3,h]
  .have:=h5 m' h g2;rw[<-g3] at this;omega
def QP(v:Nat->Int)(b:Nat->Bool)(X:Int):Bool:=decide (0<ti b 4/\ti b 4<2*vk b v X 4)
def QO(v:Nat->Int)(b:Nat->Bool)(X:Int)(i:Nat):Bool:=decide (0<ti b 4/\v i=X)
def LC(f:Nat->Int)(n:Nat)(other m:Int):Prop:=(n<2*ce f n m)\/((∀v,¬n<2*ce f n v)/\m=other)
variable{v:Int}
theorem aKe(h:u≠v):ce f n u+ce f n v<=n:=by
 induction n with
 |zero=>exact Xr _
 |succ n ih=>
  show (cn _ n+if decide (f n=u)=true then 1 else 0)+(cn _ n+if decide (f n=v)=true then 1 else 0)<=n+1
  have ih':cn (λi=>decide (f i=u)) n+cn (λi=>decide (f i=v)) n<=n:=ih;by_cases h1:f n=u
  .rw[if_pos (Xt h1),if_neg (by rw[Xf Yo];decide)];omega
  .rw[if_neg (by rw[Xf h1];decide)];split<;>omega
theorem aHX{other m m':Int}(h:LC f n other m)(h':LC f n other m'):m=m':=by
 rcases h with h|⟨h,e⟩<;>rcases h' with h'|⟨h',e'⟩
 .by_cases c:m=m'
  .exact c
  .have:=aKe (f:=f) (n:=n) c;omega
 .exact absurd h (h' m)
 .exact absurd h' (h m')
 .rw[e,e']
def mY(a b c:Int):Int:=if a=b then a else if a=c then a else if b=c then b else 0
theorem ce3(f:Nat->Int)(v:Int):ce f 3 v=ind (f 0=v)+ind (f 1=v)+ind (f 2=v):=by
 have e:∀i,(if decide (f i=v)=true then 1 else 0)=ind (f i=v):=λi=>by unfold ind;by_cases h:f i=v<;>simp[h]
 show ((0+(if decide (f 0=v)=true then 1 else 0))+(if decide (f 1=v)=true then 1 else 0))+(if decide (f 2=v)=true then 1 else 0)=_
 rw[e,e,e];omega
theorem aHe(f:Nat->Int):LC f 3 0 (mY (f 0) (f 1) (f 2)):=by
 unfold mY;split
 .rename_i h;refine Or.inl ?_;rw[ce3,oD (p:=f 0=f 0) rfl,oD (p:=f 1=f 0) h.symm];omega
 .split
  .rename_i h;refine Or.inl ?_;rw[ce3,oD (p:=f 0=f 0) rfl,oD (p:=f 2=f 0) h.symm];omega
  .split
   .rename_i h;refine Or.inl ?_;rw[ce3,oD (p:=f 1=f 1) rfl,oD (p:=f 2=f 1) h.symm];omega
   .rename_i h1 h2 h3;refine Or.inr ⟨λv=>?_,rfl⟩;rw[ce3];by_cases a:f 0=v
    .rw[oD a,yO (p:=f 1=v) Yo,yO (p:=f 2=v) Yo];omega
    .rw[yO a];by_cases b:f 1=v
     .rw[oD b,yO (p:=f 2=v) Yo];omega
     .rw[yO b];have:=P8 (f 2=v);omega
def o1(q s:Nat):Nat:=if 0≠q/\0≠s then 0 else if 1≠q/\1≠s then 1 else 2
def o2(q s:Nat):Nat:=if 3≠q/\3≠s then 3 else if 2≠q/\2≠s then 2 else 1
theorem CQ(a b c:Int):mY a b c=mY b a c:=by unfold mY;split<;>split<;>(try split)<;>(try split)<;>(try split)<;>omega
theorem CR(a b c:Int):mY a b c=mY a c b:=by unfold mY;split<;>split<;>(try split)<;>(try split)<;>(try split)<;>omega
theorem aHf(a c:Int):mY a a c=a:=by unfold mY;rw[if_pos rfl]
def jE(f:Nat->Int)(n:Nat):List Int:=(List.range n).map f
theorem qB(f:Nat->Int)(n:Nat):(jE f n).length=n:=by simp[jE]
theorem aDN(f:Nat->Int)(n:Nat):jE f (n+1)=jE f n++[f n]:=by simp[jE,List.range_succ]
theorem IW(f:Nat->Int)(p:Int->Bool)(n:Nat):cn (λi=>p (f i)) n=(jE f n).countP p:=by
 induction n with
 |zero=>rfl
 |succ n ih=>
  rw[aDN,List.countP_append, <-ih];show cn _ n+(if p (f n) then 1 else 0)=_
  by_cases h:p (f n)=true<;>simp[h]
def gZ(l:List Int):List Int:=l.mergeSort (λx y=>decide (x<=y))
theorem IE(l:List Int):(gZ l).length=l.length:=by unfold gZ;exact List.length_mergeSort _
theorem BM(l:List Int):(gZ l).Perm l:=by unfold gZ;exact List.mergeSort_perm _ _
theorem aLN(l:List Int):(gZ l).Pairwise (λx y=>x<=y):=by
 have h:(gZ l).Pairwise (λx y=>decide (x<=y)=true):=by
  unfold gZ;exact List.pairwise_mergeSort (λa b c h1 h2=>by have:=Xu h1;have:=Xu h2;exact Xt Yo) (λa b=>by
   rcases Int.le_total a b with h|h
   .rw[Xt h];rfl
   .rw[Xt h,Bool.or_true]) l
 exact h.imp (λh=>Xu h)
variable{l:List Int}
theorem aCf{x y:Int}(hi:(gZ l)[i]?=some x)(hj:(gZ l)[j]?=some y)(h:i<=j):x<=y:=by
 rcases Nat.lt_or_ge i j with c|c
 .have hx:=List.getElem?_eq_some_iff.1 hi;have hy:=List.getElem?_eq_some_iff.1 hj;obtain⟨a,rfl⟩:=hx;obtain⟨b,rfl⟩:=hy;exact List.pairwise_iff_getElem.1 (aLN l) i j a b c
 .have:i=j:=Yo;subst this;rw[hi] at hj;cases hj;exact Int.le_refl _
theorem aFv(h:(gZ l)[k]?=some v):(gZ l).countP (λx=>decide (x<v))<=k:=by
 have e:=List.take_append_drop k (gZ l);rw[<-e,List.countP_append];have h1:((gZ l).take k).countP (λx=>decide (x<v))<=k:=Nat.le_trans List.countP_le_length (by simp;omega);have h2:((gZ l).drop k).countP (λx=>decide (x<v))=0:=by
  rw[List.countP_eq_zero];intro a ha;obtain⟨j,hj⟩:=List.mem_iff_getElem?.1 ha;rw[List.getElem?_drop] at hj;have:=aCf h hj Yo;simp;omega
 omega
theorem aFw(h:(gZ l)[k]?=some v):k<(gZ l).countP (λx=>decide (x<=v)):=by
 have hk:k<(gZ l).length:=(List.getElem?_eq_some_iff.1 h).1;have e:=List.take_append_drop (k+1) (gZ l);rw[<-e,List.countP_append];have h1:((gZ l).take (k+1)).countP (λx=>decide (x<=v))=k+1:=by
  have h2:((gZ l).take (k+1)).countP (λx=>decide (x<=v))=((gZ l).take (k+1)).length:=by
   rw[List.countP_eq_length];intro a ha;obtain⟨j,hj⟩:=List.mem_iff_getElem?.1 ha;have hj':j<k+1:=by
    have:=(List.getElem?_eq_some_iff.1 hj).1;simp at this;omega
   rw[List.getElem?_take_of_lt hj'] at hj;exact Xt (aCf hj h Yo)
  rw[h2,List.length_take];omega
 omega
theorem aBm(h:(gZ (jE f n))[k]?=some v):uU f n k v:=by
 have e1:cl f n v=(gZ (jE f n)).countP (λx=>decide (x<v)):=by
  rw[(BM _).countP_eq];exact IW f (λx=>decide (x<v)) n
 have e2:cl f n v+ce f n v=(gZ (jE f n)).countP (λx=>decide (x<=v)):=by
  rw[(BM _).countP_eq,CO];exact IW f (λx=>decide (x<=v)) n
 exact⟨by rw[e1];exact aFv h,by rw[e2];exact aFw h⟩
variable{a:Int}
theorem UU{b:Int}(h1:(gZ (jE f n))[(n-1)/3]?=some a)(h2:(gZ (jE f n))[n-1-(n-1)/3]?=some b):uG f n ((a+b)/2):=⟨a,b,aBm h1,aBm h2,rfl⟩
theorem aGM(x y:Nat):x+y=2*(x &&& y)+(x^^^y):=by
 induction x using Nat.strongRecOn generalizing y with
 |_ x ih=>
  rcases Nat.eq_zero_or_pos x with h|h
  .subst h;simp
  .have e:=ih (x/2) Yo (y/2);have a1:(x &&& y)/2=x/2 &&& y/2:=Nat.and_div_two;have a2:(x^^^y)/2=x/2^^^y/2:=Nat.xor_div_two;have b1:(x &&& y)%2=x%2 &&& y%2:=Nat.and_mod_two_pow (n:=1);have b2:(x^^^y)%2=x%2^^^y%2:=Nat.xor_mod_two_pow (n:=1);rw[<-a1, <-a2] at e;clear a1 a2 ih;generalize x &&& y=p at*;generalize x^^^y=q at*;have hx:x%2=0\/x%2=1:=Yo;have hy:y%2=0\/y%2=1:=Yo;rcases hx with hx|hx<;>rcases hy with hy|hy<;>rw[hx,hy] at b1 b2
   .have b1:p%2=0:=b1;have b2:q%2=0:=b2;omega
   .have b1:p%2=0:=b1;have b2:q%2=1:=b2;omega
   .have b1:p%2=0:=b1;have b2:q%2=1:=b2;omega
   .have b1:p%2=1:=b1;have b2:q%2=0:=b2;omega
theorem aDE(A B:BitVec 64):A.toInt+B.toInt=2*(A &&& B).toInt+(A^^^B).toInt:=by
 have h:=aGM A.toNat B.toNat;rw[<-BitVec.toNat_and, <-BitVec.toNat_xor] at h;rw[BitVec.toInt_eq_msb_cond,BitVec.toInt_eq_msb_cond,BitVec.toInt_eq_msb_cond,BitVec.toInt_eq_msb_cond,BitVec.msb_and,BitVec.msb_xor];generalize (A &&& B).toNat=p at*;generalize (A^^^B).toNat=q at*
 cases A.msb<;>cases B.msb<;>simp<;>omega
theorem QU(A:BitVec 64):IntKind.i64.wrap (A.toNat:Int)=A.toInt:=by
 rw[IntKind.wrap_i64,BitVec.toInt_eq_toNat_cond];have:=A.isLt;split<;>omega
theorem aAY(h:R64 a):(BitVec.ofInt 64 a).toInt=a:=by
 obtain⟨h1,h2⟩:=h;rw[BitVec.toInt_ofInt,Int.bmod_def];have e:((2^64:Nat):Int)=18446744073709551616:=rfl;rw[e];split<;>omega
theorem aAw{b:Int}(ha:R64 a)(hb:R64 b):∃p q,bits .and .i64 a b=p/\bits .xor .i64 a b=q/\R64 p/\R64 q/\p+q/2=(a+b)/2:=by
 refine⟨(BitVec.ofInt 64 a &&& BitVec.ofInt 64 b).toInt,(BitVec.ofInt 64 a^^^BitVec.ofInt 64 b).toInt,?_,?_,?_,?_,?_⟩
 .exact QU _
 .exact QU _
 .have h1:=BitVec.le_toInt (BitVec.ofInt 64 a &&& BitVec.ofInt 64 b);have h2:=BitVec.toInt_lt (x:=BitVec.ofInt 64 a &&& BitVec.ofInt 64 b);exact⟨Yo,Yo⟩
 .have h1:=BitVec.le_toInt (BitVec.ofInt 64 a^^^BitVec.ofInt 64 b);have h2:=BitVec.toInt_lt (x:=BitVec.ofInt 64 a^^^BitVec.ofInt 64 b);exact⟨Yo,Yo⟩
 .have h:=aDE (BitVec.ofInt 64 a) (BitVec.ofInt 64 b);rw[aAY ha,aAY hb] at h;omega
def cS(x:Nat):Nat:=if x%2=0 then x/2 else x/2^^^3988292384
def cN:Nat->Nat->Nat
 |0,x=>x
 |n+1,x=>cN n (cS x)
def cF(r:Nat)(g:Nat->Nat):Nat->Nat
 |0=>r
 |n+1=>cN 8 (cF r g n^^^g n)
theorem aMk(x y:Nat):(x^^^y)/2=(x/2)^^^(y/2):=by
 apply Nat.eq_of_testBit_eq;intro i;simp only[Nat.testBit_xor, <-Nat.testBit_succ]
theorem aMm(x y:Nat):(x^^^y)%2=(x%2+y%2)%2:=by
 have h:=Nat.testBit_xor (x:=x) (y:=y) (i:=0);simp only[Nat.testBit_zero] at h;rcases Nat.mod_two_eq_zero_or_one x with hx|hx<;>rcases Nat.mod_two_eq_zero_or_one y with hy|hy<;>rcases Nat.mod_two_eq_zero_or_one (x^^^y) with hz|hz<;>simp[hx,hy,hz] at h ⊢
theorem aNq(x y:Nat):cS (x^^^y)=cS x^^^cS y:=by
 unfold cS;rw[aMk,aMm];rcases Nat.mod_two_eq_zero_or_one x with hx|hx<;>rcases Nat.mod_two_eq_zero_or_one y with hy|hy<;>simp[hx,hy,Nat.xor_assoc]
 .rw[Nat.xor_comm 3988292384 (y/2)]
 .rw[<-Nat.xor_assoc 3988292384 (y/2),Nat.xor_comm 3988292384 (y/2),Nat.xor_assoc (y/2),Nat.xor_self,Nat.xor_zero]
theorem aNp(n:Nat):∀(x y:Nat),cN n (x^^^y)=cN n x^^^cN n y:=by
 induction n with
 |zero=>intro x y;rfl
 |succ n ih=>intro x y;show cN n (cS (x^^^y))=_;rw[aNq,ih];rfl
theorem aKb(n:Nat):∀(m x:Nat),cN (n+m) x=cN m (cN n x):=by
 induction n with
 |zero=>intro m x;rw[Nat.zero_add];rfl
 |succ n ih=>intro m x;rw[Nat.add_right_comm];show cN (n+m) (cS x)=_;rw[ih];rfl
theorem aMr(n:Nat):∀x,cN n (x*2^n)=x:=by
 induction n with
 |zero=>intro x;show x*1=x;omega
 |succ n ih=>
  intro x;show cN n (cS (x*2^(n+1)))=x
  have h:cS (x*2^(n+1))=x*2^n:=by
   have e:x*2^(n+1)=(x*2^n)*2:=by rw[Nat.pow_succ,Nat.mul_assoc]
   unfold cS;rw[e,if_pos Yo];omega
  rw[h,ih]
variable{x:Nat}
theorem aMs(h:x<4294967296):cS x<4294967296:=by
 unfold cS;split
 .omega
 .exact Nat.xor_lt_two_pow (n:=32) Yo Yc
theorem WA:∀{x:Nat},x<4294967296->cN n x<4294967296:=by
 induction n with
 |zero=>intro x h;exact h
 |succ n ih=>intro x h;exact ih (aMs h)
theorem aMG(n:Nat)(h:x<2^n)(y:Nat):x+y*2^n=x^^^(y*2^n):=by
 apply Nat.eq_of_testBit_eq;intro i;rw[Nat.testBit_xor,Nat.add_comm,Nat.mul_comm,Nat.testBit_two_pow_mul_add _ h,Nat.testBit_two_pow_mul];by_cases hi:i<n
 .simp[hi,Nat.not_le.2 hi]
 .have:x.testBit i=false:=Nat.testBit_lt_two_pow (Nat.lt_of_lt_of_le h (Nat.pow_le_pow_right Yo Yo));simp[hi,this,Nat.le_of_not_lt hi]
theorem aCT(r c:Nat):cN 8 (r^^^c)=cN 8 (r%256^^^c)^^^(r/256):=by
 have e:r^^^c=(r%256^^^c)^^^((r/256)*2^8):=by
  have h:=aMG (x:=r%256) 8 Yo (r/256);have h2:r=r%256^^^(r/256)*2^8:=by rw[<-h];omega
  conv=>lhs;rw[h2]
  rw[Nat.xor_assoc,Nat.xor_comm _ c, <-Nat.xor_assoc]
 rw[e,aNp,aMr]
variable{g:Nat->Nat}
theorem aMp{r:Nat}(hr:r<4294967296)(hg:∀i,g i<256)(n:Nat):cF r g n<4294967296:=by
 induction n with
 |zero=>exact hr
 |succ n ih=>exact WA (Nat.xor_lt_two_pow (n:=32) ih (by have:=hg n;omega))
theorem aCU(r:Nat){h:Nat->Nat}(n:Nat)(e:∀i,i<n->g i=h i):cF r g n=cF r h n:=by
 induction n with
 |zero=>rfl
 |succ n ih=>show cN 8 (cF r g n^^^g n)=cN 8 (cF r h n^^^h n);rw[ih (λi hi=>e i Yo),e n Yo]
def bt(v:Int)(n i:Nat):Nat:=(v/256^(n-1-i)%256).toNat
theorem ZA(v:Int)(n i:Nat):(bt v n i:Int)=v/256^(n-1-i)%256:=by unfold bt;omega
theorem aMo(v:Int)(n i:Nat):bt v n i<256:=by unfold bt;omega
theorem DV(k:Nat):(0:Int)<256^k:=Int.pow_pos Yc
theorem aDj(v:Int)(k:Nat):v/256^k/256=v/256^(k+1):=by
 rw[Int.ediv_ediv_of_nonneg (Int.le_of_lt (DV k)),Int.pow_succ]
def vn(g:Nat->Nat):Nat->Nat
 |0=>0
 |k+1=>vn g k*256+g k
theorem LU(hg:∀i,g i<256)(k:Nat):vn g k<256^k:=by
 induction k with
 |zero=>show 0<1;omega
 |succ k ih=>have:=hg k;show vn g k*256+g k<256^(k+1);rw[Nat.pow_succ];omega
theorem QN{f:Nat->Nat}(h:∀i,i<k->g i=f i):vn g k=vn f k:=by
 induction k with
 |zero=>rfl
 |succ k ih=>show vn g k*256+g k=vn f k*256+f k;rw[ih (λi hi=>h i Yo),h k Yo]
theorem WH(u m:Int)(hm:0<m):u%(m*256)=u/256%m*256+u%256:=by
 have h1:u=256*(u/256)+u%256:=(Int.mul_ediv_add_emod u 256).symm;have h2:=Int.mul_ediv_add_emod (u/256) m;have h3:=Int.emod_nonneg (u/256) (Int.ne_of_gt hm);have h4:=Int.emod_lt_of_pos (u/256) hm;obtain⟨q,hq⟩:∃q,q=u/256/m:=⟨_,rfl⟩;obtain⟨r,hr⟩:∃r,r=u/256%m:=⟨_,rfl⟩;obtain⟨s,hs⟩:∃s,s=u%256:=⟨_,rfl⟩;rw[<-hq, <-hr] at h2;rw[<-hr] at h3 h4 ⊢;rw[<-hs] at h1 ⊢;have e:u=(r*256+s)+m*256*q:=by
  rw[h1, <-h2,Int.mul_add,Int.mul_comm m 256,Int.mul_assoc];omega
 rw[e,Int.add_mul_emod_self_left];apply Int.emod_eq_of_lt
 .omega
 .omega
theorem aMX(v:Int)(n k:Nat)(hk:k<=n):(vn (bt v n) k:Int)=v/256^(n-k)%256^k:=by
 induction k with
 |zero=>simp[vn,Int.emod_one]
 |succ k ih=>
  have h:=ih Yo;show ((vn (bt v n) k*256+bt v n k:Nat):Int)=_
  rw[Int.natCast_add,Int.natCast_mul,h,ZA,show n-1-k=n-(k+1) by omega,Int.pow_succ,WH _ _ (DV k),aDj,show n-(k+1)+1=n-k by omega];rfl
theorem KE(v:Int)(n:Nat):(vn (bt v n) n:Int)=v%256^n:=by
 rw[aMX v n n (Xr _),Nat.sub_self,Int.pow_zero,Int.ediv_one]
def sg(v:Nat):Int:=if v<9223372036854775808 then (v:Int) else (v:Int)-18446744073709551616
theorem aLJ{v:Nat}(h:v<18446744073709551616):R64 (sg v):=by unfold sg R64;split<;>omega
theorem aMV(h:R64 v):sg (vn (bt v 8) 8)=v:=by
 have e:=KE v 8;have e8:(256:Int)^8=18446744073709551616:=by decide
 rw[e8] at e;unfold R64 at h;unfold sg;split<;>omega
def wrongM(K F R:Int)(n:Nat):Int:=
 if K<1\/5<K then 4 else if F<0\/3<F\/R<0\/2147483647<R then 3 else if 24<n then 6 else 0
theorem qY{K F R:Int}(h:wrongM K F R n=0):1<=K/\K<=5/\0<=F/\F<=3/\0<=R/\R<=2147483647/\n<=24:=by
 unfold wrongM at h;split at h
 .omega
 .split at h
  .omega
  .split at h
   .omega
   .omega
def enF(K F R:Int)(n:Nat)(f:Nat->Int)(i:Nat):Nat:=
 if i=0 then 87 else if i=1 then (K%256).toNat else if i=2 then (F%256).toNat else if i<7 then bt R 4 (i-3) else if i=7 then n%256 else bt (f ((i-8)/8)) 8 ((i-8)%8)
theorem ZY(K F R:Int)(n:Nat)(f:Nat->Int)(i:Nat):enF K F R n f i<256:=by grind [enF,aMo]
theorem UC(K F R:Int)(n:Nat)(f:Nat->Int)(j k:Nat)(hk:k<8):enF K F R n f (8+8*j+k)=bt (f j) 8 k:=by grind [enF]
def dR(g:Nat->Nat):Nat:=vn (λi=>g (3+i)) 4
def dV(g:Nat->Nat)(i:Nat):Int:=sg (vn (λk=>g (8+8*i+k)) 8)
theorem aKm(hg:∀i,g i<256)(i:Nat):R64 (dV g i):=aLJ (Nat.lt_of_lt_of_eq (LU (λk=>hg _) 8) Yc)
theorem aGh(hg:∀i,g i<256):dR g<4294967296:=Nat.lt_of_lt_of_eq (LU (λk=>hg _) 4) Yc
theorem YY{K F R:Int}(h0:0<=R)(h1:R<=2147483647)(h:∀i,i<8+8*n->g i=enF K F R n f i):(dR g:Int)=R:=by
 have e:dR g=vn (bt R 4) 4:=QN (λi hi=>by
  show g (3+i)=_
  rw[h (3+i) Yo];unfold enF;rw[if_neg Yo,if_neg Yo,if_neg Yo,if_pos Yo,show 3+i-3=i by omega])
 rw[e,KE R 4,show (256:Int)^4=4294967296 by decide];omega
theorem aJX{K F R:Int}(hf:∀i,R64 (f i))(h:∀i,i<8+8*n->g i=enF K F R n f i)(hj:j<n):dV g j=f j:=by
 have e:vn (λk=>g (8+8*j+k)) 8=vn (bt (f j) 8) 8:=QN (λk hk=>by
  show g (8+8*j+k)=_
  rw[h (8+8*j+k) Yo,UC K F R n f j k hk])
 unfold dV;rw[e,aMV (hf j)]
end Go.Proofs.YthimcecbgpamdaaGreatDoor
namespace Go.Proofs.YthimcecbgpamdaaGreatDoor
open Go.RowKit
structure Ms where
 K:Int
 F:Int
 R:Int
 L:List Int
structure Nd where
 id:Int
 fr:Int
 tn:Tn
 ax:Nat->St
 rl:Rl
 di:Nat->Nat->Int
 he:Nat->Int
 ag:Nat->Nat->Int
 us:Nat->Int
 dg:Int
 vX:Int
 vS:Bool
 vA:List Bool
def St.nil':St:=⟨0,0,0,0,0,false,0⟩
def St.beg0:St:=⟨0,0,4294967296,0,4294967296,false,0⟩
def dW:Nd:=⟨0,0,⟨0,0,0,0⟩,λ_=>St.nil',dP,λ_ _=>0,λ_=>0,λ_ _=>0,λ_=>0,0,0,false,[]⟩
def jG:Ms:=⟨0,0,0,[]⟩
def jV(id:Int):Bool:=decide (id<0)||decide (3<id)
def jH(id:Int)(t:Tn):Nd:=if jV id then dW else { dW with id:=id,tn:=t,ax:=λ_=>St.beg0,rl:=beginR }
def MB(id:Int):Int:=if jV id then 3 else 0
def iH(n:Nd)(l:List Ms)(s:Nat)(kind:Int)(many:Nat):Option (List Int):=
 (l.find? λm:Ms=>decide (m.F=(s:Int))&&decide (m.F≠n.id)&&decide (m.K=kind)&&decide (m.R=n.fr)&&decide (m.L.length=many)).map (·.L)
theorem NJ{n:Nd}{l:List Ms}{s:Nat}{kind:Int}{many:Nat}(h:(s:Int)=n.id):iH n l s kind many=none:=by grind [iH]
def pO(n:Nd)(frame:Int)(rd:Nat->Int):Nd:=if jV n.id then n else { n with fr:=frame,di:=λs a=>if (s:Int)=n.id then rd a else 0,he:=λ_=>0 }
def oN(n:Nd)(frame:Int)(rd:Nat->Int):Ms:=if jV n.id then jG else ⟨1,n.id,frame,[rd 0,rd 1,rd 2]⟩
def relD(n:Nd)(l:List Ms)(s a:Nat):Int:=match iH n l s 1 3 with|some v=>v.getD a 0|none=>n.di s a
def relN(n:Nd)(l:List Ms):Nd:=if jV n.id then n else { n with di:=relD n l }
def vW(n:Nd)(l:List Ms):Ms:=if jV n.id then jG else ⟨2,n.id,n.fr,(List.range 12).map λi=>relD n l (i/3) (i%3)⟩
def jD(n:Nd)(l:List Ms)(i k many:Nat):Int:=match iH n l i 2 many with|some v=>v.getD k 0|none=>0
def xP(n:Nd)(l:List Ms)(s:Nat)(h:Int)(k many:Nat):Int:=
 if (s:Int)=n.id then h else mY h (jD n l (o1 n.id.toNat s) k many) (jD n l (o2 n.id.toNat s) k many)
def pJ(l:List Int):Int:=if 1<=l.length/\l.length<=64 then ((gZ l).getD ((l.length-1)/3) 0+(gZ l).getD (l.length-1-(l.length-1)/3) 0)/2 else 0
theorem GL{f:Nat->Int}{n:Nat}{m:Int}(h1:1<=n)(h2:n<=64)(h:uG f n m):m=pJ (jE f n):=by
 have el:(jE f n).length=n:=by unfold jE;simp
 have es:(gZ (jE f n)).length=n:=by unfold gZ;rw[List.length_mergeSort,el]
 unfold pJ;rw[el,if_pos ⟨h1,h2⟩];have g:∀k,k<n->(gZ (jE f n))[k]?=some ((gZ (jE f n)).getD k 0):=λk hk=>by
  rw[List.getD_eq_getElem?_getD,List.getElem?_eq_getElem Yo];rfl
 exact aIa h (UU (g _ Yo) (g _ Yo))
def jI(b:Nat->Bool)(f:Nat->Int):Nat->List Int
 |0=>[]
 |k+1=>jI b f k++(if b k then [f k] else [])
theorem aDI(b:Nat->Bool)(f:Nat->Int)(k:Nat):(jI b f k).length<=k:=by
 induction k with
 |zero=>exact Xr 0
 |succ k ih=>
  show (jI b f k++_).length<=_
  rw[List.length_append];split
  .show _+1<=_;omega
  .show _+0<=_;omega
def AB(v:Nat->Int)(b:Nat->Bool):Nat->Int
 |0=>0
 |k+1=>if b k=true/\(vk b v (AB v b k) 4<vk b v (v k) 4\/ti b k=0) then v k else AB v b k
theorem UL(v:Nat->Int)(b:Nat->Bool):∀k,qZ v b k (AB v b k)
 |0=>JI v b
 |k+1=>by
  have ih:=UL v b k;show qZ v b (k+1) (if _ then v k else AB v b k)
  cases hb:b k with
  |false=>rw[if_neg (by rintro⟨c,_⟩;exact absurd c Yc)];exact isV_out ih hb
  |true=>
   by_cases c:vk b v (AB v b k) 4<vk b v (v k) 4\/ti b k=0
   .rw[if_pos ⟨rfl,c⟩];exact NY ih hb c
   .rw[if_neg (λh=>c h.2)];exact JH ih (λh=>c (Or.inl h)) (λh=>c (Or.inr h))
theorem aCs{v:Nat->Int}{b:Nat->Bool}{X:Int}(h:qZ v b 4 X):X=AB v b 4:=aHG h (UL v b 4)
def JF(b:Nat->Bool):Int:=(if b 0 then 1 else 0)+(if b 1 then 2 else 0)+(if b 2 then 4 else 0)+(if b 3 then 8 else 0)
def oK(f:Nat->Int):Nat->Int
 |0=>0
 |k+1=>wrap64 (wrap64 (8*oK f k)+f k)
def CF(s:St):List Int:=[s.X,s.V,s.P00,s.P01,s.P11,if s.B then 1 else 0,s.M]
def qR(ax:Nat->St)(r:Rl):List Int:=CF (ax 0)++CF (ax 1)++CF (ax 2)++[JF r.I,oK r.M 4,oK r.J 4]
theorem aIp(ax:Nat->St)(r:Rl):(qR ax r).length=24:=rfl
def vT(ax:Nat->St)(r:Rl)(i:Nat):Nat:=bt ((qR ax r).getD (i/8) 0) 8 (i%8)
def IZ(ax:Nat->St)(r:Rl):Int:=((4294967295-cF 4294967295 (vT ax r) 192:Nat):Int)
def decG(n:Nd)(l:List Ms)(s a:Nat):Int:=xP n l s (n.di s a) (3*s+a) 12
def decU(n:Nd)(l:List Ms)(a:Nat):Int:=pJ (jI n.rl.I (λs=>decG n l s a) 4)
def decA(n:Nd)(l:List Ms)(a:Nat):St:=xN (n.ax a) n.tn (decU n l a)
def decD(n:Nd)(l:List Ms):Int:=IZ (decA n l) n.rl
def uZ(n:Nd)(l:List Ms):Nd:=if jV n.id then n else { n with ag:=decG n l,us:=decU n l,ax:=decA n l,dg:=decD n l,he:=λs=>if (s:Int)=n.id then decD n l else n.he s }
def uY(n:Nd)(l:List Ms):Ms:=if jV n.id then jG else ⟨3,n.id,n.fr,[decD n l]⟩
def pasH(n:Nd)(l:List Ms)(s:Nat):Int:=match iH n l s 3 1 with|some v=>v.getD 0 0|none=>n.he s
def pasN(n:Nd)(l:List Ms):Nd:=if jV n.id then n else { n with he:=pasH n l }
def vR(n:Nd)(l:List Ms):Ms:=if jV n.id then jG else ⟨2,n.id,n.fr,(List.range 4).map (pasH n l)⟩
def rH(n:Nd)(l:List Ms)(s:Nat):Int:=xP n l s (n.he s) s 4
def judX(n:Nd)(l:List Ms):Int:=AB (rH n l) n.rl.I 4
def judA(n:Nd)(l:List Ms)(i:Nat):Bool:=QO (rH n l) n.rl.I (judX n l) i
def judS(n:Nd)(l:List Ms):Bool:=QP (rH n l) n.rl.I (judX n l)
def judR(n:Nd)(l:List Ms):Rl:=if (stR n.rl (judS n l) 4 (judA n l)).2.2=0 then (stR n.rl (judS n l) 4 (judA n l)).1 else n.rl
def judN(n:Nd)(l:List Ms):Nd:=if jV n.id then n else { n with vX:=judX n l,vS:=judS n l,vA:=(List.range 4).map (judA n l),rl:=judR n l }
def vO(n:Nd)(l:List Ms):Ms:=if jV n.id then jG else ⟨5,n.id,n.fr,qR n.ax (judR n l)⟩
def unA(v:List Int)(a:Nat):St:=⟨v.getD (7*a) 0,v.getD (7*a+1) 0,v.getD (7*a+2) 0,v.getD (7*a+3) 0,v.getD (7*a+4) 0,decide (0<v.getD (7*a+5) 0),v.getD (7*a+6) 0⟩
def unR(v:List Int):Rl:=⟨λi=>decide (v.getD 21 0/2^i%2=1),λi=>v.getD 22 0/8^(3-i)%8,λi=>v.getD 23 0/8^(3-i)%8⟩
def unOK(v:List Int):Bool:=
 (List.range 3).all (λa=>decide (0<=v.getD (7*a+5) 0)&&decide (v.getD (7*a+5) 0<=1))&&decide (0<=v.getD 21 0)&&decide (v.getD 21 0<=15)&&decide (0<=v.getD 22 0)&&decide (v.getD 22 0<=4095)&&
  decide (0<=v.getD 23 0)&&decide (v.getD 23 0<=4095)&&mI (unR v)
def prs:List (Nat×Nat):=[(0,1),(0,2),(0,3),(1,2),(1,3),(2,3)]
def DU(n:Nd)(l:List Ms)(p:Nat×Nat):Option (List Int):=match iH n l p.1 5 24,iH n l p.2 5 24 with|some a,some b=>if a=b then some a else none|_,_=>none
def MM(n:Nd)(l:List Ms):Option (List Int):=if n.vS=true/\n.vX≠n.dg then prs.findSome? (DU n l) else none
def gF(n:Nd)(l:List Ms):Nd:=if jV n.id then n else match MM n l with|some v=>if unOK v then { n with ax:=unA v,rl:=unR v } else n|none=>n
end Go.Proofs.YthimcecbgpamdaaGreatDoor
