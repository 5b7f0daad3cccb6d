import Derived.Test.YtdhblehhgpdpdacGreatNear79
namespace Go.Proofs.YtdhblehhgpdpdacGreat
open Go.RowKit
structure St where
 X:Int
 V:Int
 P00:Int
 P01:Int
 P11:Int
 B:Bool
 M:Int
structure St.Ok (s:St):Prop where
 X:R64 s.X
 V:R64 s.V
 P00:R64 s.P00
 P01:R64 s.P01
 P11:R64 s.P11
 M:R64 s.M
def lS(a b:Int):Int:=gD (a+b)
def sbC(a b:Int):Int:=gD (a-b)
def eG(a b:Int):Int:=gD (aCK a b)
def adB(a b:Int):Bool:=jH (a+b)
def sbE(a b:Int):Bool:=jH (a-b)
def muB(a b:Int):Bool:=jH (aCK a b)
theorem qO(a b:Int):R64 (lS a b):=zK _
theorem aAR(a b:Int):R64 (sbC a b):=zK _
theorem qU(a b:Int):R64 (eG a b):=zK _
def uK(s:St)(dt q:Int):St where
 X:=lS s.X (eG s.V dt)
 V:=s.V
 P00:=lS (lS (lS s.P00 (eG s.P01 dt)) (eG s.P01 dt)) (eG (eG s.P11 dt) dt)
 P01:=lS s.P01 (eG s.P11 dt)
 P11:=lS s.P11 q
 B:=s.B||muB s.P01 dt||muB s.P11 dt||muB s.V dt||adB s.X (eG s.V dt)||adB s.P00 (eG s.P01 dt)||adB (lS s.P00 (eG s.P01 dt)) (eG s.P01 dt)||muB (eG s.P11 dt) dt||
  adB (lS (lS s.P00 (eG s.P01 dt)) (eG s.P01 dt)) (eG (eG s.P11 dt) dt)||adB s.P01 (eG s.P11 dt)||adB s.P11 q
 M:=s.M
theorem aEi{s:St}(h:s.Ok)(dt q:Int):(uK s dt q).Ok:=⟨qO _ _,h.V,qO _ _,qO _ _,qO _ _,h.M⟩
def moreM(m:Int):Int:=wrap64 (m+1)
def offY(s:St)(z:Int):Int:=sbC z s.X
def offW(s:St)(r:Int):Int:=lS s.P00 r
def qY(s:St)(z r gate:Int):Bool:=decide (offW s r≤0)||decide (eG gate (offW s r)<eG (offY s z) (offY s z))
def takeS(s:St)(y w:Int):St where
 X:=lS s.X (eG (fV s.P00 w) y)
 V:=lS s.V (eG (fV s.P01 w) y)
 P00:=sbC s.P00 (eG (fV s.P00 w) s.P00)
 P01:=sbC s.P01 (eG (fV s.P00 w) s.P01)
 P11:=sbC s.P11 (eG (fV s.P01 w) s.P01)
 B:=s.B||aCv s.P00 w||aCv s.P01 w||muB (fV s.P00 w) y||adB s.X (eG (fV s.P00 w) y)||muB (fV s.P01 w) y||adB s.V (eG (fV s.P01 w) y)||
  muB (fV s.P00 w) s.P00||sbE s.P00 (eG (fV s.P00 w) s.P00)||muB (fV s.P00 w) s.P01||sbE s.P01 (eG (fV s.P00 w) s.P01)||muB (fV s.P01 w) s.P01||sbE s.P11 (eG (fV s.P01 w) s.P01)
 M:=0
def bentU(s:St)(z r gate:Int):Bool:=s.B||sbE z s.X||adB s.P00 r||muB (offY s z) (offY s z)||muB gate (offW s r)
def rT(s:St)(z r gate:Int):St:=if qY s z r gate then { s with M:=moreM s.M } else takeS { s with B:=bentU s z r gate } (offY s z) (offW s r)
def wE(s:St)(z r gate:Int):Bool:= !qY s z r gate
theorem aQa(m:Int):R64 (moreM m):=by unfold moreM R64;unfold wrap64;omega
theorem aQb{s:St}(h:s.Ok)(z r gate:Int):(rT s z r gate).Ok:=by
 unfold rT;split
 ·exact⟨h.X,h.V,h.P00,h.P01,h.P11,aQa _⟩
 ·exact⟨qO _ _,qO _ _,aAR _ _,aAR _ _,aAR _ _,aAf⟩
structure Tn where
 Dt:Int
 Q:Int
 R:Int
 G:Int
structure Tn.Ok (t:Tn):Prop where
 Dt:R64 t.Dt
 Q:R64 t.Q
 R:R64 t.R
 G:R64 t.G
def wQ(s:St)(t:Tn)(z:Int):St:=rT (uK s t.Dt t.Q) z t.R t.G
def aGI(s:St)(t:Tn)(z:Int):Bool:=wE (uK s t.Dt t.Q) z t.R t.G
theorem aLj{s:St}(h:s.Ok)(t:Tn)(z:Int):(wQ s t z).Ok:=aQb (aEi h _ _) _ _ _
end Go.Proofs.YtdhblehhgpdpdacGreat
namespace Go.Proofs.YtdhblehhgpdpdacGreat
def cn(p:Nat→Bool):Nat→Nat
 |0=>0
 |n+1=>cn p n+if p n then 1 else 0
theorem aDK(p:Nat→Bool)(n:Nat):cn p n≤n:=by
 induction n with
 |zero=>exact Nat.le_refl _
 |succ n ih=>show cn p n+(if p n then 1 else 0)≤n+1;split<;>omega
theorem aGy{p q:Nat→Bool}{n:Nat}(h:∀i,i<n→p i=true→q i=true):cn p n≤cn q n:=by
 induction n with
 |zero=>exact Nat.le_refl _
 |succ n ih=>
  show cn p n+(if p n then 1 else 0)≤cn q n+(if q n then 1 else 0)
  have:=ih (λi hi=>h i Yo)
  by_cases c:p n=true
  ·rw[if_pos c,if_pos (h n Yo c)];omega
  ·rw[if_neg c];omega
theorem aSs{p:Nat→Bool}{n:Nat}(h:∀i,i<n→p i=true):cn p n=n:=by
 induction n with
 |zero=>rfl
 |succ n ih=>show cn p n+(if p n then 1 else 0)=n+1;rw[ih (λi hi=>h i Yo),if_pos (h n Yo)]
theorem aJM{p:Nat→Bool}{n:Nat}(h:0<cn p n):∃i,i<n∧p i=true:=by
 induction n with
 |zero=>exact absurd h (Nat.lt_irrefl 0)
 |succ n ih=>
  by_cases c:p n=true
  ·exact⟨n,Yo,c⟩
  ·have e:cn p (n+1)=cn p n:=by show cn p n+(if p n then 1 else 0)=_;rw[if_neg c];rfl
   rw[e] at h
   obtain⟨i,hi,hp⟩:=ih h
   exact⟨i,Yo,hp⟩
theorem aSz{p q r:Nat→Bool}{n:Nat}(h:∀i,i<n→((p i=true∧q i=false∧r i=true)∨(p i=false∧q i=true∧r i=true)∨(p i=false∧q i=false∧r i=false))):cn p n+cn q n=cn r n:=by
 induction n with
 |zero=>rfl
 |succ n ih=>
  show (cn p n+if p n then 1 else 0)+(cn q n+if q n then 1 else 0)=cn r n+if r n then 1 else 0
  have e:=ih (λi hi=>h i Yo)
  rcases h n Yo with ⟨h1,h2,h3⟩|⟨h1,h2,h3⟩|⟨h1,h2,h3⟩<;>rw[h1,h2,h3]<;>simp<;>omega
def cl(f:Nat→Int)(n:Nat)(v:Int):Nat:=cn (λi=>decide (f i<v)) n
def ce(f:Nat→Int)(n:Nat)(v:Int):Nat:=cn (λi=>decide (f i=v)) n
def wI(f:Nat→Int)(n k:Nat)(v:Int):Prop:=cl f n v≤k∧k<cl f n v+ce f n v
theorem aBM(f:Nat→Int)(n:Nat)(v:Int):cl f n v+ce f n v=cn (λi=>decide (f i≤v)) n:=by
 refine aSz (λi _=>?_)
 by_cases h1:f i<v
 ·exact Or.inl ⟨decide_eq_true h1,decide_eq_false Yo,decide_eq_true Yo⟩
 ·by_cases h2:f i=v
  ·exact Or.inr (Or.inl ⟨decide_eq_false h1,decide_eq_true h2,decide_eq_true Yo⟩)
  ·exact Or.inr (Or.inr ⟨decide_eq_false h1,decide_eq_false h2,decide_eq_false Yo⟩)
theorem aCL{f:Nat→Int}{n:Nat}{v u:Int}(h:v<u):cl f n v+ce f n v≤cl f n u:=by
 rw[aBM]
 exact aGy (λi _ hp=>decide_eq_true (by have:=of_decide_eq_true hp;omega))
theorem aCq{f:Nat→Int}{n k j:Nat}{v u:Int}(h:wI f n k v)(h':wI f n j u)(hk:k≤j):v≤u:=by
 rcases Int.lt_or_le u v with c|c
 ·have:=aCL (f:=f) (n:=n) c
  have h1:=h.1;have h2:=h'.2
  omega
 ·exact c
theorem aHZ{f:Nat→Int}{n k:Nat}{v u:Int}(h:wI f n k v)(h':wI f n k u):v=u:=by
 have:=aCq h h' (Nat.le_refl _);have:=aCq h' h (Nat.le_refl _);omega
theorem aIn{f:Nat→Int}{n k:Nat}{v:Int}(h:wI f n k v):∃i,i<n∧f i=v:=by
 have:0<ce f n v:=by have:=h.1;have:=h.2;omega
 obtain⟨i,hi,hp⟩:=aJM this
 exact⟨i,hi,of_decide_eq_true hp⟩
theorem aTm{f:Nat→Int}{n k:Nat}{v u:Int}(h:wI f n k v)(hu:cl f n u≤k):u≤v:=by
 rcases Int.lt_or_le v u with c|c
 ·have:=aCL (f:=f) (n:=n) c;have:=h.2;omega
 ·exact c
theorem aTx{f:Nat→Int}{n k:Nat}{v u:Int}(h:wI f n k v)(hu:k<cl f n u+ce f n u):v≤u:=by
 rcases Int.lt_or_le u v with c|c
 ·have:=aCL (f:=f) (n:=n) c;have:=h.1;omega
 ·exact c
theorem aIL{f:Nat→Int}{n k:Nat}(m:Nat):(∃i,i<m∧k<cl f n (f i)+ce f n (f i))→∃i,i<m∧k<cl f n (f i)+ce f n (f i)∧∀j,j<m→k<cl f n (f j)+ce f n (f j)→f i≤f j:=by
 induction m with
 |zero=>rintro⟨i,hi,_⟩;omega
 |succ m ih=>
  rintro⟨i,hi,hk⟩
  by_cases c:∃i,i<m∧k<cl f n (f i)+ce f n (f i)
  ·obtain⟨a,ha,hka,hl⟩:=ih c
   by_cases d:k<cl f n (f m)+ce f n (f m)∧f m<f a
   ·refine⟨m,Yo,d.1,λj hj hkj=>?_⟩
    by_cases e:j=m
    ·subst e;exact Int.le_refl _
    ·have:=hl j Yo hkj;omega
   ·refine⟨a,Yo,hka,λj hj hkj=>?_⟩
    by_cases e:j=m
    ·subst e
     rcases Int.lt_or_le (f j) (f a) with x|x
     ·exact absurd ⟨hkj,x⟩ d
     ·exact x
    ·exact hl j Yo hkj
  ·have e:i=m:=by
    by_cases e:i=m
    ·exact e
    ·exact absurd ⟨i,Yo,hk⟩ c
   subst e
   refine⟨i,Yo,hk,λj hj hkj=>?_⟩
   by_cases e:j=i
   ·subst e;exact Int.le_refl _
   ·exact absurd ⟨j,Yo,hkj⟩ c
theorem aJp{f:Nat→Int}{u:Int}(m:Nat):(∃i,i<m∧f i<u)→∃i,i<m∧f i<u∧∀j,j<m→f j<u→f j≤f i:=by
 induction m with
 |zero=>rintro⟨i,hi,_⟩;omega
 |succ m ih=>
  rintro⟨i,hi,hu⟩
  by_cases c:∃i,i<m∧f i<u
  ·obtain⟨a,ha,hua,hl⟩:=ih c
   by_cases d:f m<u∧f a<f m
   ·refine⟨m,Yo,d.1,λj hj hju=>?_⟩
    by_cases e:j=m
    ·subst e;exact Int.le_refl _
    ·have:=hl j Yo hju;omega
   ·refine⟨a,Yo,hua,λj hj hju=>?_⟩
    by_cases e:j=m
    ·subst e
     rcases Int.lt_or_le (f a) (f j) with x|x
     ·exact absurd ⟨hju,x⟩ d
     ·exact x
    ·exact hl j Yo hju
  ·have e:i=m:=by
    by_cases e:i=m
    ·exact e
    ·exact absurd ⟨i,Yo,hu⟩ c
   subst e
   refine⟨i,Yo,hu,λj hj hju=>?_⟩
   by_cases e:j=i
   ·subst e;exact Int.le_refl _
   ·exact absurd ⟨j,Yo,hju⟩ c
theorem aOQ(f:Nat→Int)(m:Nat)(hm:0<m):∃i,i<m∧∀j,j<m→f j≤f i:=by
 induction m with
 |zero=>omega
 |succ m ih=>
  rcases Nat.eq_zero_or_pos m with h|h
  ·subst h;exact⟨0,Yo,λj hj=>by rw[show j=0 by omega];exact Int.le_refl _⟩
  ·obtain⟨i,hi,hl⟩:=ih h
   by_cases c:f i≤f m
   ·refine⟨m,Yo,λj hj=>?_⟩
    by_cases e:j=m
    ·subst e;exact Int.le_refl _
    ·have:=hl j Yo;omega
   ·refine⟨i,Yo,λj hj=>?_⟩
    by_cases e:j=m
    ·subst e;omega
    ·exact hl j Yo
theorem aNr(f:Nat→Int)(n k:Nat)(hk:k<n):∃i,i<n∧wI f n k (f i):=by
 obtain⟨t,ht,htop⟩:=aOQ f n Yo
 have full:cl f n (f t)+ce f n (f t)=n:=by
  rw[aBM]
  exact aSs (λi hi=>decide_eq_true (htop i hi))
 obtain⟨i,hi,hki,hl⟩:=aIL (f:=f) (n:=n) (k:=k) n ⟨t,ht,Yo⟩
 refine⟨i,hi,?_,hki⟩
 rcases Nat.eq_zero_or_pos (cl f n (f i)) with h0|h0
 ·omega
 ·obtain⟨j,hj,hp⟩:=aJM h0
  obtain⟨a,ha,hau,hal⟩:=aJp (f:=f) (u:=f i) n ⟨j,hj,of_decide_eq_true hp⟩
  have e:cl f n (f i)≤cl f n (f a)+ce f n (f a):=by
   rw[aBM]
   exact aGy (λb hb hp=>decide_eq_true (hal b hb (of_decide_eq_true hp)))
  rcases Nat.lt_or_ge k (cl f n (f a)+ce f n (f a)) with c|c
  ·have:=hl a ha c;omega
  ·omega
def uI(f:Nat→Int)(n:Nat)(m:Int):Prop:=∃a b,wI f n ((n-1)/3) a∧wI f n (n-1-(n-1)/3) b∧m=(a+b)/2
theorem aQo{f:Nat→Int}{n:Nat}{m m':Int}(h:uI f n m)(h':uI f n m'):m=m':=by
 obtain⟨a,b,ha,hb,rfl⟩:=h
 obtain⟨a',b',ha',hb',rfl⟩:=h'
 rw[aHZ ha ha',aHZ hb hb']
theorem aIg(f:Nat→Int)(n:Nat)(hn:0<n):∃m,uI f n m:=by
 obtain⟨i,_,hi⟩:=aNr f n ((n-1)/3) Yo
 obtain⟨j,_,hj⟩:=aNr f n (n-1-(n-1)/3) Yo
 exact⟨_,_,_,hi,hj,rfl⟩
theorem aGQ{f:Nat→Int}{n:Nat}{m lo hi:Int}(h:uI f n m)(hb:∀i,i<n→lo≤f i∧f i≤hi):lo≤m∧m≤hi:=by
 obtain⟨a,b,ha,hb',rfl⟩:=h
 obtain⟨i,hi',rfl⟩:=aIn ha
 obtain⟨j,hj,rfl⟩:=aIn hb'
 have:=hb i hi';have:=hb j hj
 omega
def ind(p:Prop)[Decidable p]:Nat:=if p then 1 else 0
theorem aAu(p:Prop)[Decidable p]:ind p≤1:=by unfold ind;split<;>omega
theorem oC{p:Prop}[Decidable p](h:p):ind p=1:=if_pos h
theorem yR{p:Prop}[Decidable p](h:¬p):ind p=0:=if_neg h
theorem cn4(p:Nat→Prop)[DecidablePred p]:cn (λi=>decide (p i)) 4=ind (p 0)+ind (p 1)+ind (p 2)+ind (p 3):=by
 have e:∀i,(if decide (p i)=true then 1 else 0)=ind (p i):=λi=>by unfold ind;by_cases h:p i<;>simp[h]
 show (((0+(if decide (p 0)=true then 1 else 0))+(if decide (p 1)=true then 1 else 0))+(if decide (p 2)=true then 1 else 0))+(if decide (p 3)=true then 1 else 0)=_
 rw[e,e,e,e];omega
theorem cl4(f:Nat→Int)(v:Int):cl f 4 v=ind (f 0<v)+ind (f 1<v)+ind (f 2<v)+ind (f 3<v):=cn4 (λi=>f i<v)
theorem aTQ(f:Nat→Int)(v:Int):cl f 4 v+ce f 4 v=ind (f 0≤v)+ind (f 1≤v)+ind (f 2≤v)+ind (f 3≤v):=by rw[aBM];exact cn4 (λi=>f i≤v)
structure Rl where
 I:Nat→Bool
 M:Nat→Int
 J:Nat→Int
def dF{α:Type}(f:Nat→α)(q:Nat)(x:α)(j:Nat):α:=if j=q then x else f j
theorem cB{α:Type}(f:Nat→α)(q:Nat)(x:α):dF f q x q=x:=if_pos rfl
theorem upM_other{α:Type}(f:Nat→α){q j:Nat}(x:α)(h:j≠q):dF f q x j=f j:=if_neg h
def zeroR:Rl:=⟨λ_=>false,λ_=>0,λ_=>0⟩
def beginR:Rl:=⟨λ_=>true,λ_=>0,λ_=>0⟩
def gd(r:Rl)(j:Nat):Bool:=if r.I j then decide (0≤r.M j)&&decide (r.M j≤2)&&decide (r.J j=0) else decide (r.M j=0)&&decide (0≤r.J j)&&decide (r.J j≤2)
def nK(r:Rl):Bool:=gd r 0&&gd r 1&&gd r 2&&gd r 3
theorem gd_in{r:Rl}{j:Nat}(h:r.I j=true):gd r j=true↔0≤r.M j∧r.M j≤2∧r.J j=0:=by unfold gd;rw[if_pos h];simp[and_assoc]
theorem tO{r:Rl}{j:Nat}(h:r.I j=false):gd r j=true↔r.M j=0∧0≤r.J j∧r.J j≤2:=by unfold gd;rw[if_neg (by rw[h];decide)];simp[and_assoc]
theorem yS{r:Rl}:nK r=true↔∀j,j<4→gd r j=true:=by
 unfold nK
 simp only[Bool.and_eq_true]
 constructor
 ·rintro⟨⟨⟨h0,h1⟩,h2⟩,h3⟩ j hj
  have:j=0∨j=1∨j=2∨j=3:=Yo
  rcases this with rfl|rfl|rfl|rfl<;>assumption
 ·intro h
  exact⟨⟨⟨h 0 Yo,h 1 Yo⟩,h 2 Yo⟩,h 3 Yo⟩
theorem aRp{r:Rl}{j:Nat}(hj:j<4)(h:gd r j=false):nK r=false:=by
 cases e:nK r with
 |false=>rfl
 |true=>rw[yS.1 e j hj] at h;cases h
def lZ(A:Nat→Bool)(i:Nat)(r:Rl):Rl:=
 if r.I i=true then (if A i=true then ⟨r.I,dF r.M i 0,r.J⟩ else if 2≤r.M i+1∧2<cn r.I 4 then ⟨dF r.I i false,dF r.M i 0,r.J⟩ else ⟨r.I,dF r.M i (min (r.M i+1) 2),r.J⟩)
 else if A i=true then (if 3≤r.J i+1 then ⟨dF r.I i true,r.M,dF r.J i 0⟩ else ⟨r.I,r.M,dF r.J i (r.J i+1)⟩) else ⟨r.I,r.M,dF r.J i 0⟩
def mI(A:Nat→Bool)(i:Nat)(r:Rl):List (Int×Nat):=
 if r.I i=true then (if A i=true then [] else if 2≤r.M i+1∧2<cn r.I 4 then [(1,i)] else []) else if A i=true then (if 3≤r.J i+1 then [(2,i)] else []) else []
section
variable {A:Nat→Bool} {i:Nat} {r:Rl}
theorem st_agree(h:r.I i=true)(a:A i=true):lZ A i r=⟨r.I,dF r.M i 0,r.J⟩∧mI A i r=[]:=by unfold lZ mI;rw[if_pos h,if_pos a,if_pos h,if_pos a];exact⟨rfl,rfl⟩
theorem aIh(h:r.I i=true)(a:A i=false)(c:2≤r.M i+1∧2<cn r.I 4):lZ A i r=⟨dF r.I i false,dF r.M i 0,r.J⟩∧mI A i r=[(1,i)]:=by
 have a':¬A i=true:=by rw[a];decide
 unfold lZ mI;rw[if_pos h,if_neg a',if_pos c,if_pos h,if_neg a',if_pos c];exact⟨rfl,rfl⟩
theorem aCt(h:r.I i=true)(a:A i=false)(c:¬(2≤r.M i+1∧2<cn r.I 4)):lZ A i r=⟨r.I,dF r.M i (min (r.M i+1) 2),r.J⟩∧mI A i r=[]:=by
 have a':¬A i=true:=by rw[a];decide
 unfold lZ mI;rw[if_pos h,if_neg a',if_neg c,if_pos h,if_neg a',if_neg c];exact⟨rfl,rfl⟩
theorem aNJ(h:r.I i=false)(a:A i=true)(c:3≤r.J i+1):lZ A i r=⟨dF r.I i true,r.M,dF r.J i 0⟩∧mI A i r=[(2,i)]:=by
 have h':¬r.I i=true:=by rw[h];decide
 unfold lZ mI;rw[if_neg h',if_pos a,if_pos c,if_neg h',if_pos a,if_pos c];exact⟨rfl,rfl⟩
theorem aGu(h:r.I i=false)(a:A i=true)(c:¬3≤r.J i+1):lZ A i r=⟨r.I,r.M,dF r.J i (r.J i+1)⟩∧mI A i r=[]:=by
 have h':¬r.I i=true:=by rw[h];decide
 unfold lZ mI;rw[if_neg h',if_pos a,if_neg c,if_neg h',if_pos a,if_neg c];exact⟨rfl,rfl⟩
theorem aJv(h:r.I i=false)(a:A i=false):lZ A i r=⟨r.I,r.M,dF r.J i 0⟩∧mI A i r=[]:=by
 have h':¬r.I i=true:=by rw[h];decide
 have a':¬A i=true:=by rw[a];decide
 unfold lZ mI;rw[if_neg h',if_neg a',if_neg h',if_neg a'];exact⟨rfl,rfl⟩
theorem aBr (A : Nat → Bool) (i : Nat) (r : Rl) :
  (r.I i=true∧A i=true∧lZ A i r=⟨r.I,dF r.M i 0,r.J⟩∧mI A i r=[])∨
  (r.I i=true∧A i=false∧(2≤r.M i+1∧2<cn r.I 4)∧lZ A i r=⟨dF r.I i false,dF r.M i 0,r.J⟩∧mI A i r=[(1,i)])∨
  (r.I i=true∧A i=false∧¬(2≤r.M i+1∧2<cn r.I 4)∧lZ A i r=⟨r.I,dF r.M i (min (r.M i+1) 2),r.J⟩∧mI A i r=[])∨
  (r.I i=false∧A i=true∧3≤r.J i+1∧lZ A i r=⟨dF r.I i true,r.M,dF r.J i 0⟩∧mI A i r=[(2,i)])∨
  (r.I i=false∧A i=true∧¬3≤r.J i+1∧lZ A i r=⟨r.I,r.M,dF r.J i (r.J i+1)⟩∧mI A i r=[])∨
  (r.I i=false∧A i=false∧lZ A i r=⟨r.I,r.M,dF r.J i 0⟩∧mI A i r=[]):=by
 cases h:r.I i with
 |true=>
  cases a:A i with
  |true=>exact Or.inl ⟨rfl,rfl,st_agree h a⟩
  |false=>
   by_cases c:2≤r.M i+1∧2<cn r.I 4
   ·exact Or.inr (Or.inl ⟨rfl,rfl,c,aIh h a c⟩)
   ·exact Or.inr (Or.inr (Or.inl ⟨rfl,rfl,c,aCt h a c⟩))
 |false=>
  cases a:A i with
  |true=>
   by_cases c:3≤r.J i+1
   ·exact Or.inr (Or.inr (Or.inr (Or.inl ⟨rfl,rfl,c,aNJ h a c⟩)))
   ·exact Or.inr (Or.inr (Or.inr (Or.inr (Or.inl ⟨rfl,rfl,c,aGu h a c⟩))))
  |false=>exact Or.inr (Or.inr (Or.inr (Or.inr (Or.inr ⟨rfl,rfl,aJv h a⟩))))
theorem aFm{j:Nat}(hj:j≠i):(lZ A i r).I j=r.I j∧(lZ A i r).M j=r.M j∧(lZ A i r).J j=r.J j:=by
 rcases aBr A i r with ⟨_,_,e,_⟩|⟨_,_,_,e,_⟩|⟨_,_,_,e,_⟩|⟨_,_,_,e,_⟩|⟨_,_,_,e,_⟩|⟨_,_,e,_⟩<;>rw[e]<;>simp[upM_other _ _ hj]
theorem aMm{s:Rl}{j:Nat}(h1:s.I j=r.I j)(h2:s.M j=r.M j)(h3:s.J j=r.J j):gd s j=gd r j:=by unfold gd;rw[h1,h2,h3]
theorem aPq(h:gd r i=true):gd (lZ A i r) i=true:=by
 rcases aBr A i r with ⟨a,_,e,_⟩|⟨a,_,_,e,_⟩|⟨a,_,_,e,_⟩|⟨a,_,_,e,_⟩|⟨a,_,c,e,_⟩|⟨a,_,e,_⟩<;>rw[e]
 ·have:=(gd_in a).1 h
  refine (gd_in (r:=⟨r.I,dF r.M i 0,r.J⟩) a).2 ?_
  show 0≤dF r.M i 0 i∧dF r.M i 0 i≤2∧r.J i=0
  rw[cB];omega
 ·have:=(gd_in a).1 h
  refine (tO (cB _ _ _)).2 ?_
  show dF r.M i 0 i=0∧0≤r.J i∧r.J i≤2
  rw[cB];omega
 ·have:=(gd_in a).1 h
  refine (gd_in (r:=⟨r.I,dF r.M i (min (r.M i+1) 2),r.J⟩) a).2 ?_
  show 0≤dF r.M i (min (r.M i+1) 2) i∧dF r.M i (min (r.M i+1) 2) i≤2∧r.J i=0
  rw[cB];omega
 ·have:=(tO a).1 h
  refine (gd_in (cB _ _ _)).2 ?_
  show 0≤r.M i∧r.M i≤2∧dF r.J i 0 i=0
  rw[cB];omega
 ·have:=(tO a).1 h
  refine (tO (r:=⟨r.I,r.M,dF r.J i (r.J i+1)⟩) a).2 ?_
  show r.M i=0∧0≤dF r.J i (r.J i+1) i∧dF r.J i (r.J i+1) i≤2
  rw[cB];omega
 ·have:=(tO a).1 h
  refine (tO (r:=⟨r.I,r.M,dF r.J i 0⟩) a).2 ?_
  show r.M i=0∧0≤dF r.J i 0 i∧dF r.J i 0 i≤2
  rw[cB];omega
theorem aMF(h:nK r=true):nK (lZ A i r)=true:=by
 rw[yS] at h ⊢
 intro j hj
 by_cases e:j=i
 ·subst e;exact aPq (h j hj)
 ·obtain⟨h1,h2,h3⟩:=aFm (A:=A) (r:=r) e
  rw[aMm h1 h2 h3];exact h j hj
end
def rnN(A:Nat→Bool)(r:Rl):Nat→Rl×List (Int×Nat)
 |0=>(r,[])
 |i+1=>(lZ A i (rnN A r i).1,(rnN A r i).2++mI A i (rnN A r i).1)
section
variable {A:Nat→Bool} {r:Rl}
theorem aCu(h:nK r=true):∀i,nK (rnN A r i).1=true
 |0=>h
 |i+1=>aMF (aCu h i)
theorem aGv:∀i {j},i≤j→(rnN A r i).1.I j=r.I j∧(rnN A r i).1.M j=r.M j∧(rnN A r i).1.J j=r.J j
 |0,_,_=>⟨rfl,rfl,rfl⟩
 |i+1,j,h=>by
  obtain⟨a,b,c⟩:=aGv i (j:=j) Yo
  obtain⟨d,e,f⟩:=aFm (A:=A) (r:=(rnN A r i).1) (i:=i) (j:=j) Yo
  exact⟨d.trans a,e.trans b,f.trans c⟩
theorem aQP(A:Nat→Bool)(i:Nat)(r:Rl):(mI A i r).length≤1:=by
 rcases aBr A i r with ⟨_,_,_,e⟩|⟨_,_,_,_,e⟩|⟨_,_,_,_,e⟩|⟨_,_,_,_,e⟩|⟨_,_,_,_,e⟩|⟨_,_,_,e⟩<;>rw[e]<;>simp
theorem aIx(A:Nat→Bool)(r:Rl):∀i,(rnN A r i).2.length≤i
 |0=>Nat.le_refl _
 |i+1=>by
  have:=aIx A r i
  have:=aQP A i (rnN A r i).1
  show ((rnN A r i).2++mI A i (rnN A r i).1).length≤i+1
  rw[List.length_append];omega
end
def stR(r:Rl)(st:Bool)(n:Nat)(A:Nat→Bool):Rl×List (Int×Nat)×Int:=
 if n≠4 then (zeroR,[],8) else if nK r=false then (zeroR,[],3) else if st=true then ((rnN A r 4).1,(rnN A r 4).2,0) else (r,[],0)
section
variable {A:Nat→Bool} {r:Rl}
theorem aHR(h:nK r=true):stR r true 4 A=((rnN A r 4).1,(rnN A r 4).2,0):=by
 unfold stR;rw[if_neg Yo,if_neg (by rw[h];decide),if_pos rfl]
theorem aNe(h:nK r=true):stR r false 4 A=(r,[],0):=by
 unfold stR;rw[if_neg Yo,if_neg (by rw[h];decide),if_neg Yc]
end
def vk(b:Nat→Bool)(v:Nat→Int)(x:Int):Nat→Nat
 |0=>0
 |k+1=>vk b v x k+if b k=true∧v k=x then 1 else 0
def ti(b:Nat→Bool):Nat→Nat
 |0=>0
 |k+1=>ti b k+if b k=true then 1 else 0
theorem aEb(b:Nat→Bool)(v:Nat→Int)(x:Int)(k:Nat):vk b v x k≤ti b k:=by
 induction k with
 |zero=>exact Nat.le_refl _
 |succ k ih=>
  show vk b v x k+_≤ti b k+_
  by_cases h:b k=true
  ·by_cases h2:v k=x
   ·rw[if_pos ⟨h,h2⟩,if_pos h];omega
   ·rw[if_neg (λh3=>h2 h3.2),if_pos h];omega
  ·rw[if_neg (λh3=>h h3.1),if_neg h];omega
theorem aDL(b:Nat→Bool)(k:Nat):ti b k≤k:=by
 induction k with
 |zero=>exact Nat.le_refl _
 |succ k ih=>show ti b k+_≤k+1;split<;>omega
theorem aHl(b:Nat→Bool)(v:Nat→Int)(x:Int)(k:Nat):vk b v x k≤k:=Nat.le_trans (aEb b v x k) (aDL b k)
theorem uN{b:Nat→Bool}{k:Nat}(h:ti b k=0):∀i,i<k→b i=false:=by
 induction k with
 |zero=>intro i hi;omega
 |succ k ih=>
  have h2:ti b k+(if b k=true then 1 else 0)=0:=h
  intro i hi
  by_cases hb:b k=true
  ·rw[if_pos hb] at h2;omega
  ·rw[if_neg hb] at h2
   by_cases e:i=k
   ·subst e;simpa using hb
   ·exact ih Yo i Yo
theorem aRC{b:Nat→Bool}{k i:Nat}(hi:i<k)(h:b i=true):0<ti b k:=by
 rcases Nat.eq_zero_or_pos (ti b k) with e|e
 ·have:=uN e i hi;rw[h] at this;cases this
 ·exact e
theorem aQL{b:Nat→Bool}{v:Nat→Int}{k i:Nat}(hi:i<k)(h:b i=true):0<vk b v (v i) k:=by
 induction k with
 |zero=>omega
 |succ k ih=>
  show 0<vk b v (v i) k+_
  by_cases e:i=k
  ·subst e;rw[if_pos ⟨h,rfl⟩];omega
  ·have:=ih Yo;omega
def rG(v:Nat→Int)(b:Nat→Bool)(k:Nat)(X:Int):Prop:=
 (ti b k=0∧X=0)∨∃m,m<k∧b m=true∧X=v m∧(∀i,i<k→b i=true→vk b v (v i) 4≤vk b v X 4)∧∀i,i<m→b i=true→vk b v (v i) 4<vk b v X 4
theorem aDf(v:Nat→Int)(b:Nat→Bool):rG v b 0 0:=Or.inl ⟨rfl,rfl⟩
theorem isV_out{v:Nat→Int}{b:Nat→Bool}{k:Nat}{X:Int}(h:rG v b k X)(hb:b k=false):rG v b (k+1) X:=by
 rcases h with ⟨h1,h2⟩|⟨m,h1,h2,h3,h4,h5⟩
 ·refine Or.inl ⟨?_,h2⟩
  show ti b k+_=0
  rw[if_neg (by rw[hb];decide)];omega
 ·refine Or.inr ⟨m,Yo,h2,h3,λi hi hbi=>?_,h5⟩
  by_cases e:i=k
  ·subst e;rw[hb] at hbi;cases hbi
  ·exact h4 i Yo hbi
theorem aEr{v:Nat→Int}{b:Nat→Bool}{k:Nat}{X:Int}(h:rG v b k X)(hb:b k=true)(hc:vk b v X 4<vk b v (v k) 4∨ti b k=0):rG v b (k+1) (v k):=by
 refine Or.inr ⟨k,Yo,hb,rfl,?_⟩
 rcases h with ⟨h1,h2⟩|⟨m,h1,h2,h3,h4,h5⟩
 ·refine⟨λi hi hbi=>?_,λi hi hbi=>?_⟩
  ·by_cases e:i=k
   ·subst e;exact Nat.le_refl _
   ·have:=uN h1 i Yo;rw[this] at hbi;cases hbi
  ·have:=uN h1 i hi;rw[this] at hbi;cases hbi
 ·have hp:vk b v X 4<vk b v (v k) 4:=by
   rcases hc with h|h
   ·exact h
   ·have:=uN h m h1;rw[this] at h2;cases h2
  refine⟨λi hi hbi=>?_,λi hi hbi=>?_⟩
  ·by_cases e:i=k
   ·subst e;exact Nat.le_refl _
   ·have:=h4 i Yo hbi;omega
  ·have:=h4 i hi hbi;omega
theorem aCR{v:Nat→Int}{b:Nat→Bool}{k:Nat}{X:Int}(h:rG v b k X)(hc:¬(vk b v X 4<vk b v (v k) 4))(ht:ti b k≠0):rG v b (k+1) X:=by
 rcases h with ⟨h1,h2⟩|⟨m,h1,h2,h3,h4,h5⟩
 ·omega
 ·refine Or.inr ⟨m,Yo,h2,h3,λi hi hbi=>?_,h5⟩
  by_cases e:i=k
  ·subst e;omega
  ·exact h4 i Yo hbi
theorem aOW{v:Nat→Int}{b:Nat→Bool}{k:Nat}{X Y:Int}(h:rG v b k X)(h':rG v b k Y):X=Y:=by
 rcases h with ⟨h1,h2⟩|⟨m,h1,h2,h3,h4,h5⟩<;>rcases h' with ⟨g1,g2⟩|⟨m',g1,g2,g3,g4,g5⟩
 ·rw[h2,g2]
 ·have:=uN h1 m' g1;rw[this] at g2;cases g2
 ·have:=uN g1 m h1;rw[this] at h2;cases h2
 ·have e1:=h4 m' g1 g2;have e2:=g4 m h1 h2
  rw[←g3] at e1;rw[←h3] at e2
  rcases Nat.lt_trichotomy m m' with h|h|h
  ·have:=g5 m h h2;rw[←h3] at this;omega
  ·rw[h3,g3,h]
  ·have:=h5 m' h g2;rw[←g3] at this;omega
def vtS(v:Nat→Int)(b:Nat→Bool)(X:Int):Bool:=decide (0<ti b 4∧ti b 4<2*vk b v X 4)
def vtA(v:Nat→Int)(b:Nat→Bool)(X:Int)(i:Nat):Bool:=decide (0<ti b 4∧v i=X)
def aDD(f:Nat→Int)(n:Nat)(other m:Int):Prop:=(n<2*ce f n m)∨((∀v,¬n<2*ce f n v)∧m=other)
theorem aRj{f:Nat→Int}{n:Nat}{u v:Int}(h:u≠v):ce f n u+ce f n v≤n:=by
 induction n with
 |zero=>exact Nat.le_refl _
 |succ n ih=>
  show (cn _ n+if decide (f n=u)=true then 1 else 0)+(cn _ n+if decide (f n=v)=true then 1 else 0)≤n+1
  have ih':cn (λi=>decide (f i=u)) n+cn (λi=>decide (f i=v)) n≤n:=ih
  by_cases h1:f n=u
  ·rw[if_pos (decide_eq_true h1),if_neg (by rw[decide_eq_false Yo];decide)];omega
  ·rw[if_neg (by rw[decide_eq_false h1];decide)]
   split<;>omega
theorem aOT{f:Nat→Int}{n:Nat}{other m m':Int}(h:aDD f n other m)(h':aDD f n other m'):m=m':=by
 rcases h with h|⟨h,e⟩<;>rcases h' with h'|⟨h',e'⟩
 ·by_cases c:m=m'
  ·exact c
  ·have:=aRj (f:=f) (n:=n) c;omega
 ·exact absurd h (h' m)
 ·exact absurd h' (h m')
 ·rw[e,e']
def nD(a b c:Int):Int:=if a=b then a else if a=c then a else if b=c then b else 0
theorem ce3(f:Nat→Int)(v:Int):ce f 3 v=ind (f 0=v)+ind (f 1=v)+ind (f 2=v):=by
 have e:∀i,(if decide (f i=v)=true then 1 else 0)=ind (f i=v):=λi=>by unfold ind;by_cases h:f i=v<;>simp[h]
 show ((0+(if decide (f 0=v)=true then 1 else 0))+(if decide (f 1=v)=true then 1 else 0))+(if decide (f 2=v)=true then 1 else 0)=_
 rw[e,e,e];omega
theorem aOm(f:Nat→Int):aDD f 3 0 (nD (f 0) (f 1) (f 2)):=by
 unfold nD
 split
 ·rename_i h
  refine Or.inl ?_
  rw[ce3,oC (p:=f 0=f 0) rfl,oC (p:=f 1=f 0) h.symm];omega
 ·split
  ·rename_i h
   refine Or.inl ?_
   rw[ce3,oC (p:=f 0=f 0) rfl,oC (p:=f 2=f 0) h.symm];omega
  ·split
   ·rename_i h
    refine Or.inl ?_
    rw[ce3,oC (p:=f 1=f 1) rfl,oC (p:=f 2=f 1) h.symm];omega
   ·rename_i h1 h2 h3
    refine Or.inr ⟨λv=>?_,rfl⟩
    rw[ce3]
    by_cases a:f 0=v
    ·rw[oC a,yR (p:=f 1=v) Yo,yR (p:=f 2=v) Yo];omega
    ·rw[yR a]
     by_cases b:f 1=v
     ·rw[oC b,yR (p:=f 2=v) Yo];omega
     ·rw[yR b];have:=aAu (f 2=v);omega
def o1(q s:Nat):Nat:=if 0≠q∧0≠s then 0 else if 1≠q∧1≠s then 1 else 2
def o2(q s:Nat):Nat:=if 3≠q∧3≠s then 3 else if 2≠q∧2≠s then 2 else 1
theorem aBJ(a b c:Int):nD a b c=nD b a c:=by unfold nD;split<;>split<;>(try split)<;>(try split)<;>(try split)<;>omega
theorem aCg(a b c:Int):nD a b c=nD a c b:=by unfold nD;split<;>split<;>(try split)<;>(try split)<;>(try split)<;>omega
theorem aPh(a c:Int):nD a a c=a:=by unfold nD;rw[if_pos rfl]
def jA(f:Nat→Int)(n:Nat):List Int:=(List.range n).map f
theorem qF(f:Nat→Int)(n:Nat):(jA f n).length=n:=by simp[jA]
theorem aLB(f:Nat→Int)(n:Nat):jA f (n+1)=jA f n++[f n]:=by simp[jA,List.range_succ]
theorem aDl(f:Nat→Int)(p:Int→Bool)(n:Nat):cn (λi=>p (f i)) n=(jA f n).countP p:=by
 induction n with
 |zero=>rfl
 |succ n ih=>
  rw[aLB,List.countP_append, ←ih]
  show cn _ n+(if p (f n) then 1 else 0)=_
  by_cases h:p (f n)=true<;>simp[h]
def gZ(l:List Int):List Int:=l.mergeSort (λx y=>decide (x≤y))
theorem aCJ(l:List Int):(gZ l).length=l.length:=by unfold gZ;exact List.length_mergeSort _
theorem aBj(l:List Int):(gZ l).Perm l:=by unfold gZ;exact List.mergeSort_perm _ _
theorem aRY(l:List Int):(gZ l).Pairwise (λx y=>x≤y):=by
 have h:(gZ l).Pairwise (λx y=>decide (x≤y)=true):=by
  unfold gZ
  exact List.pairwise_mergeSort (λa b c h1 h2=>by have:=of_decide_eq_true h1;have:=of_decide_eq_true h2;exact decide_eq_true Yo) (λa b=>by
   rcases Int.le_total a b with h|h
   ·rw[decide_eq_true h];rfl
   ·rw[decide_eq_true h,Bool.or_true]) l
 exact h.imp (λh=>of_decide_eq_true h)
theorem aJy{l:List Int}{i j:Nat}{x y:Int}(hi:(gZ l)[i]?=some x)(hj:(gZ l)[j]?=some y)(h:i≤j):x≤y:=by
 rcases Nat.lt_or_ge i j with c|c
 ·have hx:=List.getElem?_eq_some_iff.1 hi;have hy:=List.getElem?_eq_some_iff.1 hj
  obtain⟨a,rfl⟩:=hx;obtain⟨b,rfl⟩:=hy
  exact List.pairwise_iff_getElem.1 (aRY l) i j a b c
 ·have:i=j:=Yo
  subst this
  rw[hi] at hj;cases hj;exact Int.le_refl _
theorem aNh{l:List Int}{k:Nat}{v:Int}(h:(gZ l)[k]?=some v):(gZ l).countP (λx=>decide (x<v))≤k:=by
 have e:=List.take_append_drop k (gZ l)
 rw[←e,List.countP_append]
 have h1:((gZ l).take k).countP (λx=>decide (x<v))≤k:=Nat.le_trans List.countP_le_length (by simp;omega)
 have h2:((gZ l).drop k).countP (λx=>decide (x<v))=0:=by
  rw[List.countP_eq_zero]
  intro a ha
  obtain⟨j,hj⟩:=List.mem_iff_getElem?.1 ha
  rw[List.getElem?_drop] at hj
  have:=aJy h hj Yo
  simp;omega
 omega
theorem aLE{l:List Int}{k:Nat}{v:Int}(h:(gZ l)[k]?=some v):k<(gZ l).countP (λx=>decide (x≤v)):=by
 have hk:k<(gZ l).length:=(List.getElem?_eq_some_iff.1 h).1
 have e:=List.take_append_drop (k+1) (gZ l)
 rw[←e,List.countP_append]
 have h1:((gZ l).take (k+1)).countP (λx=>decide (x≤v))=k+1:=by
  have h2:((gZ l).take (k+1)).countP (λx=>decide (x≤v))=((gZ l).take (k+1)).length:=by
   rw[List.countP_eq_length]
   intro a ha
   obtain⟨j,hj⟩:=List.mem_iff_getElem?.1 ha
   have hj':j<k+1:=by
    have:=(List.getElem?_eq_some_iff.1 hj).1
    simp at this;omega
   rw[List.getElem?_take_of_lt hj'] at hj
   exact decide_eq_true (aJy hj h Yo)
  rw[h2,List.length_take];omega
 omega
theorem aJL{f:Nat→Int}{n k:Nat}{v:Int}(h:(gZ (jA f n))[k]?=some v):wI f n k v:=by
 have e1:cl f n v=(gZ (jA f n)).countP (λx=>decide (x<v)):=by
  rw[(aBj _).countP_eq];exact aDl f (λx=>decide (x<v)) n
 have e2:cl f n v+ce f n v=(gZ (jA f n)).countP (λx=>decide (x≤v)):=by
  rw[(aBj _).countP_eq,aBM];exact aDl f (λx=>decide (x≤v)) n
 exact⟨by rw[e1];exact aNh h,by rw[e2];exact aLE h⟩
theorem aGi{f:Nat→Int}{n:Nat}{a b:Int}(h1:(gZ (jA f n))[(n-1)/3]?=some a)(h2:(gZ (jA f n))[n-1-(n-1)/3]?=some b):uI f n ((a+b)/2):=⟨a,b,aJL h1,aJL h2,rfl⟩
theorem aPX(x y:Nat):x+y=2*(x &&& y)+(x^^^y):=by
 induction x using Nat.strongRecOn generalizing y with
 |_ x ih=>
  rcases Nat.eq_zero_or_pos x with h|h
  ·subst h;simp
  ·have e:=ih (x/2) Yo (y/2)
   have a1:(x &&& y)/2=x/2 &&& y/2:=Nat.and_div_two
   have a2:(x^^^y)/2=x/2^^^y/2:=Nat.xor_div_two
   have b1:(x &&& y)%2=x%2 &&& y%2:=Nat.and_mod_two_pow (n:=1)
   have b2:(x^^^y)%2=x%2^^^y%2:=Nat.xor_mod_two_pow (n:=1)
   rw[←a1, ←a2] at e
   clear a1 a2 ih
   generalize x &&& y=p at*
   generalize x^^^y=q at*
   have hx:x%2=0∨x%2=1:=Yo
   have hy:y%2=0∨y%2=1:=Yo
   rcases hx with hx|hx<;>rcases hy with hy|hy<;>rw[hx,hy] at b1 b2
   ·have b1:p%2=0:=b1;have b2:q%2=0:=b2;omega
   ·have b1:p%2=0:=b1;have b2:q%2=1:=b2;omega
   ·have b1:p%2=0:=b1;have b2:q%2=1:=b2;omega
   ·have b1:p%2=1:=b1;have b2:q%2=0:=b2;omega
theorem aMs(A B:BitVec 64):A.toInt+B.toInt=2*(A &&& B).toInt+(A^^^B).toInt:=by
 have h:=aPX A.toNat B.toNat
 rw[←BitVec.toNat_and, ←BitVec.toNat_xor] at h
 rw[BitVec.toInt_eq_msb_cond,BitVec.toInt_eq_msb_cond,BitVec.toInt_eq_msb_cond,BitVec.toInt_eq_msb_cond,BitVec.msb_and,BitVec.msb_xor]
 generalize (A &&& B).toNat=p at*
 generalize (A^^^B).toNat=q at*
 cases A.msb<;>cases B.msb<;>simp<;>omega
theorem aFr(A:BitVec 64):IntKind.i64.wrap (A.toNat:Int)=A.toInt:=by
 rw[IntKind.wrap_i64,BitVec.toInt_eq_toNat_cond]
 have:=A.isLt
 split<;>omega
theorem aJZ{a:Int}(h:R64 a):(BitVec.ofInt 64 a).toInt=a:=by
 obtain⟨h1,h2⟩:=h
 rw[BitVec.toInt_ofInt,Int.bmod_def]
 have e:((2^64:Nat):Int)=18446744073709551616:=rfl
 rw[e]
 split<;>omega
theorem aHX{a b:Int}(ha:R64 a)(hb:R64 b):∃p q,bits .and .i64 a b=p∧bits .xor .i64 a b=q∧R64 p∧R64 q∧p+q/2=(a+b)/2:=by
 refine⟨(BitVec.ofInt 64 a &&& BitVec.ofInt 64 b).toInt,(BitVec.ofInt 64 a^^^BitVec.ofInt 64 b).toInt,?_,?_,?_,?_,?_⟩
 ·exact aFr _
 ·exact aFr _
 ·have h1:=BitVec.le_toInt (BitVec.ofInt 64 a &&& BitVec.ofInt 64 b);have h2:=BitVec.toInt_lt (x:=BitVec.ofInt 64 a &&& BitVec.ofInt 64 b)
  exact⟨Yo,Yo⟩
 ·have h1:=BitVec.le_toInt (BitVec.ofInt 64 a^^^BitVec.ofInt 64 b);have h2:=BitVec.toInt_lt (x:=BitVec.ofInt 64 a^^^BitVec.ofInt 64 b)
  exact⟨Yo,Yo⟩
 ·have h:=aMs (BitVec.ofInt 64 a) (BitVec.ofInt 64 b)
  rw[aJZ ha,aJZ hb] at h
  omega
end Go.Proofs.YtdhblehhgpdpdacGreat
namespace Go.Proofs.YtdhblehhgpdpdacGreat
open Go.RowKit
structure Ms where
 K:Int
 F:Int
 R:Int
 L:List Int
structure Nd where
 id:Int
 fr:Int
 tn:Tn
 ax:Nat→St
 rl:Rl
 di:Nat→Nat→Int
 he:Nat→Int
 ag:Nat→Nat→Int
 us:Nat→Int
 dg:Int
 vX:Int
 vS:Bool
 vA:List Bool
def St.nil':St:=⟨0,0,0,0,0,false,0⟩
def St.beg0:St:=⟨0,0,4294967296,0,4294967296,false,0⟩
def fD:Nd:=⟨0,0,⟨0,0,0,0⟩,λ_=>St.nil',zeroR,λ_ _=>0,λ_=>0,λ_ _=>0,λ_=>0,0,0,false,[]⟩
def jI:Ms:=⟨0,0,0,[]⟩
def jR(id:Int):Bool:=decide (id<0)||decide (3<id)
def jE(id:Int)(t:Tn):Nd:=if jR id then fD else { fD with id:=id,tn:=t,ax:=λ_=>St.beg0,rl:=beginR }
def aEI(id:Int):Int:=if jR id then 3 else 0
def iI(n:Nd)(l:List Ms)(s:Nat)(kind:Int)(many:Nat):Option (List Int):=
 (l.find? λm:Ms=>decide (m.F=(s:Int))&&decide (m.F≠n.id)&&decide (m.K=kind)&&decide (m.R=n.fr)&&decide (m.L.length=many)).map (·.L)
theorem aEM{n:Nd}{l:List Ms}{s:Nat}{kind:Int}{many:Nat}(h:(s:Int)=n.id):iI n l s kind many=none:=by
 unfold iI
 rw[Option.map_eq_none_iff,List.find?_eq_none]
 intro m _ c
 simp only[Bool.and_eq_true,decide_eq_true_eq] at c
 exact c.1.1.1.2 (by rw[c.1.1.1.1,h])
def pR(n:Nd)(frame:Int)(rd:Nat→Int):Nd:=if jR n.id then n else { n with fr:=frame,di:=λs a=>if (s:Int)=n.id then rd a else 0,he:=λ_=>0 }
def oV(n:Nd)(frame:Int)(rd:Nat→Int):Ms:=if jR n.id then jI else ⟨1,n.id,frame,[rd 0,rd 1,rd 2]⟩
def relD(n:Nd)(l:List Ms)(s a:Nat):Int:=match iI n l s 1 3 with|some v=>v.getD a 0|none=>n.di s a
def relN(n:Nd)(l:List Ms):Nd:=if jR n.id then n else { n with di:=relD n l }
def vZ(n:Nd)(l:List Ms):Ms:=if jR n.id then jI else ⟨2,n.id,n.fr,(List.range 12).map λi=>relD n l (i/3) (i%3)⟩
def iX(n:Nd)(l:List Ms)(i k many:Nat):Int:=match iI n l i 2 many with|some v=>v.getD k 0|none=>0
def xN(n:Nd)(l:List Ms)(s:Nat)(h:Int)(k many:Nat):Int:=
 if (s:Int)=n.id then h else nD h (iX n l (o1 n.id.toNat s) k many) (iX n l (o2 n.id.toNat s) k many)
def qL(l:List Int):Int:=if 1≤l.length∧l.length≤64 then ((gZ l).getD ((l.length-1)/3) 0+(gZ l).getD (l.length-1-(l.length-1)/3) 0)/2 else 0
theorem aCB{f:Nat→Int}{n:Nat}{m:Int}(h1:1≤n)(h2:n≤64)(h:uI f n m):m=qL (jA f n):=by
 have el:(jA f n).length=n:=by unfold jA;simp
 have es:(gZ (jA f n)).length=n:=by unfold gZ;rw[List.length_mergeSort,el]
 unfold qL
 rw[el,if_pos ⟨h1,h2⟩]
 have g:∀k,k<n→(gZ (jA f n))[k]?=some ((gZ (jA f n)).getD k 0):=λk hk=>by
  rw[List.getD_eq_getElem?_getD,List.getElem?_eq_getElem Yo];rfl
 exact aQo h (aGi (g _ Yo) (g _ Yo))
def jK(b:Nat→Bool)(f:Nat→Int):Nat→List Int
 |0=>[]
 |k+1=>jK b f k++(if b k then [f k] else [])
theorem aKU(b:Nat→Bool)(f:Nat→Int)(k:Nat):(jK b f k).length≤k:=by
 induction k with
 |zero=>exact Nat.le_refl 0
 |succ k ih=>
  show (jK b f k++_).length≤_
  rw[List.length_append]
  split
  ·show _+1≤_;omega
  ·show _+0≤_;omega
def vtX(v:Nat→Int)(b:Nat→Bool):Nat→Int
 |0=>0
 |k+1=>if b k=true∧(vk b v (vtX v b k) 4<vk b v (v k) 4∨ti b k=0) then v k else vtX v b k
theorem aGA(v:Nat→Int)(b:Nat→Bool):∀k,rG v b k (vtX v b k)
 |0=>aDf v b
 |k+1=>by
  have ih:=aGA v b k
  show rG v b (k+1) (if _ then v k else vtX v b k)
  cases hb:b k with
  |false=>rw[if_neg (by rintro⟨c,_⟩;exact absurd c Yc)];exact isV_out ih hb
  |true=>
   by_cases c:vk b v (vtX v b k) 4<vk b v (v k) 4∨ti b k=0
   ·rw[if_pos ⟨rfl,c⟩];exact aEr ih hb c
   ·rw[if_neg (λh=>c h.2)];exact aCR ih (λh=>c (Or.inl h)) (λh=>c (Or.inr h))
theorem aJJ{v:Nat→Int}{b:Nat→Bool}{X:Int}(h:rG v b 4 X):X=vtX v b 4:=aOW h (aGA v b 4)
def inN(b:Nat→Bool):Int:=(if b 0 then 1 else 0)+(if b 1 then 2 else 0)+(if b 2 then 4 else 0)+(if b 3 then 8 else 0)
def oQ(f:Nat→Int):Nat→Int
 |0=>0
 |k+1=>wrap64 (wrap64 (8*oQ f k)+f k)
def axL(s:St):List Int:=[s.X,s.V,s.P00,s.P01,s.P11,if s.B then 1 else 0,s.M]
def qZ(ax:Nat→St)(r:Rl):List Int:=axL (ax 0)++axL (ax 1)++axL (ax 2)++[inN r.I,oQ r.M 4,oQ r.J 4]
theorem aPY(ax:Nat→St)(r:Rl):(qZ ax r).length=24:=rfl
def vU(ax:Nat→St)(r:Rl)(i:Nat):Nat:=bt ((qZ ax r).getD (i/8) 0) 8 (i%8)
def dgN(ax:Nat→St)(r:Rl):Int:=((4294967295-cF 4294967295 (vU ax r) 192:Nat):Int)
def decG(n:Nd)(l:List Ms)(s a:Nat):Int:=xN n l s (n.di s a) (3*s+a) 12
def decU(n:Nd)(l:List Ms)(a:Nat):Int:=qL (jK n.rl.I (λs=>decG n l s a) 4)
def decA(n:Nd)(l:List Ms)(a:Nat):St:=wQ (n.ax a) n.tn (decU n l a)
def decD(n:Nd)(l:List Ms):Int:=dgN (decA n l) n.rl
def decN(n:Nd)(l:List Ms):Nd:=if jR n.id then n else { n with ag:=decG n l,us:=decU n l,ax:=decA n l,dg:=decD n l,he:=λs=>if (s:Int)=n.id then decD n l else n.he s }
def uW(n:Nd)(l:List Ms):Ms:=if jR n.id then jI else ⟨3,n.id,n.fr,[decD n l]⟩
def pasH(n:Nd)(l:List Ms)(s:Nat):Int:=match iI n l s 3 1 with|some v=>v.getD 0 0|none=>n.he s
def pasN(n:Nd)(l:List Ms):Nd:=if jR n.id then n else { n with he:=pasH n l }
def vR(n:Nd)(l:List Ms):Ms:=if jR n.id then jI else ⟨2,n.id,n.fr,(List.range 4).map (pasH n l)⟩
def rP(n:Nd)(l:List Ms)(s:Nat):Int:=xN n l s (n.he s) s 4
def judX(n:Nd)(l:List Ms):Int:=vtX (rP n l) n.rl.I 4
def judA(n:Nd)(l:List Ms)(i:Nat):Bool:=vtA (rP n l) n.rl.I (judX n l) i
def judS(n:Nd)(l:List Ms):Bool:=vtS (rP n l) n.rl.I (judX n l)
def judR(n:Nd)(l:List Ms):Rl:=if (stR n.rl (judS n l) 4 (judA n l)).2.2=0 then (stR n.rl (judS n l) 4 (judA n l)).1 else n.rl
def judN(n:Nd)(l:List Ms):Nd:=if jR n.id then n else { n with vX:=judX n l,vS:=judS n l,vA:=(List.range 4).map (judA n l),rl:=judR n l }
def uY(n:Nd)(l:List Ms):Ms:=if jR n.id then jI else ⟨5,n.id,n.fr,qZ n.ax (judR n l)⟩
def unA(v:List Int)(a:Nat):St:=⟨v.getD (7*a) 0,v.getD (7*a+1) 0,v.getD (7*a+2) 0,v.getD (7*a+3) 0,v.getD (7*a+4) 0,decide (0<v.getD (7*a+5) 0),v.getD (7*a+6) 0⟩
def unR(v:List Int):Rl:=⟨λi=>decide (v.getD 21 0/2^i%2=1),λi=>v.getD 22 0/8^(3-i)%8,λi=>v.getD 23 0/8^(3-i)%8⟩
def unOK(v:List Int):Bool:=
 (List.range 3).all (λa=>decide (0≤v.getD (7*a+5) 0)&&decide (v.getD (7*a+5) 0≤1))&&decide (0≤v.getD 21 0)&&decide (v.getD 21 0≤15)&&decide (0≤v.getD 22 0)&&decide (v.getD 22 0≤4095)&&
  decide (0≤v.getD 23 0)&&decide (v.getD 23 0≤4095)&&nK (unR v)
def prs:List (Nat×Nat):=[(0,1),(0,2),(0,3),(1,2),(1,3),(2,3)]
def aDI(n:Nd)(l:List Ms)(p:Nat×Nat):Option (List Int):=match iI n l p.1 5 24,iI n l p.2 5 24 with|some a,some b=>if a=b then some a else none|_,_=>none
def aHt(n:Nd)(l:List Ms):Option (List Int):=if n.vS=true∧n.vX≠n.dg then prs.findSome? (aDI n l) else none
def iP(n:Nd)(l:List Ms):Nd:=if jR n.id then n else match aHt n l with|some v=>if unOK v then { n with ax:=unA v,rl:=unR v } else n|none=>n
end Go.Proofs.YtdhblehhgpdpdacGreat
