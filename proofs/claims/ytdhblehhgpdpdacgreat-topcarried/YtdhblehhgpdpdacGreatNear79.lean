import Derived.Test.YtdhblehhgpdpdacGreatNear65
import Derived.Test.YtdhblehhgpdpdacGreatOpenRow
namespace Go.Proofs.YtdhblehhgpdpdacGreat
open Go.ChangeShapes Go.WideShapes Go.ChangeAt Go.RowKit Go.Joins
theorem aLd:Tryz.prog.cellsOf 69=4:=by kernel_rfl
section
variable {H:Type} {enc:TypeId×Value→H} {w:World} {base:Nat} {held:Bool}
set_option maxRecDepth 100000 in
theorem aFA {r : Reach} {b0 : Nat} {v : Value} {d : DataW H} {p : List MemPlace} (hv : Value.okWide Tryz.prog w r b0 69 v) (h : DataW.Trod enc Tryz.prog w base (λ_ => true) held 69 v d p) (hsz : ∀ n ∈ d.weights Tryz.prog 69, n ≤ reachBytes) :
  ∃K F R ao len cap f,v=kX K F R (.slice ao len cap)∧R64 K∧R64 F∧R64 R∧ArgS w ao len cap f∧len≤cap:=by
 obtain⟨c0,c1,c2,c3,y0,y1,y2,y3,m,rfl,rfl,rfl,hy0,hy1,hy2,hy3⟩:=open_agg4 Tryz.underlying69 (by kernel_rfl) aLd hv h
 obtain⟨K,e0,_,wK⟩:=DataW.trod_int Tryz.underlying3 hy0
 obtain⟨F,e1,_,wF⟩:=DataW.trod_int Tryz.underlying3 hy1
 obtain⟨R,e2,_,wR⟩:=DataW.trod_int Tryz.underlying3 hy2
 simp at e0 e1 e2
 subst e0 e1 e2
 obtain⟨ao,len,cap,f,rfl,ha⟩:=aLP hy3 (λn hn=>hsz n (by
  simp only[DataW.weights,Tryz.underlying69,List.map,DataW.weightsEach]
  simp only[List.mem_append]
  exact Or.inr (Or.inr (Or.inr (Or.inl hn)))))
 refine⟨K,F,R,ao,len,cap,f,rfl,R64.of_wf wK,R64.of_wf wF,R64.of_wf wR,ha,?_⟩
 rcases open_ints Tryz.underlying67 Tryz.underlying3 aFb hy3 with ⟨hcs,_⟩|⟨a,l,c,zs,hcs,_,hl,_⟩
 ·simp at hcs
  omega
 ·simp at hcs
  omega
end
end Go.Proofs.YtdhblehhgpdpdacGreat
namespace Go.Proofs.YtdhblehhgpdpdacGreat
structure Pc where
 fr:Int
 to:Int
 du:Int
 se:Int
 ds:List Nat
structure Bs where
 now:Int
 ser:Int
 q:List Pc
def jG:Bs:=⟨0,0,[]⟩
def lV(x:Int):Int:=if x=9223372036854775807 then -9223372036854775808 else x+1
theorem aOG{x:Int}(h:R64 x):R64 (lV x):=by unfold lV R64 at*;split<;>omega
def kJ(N:Int)(n:Nat)(f t d:Int)(k:Nat):Nat:=
 if f<0∨3<f∨t<0∨3<t∨f=t∨d<0∨1000<d∨N<0∨1099511627776<N then 3 else if 220<k then 1 else if 400≤n then 6 else 0
def lC(b:Bs)(f t:Int)(ds:List Nat)(d:Int):Bs:=if kJ b.now b.q.length f t d ds.length=0 then ⟨b.now,lV b.ser,b.q++[⟨f,t,b.now+d,b.ser,ds⟩]⟩ else jG
def wJ(a b:Pc):Bool:=decide (a.du<b.du∨(a.du=b.du∧a.se≤b.se))
theorem aKO(a:Pc):wJ a a=true:=by unfold wJ;simp
def aED(p:Pc):List Pc→List Pc
 |[]=>[p]
 |q::l=>if wJ p q=true then p::q::l else q::aED p l
def xV:List Pc→List Pc
 |[]=>[]
 |p::l=>aED p (xV l)
def fK(t:Int)(p:Pc):Bool:=decide (p.du≤t)
def nI(N t:Int):Nat:=if t<N∨1099511627776<t then 3 else 0
def jB(b:Bs)(t:Int):Bs:=if nI b.now t=0 then ⟨t,b.ser,b.q.filter (λp=> !fK t p)⟩ else jG
def oH(b:Bs)(t:Int):List Pc:=if nI b.now t=0 then xV (b.q.filter (fK t)) else []
def fsP(s:Int):List Pc→Nat
 |[]=>0
 |p::l=>if p.se=s then 0 else fsP s l+1
theorem aRz{s:Int}{l:List Pc}:∀{p:Pc},l[fsP s l]?=some p→p.se=s:=by
 induction l with
 |nil=>intro p h;simp at h
 |cons q l ih=>
  intro p hp
  unfold fsP at hp
  split at hp
  ·rename_i hq;simp at hp;subst hp;exact hq
  ·simp at hp;exact ih hp
theorem aRu{s:Int}{l:List Pc}:∀{i:Nat},(∀j p,j<i→l[j]?=some p→p.se≠s)→(∀p,l[i]?=some p→p.se=s)→i≤l.length→fsP s l=i:=by
 induction l with
 |nil=>intro i _ _ h;simp at h;subst h;rfl
 |cons q l ih=>
  intro i h1 h2 h3
  unfold fsP
  cases i with
  |zero=>rw[if_pos (h2 q rfl)]
  |succ i=>
   rw[if_neg (h1 0 q Yo rfl),ih (i:=i) (λj p hj hp=>h1 (j+1) p Yo (by simpa using hp)) (λp hp=>h2 p (by simpa using hp)) (by simp at h3;omega)]
def nS(a m:Nat)(p:Pc):Pc:=⟨p.fr,p.to,p.du,p.se,p.ds.set a (p.ds.getD a 0^^^m)⟩
def turnE(b:Bs)(s a m:Int):Nat:=
 match b.q[fsP s b.q]? with
 |none=>7
 |some p=>if a<0∨(p.ds.length:Int)≤a∨m<0∨255<m then 3 else 0
def mP(b:Bs)(s a m:Int):Bs:=if turnE b s a m=0 then ⟨b.now,b.ser,b.q.modify (fsP s b.q) (nS a.toNat m.toNat)⟩ else jG
theorem vP(a m:Nat)(p:Pc):(nS a m p).ds.length=p.ds.length:=by unfold nS;simp
theorem aKw{f d:Int}{ds:List Nat}(hf:0≤f∧f≤3)(hd:0≤d∧d≤1000)(hk:ds.length≤220):kJ jG.now jG.q.length f ((f+1)%4) d ds.length=0∧lC jG f ((f+1)%4) ds d=⟨0,1,[⟨f,(f+1)%4,d,0,ds⟩]⟩:=by
 have e:kJ jG.now jG.q.length f ((f+1)%4) d ds.length=0:=by
  show kJ 0 0 f ((f+1)%4) d ds.length=0
  unfold kJ
  rw[if_neg Yo,if_neg Yo,if_neg Yo]
 refine⟨e,?_⟩
 unfold lC
 rw[if_pos e]
 show (⟨0,lV 0,[]++[⟨f,(f+1)%4,0+d,0,ds⟩]⟩:Bs)=_
 rw[Int.zero_add]
 rfl
theorem qG{N s:Int}{t:Int}(q:List Pc)(h:N≤t)(ht:t≤1000):nI (Bs.mk N s q).now t=0:=by
 show nI N t=0
 unfold nI
 rw[if_neg Yo]
theorem aCs{N s t:Int}{p:Pc}(h:N≤t)(ht:t≤1000)(hp:p.du≤t):oH ⟨N,s,[p]⟩ t=[p]∧jB ⟨N,s,[p]⟩ t=⟨t,s,[]⟩:=by
 have e:=qG (s:=s) [p] h ht
 have d:fK t p=true:=by unfold fK;simp;omega
 unfold oH jB
 rw[if_pos e,if_pos e]
 simp[List.filter,d,xV,aED]
theorem aOA{N s t:Int}{p:Pc}(h:N≤t)(ht:t≤1000)(hp:t<p.du):oH ⟨N,s,[p]⟩ t=[]∧jB ⟨N,s,[p]⟩ t=⟨t,s,[p]⟩:=by
 have e:=qG (s:=s) [p] h ht
 have d:fK t p=false:=by unfold fK;simp;omega
 unfold oH jB
 rw[if_pos e,if_pos e]
 simp[List.filter,d,xV]
theorem aKB{N s t:Int}(h:N≤t)(ht:t≤1000):oH ⟨N,s,[]⟩ t=[]:=by
 unfold oH
 rw[if_pos (qG [] h ht)]
 rfl
theorem aJD{d s:Int}{p:Pc}(hd:0≤d∧d≤1000)(hp:p.du=d):oH ⟨0,s,[p]⟩ (max (d-1) 0)++oH (jB ⟨0,s,[p]⟩ (max (d-1) 0)) d=[p]:=by
 by_cases c:d=0
 ·obtain⟨h1,h2⟩:=aCs (s:=s) (p:=p) (N:=0) (t:=max (d-1) 0) Yo Yo Yo
  rw[h1,h2,aKB Yo Yo]
  rfl
 ·obtain⟨h1,h2⟩:=aOA (s:=s) (p:=p) (N:=0) (t:=max (d-1) 0) Yo Yo Yo
  rw[h1,h2,(aCs Yo Yo Yo).1]
  rfl
theorem aMY{N s a m:Int}{p:Pc}(hp:p.se=0)(ha:0≤a∧a<p.ds.length)(hm:0≤m∧m≤255):turnE ⟨N,s,[p]⟩ 0 a m=0∧mP ⟨N,s,[p]⟩ 0 a m=⟨N,s,[nS a.toNat m.toNat p]⟩:=by
 have f:fsP 0 [p]=0:=by unfold fsP;rw[if_pos hp]
 have e:turnE ⟨N,s,[p]⟩ 0 a m=0:=by
  unfold turnE
  show (match [p][fsP 0 [p]]? with|none=>7|some p=>_)=0
  rw[f]
  show (if a<0∨(p.ds.length:Int)≤a∨m<0∨255<m then 3 else 0)=0
  rw[if_neg Yo]
 refine⟨e,?_⟩
 unfold mP
 rw[if_pos e]
 show (⟨N,s,[p].modify (fsP 0 [p]) (nS a.toNat m.toNat)⟩:Bs)=_
 rw[f]
 rfl
def cS(x:Nat):Nat:=if x%2=0 then x/2 else x/2^^^3988292384
def cN:Nat→Nat→Nat
 |0,x=>x
 |n+1,x=>cN n (cS x)
def cF(r:Nat)(g:Nat→Nat):Nat→Nat
 |0=>r
 |n+1=>cN 8 (cF r g n^^^g n)
def cV(g:Nat→Nat):Nat→Nat
 |0=>0
 |n+1=>cV g n+g n*2^(8*n)
theorem aSB(x y:Nat):(x^^^y)/2=(x/2)^^^(y/2):=by
 apply Nat.eq_of_testBit_eq
 intro i
 simp only[Nat.testBit_xor, ←Nat.testBit_succ]
theorem aQO(x y:Nat):(x^^^y)%2=(x%2+y%2)%2:=by
 have h:=Nat.testBit_xor (x:=x) (y:=y) (i:=0)
 simp only[Nat.testBit_zero] at h
 rcases Nat.mod_two_eq_zero_or_one x with hx|hx<;>rcases Nat.mod_two_eq_zero_or_one y with hy|hy<;>rcases Nat.mod_two_eq_zero_or_one (x^^^y) with hz|hz<;>simp[hx,hy,hz] at h ⊢
theorem aTI(x y:Nat):cS (x^^^y)=cS x^^^cS y:=by
 unfold cS
 rw[aSB,aQO]
 rcases Nat.mod_two_eq_zero_or_one x with hx|hx<;>rcases Nat.mod_two_eq_zero_or_one y with hy|hy<;>simp[hx,hy,Nat.xor_assoc]
 ·rw[Nat.xor_comm 3988292384 (y/2)]
 ·rw[←Nat.xor_assoc 3988292384 (y/2),Nat.xor_comm 3988292384 (y/2),Nat.xor_assoc (y/2),Nat.xor_self,Nat.xor_zero]
theorem aMi(n:Nat):∀(x y:Nat),cN n (x^^^y)=cN n x^^^cN n y:=by
 induction n with
 |zero=>intro x y;rfl
 |succ n ih=>intro x y;show cN n (cS (x^^^y))=_;rw[aTI,ih];rfl
theorem aEX(n:Nat):∀(m x:Nat),cN (n+m) x=cN m (cN n x):=by
 induction n with
 |zero=>intro m x;rw[Nat.zero_add];rfl
 |succ n ih=>intro m x;rw[Nat.add_right_comm];show cN (n+m) (cS x)=_;rw[ih];rfl
theorem aHq(n:Nat):∀x,cN n (x*2^n)=x:=by
 induction n with
 |zero=>intro x;show x*1=x;omega
 |succ n ih=>
  intro x
  show cN n (cS (x*2^(n+1)))=x
  have h:cS (x*2^(n+1))=x*2^n:=by
   have e:x*2^(n+1)=(x*2^n)*2:=by rw[Nat.pow_succ,Nat.mul_assoc]
   unfold cS
   rw[e,if_pos Yo];omega
  rw[h,ih]
theorem aNA{x:Nat}(h:x<4294967296):cS x<4294967296:=by
 unfold cS
 split
 ·omega
 ·exact Nat.xor_lt_two_pow (n:=32) Yo Yc
theorem aHk{n:Nat}:∀{x:Nat},x<4294967296→cN n x<4294967296:=by
 induction n with
 |zero=>intro x h;exact h
 |succ n ih=>intro x h;exact ih (aNA h)
theorem aTp{x:Nat}(h:x<4294967296)(h0:x≠0):cS x≠0:=by
 unfold cS
 split
 ·omega
 ·intro e
  have e2:x/2=3988292384:=by
   have:=congrArg (· ^^^3988292384) e
   simpa [Nat.xor_assoc,Nat.xor_self] using this
  omega
theorem aSP{n:Nat}:∀{x:Nat},x<4294967296→x≠0→cN n x≠0:=by
 induction n with
 |zero=>intro x _ h;exact h
 |succ n ih=>intro x h h0;exact ih (aNA h) (aTp h h0)
theorem aNv{x:Nat}(n:Nat)(h:x<2^n)(y:Nat):x+y*2^n=x^^^(y*2^n):=by
 apply Nat.eq_of_testBit_eq
 intro i
 rw[Nat.testBit_xor,Nat.add_comm,Nat.mul_comm,Nat.testBit_two_pow_mul_add _ h,Nat.testBit_two_pow_mul]
 by_cases hi:i<n
 ·simp[hi,Nat.not_le.2 hi]
 ·have:x.testBit i=false:=Nat.testBit_lt_two_pow (Nat.lt_of_lt_of_le h (Nat.pow_le_pow_right Yo Yo))
  simp[hi,this,Nat.le_of_not_lt hi]
theorem aMj(r c:Nat):cN 8 (r^^^c)=cN 8 (r%256^^^c)^^^(r/256):=by
 have e:r^^^c=(r%256^^^c)^^^((r/256)*2^8):=by
  have h:=aNv (x:=r%256) 8 Yo (r/256)
  have h2:r=r%256^^^(r/256)*2^8:=by rw[←h];omega
  conv=>lhs;rw[h2]
  rw[Nat.xor_assoc,Nat.xor_comm _ c, ←Nat.xor_assoc]
 rw[e,aMi,aHq]
theorem aTj{g:Nat→Nat}(hg:∀i,g i<256)(n:Nat):cV g n<2^(8*n):=by
 induction n with
 |zero=>show 0<2^0;omega
 |succ n ih=>
  show cV g n+g n*2^(8*n)<2^(8*(n+1))
  have e:2^(8*(n+1))=256*2^(8*n):=by rw[Nat.mul_add,Nat.pow_add,Nat.mul_comm]
  rw[e]
  have h1:g n*2^(8*n)≤255*2^(8*n):=Nat.mul_le_mul_right _ (by have:=hg n;omega)
  omega
theorem aMc{g:Nat→Nat}(hg:∀i,g i<256)(n:Nat):cV g (n+1)=cV g n^^^g n*2^(8*n):=aNv _ (aTj hg n) _
theorem aNg(r:Nat){g:Nat→Nat}(hg:∀i,g i<256)(n:Nat):cF r g n=cN (8*n) (r^^^cV g n):=by
 induction n with
 |zero=>show r=r^^^0;rw[Nat.xor_zero]
 |succ n ih=>
  show cN 8 (cF r g n^^^g n)=_
  rw[aMc hg, ←Nat.xor_assoc,Nat.mul_add,aEX,aMi (8*n) _ (g n*_),aHq, ←ih]
theorem aNF{r:Nat}{g:Nat→Nat}(hr:r<4294967296)(hg:∀i,g i<256)(n:Nat):cF r g n<4294967296:=by
 induction n with
 |zero=>exact hr
 |succ n ih=>exact aHk (Nat.xor_lt_two_pow (n:=32) ih (by have:=hg n;omega))
theorem aBq(r:Nat){g h:Nat→Nat}(n:Nat)(e:∀i,i<n→g i=h i):cF r g n=cF r h n:=by
 induction n with
 |zero=>rfl
 |succ n ih=>show cN 8 (cF r g n^^^g n)=cN 8 (cF r h n^^^h n);rw[ih (λi hi=>e i Yo),e n Yo]
theorem aRg(r:Nat)(g:Nat→Nat)(n m:Nat):cF r g (n+m)=cF (cF r g n) (λi=>g (n+i)) m:=by
 induction m with
 |zero=>rfl
 |succ m ih=>show cN 8 (cF r g (n+m)^^^g (n+m))=cN 8 (cF (cF r g n) (λi=>g (n+i)) m^^^g (n+m));rw[ih]
theorem aMU(r:Nat){g h:Nat→Nat}(hg:∀i,g i<256)(hh:∀i,h i<256)(n p m:Nat)(hp:p<8*n)(hm:m%2=1)(hm2:m<4294967296)(e:cV h n=cV g n^^^m*2^p):cF r h n≠cF r g n:=by
 rw[aNg r hg,aNg r hh,e, ←Nat.xor_assoc,aMi]
 intro k
 have k2:cN (8*n) (m*2^p)=0:=by
  have:=congrArg (cN (8*n) (r^^^cV g n)^^^ ·) k
  simpa [←Nat.xor_assoc,Nat.xor_self] using this
 have e2:8*n=p+(8*n-p):=Yo
 rw[e2,aEX,aHq] at k2
 exact aSP hm2 Yo k2
end Go.Proofs.YtdhblehhgpdpdacGreat
