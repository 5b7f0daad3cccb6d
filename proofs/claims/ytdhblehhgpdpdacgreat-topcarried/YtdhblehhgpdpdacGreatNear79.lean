import Derived.Test.YtdhblehhgpdpdacGreatNear65
import Derived.Test.YtdhblehhgpdpdacGreatOpenRow
namespace Go.Proofs.YtdhblehhgpdpdacGreat
open Go.ChangeShapes Go.WideShapes Go.ChangeAt Go.RowKit Go.Joins
theorem aHS:Tryz.prog.cellsOf 69=4:=by kernel_rfl
section
variable {H:Type} {enc:TypeId×Value→H} {w:World} {base:Nat} {held:Bool}
set_option maxRecDepth 100000 in
theorem aC3 {r : Reach} {b0 : Nat} {v : Value} {d : DataW H} {p : List MemPlace} (hv : Value.okWide Tryz.prog w r b0 69 v) (h : DataW.Trod enc Tryz.prog w base (λ_ => true) held 69 v d p) (hsz : ∀ n ∈ d.weights Tryz.prog 69, n ≤ reachBytes) :
  ∃K F R ao len cap f,v=iY K F R (.slice ao len cap)∧R64 K∧R64 F∧R64 R∧ArgS w ao len cap f∧len≤cap:=by
 obtain⟨c0,c1,c2,c3,y0,y1,y2,y3,m,rfl,rfl,rfl,hy0,hy1,hy2,hy3⟩:=open_agg4 Tryz.underlying69 (by kernel_rfl) aHS hv h
 obtain⟨K,e0,_,wK⟩:=DataW.trod_int Tryz.underlying3 hy0
 obtain⟨F,e1,_,wF⟩:=DataW.trod_int Tryz.underlying3 hy1
 obtain⟨R,e2,_,wR⟩:=DataW.trod_int Tryz.underlying3 hy2
 simp at e0 e1 e2
 subst e0 e1 e2
 obtain⟨ao,len,cap,f,rfl,ha⟩:=aHj hy3 (λn hn=>hsz n (by
  simp only[DataW.weights,Tryz.underlying69,List.map,DataW.weightsEach]
  simp only[List.mem_append]
  exact Or.inr (Or.inr (Or.inr (Or.inl hn)))))
 refine⟨K,F,R,ao,len,cap,f,rfl,R64.of_wf wK,R64.of_wf wF,R64.of_wf wR,ha,?_⟩
 rcases open_ints Tryz.underlying67 Tryz.underlying3 aBR hy3 with ⟨hcs,_⟩|⟨a,l,c,zs,hcs,_,hl,_⟩
 ·simp at hcs
  omega
 ·simp at hcs
  omega
end
end Go.Proofs.YtdhblehhgpdpdacGreat
namespace Go.Proofs.YtdhblehhgpdpdacGreat
structure Pc where
 fr:Int
 to:Int
 du:Int
 se:Int
 ds:List Nat
structure Bs where
 now:Int
 ser:Int
 q:List Pc
def gP:Bs:=⟨0,0,[]⟩
def jL(x:Int):Int:=if x=9223372036854775807 then -9223372036854775808 else x+1
theorem aKm{x:Int}(h:R64 x):R64 (jL x):=by unfold jL R64 at*;split<;>omega
def iM(N:Int)(n:Nat)(f t d:Int)(k:Nat):Nat:=
 if f<0∨3<f∨t<0∨3<t∨f=t∨d<0∨1000<d∨N<0∨1099511627776<N then 3 else if 220<k then 1 else if 400≤n then 6 else 0
def i4(b:Bs)(f t:Int)(ds:List Nat)(d:Int):Bs:=if iM b.now b.q.length f t d ds.length=0 then ⟨b.now,jL b.ser,b.q++[⟨f,t,b.now+d,b.ser,ds⟩]⟩ else gP
def qH(a b:Pc):Bool:=decide (a.du<b.du∨(a.du=b.du∧a.se≤b.se))
theorem aIo(a:Pc):qH a a=true:=by unfold qH;simp
def aB1(p:Pc):List Pc→List Pc
 |[]=>[p]
 |q::l=>if qH p q=true then p::q::l else q::aB1 p l
def sL:List Pc→List Pc
 |[]=>[]
 |p::l=>aB1 p (sL l)
def d9(t:Int)(p:Pc):Bool:=decide (p.du≤t)
def kR(N t:Int):Nat:=if t<N∨1099511627776<t then 3 else 0
def gN(b:Bs)(t:Int):Bs:=if kR b.now t=0 then ⟨t,b.ser,b.q.filter (λp=>!d9 t p)⟩ else gP
def lG(b:Bs)(t:Int):List Pc:=if kR b.now t=0 then sL (b.q.filter (d9 t)) else []
def fsP(s:Int):List Pc→Nat
 |[]=>0
 |p::l=>if p.se=s then 0 else fsP s l+1
theorem aN5{s:Int}{l:List Pc}:∀{p:Pc},l[fsP s l]?=some p→p.se=s:=by
 induction l with
 |nil=>intro p h;simp at h
 |cons q l ih=>
  intro p hp
  unfold fsP at hp
  split at hp
  ·rename_i hq;simp at hp;subst hp;exact hq
  ·simp at hp;exact ih hp
theorem aMF{s:Int}{l:List Pc}:∀{i:Nat},(∀j p,j<i→l[j]?=some p→p.se≠s)→(∀p,l[i]?=some p→p.se=s)→i≤l.length→fsP s l=i:=by
 induction l with
 |nil=>intro i _ _ h;simp at h;subst h;rfl
 |cons q l ih=>
  intro i h1 h2 h3
  unfold fsP
  cases i with
  |zero=>rw[if_pos (h2 q rfl)]
  |succ i=>
   rw[if_neg (h1 0 q Yo rfl),ih (i:=i) (λj p hj hp=>h1 (j+1) p Yo (by simpa using hp)) (λp hp=>h2 p (by simpa using hp)) (by simp at h3;omega)]
def lD(a m:Nat)(p:Pc):Pc:=⟨p.fr,p.to,p.du,p.se,p.ds.set a (p.ds.getD a 0^^^m)⟩
def turnE(b:Bs)(s a m:Int):Nat:=
 match b.q[fsP s b.q]? with
 |none=>7
 |some p=>if a<0∨(p.ds.length:Int)≤a∨m<0∨255<m then 3 else 0
def jZ(b:Bs)(s a m:Int):Bs:=if turnE b s a m=0 then ⟨b.now,b.ser,b.q.modify (fsP s b.q) (lD a.toNat m.toNat)⟩ else gP
theorem qP(a m:Nat)(p:Pc):(lD a m p).ds.length=p.ds.length:=by unfold lD;simp
theorem aJz{f d:Int}{ds:List Nat}(hf:0≤f∧f≤3)(hd:0≤d∧d≤1000)(hk:ds.length≤220):iM gP.now gP.q.length f ((f+1)%4) d ds.length=0∧i4 gP f ((f+1)%4) ds d=⟨0,1,[⟨f,(f+1)%4,d,0,ds⟩]⟩:=by
 have e:iM gP.now gP.q.length f ((f+1)%4) d ds.length=0:=by
  show iM 0 0 f ((f+1)%4) d ds.length=0
  unfold iM
  rw[if_neg Yo,if_neg Yo,if_neg Yo]
 refine⟨e,?_⟩
 unfold i4
 rw[if_pos e]
 show (⟨0,jL 0,[]++[⟨f,(f+1)%4,0+d,0,ds⟩]⟩:Bs)=_
 rw[Int.zero_add]
 rfl
theorem mU{N s:Int}{t:Int}(q:List Pc)(h:N≤t)(ht:t≤1000):kR (Bs.mk N s q).now t=0:=by
 show kR N t=0
 unfold kR
 rw[if_neg Yo]
theorem aAt{N s t:Int}{p:Pc}(h:N≤t)(ht:t≤1000)(hp:p.du≤t):lG ⟨N,s,[p]⟩ t=[p]∧gN ⟨N,s,[p]⟩ t=⟨t,s,[]⟩:=by
 have e:=mU (s:=s) [p] h ht
 have d:d9 t p=true:=by unfold d9;simp;omega
 unfold lG gN
 rw[if_pos e,if_pos e]
 simp[List.filter,d,sL,aB1]
theorem aLL{N s t:Int}{p:Pc}(h:N≤t)(ht:t≤1000)(hp:t<p.du):lG ⟨N,s,[p]⟩ t=[]∧gN ⟨N,s,[p]⟩ t=⟨t,s,[p]⟩:=by
 have e:=mU (s:=s) [p] h ht
 have d:d9 t p=false:=by unfold d9;simp;omega
 unfold lG gN
 rw[if_pos e,if_pos e]
 simp[List.filter,d,sL]
theorem aHZ{N s t:Int}(h:N≤t)(ht:t≤1000):lG ⟨N,s,[]⟩ t=[]:=by
 unfold lG
 rw[if_pos (mU [] h ht)]
 rfl
theorem aGb{d s:Int}{p:Pc}(hd:0≤d∧d≤1000)(hp:p.du=d):lG ⟨0,s,[p]⟩ (max (d-1) 0)++lG (gN ⟨0,s,[p]⟩ (max (d-1) 0)) d=[p]:=by
 by_cases c:d=0
 ·obtain⟨h1,h2⟩:=aAt (s:=s) (p:=p) (N:=0) (t:=max (d-1) 0) Yo Yo Yo
  rw[h1,h2,aHZ Yo Yo]
  rfl
 ·obtain⟨h1,h2⟩:=aLL (s:=s) (p:=p) (N:=0) (t:=max (d-1) 0) Yo Yo Yo
  rw[h1,h2,(aAt Yo Yo Yo).1]
  rfl
theorem aG3{N s a m:Int}{p:Pc}(hp:p.se=0)(ha:0≤a∧a<p.ds.length)(hm:0≤m∧m≤255):turnE ⟨N,s,[p]⟩ 0 a m=0∧jZ ⟨N,s,[p]⟩ 0 a m=⟨N,s,[lD a.toNat m.toNat p]⟩:=by
 have f:fsP 0 [p]=0:=by unfold fsP;rw[if_pos hp]
 have e:turnE ⟨N,s,[p]⟩ 0 a m=0:=by
  unfold turnE
  show (match [p][fsP 0 [p]]? with|none=>7|some p=>_)=0
  rw[f]
  show (if a<0∨(p.ds.length:Int)≤a∨m<0∨255<m then 3 else 0)=0
  rw[if_neg Yo]
 refine⟨e,?_⟩
 unfold jZ
 rw[if_pos e]
 show (⟨N,s,[p].modify (fsP 0 [p]) (lD a.toNat m.toNat)⟩:Bs)=_
 rw[f]
 rfl
def cS(x:Nat):Nat:=if x%2=0 then x/2 else x/2^^^3988292384
def cN:Nat→Nat→Nat
 |0,x=>x
 |n+1,x=>cN n (cS x)
def cF(r:Nat)(g:Nat→Nat):Nat→Nat
 |0=>r
 |n+1=>cN 8 (cF r g n^^^g n)
def cV(g:Nat→Nat):Nat→Nat
 |0=>0
 |n+1=>cV g n+g n*2^(8*n)
theorem aMJ(x y:Nat):(x^^^y)/2=(x/2)^^^(y/2):=by
 apply Nat.eq_of_testBit_eq
 intro i
 simp only[Nat.testBit_xor,←Nat.testBit_succ]
theorem aN4(x y:Nat):(x^^^y)%2=(x%2+y%2)%2:=by
 have h:=Nat.testBit_xor (x:=x) (y:=y) (i:=0)
 simp only[Nat.testBit_zero] at h
 rcases Nat.mod_two_eq_zero_or_one x with hx|hx<;>rcases Nat.mod_two_eq_zero_or_one y with hy|hy<;>rcases Nat.mod_two_eq_zero_or_one (x^^^y) with hz|hz<;>simp[hx,hy,hz] at h ⊢
theorem aPa(x y:Nat):cS (x^^^y)=cS x^^^cS y:=by
 unfold cS
 rw[aMJ,aN4]
 rcases Nat.mod_two_eq_zero_or_one x with hx|hx<;>rcases Nat.mod_two_eq_zero_or_one y with hy|hy<;>simp[hx,hy,Nat.xor_assoc]
 ·rw[Nat.xor_comm 3988292384 (y/2)]
 ·rw[←Nat.xor_assoc 3988292384 (y/2),Nat.xor_comm 3988292384 (y/2),Nat.xor_assoc (y/2),Nat.xor_self,Nat.xor_zero]
theorem aIK(n:Nat):∀(x y:Nat),cN n (x^^^y)=cN n x^^^cN n y:=by
 induction n with
 |zero=>intro x y;rfl
 |succ n ih=>intro x y;show cN n (cS (x^^^y))=_;rw[aPa,ih];rfl
theorem aCV(n:Nat):∀(m x:Nat),cN (n+m) x=cN m (cN n x):=by
 induction n with
 |zero=>intro m x;rw[Nat.zero_add];rfl
 |succ n ih=>intro m x;rw[Nat.add_right_comm];show cN (n+m) (cS x)=_;rw[ih];rfl
theorem aD8(n:Nat):∀x,cN n (x*2^n)=x:=by
 induction n with
 |zero=>intro x;show x*1=x;omega
 |succ n ih=>
  intro x
  show cN n (cS (x*2^(n+1)))=x
  have h:cS (x*2^(n+1))=x*2^n:=by
   have e:x*2^(n+1)=(x*2^n)*2:=by rw[Nat.pow_succ,Nat.mul_assoc]
   unfold cS
   rw[e,if_pos Yo];omega
  rw[h,ih]
theorem aJJ{x:Nat}(h:x<4294967296):cS x<4294967296:=by
 unfold cS
 split
 ·omega
 ·exact Nat.xor_lt_two_pow (n:=32) Yo Yc
theorem aEp{n:Nat}:∀{x:Nat},x<4294967296→cN n x<4294967296:=by
 induction n with
 |zero=>intro x h;exact h
 |succ n ih=>intro x h;exact ih (aJJ h)
theorem aOF{x:Nat}(h:x<4294967296)(h0:x≠0):cS x≠0:=by
 unfold cS
 split
 ·omega
 ·intro e
  have e2:x/2=3988292384:=by
   have:=congrArg (·^^^3988292384) e
   simpa [Nat.xor_assoc,Nat.xor_self] using this
  omega
theorem aON{n:Nat}:∀{x:Nat},x<4294967296→x≠0→cN n x≠0:=by
 induction n with
 |zero=>intro x _ h;exact h
 |succ n ih=>intro x h h0;exact ih (aJJ h) (aOF h h0)
theorem aJF{x:Nat}(n:Nat)(h:x<2^n)(y:Nat):x+y*2^n=x^^^(y*2^n):=by
 apply Nat.eq_of_testBit_eq
 intro i
 rw[Nat.testBit_xor,Nat.add_comm,Nat.mul_comm,Nat.testBit_two_pow_mul_add _ h,Nat.testBit_two_pow_mul]
 by_cases hi:i<n
 ·simp[hi,Nat.not_le.2 hi]
 ·have:x.testBit i=false:=Nat.testBit_lt_two_pow (Nat.lt_of_lt_of_le h (Nat.pow_le_pow_right Yo Yo))
  simp[hi,this,Nat.le_of_not_lt hi]
theorem aIL(r c:Nat):cN 8 (r^^^c)=cN 8 (r%256^^^c)^^^(r/256):=by
 have e:r^^^c=(r%256^^^c)^^^((r/256)*2^8):=by
  have h:=aJF (x:=r%256) 8 Yo (r/256)
  have h2:r=r%256^^^(r/256)*2^8:=by rw[←h];omega
  conv=>lhs;rw[h2]
  rw[Nat.xor_assoc,Nat.xor_comm _ c,←Nat.xor_assoc]
 rw[e,aIK,aD8]
theorem aOI{g:Nat→Nat}(hg:∀i,g i<256)(n:Nat):cV g n<2^(8*n):=by
 induction n with
 |zero=>show 0<2^0;omega
 |succ n ih=>
  show cV g n+g n*2^(8*n)<2^(8*(n+1))
  have e:2^(8*(n+1))=256*2^(8*n):=by rw[Nat.mul_add,Nat.pow_add,Nat.mul_comm]
  rw[e]
  have h1:g n*2^(8*n)≤255*2^(8*n):=Nat.mul_le_mul_right _ (by have:=hg n;omega)
  omega
theorem aG7{g:Nat→Nat}(hg:∀i,g i<256)(n:Nat):cV g (n+1)=cV g n^^^g n*2^(8*n):=aJF _ (aOI hg n) _
theorem aHn(r:Nat){g:Nat→Nat}(hg:∀i,g i<256)(n:Nat):cF r g n=cN (8*n) (r^^^cV g n):=by
 induction n with
 |zero=>show r=r^^^0;rw[Nat.xor_zero]
 |succ n ih=>
  show cN 8 (cF r g n^^^g n)=_
  rw[aG7 hg,←Nat.xor_assoc,Nat.mul_add,aCV,aIK (8*n) _ (g n*_),aD8,←ih]
theorem aJS{r:Nat}{g:Nat→Nat}(hr:r<4294967296)(hg:∀i,g i<256)(n:Nat):cF r g n<4294967296:=by
 induction n with
 |zero=>exact hr
 |succ n ih=>exact aEp (Nat.xor_lt_two_pow (n:=32) ih (by have:=hg n;omega))
theorem yT(r:Nat){g h:Nat→Nat}(n:Nat)(e:∀i,i<n→g i=h i):cF r g n=cF r h n:=by
 induction n with
 |zero=>rfl
 |succ n ih=>show cN 8 (cF r g n^^^g n)=cN 8 (cF r h n^^^h n);rw[ih (λi hi=>e i Yo),e n Yo]
theorem aNo(r:Nat)(g:Nat→Nat)(n m:Nat):cF r g (n+m)=cF (cF r g n) (λi=>g (n+i)) m:=by
 induction m with
 |zero=>rfl
 |succ m ih=>show cN 8 (cF r g (n+m)^^^g (n+m))=cN 8 (cF (cF r g n) (λi=>g (n+i)) m^^^g (n+m));rw[ih]
theorem aG9(r:Nat){g h:Nat→Nat}(hg:∀i,g i<256)(hh:∀i,h i<256)(n p m:Nat)(hp:p<8*n)(hm:m%2=1)(hm2:m<4294967296)(e:cV h n=cV g n^^^m*2^p):cF r h n≠cF r g n:=by
 rw[aHn r hg,aHn r hh,e,←Nat.xor_assoc,aIK]
 intro k
 have k2:cN (8*n) (m*2^p)=0:=by
  have:=congrArg (cN (8*n) (r^^^cV g n)^^^·) k
  simpa [←Nat.xor_assoc,Nat.xor_self] using this
 have e2:8*n=p+(8*n-p):=Yo
 rw[e2,aCV,aD8] at k2
 exact aON hm2 Yo k2
end Go.Proofs.YtdhblehhgpdpdacGreat
