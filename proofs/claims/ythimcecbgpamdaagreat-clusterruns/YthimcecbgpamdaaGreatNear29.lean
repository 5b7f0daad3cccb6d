import Derived.Test.YthimcecbgpamdaaGreatNear91
import Derived.Test.YthimcecbgpamdaaGreatSumOpen
namespace Go.Proofs.YthimcecbgpamdaaGreat
open Go.RowKit
variable{n:Nat}{g:Nat->Nat}
theorem XJ{s:Int}{h:Nat->Nat}(e:∀i,i<n->g i=h i):moreN s g n=moreN s h n:=by unfold moreN;rw[aFG _ n e]
def enS(K F R:Int)(n:Nat)(f:Nat->Int):Nat->Nat:=wF (enF K F R n f) (8+8*n)
def zQ(K F R:Int)(n:Nat):Nat:=if bY K F R n=0 then 12+8*n else 0
theorem aCN(K F R:Int)(n:Nat)(f:Nat->Int)(i:Nat):enS K F R n f i<256:=aCI (TS K F R n f) _ _
def aMj(fn:Nat):Prop:=∀(K F R:Int) (ao:Option Addr) (n cap:Nat) (f:Nat->Int) (w:World),R64 K->R64 F->R64 R->(∀i,R64 (f i))->n*8<=140737488351232->n<=cap->Sr w ao n cap (iF f)->
 Calls Tryz.prog fn #[gG K F R (.slice ao n cap)] w λe w'=>∃v,e=.returned (.tuple #[v,.int .i64 (bY K F R n)])/\w'.ownsRow w.heap.size 5 1 v (zQ K F R n) (rowV (bF (enS K F R n f)) (zQ K F R n))/\Below w.heap.size w w'
def U8(g:Nat->Nat)(len:Nat)(e:Int):Prop:=
 (220<len/\e=1)\/(len<=220/\(len<12\/g 0≠87)/\e=2)\/(len<=220/\12<=len/\g 0=87/\
  ((¬oZ g len/\e=5)\/(oZ g len/\((24<g 7/\e=6)\/(g 7<=24/\((len≠12+8*g 7/\e=2)\/(len=12+8*g 7/\e=bY (g 1:Nat) (g 2:Nat) (dR g:Nat) (g 7))))))))
variable{e:Int}{len:Nat}
theorem aAA{e':Int}(h:U8 g len e)(h':U8 g len e'):e=e':=by grind [U8]
theorem NI(h:U8 g len 0):12<=len/\len<=220/\g 0=87/\oZ g len/\g 7<=24/\len=12+8*g 7/\bY (g 1:Nat) (g 2:Nat) (dR g:Nat) (g 7)=0:=by grind [U8]
def dN(e:Int)(x:Nat):Nat:=if e=0 then x else 0
def aHq(fn:Nat):Prop:=∀(ao:Option Addr) (len cap:Nat) (g:Nat->Nat) (w:World),(∀i,g i<256)->len<=140737488351232->len<=cap->Sr w ao len cap (bF g)->
 Calls Tryz.prog fn #[.slice ao len cap] w λe w'=>∃(E:Int) (v:Value),U8 g len E/\e=.returned (.tuple #[gG (dN E (g 1):Nat) (dN E (g 2):Nat) (dN E (dR g):Nat) v,.int .i64 E])/\w'.ownsRow w.heap.size 3 1 v (dN E (g 7)) (rowV (iF (dV g)) (dN E (g 7)))/\Below w.heap.size w w'
variable{f:Nat->Int}
theorem aDD{K F R:Int}(h:bY K F R n=0):U8 (enS K F R n f) (12+8*n) 0:=by
 obtain⟨h1,h2,h3,h4,h5,h6,h7⟩:=qE h;have lo:∀i,i<8+8*n->enS K F R n f i=enF K F R n f i:=λi hi=>by unfold enS wF;rw[if_pos hi]
 have e0:enS K F R n f 0=87:=by rw[lo 0 Yo];rfl
 have e1:(enS K F R n f 1:Int)=K:=by rw[lo 1 Yo];show ((K%256).toNat:Int)=K;omega
 have e2:(enS K F R n f 2:Int)=F:=by rw[lo 2 Yo];show ((F%256).toNat:Int)=F;omega
 have e7:enS K F R n f 7=n:=by rw[lo 7 Yo];show n%256=n;omega
 have eR:(dR (enS K F R n f):Int)=R:=aCp h5 h6 lo;refine Or.inr (Or.inr ⟨Yo,Yo,e0,Or.inr ⟨?_,Or.inr ⟨Yo,Or.inr ⟨Yo,?_⟩⟩⟩⟩)
 .refine⟨Yo,λi hi=>?_⟩;have e:12+8*n-4=8+8*n:=Yo;rw[e];have hm:moreN 0 (enS K F R n f) (8+8*n)=moreN 0 (enF K F R n f) (8+8*n):=XJ lo;rw[hm];unfold enS wF;rw[if_neg Yo,Nat.add_sub_cancel_left]
 .rw[e1,e2,e7,eR,h]
theorem RP{K F R:Int}(h:bY K F R n=0)(hf:∀i,R64 (f i)):(enS K F R n f 1:Int)=K/\(enS K F R n f 2:Int)=F/\(dR (enS K F R n f):Int)=R/\enS K F R n f 7=n/\∀j,j<n->dV (enS K F R n f) j=f j:=by
 obtain⟨h1,h2,h3,h4,h5,h6,h7⟩:=qE h;have lo:∀i,i<8+8*n->enS K F R n f i=enF K F R n f i:=λi hi=>by unfold enS wF;rw[if_pos hi]
 refine⟨?_,?_,aCp h5 h6 lo,?_,λj hj=>aLt hf lo hj⟩
 .rw[lo 1 Yo];show ((K%256).toNat:Int)=K;omega
 .rw[lo 2 Yo];show ((F%256).toNat:Int)=F;omega
 .rw[lo 7 Yo];show n%256=n;omega
structure Ly where
 ph:Int
 wo:Int
 n:Nat
 g:Nat->Nat
structure Ip where
 rd:Nat->Nat->Int
 bad:Int
 ly:List Ly
structure Cl where
 fr:Int
 nd:Nat->Nd
def qW:Cl:=⟨0,λ_=>bX⟩
def M9(t:Tn):Cl:=⟨0,λi=>iQ i t⟩
instance (g:Nat->Nat) (n:Nat):Decidable (oZ g n):=by unfold oZ;infer_instance
def dcB(g:Nat->Nat)(n:Nat):Bool:=decide (12<=n)&&decide (n<=220)&&decide (g 0=87)&&decide (oZ g n)&&decide (g 7<=24)&&decide (n=12+8*g 7)&&decide (bY (g 1:Nat) (g 2:Nat) (dR g:Nat) (g 7)=0)
theorem zT:dcB g n=true↔U8 g n 0:=by
 unfold dcB;simp only[Bool.and_eq_true,decide_eq_true_eq];constructor
 .rintro⟨⟨⟨⟨⟨⟨h1,h2⟩,h3⟩,h4⟩,h5⟩,h6⟩,h7⟩;exact Or.inr (Or.inr ⟨h2,h1,h3,Or.inr ⟨h4,Or.inr ⟨h5,Or.inr ⟨h6,h7.symm⟩⟩⟩⟩)
 .intro h;obtain⟨h1,h2,h3,h4,h5,h6,h7⟩:=NI h;exact⟨⟨⟨⟨⟨⟨h1,h2⟩,h3⟩,h4⟩,h5⟩,h6⟩,h7⟩
theorem aDq(h:U8 g n e)(he:e≠0):dcB g n=false:=by
 cases c:dcB g n with
 |false=>rfl
 |true=>exact absurd (aAA h (zT.1 c)) he
def tQ(n:Nat)(g:Nat->Nat):List Ms:=if dcB g n=true then [⟨(g 1:Nat),(g 2:Nat),(dR g:Nat),(List.range (g 7)).map (dV g)⟩] else []
def zK(bad wo ph:Int)(l:List Ly):List Ms:=l.flatMap λy=>if y.ph=ph/\y.wo=wo then (tQ y.n y.g).filter λm=>decide (m.F=bad) else []
def BV(m:Ms):List Ms:=if bY m.K m.F m.R m.L.length=0 then [m] else []
def lY(x:Ip)(told:Nat->Ms)(wo ph:Nat):Nat->List Ms
 |0=>[]
 |k+1=>lY x told wo ph k++(if k=wo then [] else if (k:Int)=x.bad then zK x.bad wo ph x.ly else BV (told k))
def phN(k:Nat)(n:Nd)(fr:Int)(rd:Nat->Int)(l:List Ms):Nd:=if k=0 then senN n fr rd else if k=1 then relN n l else if k=2 then rG n l else if k=3 then pasN n l else judN n l
def phM(k:Nat)(n:Nd)(fr:Int)(rd:Nat->Int)(l:List Ms):Ms:=if k=0 then lF n fr rd else if k=1 then uF n l else if k=2 then uG n l else if k=3 then uM n l else rE n l
structure Wk where
 nd:Nat->Nd
 bx:Nat->List Ms
def wK(x:Ip)(fr:Int)(s:Wk)(k i:Nat):Nd:=if (i:Int)=x.bad then s.nd i else phN k (s.nd i) fr (x.rd i) (s.bx i)
def uO(x:Ip)(fr:Int)(s:Wk)(k i:Nat):Ms:=if (i:Int)=x.bad then jH else phM k (s.nd i) fr (x.rd i) (s.bx i)
def wkS(x:Ip)(fr:Int)(s:Wk)(k:Nat):Wk:=⟨wK x fr s k,λi=>lY x (uO x fr s k) i k 4⟩
def gV(x:Ip)(c:Cl):Nat->Wk
 |0=>⟨c.nd,λ_=>[]⟩
 |k+1=>wkS x c.fr (gV x c k) k
def wG(x:Ip)(c:Cl)(i:Nat):Nd:=if (i:Int)=x.bad then c.nd i else gN ((gV x c 5).nd i) ((gV x c 5).bx i)
def KR(bad:Int)(k:Nat):List Nat:=(List.range k).filter λi=>decide ((i:Int)≠bad)
def gK(x:Ip)(c:Cl):Int:=if x.bad< -1\/4<=x.bad\/c.fr<0\/1073741823<c.fr then 3 else if 400<x.ly.length then 6 else if (c.nd 0).id=0/\(c.nd 1).id=1/\(c.nd 2).id=2/\(c.nd 3).id=3 then 0 else 7
def lZ(x:Ip)(c:Cl):Cl:=if gK x c=0 then ⟨c.fr+1,wG x c⟩ else qW
def nI(x:Ip)(c:Cl):List Nd:=if gK x c=0 then (KR x.bad 4).map (wG x c) else []
structure Rn where
 c:Cl
 r:List Nd
 e:Int
def oD(s:Rn)(x:Ip):Rn:=if s.e=0 then (if gK x s.c=0 then ⟨lZ x s.c,s.r++nI x s.c,0⟩ else ⟨qW,[],gK x s.c⟩) else s
def rP(t:Tn)(l:List Ip):Rn:=if 200<l.length then ⟨qW,[],6⟩ else l.foldl oD ⟨M9 t,[],0⟩
theorem JY{x:Ip}{c:Cl}(h:gK x c=0):(-1<=x.bad/\x.bad<4)/\(0<=c.fr/\c.fr<=1073741823)/\x.ly.length<=400/\∀i,i<4->(c.nd i).id=(i:Nat):=by
 unfold gK at h;split at h
 .omega
 .split at h
  .omega
  .split at h
   .rename_i h1 h2 h3;refine⟨Yo,Yo,Yo,λi hi=>?_⟩;have:i=0\/i=1\/i=2\/i=3:=Yo;rcases this with rfl|rfl|rfl|rfl
    .exact h3.1
    .exact h3.2.1
    .exact h3.2.2.1
    .exact h3.2.2.2
   .omega
theorem rY{i:Nat}(hi:i<4):jI (i:Nat)=false:=by
 unfold jI;rw[Xf Yo,Xf Yo];rfl
end Go.Proofs.YthimcecbgpamdaaGreat
