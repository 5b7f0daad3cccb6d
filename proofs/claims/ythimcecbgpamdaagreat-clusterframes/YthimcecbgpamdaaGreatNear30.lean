import Derived.Test.YthimcecbgpamdaaGreatNear91
import Derived.Test.YthimcecbgpamdaaGreatSumOpen
namespace Go.Proofs.YthimcecbgpamdaaGreat
open Go.RowKit
variable{g:Nat->Nat}{n:Nat}
theorem XT{s:Int}{h:Nat->Nat}(e:∀i,i<n->g i=h i):moreN s g n=moreN s h n:=by unfold moreN;rw[aGm _ n e]
def enS(K F R:Int)(n:Nat)(f:Nat->Int):Nat->Nat:=vV (enF K F R n f) (8+8*n)
def C8(K F R:Int)(n:Nat):Nat:=if bW K F R n=0 then 12+8*n else 0
theorem aCC(K F R:Int)(n:Nat)(f:Nat->Int)(i:Nat):enS K F R n f i<256:=aCr (XC K F R n f) _ _
def aMN(fn:Nat):Prop:=∀(K F R:Int) (ao:Option Addr) (n cap:Nat) (f:Nat->Int) (w:World),R64 K->R64 F->R64 R->(∀i,R64 (f i))->n*8<=140737488351232->n<=cap->Sr w ao n cap (iF f)->
 Calls Tryz.prog fn #[gH K F R (.slice ao n cap)] w λe w'=>∃v,e=.returned (.tuple #[v,.int .i64 (bW K F R n)])/\w'.ownsRow w.heap.size 5 1 v (C8 K F R n) (rowV (bF (enS K F R n f)) (C8 K F R n))/\Below w.heap.size w w'
def W9(g:Nat->Nat)(len:Nat)(e:Int):Prop:=
 (220<len/\e=1)\/(len<=220/\(len<12\/g 0≠87)/\e=2)\/(len<=220/\12<=len/\g 0=87/\
  ((¬oN g len/\e=5)\/(oN g len/\((24<g 7/\e=6)\/(g 7<=24/\((len≠12+8*g 7/\e=2)\/(len=12+8*g 7/\e=bW (g 1:Nat) (g 2:Nat) (dR g:Nat) (g 7))))))))
variable{len:Nat}{e:Int}
theorem aAO{e':Int}(h:W9 g len e)(h':W9 g len e'):e=e':=by grind [W9]
theorem NR(h:W9 g len 0):12<=len/\len<=220/\g 0=87/\oN g len/\g 7<=24/\len=12+8*g 7/\bW (g 1:Nat) (g 2:Nat) (dR g:Nat) (g 7)=0:=by grind [W9]
def dN(e:Int)(x:Nat):Nat:=if e=0 then x else 0
def aHo(fn:Nat):Prop:=∀(ao:Option Addr) (len cap:Nat) (g:Nat->Nat) (w:World),(∀i,g i<256)->len<=140737488351232->len<=cap->Sr w ao len cap (bF g)->
 Calls Tryz.prog fn #[.slice ao len cap] w λe w'=>∃(E:Int) (v:Value),W9 g len E/\e=.returned (.tuple #[gH (dN E (g 1):Nat) (dN E (g 2):Nat) (dN E (dR g):Nat) v,.int .i64 E])/\w'.ownsRow w.heap.size 3 1 v (dN E (g 7)) (rowV (iF (dV g)) (dN E (g 7)))/\Below w.heap.size w w'
variable{f:Nat->Int}
theorem aCE{K F R:Int}(h:bW K F R n=0):W9 (enS K F R n f) (12+8*n) 0:=by
 obtain⟨h1,h2,h3,h4,h5,h6,h7⟩:=pY h;have lo:∀i,i<8+8*n->enS K F R n f i=enF K F R n f i:=λi hi=>by unfold enS vV;rw[if_pos hi]
 have e0:enS K F R n f 0=87:=by rw[lo 0 Yo];rfl
 have e1:(enS K F R n f 1:Int)=K:=by rw[lo 1 Yo];show ((K%256).toNat:Int)=K;omega
 have e2:(enS K F R n f 2:Int)=F:=by rw[lo 2 Yo];show ((F%256).toNat:Int)=F;omega
 have e7:enS K F R n f 7=n:=by rw[lo 7 Yo];show n%256=n;omega
 have eR:(dR (enS K F R n f):Int)=R:=aEe h5 h6 lo;refine Or.inr (Or.inr ⟨Yo,Yo,e0,Or.inr ⟨?_,Or.inr ⟨Yo,Or.inr ⟨Yo,?_⟩⟩⟩⟩)
 .refine⟨Yo,λi hi=>?_⟩;have e:12+8*n-4=8+8*n:=Yo;rw[e];have hm:moreN 0 (enS K F R n f) (8+8*n)=moreN 0 (enF K F R n f) (8+8*n):=XT lo;rw[hm];unfold enS vV;rw[if_neg Yo,Nat.add_sub_cancel_left]
 .rw[e1,e2,e7,eR,h]
theorem SB{K F R:Int}(h:bW K F R n=0)(hf:∀i,R64 (f i)):(enS K F R n f 1:Int)=K/\(enS K F R n f 2:Int)=F/\(dR (enS K F R n f):Int)=R/\enS K F R n f 7=n/\∀j,j<n->dV (enS K F R n f) j=f j:=by
 obtain⟨h1,h2,h3,h4,h5,h6,h7⟩:=pY h;have lo:∀i,i<8+8*n->enS K F R n f i=enF K F R n f i:=λi hi=>by unfold enS vV;rw[if_pos hi]
 refine⟨?_,?_,aEe h5 h6 lo,?_,λj hj=>aMc hf lo hj⟩
 .rw[lo 1 Yo];show ((K%256).toNat:Int)=K;omega
 .rw[lo 2 Yo];show ((F%256).toNat:Int)=F;omega
 .rw[lo 7 Yo];show n%256=n;omega
structure Ly where
 ph:Int
 wo:Int
 n:Nat
 g:Nat->Nat
structure Ip where
 rd:Nat->Nat->Int
 bad:Int
 ly:List Ly
structure Cl where
 fr:Int
 nd:Nat->Nd
def aBb:Cl:=⟨0,λ_=>dI⟩
def aHL(t:Tn):Cl:=⟨0,λi=>jY i t⟩
instance (g:Nat->Nat) (n:Nat):Decidable (oN g n):=by unfold oN;infer_instance
def dcB(g:Nat->Nat)(n:Nat):Bool:=decide (12<=n)&&decide (n<=220)&&decide (g 0=87)&&decide (oN g n)&&decide (g 7<=24)&&decide (n=12+8*g 7)&&decide (bW (g 1:Nat) (g 2:Nat) (dR g:Nat) (g 7)=0)
theorem zR:dcB g n=true↔W9 g n 0:=by
 unfold dcB;simp only[Bool.and_eq_true,decide_eq_true_eq];constructor
 .rintro⟨⟨⟨⟨⟨⟨h1,h2⟩,h3⟩,h4⟩,h5⟩,h6⟩,h7⟩;exact Or.inr (Or.inr ⟨h2,h1,h3,Or.inr ⟨h4,Or.inr ⟨h5,Or.inr ⟨h6,h7.symm⟩⟩⟩⟩)
 .intro h;obtain⟨h1,h2,h3,h4,h5,h6,h7⟩:=NR h;exact⟨⟨⟨⟨⟨⟨h1,h2⟩,h3⟩,h4⟩,h5⟩,h6⟩,h7⟩
theorem aCL(h:W9 g n e)(he:e≠0):dcB g n=false:=by
 cases c:dcB g n with
 |false=>rfl
 |true=>exact absurd (aAO h (zR.1 c)) he
def sS(n:Nat)(g:Nat->Nat):List Ms:=if dcB g n=true then [⟨(g 1:Nat),(g 2:Nat),(dR g:Nat),(List.range (g 7)).map (dV g)⟩] else []
def zC(bad wo ph:Int)(l:List Ly):List Ms:=l.flatMap λy=>if y.ph=ph/\y.wo=wo then (sS y.n y.g).filter λm=>decide (m.F=bad) else []
def BS(m:Ms):List Ms:=if bW m.K m.F m.R m.L.length=0 then [m] else []
def mQ(x:Ip)(told:Nat->Ms)(wo ph:Nat):Nat->List Ms
 |0=>[]
 |k+1=>mQ x told wo ph k++(if k=wo then [] else if (k:Int)=x.bad then zC x.bad wo ph x.ly else BS (told k))
def phN(k:Nat)(n:Nd)(fr:Int)(rd:Nat->Int)(l:List Ms):Nd:=if k=0 then senN n fr rd else if k=1 then relN n l else if k=2 then qX n l else if k=3 then pasN n l else judN n l
def phM(k:Nat)(n:Nd)(fr:Int)(rd:Nat->Int)(l:List Ms):Ms:=if k=0 then kV n fr rd else if k=1 then tQ n l else if k=2 then tZ n l else if k=3 then tK n l else qW n l
structure Wk where
 nd:Nat->Nd
 bx:Nat->List Ms
def yF(x:Ip)(fr:Int)(s:Wk)(k i:Nat):Nd:=if (i:Int)=x.bad then s.nd i else phN k (s.nd i) fr (x.rd i) (s.bx i)
def vY(x:Ip)(fr:Int)(s:Wk)(k i:Nat):Ms:=if (i:Int)=x.bad then jD else phM k (s.nd i) fr (x.rd i) (s.bx i)
def wkS(x:Ip)(fr:Int)(s:Wk)(k:Nat):Wk:=⟨yF x fr s k,λi=>mQ x (vY x fr s k) i k 4⟩
def iA(x:Ip)(c:Cl):Nat->Wk
 |0=>⟨c.nd,λ_=>[]⟩
 |k+1=>wkS x c.fr (iA x c k) k
def zY(x:Ip)(c:Cl)(i:Nat):Nd:=if (i:Int)=x.bad then c.nd i else gP ((iA x c 5).nd i) ((iA x c 5).bx i)
def NS(bad:Int)(k:Nat):List Nat:=(List.range k).filter λi=>decide ((i:Int)≠bad)
def iU(x:Ip)(c:Cl):Int:=if x.bad< -1\/4<=x.bad\/c.fr<0\/1073741823<c.fr then 3 else if 400<x.ly.length then 6 else if (c.nd 0).id=0/\(c.nd 1).id=1/\(c.nd 2).id=2/\(c.nd 3).id=3 then 0 else 7
def vJ(x:Ip)(c:Cl):Cl:=if iU x c=0 then ⟨c.fr+1,zY x c⟩ else aBb
def xU(x:Ip)(c:Cl):List Nd:=if iU x c=0 then (NS x.bad 4).map (zY x c) else []
structure Rn where
 c:Cl
 r:List Nd
 e:Int
theorem JS{x:Ip}{c:Cl}(h:iU x c=0):(-1<=x.bad/\x.bad<4)/\(0<=c.fr/\c.fr<=1073741823)/\x.ly.length<=400/\∀i,i<4->(c.nd i).id=(i:Nat):=by
 unfold iU at h;split at h
 .omega
 .split at h
  .omega
  .split at h
   .rename_i h1 h2 h3;refine⟨Yo,Yo,Yo,λi hi=>?_⟩;have:i=0\/i=1\/i=2\/i=3:=Yo;rcases this with rfl|rfl|rfl|rfl
    .exact h3.1
    .exact h3.2.1
    .exact h3.2.2.1
    .exact h3.2.2.2
   .omega
theorem qB{i:Nat}(hi:i<4):jJ (i:Nat)=false:=by
 unfold jJ;rw[Xf Yo,Xf Yo];rfl
end Go.Proofs.YthimcecbgpamdaaGreat
