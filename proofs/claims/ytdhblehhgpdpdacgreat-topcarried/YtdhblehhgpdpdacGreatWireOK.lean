import Derived.Test.YtdhblehhgpdpdacGreatSumOpen
namespace Go.Proofs.YtdhblehhgpdpdacGreat
open Go.RowKit
theorem aDb{s:Int}{g h:Nat→Nat}{n:Nat}(e:∀i,i<n→g i=h i):moreN s g n=moreN s h n:=by unfold moreN;rw[yT _ n e]
def enS(K F R:Int)(n:Nat)(f:Nat→Int):Nat→Nat:=rA (enF K F R n f) (8+8*n)
def x9(K F R:Int)(n:Nat):Nat:=if cI K F R n=0 then 12+8*n else 0
theorem tK(K F R:Int)(n:Nat)(f:Nat→Int)(i:Nat):enS K F R n f i<256:=aE9 (aCZ K F R n f) _ _
def aOR(fn:Nat):Prop:=∀(K F R:Int) (ao:Option Addr) (n cap:Nat) (f:Nat→Int) (w:World),R64 K→R64 F→R64 R→(∀i,R64 (f i))→n*8≤140737488351232→n≤cap→Sr w ao n cap (iF f)→
 Calls Tryz.prog fn #[iY K F R (.slice ao n cap)] w λe w'=>∃v,e=.returned (.tuple #[v,.int .i64 (cI K F R n)])∧w'.ownsRow w.heap.size 5 1 v (x9 K F R n) (rowV (bF (enS K F R n f)) (x9 K F R n))∧Below w.heap.size w w'
def vU(g:Nat→Nat)(len:Nat)(e:Int):Prop:=
 (220<len∧e=1)∨(len≤220∧(len<12∨g 0≠87)∧e=2)∨(len≤220∧12≤len∧g 0=87∧
  ((¬rG g len∧e=5)∨(rG g len∧((24<g 7∧e=6)∨(g 7≤24∧((len≠12+8*g 7∧e=2)∨(len=12+8*g 7∧e=cI (g 1:Nat) (g 2:Nat) (dR g:Nat) (g 7))))))))
theorem aDL{g:Nat→Nat}{len:Nat}{e e':Int}(h:vU g len e)(h':vU g len e'):e=e':=by
 unfold vU at h h'
 rcases h with ⟨a1,a2⟩|⟨a1,a2,a3⟩|⟨a1,a2,a3,a4⟩<;>rcases h' with ⟨b1,b2⟩|⟨b1,b2,b3⟩|⟨b1,b2,b3,b4⟩
 all_goals first|omega|skip
 rcases a4 with ⟨c1,c2⟩|⟨c1,⟨c2,c3⟩|⟨c2,⟨c3,c4⟩|⟨c3,c4⟩⟩⟩<;>rcases b4 with ⟨d1,d2⟩|⟨d1,⟨d2,d3⟩|⟨d2,⟨d3,d4⟩|⟨d3,d4⟩⟩⟩
 all_goals first|omega|exact absurd d1 c1|exact absurd c1 d1|skip
theorem wT{g:Nat→Nat}{len:Nat}(h:vU g len 0):12≤len∧len≤220∧g 0=87∧rG g len∧g 7≤24∧len=12+8*g 7∧cI (g 1:Nat) (g 2:Nat) (dR g:Nat) (g 7)=0:=by
 unfold vU at h
 rcases h with ⟨a1,a2⟩|⟨a1,a2,a3⟩|⟨a1,a2,a3,a4⟩
 ·omega
 ·omega
 ·rcases a4 with ⟨c1,c2⟩|⟨c1,⟨c2,c3⟩|⟨c2,⟨c3,c4⟩|⟨c3,c4⟩⟩⟩
  ·omega
  ·omega
  ·omega
  ·exact⟨a2,a1,a3,c1,c2,c3,c4.symm⟩
def dN(e:Int)(x:Nat):Nat:=if e=0 then x else 0
def aN6(fn:Nat):Prop:=∀(ao:Option Addr) (len cap:Nat) (g:Nat→Nat) (w:World),(∀i,g i<256)→len≤140737488351232→len≤cap→Sr w ao len cap (bF g)→
 Calls Tryz.prog fn #[.slice ao len cap] w λe w'=>∃(E:Int) (v:Value),vU g len E∧e=.returned (.tuple #[iY (dN E (g 1):Nat) (dN E (g 2):Nat) (dN E (dR g):Nat) v,.int .i64 E])∧w'.ownsRow w.heap.size 3 1 v (dN E (g 7)) (rowV (iF (dV g)) (dN E (g 7)))∧Below w.heap.size w w'
theorem aF8{K F R:Int}{n:Nat}{f:Nat→Int}(h:cI K F R n=0):vU (enS K F R n f) (12+8*n) 0:=by
 obtain⟨h1,h2,h3,h4,h5,h6,h7⟩:=kS h
 have lo:∀i,i<8+8*n→enS K F R n f i=enF K F R n f i:=λi hi=>by unfold enS rA;rw[if_pos hi]
 have e0:enS K F R n f 0=87:=by rw[lo 0 Yo];rfl
 have e1:(enS K F R n f 1:Int)=K:=by rw[lo 1 Yo];show ((K%256).toNat:Int)=K;omega
 have e2:(enS K F R n f 2:Int)=F:=by rw[lo 2 Yo];show ((F%256).toNat:Int)=F;omega
 have e7:enS K F R n f 7=n:=by rw[lo 7 Yo];show n%256=n;omega
 have eR:(dR (enS K F R n f):Int)=R:=aFh h5 h6 lo
 refine Or.inr (Or.inr ⟨Yo,Yo,e0,Or.inr ⟨?_,Or.inr ⟨Yo,Or.inr ⟨Yo,?_⟩⟩⟩⟩)
 ·refine⟨Yo,λi hi=>?_⟩
  have e:12+8*n-4=8+8*n:=Yo
  rw[e]
  have hm:moreN 0 (enS K F R n f) (8+8*n)=moreN 0 (enF K F R n f) (8+8*n):=aDb lo
  rw[hm]
  unfold enS rA
  rw[if_neg Yo,Nat.add_sub_cancel_left]
 ·rw[e1,e2,e7,eR,h]
theorem aCx {K F R : Int} {n : Nat} {f : Nat → Int} (h : cI K F R n = 0) (hf : ∀ i, R64 (f i)) :
  (enS K F R n f 1:Int)=K∧(enS K F R n f 2:Int)=F∧(dR (enS K F R n f):Int)=R∧enS K F R n f 7=n∧∀j,j<n→dV (enS K F R n f) j=f j:=by
 obtain⟨h1,h2,h3,h4,h5,h6,h7⟩:=kS h
 have lo:∀i,i<8+8*n→enS K F R n f i=enF K F R n f i:=λi hi=>by unfold enS rA;rw[if_pos hi]
 refine⟨?_,?_,aFh h5 h6 lo,?_,λj hj=>aNn hf lo hj⟩
 ·rw[lo 1 Yo];show ((K%256).toNat:Int)=K;omega
 ·rw[lo 2 Yo];show ((F%256).toNat:Int)=F;omega
 ·rw[lo 7 Yo];show n%256=n;omega
end Go.Proofs.YtdhblehhgpdpdacGreat
