import Derived.Test.YtdhblehhgpdpdacGreatSumOpen
namespace Go.Proofs.YtdhblehhgpdpdacGreat
open Go.RowKit
theorem aFP{s:Int}{g h:Nat→Nat}{n:Nat}(e:∀i,i<n→g i=h i):moreN s g n=moreN s h n:=by unfold moreN;rw[aBq _ n e]
def enS(K F R:Int)(n:Nat)(f:Nat→Int):Nat→Nat:=vN (enF K F R n f) (8+8*n)
def enL(K F R:Int)(n:Nat):Nat:=if dD K F R n=0 then 12+8*n else 0
theorem yJ(K F R:Int)(n:Nat)(f:Nat→Int)(i:Nat):enS K F R n f i<256:=aIr (aEz K F R n f) _ _
def aTA(fn:Nat):Prop:=∀(K F R:Int) (ao:Option Addr) (n cap:Nat) (f:Nat→Int) (w:World),R64 K→R64 F→R64 R→(∀i,R64 (f i))→n*8≤140737488351232→n≤cap→Sr w ao n cap (iF f)→
 Calls Tryz.prog fn #[kX K F R (.slice ao n cap)] w λe w'=>∃v,e=.returned (.tuple #[v,.int .i64 (dD K F R n)])∧w'.ownsRow w.heap.size 5 1 v (enL K F R n) (rowV (bF (enS K F R n f)) (enL K F R n))∧Below w.heap.size w w'
def dcE(g:Nat→Nat)(len:Nat)(e:Int):Prop:=
 (220<len∧e=1)∨(len≤220∧(len<12∨g 0≠87)∧e=2)∨(len≤220∧12≤len∧g 0=87∧
  ((¬vE g len∧e=5)∨(vE g len∧((24<g 7∧e=6)∨(g 7≤24∧((len≠12+8*g 7∧e=2)∨(len=12+8*g 7∧e=dD (g 1:Nat) (g 2:Nat) (dR g:Nat) (g 7))))))))
theorem aGd{g:Nat→Nat}{len:Nat}{e e':Int}(h:dcE g len e)(h':dcE g len e'):e=e':=by
 unfold dcE at h h'
 rcases h with ⟨a1,a2⟩|⟨a1,a2,a3⟩|⟨a1,a2,a3,a4⟩<;>rcases h' with ⟨b1,b2⟩|⟨b1,b2,b3⟩|⟨b1,b2,b3,b4⟩
 all_goals first|omega|skip
 rcases a4 with ⟨c1,c2⟩|⟨c1,⟨c2,c3⟩|⟨c2,⟨c3,c4⟩|⟨c3,c4⟩⟩⟩<;>rcases b4 with ⟨d1,d2⟩|⟨d1,⟨d2,d3⟩|⟨d2,⟨d3,d4⟩|⟨d3,d4⟩⟩⟩
 all_goals first|omega|exact absurd d1 c1|exact absurd c1 d1|skip
theorem aAw{g:Nat→Nat}{len:Nat}(h:dcE g len 0):12≤len∧len≤220∧g 0=87∧vE g len∧g 7≤24∧len=12+8*g 7∧dD (g 1:Nat) (g 2:Nat) (dR g:Nat) (g 7)=0:=by
 unfold dcE at h
 rcases h with ⟨a1,a2⟩|⟨a1,a2,a3⟩|⟨a1,a2,a3,a4⟩
 ·omega
 ·omega
 ·rcases a4 with ⟨c1,c2⟩|⟨c1,⟨c2,c3⟩|⟨c2,⟨c3,c4⟩|⟨c3,c4⟩⟩⟩
  ·omega
  ·omega
  ·omega
  ·exact⟨a2,a1,a3,c1,c2,c3,c4.symm⟩
def dN(e:Int)(x:Nat):Nat:=if e=0 then x else 0
def aRh(fn:Nat):Prop:=∀(ao:Option Addr) (len cap:Nat) (g:Nat→Nat) (w:World),(∀i,g i<256)→len≤140737488351232→len≤cap→Sr w ao len cap (bF g)→
 Calls Tryz.prog fn #[.slice ao len cap] w λe w'=>∃(E:Int) (v:Value),dcE g len E∧e=.returned (.tuple #[kX (dN E (g 1):Nat) (dN E (g 2):Nat) (dN E (dR g):Nat) v,.int .i64 E])∧w'.ownsRow w.heap.size 3 1 v (dN E (g 7)) (rowV (iF (dV g)) (dN E (g 7)))∧Below w.heap.size w w'
theorem aJC{K F R:Int}{n:Nat}{f:Nat→Int}(h:dD K F R n=0):dcE (enS K F R n f) (12+8*n) 0:=by
 obtain⟨h1,h2,h3,h4,h5,h6,h7⟩:=nV h
 have lo:∀i,i<8+8*n→enS K F R n f i=enF K F R n f i:=λi hi=>by unfold enS vN;rw[if_pos hi]
 have e0:enS K F R n f 0=87:=by rw[lo 0 Yo];rfl
 have e1:(enS K F R n f 1:Int)=K:=by rw[lo 1 Yo];show ((K%256).toNat:Int)=K;omega
 have e2:(enS K F R n f 2:Int)=F:=by rw[lo 2 Yo];show ((F%256).toNat:Int)=F;omega
 have e7:enS K F R n f 7=n:=by rw[lo 7 Yo];show n%256=n;omega
 have eR:(dR (enS K F R n f):Int)=R:=aIv h5 h6 lo
 refine Or.inr (Or.inr ⟨Yo,Yo,e0,Or.inr ⟨?_,Or.inr ⟨Yo,Or.inr ⟨Yo,?_⟩⟩⟩⟩)
 ·refine⟨Yo,λi hi=>?_⟩
  have e:12+8*n-4=8+8*n:=Yo
  rw[e]
  have hm:moreN 0 (enS K F R n f) (8+8*n)=moreN 0 (enF K F R n f) (8+8*n):=aFP lo
  rw[hm]
  unfold enS vN
  rw[if_neg Yo,Nat.add_sub_cancel_left]
 ·rw[e1,e2,e7,eR,h]
theorem aDS {K F R : Int} {n : Nat} {f : Nat → Int} (h : dD K F R n = 0) (hf : ∀ i, R64 (f i)) :
  (enS K F R n f 1:Int)=K∧(enS K F R n f 2:Int)=F∧(dR (enS K F R n f):Int)=R∧enS K F R n f 7=n∧∀j,j<n→dV (enS K F R n f) j=f j:=by
 obtain⟨h1,h2,h3,h4,h5,h6,h7⟩:=nV h
 have lo:∀i,i<8+8*n→enS K F R n f i=enF K F R n f i:=λi hi=>by unfold enS vN;rw[if_pos hi]
 refine⟨?_,?_,aIv h5 h6 lo,?_,λj hj=>aRD hf lo hj⟩
 ·rw[lo 1 Yo];show ((K%256).toNat:Int)=K;omega
 ·rw[lo 2 Yo];show ((F%256).toNat:Int)=F;omega
 ·rw[lo 7 Yo];show n%256=n;omega
end Go.Proofs.YtdhblehhgpdpdacGreat
