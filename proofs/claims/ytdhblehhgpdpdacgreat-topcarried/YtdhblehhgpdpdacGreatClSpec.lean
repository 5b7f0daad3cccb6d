import Derived.Test.YtdhblehhgpdpdacGreatNear142
import Derived.Test.YtdhblehhgpdpdacGreatWireOK
namespace Go.Proofs.YtdhblehhgpdpdacGreat
open Go.RowKit
structure Ly where
 ph:Int
 wo:Int
 n:Nat
 g:Nat→Nat
structure Ip where
 rd:Nat→Nat→Int
 bad:Int
 ly:List Ly
structure Cl where
 fr:Int
 nd:Nat→Nd
def aNy:Cl:=⟨0,λ_=>fD⟩
def nM(t:Tn):Cl:=⟨0,λi=>jE i t⟩
instance (g:Nat→Nat) (n:Nat):Decidable (vE g n):=by unfold vE;infer_instance
def dcB(g:Nat→Nat)(n:Nat):Bool:=decide (12≤n)&&decide (n≤220)&&decide (g 0=87)&&decide (vE g n)&&decide (g 7≤24)&&decide (n=12+8*g 7)&&decide (dD (g 1:Nat) (g 2:Nat) (dR g:Nat) (g 7)=0)
theorem aAU{g:Nat→Nat}{n:Nat}:dcB g n=true↔dcE g n 0:=by
 unfold dcB
 simp only[Bool.and_eq_true,decide_eq_true_eq]
 constructor
 ·rintro⟨⟨⟨⟨⟨⟨h1,h2⟩,h3⟩,h4⟩,h5⟩,h6⟩,h7⟩
  exact Or.inr (Or.inr ⟨h2,h1,h3,Or.inr ⟨h4,Or.inr ⟨h5,Or.inr ⟨h6,h7.symm⟩⟩⟩⟩)
 ·intro h
  obtain⟨h1,h2,h3,h4,h5,h6,h7⟩:=aAw h
  exact⟨⟨⟨⟨⟨⟨h1,h2⟩,h3⟩,h4⟩,h5⟩,h6⟩,h7⟩
theorem aRi{g:Nat→Nat}{n:Nat}{e:Int}(h:dcE g n e)(he:e≠0):dcB g n=false:=by
 cases c:dcB g n with
 |false=>rfl
 |true=>exact absurd (aGd h (aAU.1 c)) he
def sU(n:Nat)(g:Nat→Nat):List Ms:=if dcB g n=true then [⟨(g 1:Nat),(g 2:Nat),(dR g:Nat),(List.range (g 7)).map (dV g)⟩] else []
def uF(bad wo ph:Int)(l:List Ly):List Ms:=l.flatMap λy=>if y.ph=ph∧y.wo=wo then (sU y.n y.g).filter λm=>decide (m.F=bad) else []
def yD(m:Ms):List Ms:=if dD m.K m.F m.R m.L.length=0 then [m] else []
def oP(x:Ip)(told:Nat→Ms)(wo ph:Nat):Nat→List Ms
 |0=>[]
 |k+1=>oP x told wo ph k++(if k=wo then [] else if (k:Int)=x.bad then uF x.bad wo ph x.ly else yD (told k))
def phN(k:Nat)(n:Nd)(fr:Int)(rd:Nat→Int)(l:List Ms):Nd:=if k=0 then pR n fr rd else if k=1 then relN n l else if k=2 then decN n l else if k=3 then pasN n l else judN n l
def phM(k:Nat)(n:Nd)(fr:Int)(rd:Nat→Int)(l:List Ms):Ms:=if k=0 then oV n fr rd else if k=1 then vZ n l else if k=2 then uW n l else if k=3 then vR n l else uY n l
structure Wk where
 nd:Nat→Nd
 bx:Nat→List Ms
def wkN(x:Ip)(fr:Int)(s:Wk)(k i:Nat):Nd:=if (i:Int)=x.bad then s.nd i else phN k (s.nd i) fr (x.rd i) (s.bx i)
def wkM(x:Ip)(fr:Int)(s:Wk)(k i:Nat):Ms:=if (i:Int)=x.bad then jI else phM k (s.nd i) fr (x.rd i) (s.bx i)
def wkS(x:Ip)(fr:Int)(s:Wk)(k:Nat):Wk:=⟨wkN x fr s k,λi=>oP x (wkM x fr s k) i k 4⟩
def nE(x:Ip)(c:Cl):Nat→Wk
 |0=>⟨c.nd,λ_=>[]⟩
 |k+1=>wkS x c.fr (nE x c k) k
def lD(x:Ip)(c:Cl)(i:Nat):Nd:=if (i:Int)=x.bad then c.nd i else iP ((nE x c 5).nd i) ((nE x c 5).bx i)
def gdL(bad:Int)(k:Nat):List Nat:=(List.range k).filter λi=>decide ((i:Int)≠bad)
def dH(x:Ip)(c:Cl):Int:=if x.bad< -1∨4≤x.bad∨c.fr<0∨1073741823<c.fr then 3 else if 400<x.ly.length then 6 else if (c.nd 0).id=0∧(c.nd 1).id=1∧(c.nd 2).id=2∧(c.nd 3).id=3 then 0 else 7
def xJ(x:Ip)(c:Cl):Cl:=if dH x c=0 then ⟨c.fr+1,lD x c⟩ else aNy
def frR(x:Ip)(c:Cl):List Nd:=if dH x c=0 then (gdL x.bad 4).map (lD x c) else []
structure Rn where
 c:Cl
 r:List Nd
 e:Int
theorem aEl{x:Ip}{c:Cl}(h:dH x c=0):(-1≤x.bad∧x.bad<4)∧(0≤c.fr∧c.fr≤1073741823)∧x.ly.length≤400∧∀i,i<4→(c.nd i).id=(i:Nat):=by
 unfold dH at h
 split at h
 ·omega
 ·split at h
  ·omega
  ·split at h
   ·rename_i h1 h2 h3
    refine⟨Yo,Yo,Yo,λi hi=>?_⟩
    have:i=0∨i=1∨i=2∨i=3:=Yo
    rcases this with rfl|rfl|rfl|rfl
    ·exact h3.1
    ·exact h3.2.1
    ·exact h3.2.2.1
    ·exact h3.2.2.2
   ·omega
theorem lW{i:Nat}(hi:i<4):jR (i:Nat)=false:=by
 unfold jR
 rw[decide_eq_false Yo,decide_eq_false Yo]
 rfl
end Go.Proofs.YtdhblehhgpdpdacGreat
