import Derived.Test.YtdhblehhgpdpdacGreatNear107
import Derived.Deep.Draws
namespace Go.Proofs.YtdhblehhgpdpdacGreat
open Go.RowKit
set_option maxHeartbeats 400000 in
theorem aJW (hi lo y : Int) (hi0 : 0 ≤ hi) (lo0 : 0 ≤ lo) (lo1 : lo < 18446744073709551616) (y1 : y < 18446744073709551616) (hy : hi < y) (w : World) :
  Calls Tryz.prog 162 #[.int .u64 hi,.int .u64 lo,.int .u64 y] w λe w'=>∃k,e=.returned (.tuple #[.int .u64 ((hi*18446744073709551616+lo)/y),.int .u64 ((hi*18446744073709551616+lo)%y)])∧w'=w.drewN k:=by
 rcases Int.lt_or_le 0 hi with h|h
 ·exact (aJb hi lo y Yo lo0 lo1 y1 hy w).mono λe w' h=>⟨0,h.1,h.2⟩
 ·have e0:hi=0:=Yo
  subst e0
  have t1:(y==0)=false:=by simp;omega
  have d0:0≤lo/y:=Int.ediv_nonneg lo0 Yo
  have d1:lo/y≤lo:=Int.ediv_le_self _ lo0
  have d2:0≤lo%y:=Int.emod_nonneg _ Yo
  have d3:lo%y<y:=Int.emod_lt_of_pos _ Yo
  rw[Int.zero_mul,Int.zero_add]
  go_enter Tryz.func162,Tryz.ntmps162
  go_wp2
  go_region
  go_wp2
  go_ret2
  exact⟨1,rfl,rfl⟩
def aBL(a:Int):Int:=if a=0 then 0 else aEF (decide (a<0))
theorem aMq (a : Int) (w : World) :
  Calls Tryz.prog 161 #[.int .i64 a] w λe w'=>e=.returned (.int .i64 (aBL a))∧w'=w:=by
 by_cases h:a=0
 ·subst h
  go_enter Tryz.func161,Tryz.ntmps161
  go_wp2
  go_ret
  exact⟨rfl,rfl⟩
 ·have E:Hid (aBL a=aEF (decide (a<0))):=if_neg h
  have t:(a==0)=false:=by simpa using h
  clear h
  go_enter Tryz.func161,Tryz.ntmps161
  go_wp2_with fail
  refine (aCi _ _).mono ?_
  rintro e w1 ⟨rfl,rfl⟩
  go_wp2_with fail
  go_ret
  exact⟨by rw[unhide E];rfl,rfl⟩
def fV(a b:Int):Int:=if b=0 then aBL a else gD (aAr a b)
def aCv(a b:Int):Bool:=if b=0 then true else jH (aAr a b)
theorem aMk (a : Int) (w : World) :
  Calls Tryz.prog 149 #[.int .i64 a,.int .i64 0] w λe w'=>e=.returned (.tuple #[.int .i64 (fV a 0),.bool (aCv a 0)])∧w'=w:=by
 go_enter Tryz.func149,Tryz.ntmps149
 go_wp2_with fail
 refine (aMq _ _).mono ?_
 rintro e w1 ⟨rfl,rfl⟩
 go_wp2_with fail
 go_ret2
 exact⟨rfl,rfl⟩
set_option maxHeartbeats 400000 in
theorem aPu (a b : Int) (ha : R64 a) (hb : R64 b) (w : World) :
  Calls Tryz.prog 149 #[.int .i64 a,.int .i64 b] w λe w'=>∃k,e=.returned (.tuple #[.int .i64 (fV a b),.bool (aCv a b)])∧w'=w.drewN k:=by
 by_cases hz:b=0
 ·subst hz;exact (aMk a w).mono λe w' h=>⟨0,h.1,h.2⟩
 have E1:Hid (fV a b=gD (aAr a b)):=if_neg hz
 have E2:Hid (aCv a b=jH (aAr a b)):=if_neg hz
 have t:(b==0)=false:=by simpa using hz
 have HQ:=aA (aMQ a b · · hz)
 have Ha:=aA ha;have Hb:=aA hb
 obtain⟨x0,x1⟩:=uP ha
 obtain⟨y0,y1⟩:=uP hb
 have y2:1≤absZ b:=by unfold absZ;split<;>omega
 obtain⟨a1,a2⟩:=ha;obtain⟨b1,b2⟩:=hb
 clear hz
 go_enter Tryz.func149,Tryz.ntmps149
 go_wp2_with fail
 refine (zQ a (unhide Ha) _).mono ?_
 rintro e w1 ⟨rfl,rfl⟩
 go_wp2_with fail
 refine (zQ b (unhide Hb) _).mono ?_
 rintro e w2 ⟨rfl,rfl⟩
 have hn:negZ a b=(!decide (a<0)==decide (b<0)):=rfl
 rw[←hn]
 clear hn
 generalize negZ a b=ng at*
 generalize absZ a=n at*
 generalize absZ b=d at*
 by_cases h:d≤n/4294967296
 ·have e0:d*(n*4294967296/d)+n*4294967296%d=n*4294967296:=Int.mul_ediv_add_emod _ _
  have r0:0≤n*4294967296%d:=Int.emod_nonneg _ Yo
  have r1:n*4294967296%d<d:=Int.emod_lt_of_pos _ Yo
  have hov:=aFW n d _ _ y2 h e0.symm r1
  have hq:=unhide HQ _ _ e0.symm r0 r1
  have hov2:9223372036854775808<qR ng (n*4294967296/d) (n*4294967296%d) d:=by unfold qR;split<;>omega
  have HO:=aA (aBs ng _ hov2)
  rw[←hq] at HO
  clear HQ e0 r0 r1 hov hq hov2
  go_wp2_with fail
  refine (aCi _ _).mono ?_
  rintro e w3 ⟨rfl,rfl⟩
  go_wp2_with fail
  go_ret2
  exact⟨0,by rw[unhide E1,unhide E2,(unhide HO).1,(unhide HO).2];rfl,rfl⟩
 ·obtain⟨f1,f2,f3⟩:=aEa n
  obtain⟨q,r,eq,er,hqr,r0,r1,q0,q1,q2⟩:=aHT n d x0 x1 y2 Yo
  have hq:=unhide HQ _ _ hqr r0 r1
  clear HQ hqr
  go_wp2_with fail
  refine (aJW _ _ _ Yo f2 f3 Yo Yo _).mono ?_
  rintro e w3 ⟨k,rfl,rfl⟩
  rw[f1,eq,er]
  clear f1 f2 f3 eq er
  by_cases g:d-r<r∨(r=d-r∧ng=false)
  ·have HQ:Hid (aAr a b=jY ng (q+1)):=by rw[hq];unfold qR;rw[if_pos g];exact rfl
   clear hq
   have q3:=q2 Yo
   clear q2
   by_cases g1:d-r<r
   ·clear g
    go_wp2_with fail
    refine (vO ng _ Yo Yo _).mono ?_
    rintro e w4 ⟨rfl,rfl⟩
    go_wp2_with fail
    go_ret2
    exact⟨_,by rw[unhide E1,unhide E2,unhide HQ];rfl,rfl⟩
   ·have g2:(r==d-r)=true:=by simp;omega
    have g3:ng=false:=by rcases g with g|g;exact absurd g g1;exact g.2
    subst g3
    clear g
    go_wp2_with fail
    refine (vO false _ Yo Yo _).mono ?_
    rintro e w4 ⟨rfl,rfl⟩
    go_wp2_with fail
    go_ret2
    exact⟨_,by rw[unhide E1,unhide E2,unhide HQ];rfl,rfl⟩
  ·have HQ:Hid (aAr a b=jY ng q):=by rw[hq];unfold qR;rw[if_neg g];exact rfl
   clear hq q2
   have g1:¬d-r<r:=λh=>g (Or.inl h)
   by_cases g2:r=d-r
   ·have g3:ng=true:=by cases ng;exact absurd (Or.inr ⟨g2,rfl⟩) g;rfl
    have g4:(r==d-r)=true:=by simpa using g2
    subst g3
    clear g g2
    go_wp2_with fail
    refine (vO true _ Yo Yo _).mono ?_
    rintro e w4 ⟨rfl,rfl⟩
    go_wp2_with fail
    go_ret2
    exact⟨_,by rw[unhide E1,unhide E2,unhide HQ];rfl,rfl⟩
   ·have g4:(r==d-r)=false:=by simpa using g2
    clear g g2
    go_wp2_with fail
    refine (vO ng _ Yo Yo _).mono ?_
    rintro e w4 ⟨rfl,rfl⟩
    go_wp2_with fail
    go_ret2
    exact⟨_,by rw[unhide E1,unhide E2,unhide HQ];rfl,rfl⟩
end Go.Proofs.YtdhblehhgpdpdacGreat
namespace Go.Proofs.YtdhblehhgpdpdacGreat
def stF(g:Nat→Int)(k:Nat)(x:Int):Nat→Int:=λj=>if j=k then x else g j
theorem aKK(g:Nat→Int)(k:Nat)(x:Int):stF g k x k=x:=if_pos rfl
theorem aIi(g:Nat→Int){k j:Nat}(x:Int)(h:j≠k):stF g k x j=g j:=if_neg h
theorem aAf:R64 0:=by unfold R64;omega
theorem aOL(a:Int):R64 (aBL a):=by
 unfold R64 aBL aEF;repeat' split
 all_goals omega
theorem aAl(a b:Int):R64 (fV a b):=by
 unfold fV;split
 ·exact aOL a
 ·exact zK _
end Go.Proofs.YtdhblehhgpdpdacGreat
