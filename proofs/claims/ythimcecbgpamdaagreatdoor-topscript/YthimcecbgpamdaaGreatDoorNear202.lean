import Derived.Test.YthimcecbgpamdaaGreatDoorNear110
import Derived.Deep.Draws
set_option maxHeartbeats 400000
namespace Go.Proofs.YthimcecbgpamdaaGreatDoor
open Go.RowKit
theorem ZV(hi lo y:Int)(hi0:0<=hi)(lo0:0<=lo)(lo1:lo<18446744073709551616)(y1:y<18446744073709551616)(hy:hi<y)(w:World):Calls Tryz.prog 313 #[.int .u64 hi,.int .u64 lo,.int .u64 y] w λe w'=>∃k,e=.returned (.tuple #[.int .u64 ((hi*18446744073709551616+lo)/y),.int .u64 ((hi*18446744073709551616+lo)%y)])/\w'=w.drewN k:=by
 rcases Int.lt_or_le 0 hi with h|h
 .exact (ZW hi lo y Yo lo0 lo1 y1 hy w).mono λe w' h=>⟨0,h.1,h.2⟩
 .have e0:hi=0:=Yo;subst e0;have t1:(y==0)=false:=by simp;omega
  have d0:0<=lo/y:=Int.ediv_nonneg lo0 Yo;have d1:lo/y<=lo:=Int.ediv_le_self _ lo0;have d2:0<=lo%y:=Int.emod_nonneg _ Yo;have d3:lo%y<y:=Int.emod_lt_of_pos _ Yo;rw[Int.zero_mul,Int.zero_add];go_enter Tryz.func313,Tryz.ntmps313
  go_wp2
  go_region
  go_wp2
  go_ret2
  exact⟨1,rfl,rfl⟩
def DT(a:Int):Int:=if a=0 then 0 else MU (decide (a<0))
theorem aEd(a:Int)(w:World):Calls Tryz.prog 312 #[.int .i64 a] w λe w'=>e=.returned (.int .i64 (DT a))/\w'=w:=by
 by_cases h:a=0
 .subst h;go_enter Tryz.func312,Tryz.ntmps312
  go_wp2
  go_ret
  exact⟨rfl,rfl⟩
 .have E:Hid (DT a=MU (decide (a<0))):=if_neg h;have t:(a==0)=false:=by simpa using h
  clear h;go_enter Tryz.func312,Tryz.ntmps312
  go_wp2_with fail
  refine (FW _ _).mono ?_;rintro e w1 ⟨rfl,rfl⟩;go_wp2_with fail
  go_ret
  exact⟨by rw[aA E];rfl,rfl⟩
def fZ(a b:Int):Int:=if b=0 then DT a else dO (L9 a b)
def FU(a b:Int):Bool:=if b=0 then true else fP (L9 a b)
theorem aDk(a:Int)(w:World):Calls Tryz.prog 297 #[.int .i64 a,.int .i64 0] w λe w'=>e=.returned (.tuple #[.int .i64 (fZ a 0),.bool (FU a 0)])/\w'=w:=by
 go_enter Tryz.func297,Tryz.ntmps297
 go_wp2_with fail
 refine (aEd _ _).mono ?_;rintro e w1 ⟨rfl,rfl⟩;go_wp2_with fail
 go_ret2
 exact⟨rfl,rfl⟩
theorem aHn(a b:Int)(ha:R64 a)(hb:R64 b)(w:World):Calls Tryz.prog 297 #[.int .i64 a,.int .i64 b] w λe w'=>∃k,e=.returned (.tuple #[.int .i64 (fZ a b),.bool (FU a b)])/\w'=w.drewN k:=by
 by_cases hz:b=0
 .subst hz;exact (aDk a w).mono λe w' h=>⟨0,h.1,h.2⟩
 have E1:Hid (fZ a b=dO (L9 a b)):=if_neg hz;have E2:Hid (FU a b=fP (L9 a b)):=if_neg hz;have t:(b==0)=false:=by simpa using hz
 have HQ:=aB (aDi a b · · hz);have Ha:=aB ha;have Hb:=aB hb;obtain⟨x0,x1⟩:=nV ha;obtain⟨y0,y1⟩:=nV hb;have y2:1<=absZ b:=by unfold absZ;split<;>omega
 obtain⟨a1,a2⟩:=ha;obtain⟨b1,b2⟩:=hb;clear hz;go_enter Tryz.func297,Tryz.ntmps297
 go_wp2_with fail
 refine (wH a (aA Ha) _).mono ?_;rintro e w1 ⟨rfl,rfl⟩;go_wp2_with fail
 refine (wH b (aA Hb) _).mono ?_;rintro e w2 ⟨rfl,rfl⟩;have hn:negZ a b=(!decide (a<0)==decide (b<0)):=rfl;rw[<-hn];clear hn;generalize negZ a b=ng at*;generalize absZ a=n at*;generalize absZ b=d at*;by_cases h:d<=n/4294967296
 .have e0:d*(n*4294967296/d)+n*4294967296%d=n*4294967296:=Int.mul_ediv_add_emod _ _;have r0:0<=n*4294967296%d:=Int.emod_nonneg _ Yo;have r1:n*4294967296%d<d:=Int.emod_lt_of_pos _ Yo;have hov:=SA n d _ _ y2 h e0.symm r1;have hq:=aA HQ _ _ e0.symm r0 r1;have hov2:9223372036854775808<qW ng (n*4294967296/d) (n*4294967296%d) d:=by unfold qW;split<;>omega
  have HO:=aB (AP ng _ hov2);rw[<-hq] at HO;clear HQ e0 r0 r1 hov hq hov2;go_wp2_with fail
  refine (FW _ _).mono ?_;rintro e w3 ⟨rfl,rfl⟩;go_wp2_with fail
  go_ret2
  exact⟨0,by rw[aA E1,aA E2,(aA HO).1,(aA HO).2];rfl,rfl⟩
 .obtain⟨f1,f2,f3⟩:=ND n;obtain⟨q,r,eq,er,hqr,r0,r1,q0,q1,q2⟩:=aAd n d x0 x1 y2 Yo;have hq:=aA HQ _ _ hqr r0 r1;clear HQ hqr;go_wp2_with fail
  refine (ZV _ _ _ Yo f2 f3 Yo Yo _).mono ?_;rintro e w3 ⟨k,rfl,rfl⟩;rw[f1,eq,er];clear f1 f2 f3 eq er;by_cases g:d-r<r\/(r=d-r/\ng=false)
  .have HQ:Hid (L9 a b=iI ng (q+1)):=by rw[hq];unfold qW;rw[if_pos g];exact rfl
   clear hq;have q3:=q2 Yo;clear q2;by_cases g1:d-r<r
   .clear g;go_wp2_with fail
    refine (pQ ng _ Yo Yo _).mono ?_;rintro e w4 ⟨rfl,rfl⟩;go_wp2_with fail
    go_ret2
    exact⟨_,by rw[aA E1,aA E2,aA HQ];rfl,rfl⟩
   .have g2:(r==d-r)=true:=by simp;omega
    have g3:ng=false:=by rcases g with g|g;exact absurd g g1;exact g.2
    subst g3;clear g;go_wp2_with fail
    refine (pQ false _ Yo Yo _).mono ?_;rintro e w4 ⟨rfl,rfl⟩;go_wp2_with fail
    go_ret2
    exact⟨_,by rw[aA E1,aA E2,aA HQ];rfl,rfl⟩
  .have HQ:Hid (L9 a b=iI ng q):=by rw[hq];unfold qW;rw[if_neg g];exact rfl
   clear hq q2;have g1:¬d-r<r:=λh=>g (Or.inl h)
   by_cases g2:r=d-r
   .have g3:ng=true:=by cases ng;exact absurd (Or.inr ⟨g2,rfl⟩) g;rfl
    have g4:(r==d-r)=true:=by simpa using g2
    subst g3;clear g g2;go_wp2_with fail
    refine (pQ true _ Yo Yo _).mono ?_;rintro e w4 ⟨rfl,rfl⟩;go_wp2_with fail
    go_ret2
    exact⟨_,by rw[aA E1,aA E2,aA HQ];rfl,rfl⟩
   .have g4:(r==d-r)=false:=by simpa using g2
    clear g g2;go_wp2_with fail
    refine (pQ ng _ Yo Yo _).mono ?_;rintro e w4 ⟨rfl,rfl⟩;go_wp2_with fail
    go_ret2
    exact⟨_,by rw[aA E1,aA E2,aA HQ];rfl,rfl⟩
end Go.Proofs.YthimcecbgpamdaaGreatDoor
namespace Go.Proofs.YthimcecbgpamdaaGreatDoor
def stF(g:Nat->Int)(k:Nat)(x:Int):Nat->Int:=λj=>if j=k then x else g j
theorem aFx(g:Nat->Int)(k:Nat)(x:Int):stF g k x k=x:=if_pos rfl
theorem aCg(g:Nat->Int){k j:Nat}(x:Int)(h:j≠k):stF g k x j=g j:=if_neg h
theorem R64_nought:R64 0:=by unfold R64;omega
theorem aIk(a:Int):R64 (DT a):=by
 unfold R64 DT MU;repeat' split;all_goals omega
theorem Q7(a b:Int):R64 (fZ a b):=by
 unfold fZ;split
 .exact aIk a
 .exact uW _
end Go.Proofs.YthimcecbgpamdaaGreatDoor
namespace Go.Proofs.YthimcecbgpamdaaGreatDoor
open Go.RowKit
def Wd(n:Nat)(f:Nat->Int):Prop:=∀i,i<n->0<=f i/\f i<4294967296
def val(f:Nat->Int):Nat->Int
 |0=>0
 |n+1=>val f n+f n*4294967296^n
def Nm(n:Nat)(f:Nat->Int):Prop:=n=0\/f (n-1)≠0
theorem pow_pos(n:Nat):(0:Int)<4294967296^n:=Int.pow_pos Yc
variable{f:Nat->Int}
theorem aCr:∀{n:Nat},Wd n f->0<=val f n/\val f n<4294967296^n
 |0,_=>⟨Int.le_refl _,(by decide:(0:Int)<4294967296^0)⟩
 |n+1,h=>by
  obtain⟨h0,h1⟩:=aCr (λi hi=>h i Yo:Wd n f);obtain⟨g0,g1⟩:=h n Yo;have hp:=pow_pos n;have e1:0<=f n*4294967296^n:=Int.mul_nonneg g0 Yo;have e2:(f n+1)*4294967296^n<=4294967296*4294967296^n:=Int.mul_le_mul_of_nonneg_right Yo Yo;rw[Int.add_mul,Int.one_mul] at e2;refine⟨?_,?_⟩
  .show 0<=val f n+f n*4294967296^n;omega
  .show val f n+f n*4294967296^n<4294967296^(n+1)
   rw[Int.pow_succ,Int.mul_comm (4294967296^n)];omega
variable{n:Nat}
theorem aMb(h:Wd (n+1) f)(hn:f n≠0):4294967296^n<=val f (n+1):=by
 have h0:=(aCr (λi hi=>h i Yo:Wd n f)).1;have g0:=(h n Yo).1;have:=Int.mul_le_mul_of_nonneg_right (show 1<=f n by omega) (Int.le_of_lt (pow_pos n));show 4294967296^n<=val f n+f n*4294967296^n
 omega
def Row(w:World)(b n:Nat)(f:Nat->Int):Prop:=∀i,i<n->w.cell? ⟨b,i,none⟩=some (.int .u32 (f i))
def Sl(w:World)(v:Value)(n:Nat)(f:Nat->Int):Prop:=
 (v=.slice none 0 0/\n=0)\/∃b cap:Nat,v=.slice (some ⟨b,0,none⟩) n cap/\n<=cap/\cap<=9223372036854775807/\b<w.heap.size/\Row w b n f
variable{w w':World}
theorem Row.same{b:Nat}(h:Row w b n f)(hb:w'.heap[b]?=w.heap[b]?):Row w' b n f:=
 λi hi=>(World.cell?_of_block (w:=w) (a:=⟨b,i,none⟩) hb).trans (h i hi)
theorem Row.less{b m:Nat}(h:Row w b n f)(hm:m<=n):Row w b m f:=λi hi=>h i Yo
theorem Wd.less{m:Nat}(h:Wd n f)(hm:m<=n):Wd m f:=λi hi=>h i Yo
structure Kept (z:Nat) (w w':World):Prop where
 os:w'.os=w.os
 tape:w'.tape=w.tape
 output:w'.output=w.output
 size:w.heap.size<=w'.heap.size
 block:∀k,k<w.heap.size->k≠z->w'.heap[k]?=w.heap[k]?
variable{z:Nat}
theorem Kept.of_below(h:Below w.heap.size w w'):Kept z w w':=⟨h.os,h.tape,h.output,h.size,λk hk _=>h.block k hk⟩
theorem Kept.below(h:Kept z w w')(hz:w.heap.size<=z):Below w.heap.size w w':=⟨h.os,h.tape,h.output,h.size,λk hk=>h.block k hk Yo⟩
variable{a:World}
theorem Kept.trans{z':Nat}{b c:World}(h:Kept z a b)(k:Kept z' b c)(hz:z'=z\/a.heap.size<=z'):Kept z a c:=
 ⟨k.os.trans h.os,k.tape.trans h.tape,k.output.trans h.output,Nat.le_trans h.size k.size,λi hi hn=>(k.block i (Nat.lt_of_lt_of_le hi h.size) Yo).trans (h.block i hi hn)⟩
variable{v:Value}
theorem Sl.kept(h:Sl w v n f)(k:Kept z w w')(hz:∀b cap,v=.slice (some ⟨b,0,none⟩) n cap->b≠z):Sl w' v n f:=by
 rcases h with h|⟨b,cap,hv,h1,h2,h3,h4⟩
 .exact Or.inl h
 .exact Or.inr ⟨b,cap,hv,h1,h2,Nat.lt_of_lt_of_le h3 k.size,h4.same (k.block b h3 (hz b cap hv))⟩
theorem Sl.below(h:Sl w v n f)(k:Below w.heap.size w w'):Sl w' v n f:=by
 rcases h with h|⟨b,cap,hv,h1,h2,h3,h4⟩
 .exact Or.inl h
 .exact Or.inr ⟨b,cap,hv,h1,h2,Nat.lt_of_lt_of_le h3 k.size,h4.same (k.block b h3)⟩
def BlAt(t:Nat)(w:World)(b:Nat)(x:Bool):Prop:=w.heap[b]?=some (.cells #[.bool x] t (0,0))
variable{b t:Nat}{x:Bool}
theorem BlAt.cell0(h:BlAt t w b x):w.cell? ⟨b,0,none⟩=some (.bool x):=by
 unfold BlAt at h;simp[World.cell?,h]
theorem BlAt.free(h:BlAt t w b x)(i:Nat):w.frozen? ⟨b,i,none⟩=false:=by
 unfold BlAt at h;simp[World.frozen?,h]
theorem BlAt.lt(h:BlAt t w b x):b<w.heap.size:=lt_of_block h
theorem BlAt.kept(h:BlAt t w b x)(k:Kept z w w')(hz:b≠z):BlAt t w' b x:=by
 unfold BlAt at h ⊢;rw[k.block b (lt_of_block h) hz];exact h
theorem BlAt.below(h:BlAt t w b x)(k:Below w.heap.size w w'):BlAt t w' b x:=by
 unfold BlAt at h ⊢;rw[k.block b (lt_of_block h)];exact h
theorem BlAt.set(h:BlAt t w b x)(y:Bool):BlAt t (w.setCell ⟨b,0,none⟩ (.bool y)) b y:=by
 unfold BlAt at h ⊢;exact heap_setCell_same w b 0 _ _ (.bool y) h
theorem BlAt.new(t:Nat)(w:World)(x:Bool):BlAt t (w.alloc (.cells #[.bool x] t)) w.heap.size x:=by
 unfold BlAt;show (w.heap.push _)[w.heap.size]?=_
 rw[Array.getElem?_push_size]
theorem JJ(z:Nat)(w:World):Kept z w w:=⟨rfl,rfl,rfl,Xr _,λ_ _ _=>rfl⟩
theorem bI(w:World)(b i:Nat)(u:Value):Kept b w (w.setCell ⟨b,i,none⟩ u):=
 ⟨rfl,rfl,rfl,by simp[World.setCell],λk _ hn=>heap_setCell_other w ⟨b,i,none⟩ k u hn⟩
theorem mJ(w:World):Kept z w w.drew:=⟨rfl,rfl,rfl,Xr _,λ_ _ _=>rfl⟩
variable{B:Nat}
theorem aF(h:Below B a w)(k:Kept z w w')(hz:B<=z)(hB:B<=w.heap.size:=by first|exact Below.size (by assumption)|omega):Below B a w':=
 h.trans ⟨k.os,k.tape,k.output,k.size,λi hi=>k.block i Yo Yo⟩
theorem aY(h:Below B a w):Below B a w.drew:=⟨h.os,h.tape,h.output,h.size,h.block⟩
end Go.Proofs.YthimcecbgpamdaaGreatDoor
