import Derived.Laws.Bits64b
import Derived.Laws.BitsAll
import Derived.Laws.BitsLemmas
import Derived.RowKit
namespace Go.Proofs.YtdhblehhgpdpdacGreat
open Go.RowKit
theorem Yo{p:Prop}(h:p:=by omega):p:=h
theorem Yw{p:Prop}(h:p:=by exact cO rfl):p:=h
theorem Yn{p:Prop}(h:p:=by exact λ_ _ _ h=>absurd h.1 (λe=>nomatch e)):p:=h
theorem Yc{p:Prop}(h:p:=by decide):p:=h
theorem Yd{p:Prop}(h:p:=by exact of_decide_eq_true rfl):p:=h
def R64(a:Int):Prop:= -9223372036854775808≤a∧a≤9223372036854775807
theorem R64.of_wf{x:Int}(h:(Lit.int .i64 x).wf=true):R64 x:=by
 simp[Lit.wf,IntKind.min,IntKind.max,IntKind.signed,IntKind.bits] at h
 exact⟨Yo,Yo⟩
def gD(z:Int):Int:=if z< -9223372036854775808 then -9223372036854775808 else if 9223372036854775807<z then 9223372036854775807 else z
def jH(z:Int):Bool:=decide (z< -9223372036854775808)||decide (9223372036854775807<z)
theorem zK(z:Int):R64 (gD z):=by
 unfold gD R64
 split
 ·omega
 ·split<;>omega
theorem wT{z:Int}(h:R64 z):gD z=z:=by
 unfold gD;obtain⟨h1,h2⟩:=h
 rw[if_neg Yo,if_neg Yo]
theorem zM{z:Int}(h:R64 z):jH z=false:=by
 unfold jH;obtain⟨h1,h2⟩:=h
 rw[decide_eq_false Yo,decide_eq_false Yo];rfl
theorem wY{z:Int}(h:9223372036854775807<z):gD z=9223372036854775807:=by
 unfold gD;rw[if_neg Yo,if_pos h]
theorem zI{z:Int}(h:9223372036854775807<z):jH z=true:=by
 unfold jH;rw[decide_eq_true h];simp
theorem sQ{z:Int}(h:z< -9223372036854775808):gD z= -9223372036854775808:=by
 unfold gD;rw[if_pos h]
theorem uJ{z:Int}(h:z< -9223372036854775808):jH z=true:=by
 unfold jH;rw[decide_eq_true h];rfl
theorem aAH(v:BitVec 64):IntKind.i64.wrap (v.toNat:Int)<0↔v.msb=true:=by
 rw[BitVec.msb_eq_decide,IntKind.wrap_i64,decide_eq_true_eq]
 have:=v.isLt
 omega
theorem wS(x:Int)(h:R64 x):(BitVec.ofInt 64 x).msb=decide (x<0):=by
 obtain⟨h1,h2⟩:=h
 rw[BitVec.msb_eq_decide,BitVec.toNat_ofInt]
 by_cases hx:x<0
 ·rw[decide_eq_true hx,decide_eq_true_eq];omega
 ·rw[decide_eq_false hx,decide_eq_false_iff_not];omega
theorem mQ(x y:Int)(hx:R64 x)(hy:R64 y):bits .and .i64 x y<0↔(x<0∧y<0):=by
 show IntKind.i64.wrap ((BitVec.ofInt 64 x &&& BitVec.ofInt 64 y).toNat:Int)<0↔_
 rw[aAH,BitVec.msb_and,wS x hx,wS y hy];simp
theorem gH(x y:Int)(hx:R64 x)(hy:R64 y):bits .xor .i64 x y<0↔¬(x<0↔y<0):=by
 show IntKind.i64.wrap ((BitVec.ofInt 64 x^^^BitVec.ofInt 64 y).toNat:Int)<0↔_
 rw[aAH,BitVec.msb_xor,wS x hx,wS y hy]
 by_cases a:x<0<;>by_cases b:y<0<;>simp[a,b]
theorem aHP(n:Int):R64 (IntKind.i64.wrap n):=by
 rw[IntKind.wrap_i64];unfold R64;omega
theorem iD(x y:Int):R64 (bits .xor .i64 x y):=by
 show R64 (IntKind.i64.wrap ((BitVec.ofInt 64 x^^^BitVec.ofInt 64 y).toNat:Int))
 exact aHP _
theorem aBD(n:Int):R64 (wrap64 n):=by
 unfold wrap64 R64;omega
theorem aSb(a b:Int)(ha:R64 a)(hb:R64 b)(h:R64 (a+b)):¬bits .and .i64 (bits .xor .i64 a (a+b)) (bits .xor .i64 b (a+b))<0:=by
 rw[mQ _ _ (iD _ _) (iD _ _),gH _ _ ha h,gH _ _ hb h]
 omega
theorem aOC(a b:Int)(ha:R64 a)(hb:R64 b)(h:¬R64 (a+b)):bits .and .i64 (bits .xor .i64 a (wrap64 (a+b))) (bits .xor .i64 b (wrap64 (a+b)))<0:=by
 rw[mQ _ _ (iD _ _) (iD _ _),gH _ _ ha (aBD _),gH _ _ hb (aBD _)]
 unfold wrap64
 unfold R64 at*
 omega
theorem aSA(a b:Int)(ha:R64 a)(hb:R64 b)(h:R64 (a-b)):¬bits .and .i64 (bits .xor .i64 a b) (bits .xor .i64 a (a-b))<0:=by
 rw[mQ _ _ (iD _ _) (iD _ _),gH _ _ ha hb,gH _ _ ha h]
 omega
theorem aOF(a b:Int)(ha:R64 a)(hb:R64 b)(h:¬R64 (a-b)):bits .and .i64 (bits .xor .i64 a b) (bits .xor .i64 a (wrap64 (a-b)))<0:=by
 rw[mQ _ _ (iD _ _) (iD _ _),gH _ _ ha hb,gH _ _ ha (aBD _)]
 unfold wrap64
 unfold R64 at*
 omega
def absZ(a:Int):Int:=if a<0 then -a else a
theorem uP{a:Int}(h:R64 a):0≤absZ a∧absZ a≤9223372036854775808:=by
 unfold absZ;unfold R64 at h;split<;>omega
def aCK(a b:Int):Int:=(a*b+2147483648)/4294967296
def negZ(a b:Int):Bool:= !decide (a<0)==decide (b<0)
def jY(n:Bool)(m:Int):Int:=if n then -m else m
def halfZ(n:Bool):Int:=if n then 2147483647 else 2147483648
theorem aOP(a b:Int):a*b=jY (negZ a b) (absZ a*absZ b):=by
 unfold jY negZ absZ
 by_cases ha:a<0<;>by_cases hb:b<0<;>simp[ha,hb,Int.neg_mul,Int.mul_neg]
theorem aNd(a b:Int):aCK a b=jY (negZ a b) ((absZ a*absZ b+halfZ (negZ a b))/4294967296):=by
 unfold aCK
 rw[aOP]
 generalize absZ a*absZ b=p
 unfold jY halfZ
 cases negZ a b<;>simp<;>omega
theorem aCX{a b:Int}(ha:R64 a)(hb:R64 b):0≤absZ a*absZ b∧absZ a*absZ b≤85070591730234615865843651857942052864:=by
 obtain⟨a0,a1⟩:=uP ha
 obtain⟨b0,b1⟩:=uP hb
 refine⟨Int.mul_nonneg a0 b0,?_⟩
 have:=Int.mul_le_mul a1 b1 b0 (by omega:(0:Int)≤9223372036854775808)
 omega
theorem aLH(n:Bool):0≤halfZ n∧halfZ n≤2147483648:=by cases n<;>decide
theorem aJK(x y:Int)(x0:0≤x)(x1:x<4294967296)(y0:0≤y)(y1:y<4294967296):bits .or .u64 (x*4294967296) y=x*4294967296+y:=by
 obtain⟨x,rfl⟩:=Int.eq_ofNat_of_zero_le x0
 obtain⟨y,rfl⟩:=Int.eq_ofNat_of_zero_le y0
 have h:=u64_or_nat (x*4294967296) y Yo Yo
 rw[nat_join 32 (x*4294967296) y Yo Yo] at h
 have e:(x:Int)*4294967296=((x*4294967296:Nat):Int):=Yo
 rw[e,h]
 omega
theorem aIz(x:Int)(x0:0≤x)(x1:x<18446744073709551616):bits .and .u64 x 4294967295=x%4294967296:=by
 obtain⟨x,rfl⟩:=Int.eq_ofNat_of_zero_le x0
 have h:=u64_and_nat x 4294967295 Yo Yo
 rw[show x &&& 4294967295=x%4294967296 from Nat.and_two_pow_sub_one_eq_mod x 32] at h
 refine (show bits .and .u64 (x:Int) 4294967295=_ from h).trans ?_
 omega
theorem aMM (p h : Int) (_p0 : 0 ≤ p) (_h0 : 0 ≤ h)
  (ht:((p/18446744073709551616+(p%18446744073709551616+h)/18446744073709551616)/4294967296!=0)=false):
  bits .or .u64 (IntKind.u64.wrap ((p/18446744073709551616+(p%18446744073709551616+h)/18446744073709551616)*4294967296)) ((p+h)%18446744073709551616/4294967296)=(p+h)/4294967296∧(p+h)/4294967296<18446744073709551616:=by
 have e:(p/18446744073709551616+(p%18446744073709551616+h)/18446744073709551616)/4294967296=0:=by simpa using ht
 have e1:p/18446744073709551616+(p%18446744073709551616+h)/18446744073709551616=(p+h)/18446744073709551616:=Yo
 rw[e1] at e ⊢
 have e2:IntKind.u64.wrap ((p+h)/18446744073709551616*4294967296)=(p+h)/18446744073709551616*4294967296:=by rw[IntKind.wrap_u64];omega
 rw[e2,aJK _ _ Yo Yo Yo Yo]
 omega
theorem aMR (p h : Int) (_p0 : 0 ≤ p) (_h0 : 0 ≤ h)
  (ht:((p/18446744073709551616+(p%18446744073709551616+h)/18446744073709551616)/4294967296!=0)=true):18446744073709551616≤(p+h)/4294967296:=by
 have e:(p/18446744073709551616+(p%18446744073709551616+h)/18446744073709551616)/4294967296≠0:=by simpa using ht
 omega
def aAr(a b:Int):Int:=(2*(jY (decide (b<0)) a*4294967296)+absZ b)/(2*absZ b)
def qR(n:Bool)(q r d:Int):Int:=if d-r<r∨(r=d-r∧n=false) then q+1 else q
theorem yT{x y q:Int}(hy:0<y)(h1:y*q≤x)(h2:x<y*q+y):x/y=q:=by
 have a:q≤x/y:=by rw[Int.le_ediv_iff_mul_le hy,Int.mul_comm];exact h1
 have b:x/y<q+1:=by rw[Int.ediv_lt_iff_lt_mul hy,Int.mul_comm,Int.mul_add];omega
 omega
theorem aMQ (a b q r : Int) (hb : b ≠ 0) (h : absZ a * 4294967296 = absZ b * q + r) (h0 : 0 ≤ r) (h1 : r < absZ b) :
  aAr a b=jY (negZ a b) (qR (negZ a b) q r (absZ b)):=by
 have hd:0<absZ b:=by unfold absZ;split<;>omega
 have hs:jY (decide (b<0)) a=jY (negZ a b) (absZ a):=by
  unfold jY negZ absZ
  by_cases ha:a<0<;>by_cases hb:b<0<;>simp[ha,hb]
 unfold aAr
 rw[hs]
 generalize absZ b=d at*
 generalize absZ a=n at*
 have e:∀k:Int,2*d*(q+k)=2*(d*q)+2*(d*k):=by intro k;rw[Int.mul_assoc,Int.mul_add,Int.mul_add]
 have e1:=e 1
 have e0:=e 0
 have f1:2*d* -(q+1)= -(2*d*(q+1)):=Int.mul_neg _ _
 have f0:2*d* -(q+0)= -(2*d*(q+0)):=Int.mul_neg _ _
 simp only[Int.add_zero,Int.mul_zero,Int.mul_one] at e0 e1 f0
 cases negZ a b
 ·show (2*(n*4294967296)+d)/(2*d)=qR false q r d
  unfold qR
  by_cases c:d-r<r∨(r=d-r∧(false:Bool)=false)
  ·rw[if_pos c];simp at c;exact yT Yo Yo Yo
  ·rw[if_neg c];simp at c;exact yT Yo Yo Yo
 ·show (2*(-n*4294967296)+d)/(2*d)= -(qR true q r d)
  unfold qR
  by_cases c:d-r<r∨(r=d-r∧(true:Bool)=false)
  ·rw[if_pos c];simp at c;exact yT Yo Yo Yo
  ·rw[if_neg c];simp at c;exact yT Yo Yo Yo
def yK(u u1 v1 v0 q rhat:Int):Prop:=
 0≤q∧q≤4294967297∧0≤rhat∧q*v1+rhat=u∧(u*4294967296+u1)<(v1*4294967296+v0)*(q+1)
def yZ(u u1 v1 v0 q:Int):Prop:=
 0≤q∧q<4294967296∧(v1*4294967296+v0)*q≤u*4294967296+u1∧u*4294967296+u1<(v1*4294967296+v0)*q+(v1*4294967296+v0)
theorem aJc {u u1 v1 v0 : Int} (hu0 : 0 ≤ u) (hu : u < v1 * 4294967296 + v0) (hu1 : u1 < 4294967296) (hv1 : 2147483648 ≤ v1) (h0 : 0 ≤ v0) (h1 : v0 < 4294967296) :
  yK u u1 v1 v0 (u/v1) (u-u/v1*v1):=by
 have hq0:0≤u/v1:=Int.ediv_nonneg hu0 Yo
 have e:v1*(u/v1)+u%v1=u:=Int.mul_ediv_add_emod u v1
 have m0:0≤u%v1:=Int.emod_nonneg _ Yo
 have m1:u%v1<v1:=Int.emod_lt_of_pos _ Yo
 have hq:u/v1≤4294967297:=by
  apply Int.le_of_lt_add_one
  rw[Int.ediv_lt_iff_lt_mul Yo]
  omega
 have ec:u/v1*v1=v1*(u/v1):=Int.mul_comm _ _
 refine⟨hq0,hq,Yo,Yo,?_⟩
 have h2:v0*(u/v1+1)=v0*(u/v1)+v0:=by rw[Int.mul_add,Int.mul_one]
 have h3:0≤v0*(u/v1):=Int.mul_nonneg h0 hq0
 have h4:(v1*4294967296+v0)*(u/v1+1)=v1*(u/v1)*4294967296+v1*4294967296+v0*(u/v1+1):=by
  rw[Int.add_mul,Int.mul_right_comm,Int.mul_add v1,Int.add_mul,Int.mul_one]
 omega
theorem aBw{v1 v0 q:Int}:(v1*4294967296+v0)*q=q*v1*4294967296+q*v0:=by
 rw[Int.add_mul,Int.mul_right_comm,Int.mul_comm v1 q,Int.mul_comm v0 q]
theorem aDk {u u1 v1 v0 q rhat : Int} (h : yK u u1 v1 v0 q rhat) (hu : u < v1 * 4294967296 + v0) (hu10 : 0 ≤ u1) (hu1 : u1 < 4294967296) (hv1 : 2147483648 ≤ v1) (h0 : 0 ≤ v0)
  (ht:4294967296≤q∨4294967296*rhat+u1<q*v0):yK u u1 v1 v0 (q-1) (rhat+v1)∧1≤q:=by
 obtain⟨q0,q1,r0,e,hlt⟩:=h
 have q2:1≤q:=by
  rcases ht with ht|ht
  ·omega
  ·rcases Int.lt_or_le 0 q with h|h
   ·omega
   ·have:q=0:=Yo
    subst this;simp at ht;omega
 have e2:(q-1)*v1=q*v1-v1:=by rw[Int.sub_mul,Int.one_mul]
 refine⟨⟨Yo,Yo,Yo,Yo,?_⟩,q2⟩
 have e3:q-1+1=q:=Yo
 rw[e3,aBw]
 rcases ht with ht|ht
 ·have h5:(v1*4294967296+v0)*4294967296≤(v1*4294967296+v0)*q:=Int.mul_le_mul_of_nonneg_left ht Yo
  rw[aBw (q:=q)] at h5
  omega
 ·omega
theorem aGh{u u1 v1 v0 q rhat:Int}(h:yK u u1 v1 v0 q rhat)(hq:q<4294967296)(ht:q*v0≤4294967296*rhat+u1):yZ u u1 v1 v0 q:=by
 obtain⟨q0,q1,r0,e,hlt⟩:=h
 have e4:(v1*4294967296+v0)*(q+1)=(v1*4294967296+v0)*q+(v1*4294967296+v0):=by rw[Int.mul_add,Int.mul_one]
 refine⟨q0,hq,?_,Yo⟩
 rw[aBw]
 omega
theorem aDi {u u1 v1 v0 q rhat : Int} (h : yK u u1 v1 v0 q rhat) (hu : u < v1 * 4294967296 + v0) (hu10 : 0 ≤ u1) (hu1 : u1 < 4294967296) (_hv1 : 2147483648 ≤ v1) (h0 : 0 ≤ v0) (h1 : v0 < 4294967296)
  (hq:q≤4294967296) (hr:4294967296≤rhat):yZ u u1 v1 v0 q:=by
 have hq':q<4294967296:=by
  obtain⟨q0,q1,r0,e,hlt⟩:=h
  rcases Int.lt_or_le q 4294967296 with h|h
  ·exact h
  ·have:q=4294967296:=Yo
   subst this;omega
 apply aGh h hq'
 obtain⟨q0,q1,r0,e,hlt⟩:=h
 have:=Int.mul_le_mul (show q≤4294967296 by omega) (show v0≤4294967295 by omega) h0 (by omega:(0:Int)≤4294967296)
 omega
end Go.Proofs.YtdhblehhgpdpdacGreat
