import Derived.Test.YthimcecbgpamdaaGreatDoorNear206
import Derived.Lib.BitFns
set_option maxHeartbeats 4000000
namespace Go.Proofs.YthimcecbgpamdaaGreatDoor
open Go.RowKit
theorem QZ:∀n:Fin 256,n.val<2^Lib.bitLen n.val/\(n.val≠0->2^Lib.bitLen n.val<=2*n.val):=by decide+kernel
theorem pY(y:Int)(h0:0<=y)(h1:y<=255):0<=Lib.len8 y/\Lib.len8 y<=8:=by
 rw[Lib.len8_of y h0 h1];have:=Lib.bitLen_le8' y h0 h1;omega
theorem mK(x y:Int)(b:Nat)(hb:b<=56)(h1:1<=y)(h2:y<=255)(hy:y*2^b<=x)(hx:x<(y+1)*2^b):∃k:Nat,(b:Int)+Lib.len8 y=k/\k<=64/\x<2^k/\(2:Int)^k<=2*x:=by
 obtain⟨n,rfl⟩:=Int.eq_ofNat_of_zero_le (show 0<=y by omega);have hn:n<256:=Yo;obtain⟨p1,p2⟩:=QZ ⟨n,hn⟩;have hl:=Lib.bitLen_le8 ⟨n,hn⟩;simp only at p1 p2 hl;have p3:=p2 Yo;refine⟨b+Lib.bitLen n,?_,Yo,?_,?_⟩
 .rw[Lib.len8_of _ Yo Yo,Int.toNat_natCast];omega
 .have e:((n:Int)+1)<=2^Lib.bitLen n:=by exact_mod_cast p1
  have:=Int.mul_le_mul_of_nonneg_right e (show (0:Int)<=2^b from Int.le_of_lt (Int.pow_pos Yc));rw[Int.pow_add,Int.mul_comm];omega
 .have e:(2:Int)^Lib.bitLen n<=2*n:=by exact_mod_cast p3
  have:=Int.mul_le_mul_of_nonneg_right e (show (0:Int)<=2^b from Int.le_of_lt (Int.pow_pos Yc));rw[Int.mul_assoc] at this;rw[Int.pow_add,Int.mul_comm];omega
set_option maxRecDepth 100000 in
theorem aAD(x:Int)(x0:1<=x)(x1:x<18446744073709551616)(w:World):Calls Tryz.prog 175 #[.int .u64 x] w λe w'=>∃k:Nat,e=.returned (.int .i64 k)/\k<=64/\x<2^k/\2^k<=2*x/\w'=w:=by
 by_cases a1:4294967296<=x
 .by_cases a2:65536<=x/4294967296
  .by_cases a3:256<=x/4294967296/65536
   .have y0:1<=x/4294967296/65536/256:=Yo;have y1:x/4294967296/65536/256<=255:=Yo;have hr:=λwx=>Lib.run_index_len8tab (P:=Tryz.prog) wx 9 .u8 (x/4294967296/65536/256) Tryz.underlying9 Yo y1
    obtain⟨c0,c1⟩:=pY (x/4294967296/65536/256) Yo y1;have HC:=aB (mK x (x/4294967296/65536/256) 56 Yc y0 y1 uC uC);go_enter Tryz.func175,Tryz.ntmps175
    go_wp2
    go_ret
    obtain⟨k,hk,h64,hlt,hle⟩:=aA HC;exact⟨k,by rw[<-hk];rfl,h64,hlt,hle,rfl⟩
   .have y0:1<=x/4294967296/65536:=Yo;have y1:x/4294967296/65536<=255:=Yo;have hr:=λwx=>Lib.run_index_len8tab (P:=Tryz.prog) wx 9 .u8 (x/4294967296/65536) Tryz.underlying9 Yo y1
    obtain⟨c0,c1⟩:=pY (x/4294967296/65536) Yo y1;have HC:=aB (mK x (x/4294967296/65536) 48 Yc y0 y1 uC uC);go_enter Tryz.func175,Tryz.ntmps175
    go_wp2
    go_ret
    obtain⟨k,hk,h64,hlt,hle⟩:=aA HC;exact⟨k,by rw[<-hk];rfl,h64,hlt,hle,rfl⟩
  .by_cases a3:256<=x/4294967296
   .have y0:1<=x/4294967296/256:=Yo;have y1:x/4294967296/256<=255:=Yo;have hr:=λwx=>Lib.run_index_len8tab (P:=Tryz.prog) wx 9 .u8 (x/4294967296/256) Tryz.underlying9 Yo y1
    obtain⟨c0,c1⟩:=pY (x/4294967296/256) Yo y1;have HC:=aB (mK x (x/4294967296/256) 40 Yc y0 y1 uC uC);go_enter Tryz.func175,Tryz.ntmps175
    go_wp2
    go_ret
    obtain⟨k,hk,h64,hlt,hle⟩:=aA HC;exact⟨k,by rw[<-hk];rfl,h64,hlt,hle,rfl⟩
   .have y0:1<=x/4294967296:=Yo;have y1:x/4294967296<=255:=Yo;have hr:=λwx=>Lib.run_index_len8tab (P:=Tryz.prog) wx 9 .u8 (x/4294967296) Tryz.underlying9 Yo y1
    obtain⟨c0,c1⟩:=pY (x/4294967296) Yo y1;have HC:=aB (mK x (x/4294967296) 32 Yc y0 y1 uC uC);go_enter Tryz.func175,Tryz.ntmps175
    go_wp2
    go_ret
    obtain⟨k,hk,h64,hlt,hle⟩:=aA HC;exact⟨k,by rw[<-hk];rfl,h64,hlt,hle,rfl⟩
 .by_cases a2:65536<=x
  .by_cases a3:256<=x/65536
   .have y0:1<=x/65536/256:=Yo;have y1:x/65536/256<=255:=Yo;have hr:=λwx=>Lib.run_index_len8tab (P:=Tryz.prog) wx 9 .u8 (x/65536/256) Tryz.underlying9 Yo y1
    obtain⟨c0,c1⟩:=pY (x/65536/256) Yo y1;have HC:=aB (mK x (x/65536/256) 24 Yc y0 y1 uC uC);go_enter Tryz.func175,Tryz.ntmps175
    go_wp2
    go_ret
    obtain⟨k,hk,h64,hlt,hle⟩:=aA HC;exact⟨k,by rw[<-hk];rfl,h64,hlt,hle,rfl⟩
   .have y0:1<=x/65536:=Yo;have y1:x/65536<=255:=Yo;have hr:=λwx=>Lib.run_index_len8tab (P:=Tryz.prog) wx 9 .u8 (x/65536) Tryz.underlying9 Yo y1
    obtain⟨c0,c1⟩:=pY (x/65536) Yo y1;have HC:=aB (mK x (x/65536) 16 Yc y0 y1 uC uC);go_enter Tryz.func175,Tryz.ntmps175
    go_wp2
    go_ret
    obtain⟨k,hk,h64,hlt,hle⟩:=aA HC;exact⟨k,by rw[<-hk];rfl,h64,hlt,hle,rfl⟩
  .by_cases a3:256<=x
   .have y0:1<=x/256:=Yo;have y1:x/256<=255:=Yo;have hr:=λwx=>Lib.run_index_len8tab (P:=Tryz.prog) wx 9 .u8 (x/256) Tryz.underlying9 Yo y1
    obtain⟨c0,c1⟩:=pY (x/256) Yo y1;have HC:=aB (mK x (x/256) 8 Yc y0 y1 uC uC);go_enter Tryz.func175,Tryz.ntmps175
    go_wp2
    go_ret
    obtain⟨k,hk,h64,hlt,hle⟩:=aA HC;exact⟨k,by rw[<-hk];rfl,h64,hlt,hle,rfl⟩
   .have y0:1<=x:=Yo;have y1:x<=255:=Yo;have hr:=λwx=>Lib.run_index_len8tab (P:=Tryz.prog) wx 9 .u8 (x) Tryz.underlying9 Yo y1
    obtain⟨c0,c1⟩:=pY (x) Yo y1;have HC:=aB (mK x (x) 0 Yc y0 y1 uC uC);go_enter Tryz.func175,Tryz.ntmps175
    go_wp2
    go_ret
    obtain⟨k,hk,h64,hlt,hle⟩:=aA HC;exact⟨k,by rw[<-hk];show _=Ending.returned (Value.int .i64 (0+Lib.len8 x));rw[Int.zero_add];rfl,h64,hlt,hle,rfl⟩
theorem aDK(x:Int)(x0:1<=x)(x1:x<18446744073709551616)(w:World):Calls Tryz.prog 322 #[.int .u64 x] w λe w'=>∃s:Nat,e=.returned (.int .i64 s)/\s<=63/\x*2^s<18446744073709551616/\9223372036854775808<=x*2^s/\w'=w:=by
 go_enter Tryz.func322,Tryz.ntmps322
 go_wp2_with fail
 refine (aAD x x0 x1 _).mono ?_;rintro e w1 ⟨k,rfl,h64,hlt,hle,rfl⟩;have h1:1<=k:=by
  rcases Nat.eq_zero_or_pos k with h|h
  .subst h;simp at hlt;omega
  .exact h
 have ee:(2:Int)^k*2^(64-k)=18446744073709551616:=by
  rw[<-Int.pow_add,show k+(64-k)=64 by omega];decide
 have hp:(0:Int)<2^(64-k):=Int.pow_pos Yc;have m1:=Int.mul_lt_mul_of_pos_right hlt hp;have m2:=Int.mul_le_mul_of_nonneg_right hle (Int.le_of_lt hp);rw[ee] at m1 m2;rw[Int.mul_assoc] at m2;have M1:=aB m1;have M2:=aB m2;clear m1 m2 ee hlt hle hp;go_wp2_with fail
 go_ret
 exact⟨64-k,congrArg (λz=>Ending.returned (Value.int .i64 z)) Yo,Yo,aA M1,by have:=aA M2;omega,rfl⟩
theorem ZL(hi lo y:Int)(s:Nat)(hs:s<=63)(hi0:0<=hi)(lo0:0<=lo)(lo1:lo<18446744073709551616)(hy:hi<y)(hv:y*2^s<18446744073709551616):∃u t:Int,bits .or .u64 (IntKind.u64.wrap (hi*2^s)) (lo/2^(64-s))=u/\IntKind.u64.wrap (lo*2^s)=t/\u*18446744073709551616+t=(hi*18446744073709551616+lo)*2^s/\0<=u/\u<y*2^s/\0<=t/\t<18446744073709551616:=by
 obtain⟨hi,rfl⟩:=Int.eq_ofNat_of_zero_le hi0;obtain⟨lo,rfl⟩:=Int.eq_ofNat_of_zero_le lo0;obtain⟨y,rfl⟩:=Int.eq_ofNat_of_zero_le (show 0<=y by omega);have hP:0<2^s:=Nat.two_pow_pos s;have hQ:0<2^(64-s):=Nat.two_pow_pos _;have hPQ:2^(64-s)*2^s=18446744073709551616:=by rw[<-Nat.pow_add,show 64-s+s=64 by omega]
 have cP:((2:Int)^s)=((2^s:Nat):Int):=by simp
 have cQ:((2:Int)^(64-s))=((2^(64-s):Nat):Int):=by simp
 rw[cP] at hv ⊢;rw[cQ];have hd:=Nat.div_add_mod lo (2^(64-s));have hm:=Nat.mod_lt lo hQ;have hlt:lo/2^(64-s)<2^s:=by
  rw[Nat.div_lt_iff_lt_mul hQ,Nat.mul_comm,hPQ];omega
 have h1:(hi+1)*2^s<=y*2^s:=Nat.mul_le_mul_right _ Yo;rw[Nat.add_mul,Nat.one_mul] at h1;have hv':y*2^s<18446744073709551616:=Yo;have hw:hi*2^s<18446744073709551616:=Yo;have ew:IntKind.u64.wrap ((hi:Int)*((2^s:Nat):Int))=((hi*2^s:Nat):Int):=by
  rw[<-Int.natCast_mul,IntKind.wrap_u64];omega
 have ed:(lo:Int)/((2^(64-s):Nat):Int)=((lo/2^(64-s):Nat):Int):=(Int.natCast_ediv _ _).symm;have ej:bits .or .u64 ((hi*2^s:Nat):Int) ((lo/2^(64-s):Nat):Int)=((hi*2^s+lo/2^(64-s):Nat):Int):=by
  rw[u64_or_nat _ _ hw Yo,nat_join s _ _ (Nat.mul_mod_left _ _) hlt]
 have et:IntKind.u64.wrap ((lo:Int)*((2^s:Nat):Int))=((lo%2^(64-s)*2^s:Nat):Int):=by
  have e3:lo*2^s=18446744073709551616*(lo/2^(64-s))+lo%2^(64-s)*2^s:=by
   conv=>lhs;rw[<-hd]
   rw[Nat.add_mul,Nat.mul_right_comm,hPQ]
  have e4:lo%2^(64-s)*2^s<18446744073709551616:=by
   rw[<-hPQ];exact Nat.mul_lt_mul_of_pos_right hm hP
  rw[<-Int.natCast_mul,IntKind.wrap_u64,e3];omega
 refine⟨((hi*2^s+lo/2^(64-s):Nat):Int),((lo%2^(64-s)*2^s:Nat):Int),by rw[ew,ed,ej],et,?_,Int.natCast_nonneg _,?_,Int.natCast_nonneg _,?_⟩
 .have e3:lo*2^s=18446744073709551616*(lo/2^(64-s))+lo%2^(64-s)*2^s:=by
   conv=>lhs;rw[<-hd]
   rw[Nat.add_mul,Nat.mul_right_comm,hPQ]
  have e5:(hi*18446744073709551616+lo)*2^s=hi*2^s*18446744073709551616+lo*2^s:=by
   rw[Nat.add_mul,Nat.mul_right_comm]
  have e6:(hi*2^s+lo/2^(64-s))*18446744073709551616+lo%2^(64-s)*2^s=(hi*18446744073709551616+lo)*2^s:=by
   rw[e5,e3];omega
  have e7:=congrArg (λn:Nat=>(n:Int)) e6;simp only[Int.natCast_add,Int.natCast_mul] at e7 ⊢;omega
 .have:hi*2^s+lo/2^(64-s)<y*2^s:=Yo;omega
 .have e4:lo%2^(64-s)*2^s<18446744073709551616:=by
   rw[<-hPQ];exact Nat.mul_lt_mul_of_pos_right hm hP
  omega
theorem wW{u u1 v1 v0:Int}(hu0:0<=u)(hu:u<v1*4294967296+v0)(hu1:u1<4294967296)(hv1:2147483648<=v1)(hv2:v1<4294967296)(h0:0<=v0)(h1:v0<4294967296):∃q p:Int,u/v1=q/\q*v1=p/\0<=q/\q<=4294967297/\0<=p/\p<=u/\yB u u1 v1 v0 (u/v1) (u-p)/\u-p<4294967296:=by
 have h:=ZU (u1:=u1) hu0 hu hu1 hv1 h0 h1;have h2:u%v1<v1:=Int.emod_lt_of_pos _ Yo;have h3:v1*(u/v1)+u%v1=u:=Int.mul_ediv_add_emod u v1;have h4:0<=u%v1:=Int.emod_nonneg _ Yo;rw[Int.mul_comm] at h3;have h5:=h;obtain⟨g0,g1,g2,g3,g4⟩:=h5;have h6:0<=u/v1*v1:=Int.mul_nonneg g0 Yo;exact⟨u/v1,u/v1*v1,rfl,rfl,g0,g1,h6,Yo,h,Yo⟩
theorem zK{u u1 v1 v0 q r:Int}(h:yB u u1 v1 v0 q r)(hu:u<v1*4294967296+v0)(hu10:0<=u1)(hu1:u1<4294967296)(hv1:2147483648<=v1)(h0:0<=v0)(h1:v0<4294967296):(4294967296<=q/\r+v1<4294967296/\yB u u1 v1 v0 (q-1) (r+v1))\/(q<4294967296/\1<=q/\4294967296*r+u1<q*v0/\r+v1<4294967296/\yB u u1 v1 v0 (q-1) (r+v1))\/(4294967296<=q/\4294967296<=r+v1/\yC u u1 v1 v0 (q-1))\/(q<4294967296/\1<=q/\4294967296*r+u1<q*v0/\4294967296<=r+v1/\yC u u1 v1 v0 (q-1))\/(q<4294967296/\q*v0<=4294967296*r+u1/\yC u u1 v1 v0 q):=by
 by_cases hq:4294967296<=q
 .have hr:=JB h hu hu10 hu1 hv1 h0 (Or.inl hq);have hq1:=h.2.1;by_cases hb:4294967296<=r+v1
  .exact Or.inr (Or.inr (Or.inl ⟨hq,hb,JA hr.1 hu hu10 hu1 hv1 h0 h1 Yo hb⟩))
  .exact Or.inl ⟨hq,Yo,hr.1⟩
 .by_cases ht:4294967296*r+u1<q*v0
  .have hr:=JB h hu hu10 hu1 hv1 h0 (Or.inr ht);by_cases hb:4294967296<=r+v1
   .exact Or.inr (Or.inr (Or.inr (Or.inl ⟨Yo,hr.2,ht,hb,JA hr.1 hu hu10 hu1 hv1 h0 h1 Yo hb⟩)))
   .exact Or.inr (Or.inl ⟨Yo,hr.2,ht,Yo,hr.1⟩)
  .exact Or.inr (Or.inr (Or.inr (Or.inr ⟨Yo,Yo,UB h Yo Yo⟩)))
theorem kZ{u u1 v1 v0 v q:Int}(h:yC u u1 v1 v0 q)(hv:v=v1*4294967296+v0)(hv1:v<18446744073709551616):∃z:Int,IntKind.u64.wrap (IntKind.u64.wrap (IntKind.u64.wrap (u*4294967296)+u1)-IntKind.u64.wrap (q*v))=z/\0<=z/\z<v/\z=u*4294967296+u1-q*v:=by
 obtain⟨h0,h1,h2,h3⟩:=h;rw[<-hv,Int.mul_comm v q] at h2 h3;refine⟨u*4294967296+u1-q*v,?_,Yo,Yo,rfl⟩;simp only[IntKind.wrap_u64];omega
theorem lG(N y P u t v q1 q0 z u1 u0:Int)(hP:0<P)(hv:y*P=v)(hN:u*18446744073709551616+t=N*P)(ht:t=u1*4294967296+u0)(hz:z=u*4294967296+u1-q1*v)(hr0:q0*v<=z*4294967296+u0)(hr1:z*4294967296+u0<q0*v+v):N/y=q1*4294967296+q0/\N%y=(z*4294967296+u0-q0*v)/P:=by
 have hy0:0<y:=by
  rcases Int.lt_or_le 0 y with h|h
  .exact h
  .have:y*P<=0:=Int.mul_nonpos_of_nonpos_of_nonneg h (Int.le_of_lt hP);omega
 have e1:(q1*4294967296+q0)*v=q1*v*4294967296+q0*v:=by rw[Int.add_mul,Int.mul_right_comm]
 have e2:(N-y*(q1*4294967296+q0))*P=z*4294967296+u0-q0*v:=by
  rw[Int.sub_mul, <-hN,Int.mul_right_comm,hv,Int.mul_comm v,e1];omega
 have e3:(z*4294967296+u0-q0*v)/P=N-y*(q1*4294967296+q0):=by
  rw[<-e2];exact Int.mul_ediv_cancel _ Yo
 have h0:0<=N-y*(q1*4294967296+q0):=by
  rcases Int.lt_or_le (N-y*(q1*4294967296+q0)) 0 with h|h
  .have:=Int.mul_neg_of_neg_of_pos h hP;omega
  .exact h
 have h1:N-y*(q1*4294967296+q0)<y:=by
  have:(N-y*(q1*4294967296+q0))*P<y*P:=Yo;exact Int.lt_of_mul_lt_mul_right this (Int.le_of_lt hP)
 have e4:N/y=q1*4294967296+q0:=yJ hy0 Yo Yo;refine⟨e4,?_⟩;rw[e3,Int.emod_def,e4]
theorem ZW(hi lo y:Int)(hi0:1<=hi)(lo0:0<=lo)(lo1:lo<18446744073709551616)(y1:y<18446744073709551616)(hy:hi<y)(w:World):Calls Tryz.prog 313 #[.int .u64 hi,.int .u64 lo,.int .u64 y] w λe w'=>e=.returned (.tuple #[.int .u64 ((hi*18446744073709551616+lo)/y),.int .u64 ((hi*18446744073709551616+lo)%y)])/\w'=w:=by
 have t1:(y==0)=false:=by simp;omega
 have t2:(hi==0)=false:=by simp;omega
 go_enter Tryz.func313,Tryz.ntmps313
 go_wp2_with fail
 refine (aDK y Yo y1 _).mono ?_;rintro e w1 ⟨s,rfl,s63,hs1,hs2,rfl⟩;obtain⟨u,t,eu,et,hN,u0,uv,t0,tlt⟩:=ZL hi lo y s s63 Yo lo0 lo1 hy hs1;have HN:=aB hN;have HP:=aB (show (0:Int)<2^s from Int.pow_pos Yc);have HV:Hid (y*2^s=y*2^s):=rfl;clear hN;obtain⟨v,ev⟩:∃v,y*2^s=v:=⟨_,rfl⟩;rw[ev] at hs1 hs2 uv;have HE:=aB ev;obtain⟨v1,ev1⟩:∃v1,v/4294967296=v1:=⟨_,rfl⟩;have m1:=u64_and v 4294967295 Yo hs1 Yo Yo;obtain⟨v0,ev0⟩:∃v0,bits .and .u64 v 4294967295=v0:=⟨_,rfl⟩;obtain⟨a1,ea1⟩:∃a1,t/4294967296=a1:=⟨_,rfl⟩;obtain⟨a0,ea0⟩:∃a0,bits .and .u64 t 4294967295=a0:=⟨_,rfl⟩;have bv0:v0=v%4294967296:=by rw[<-ev0];exact aAJ v Yo hs1
 have ba0:a0=t%4294967296:=by rw[<-ea0];exact aAJ t t0 tlt
 have c1:2147483648<=v1:=Yo;have c2:v1<4294967296:=Yo;have c3:0<=v0:=Yo;have c4:v0<4294967296:=Yo;have c5:0<=a1:=Yo;have c6:a1<4294967296:=Yo;have c7:0<=a0:=Yo;have c8:a0<4294967296:=Yo;have hvv:v=v1*4294967296+v0:=Yo;have HT:=aB (show t=a1*4294967296+a0 by omega);have HVV:=aB hvv;obtain⟨q,p,eq,ep,g0,g1,g2,g3,g4,g5⟩:=wW (u1:=a1) u0 (by omega:u<v1*4294967296+v0) c6 c1 c2 c3 c4;have HS:=aB g4;have HL:=aB g5;clear g4 g5 bv0 ba0 hvv m1 HV;go_wp2_with fail
 clear ep eu et eq ev1 ev0 ea1 ea0 ev g0 g1 g2 g3
 go_loop [15,16] (λqs rs=>∃q r:Int,qs=.int .u64 q/\rs=.int .u64 r/\yB u a1 v1 v0 q r/\r<4294967296) (λqs _=>(intOf qs).toNat)
 case atStart=>exact⟨_,_,rfl,rfl,aA HS,aA HL⟩
 case round=>
  obtain⟨q,r,rfl,rfl,hd,hr⟩:=hrel;have hd2:=hd;obtain⟨q0,q1,r0,qe,ql⟩:=hd2;clear qe ql;have HW:=aB (zK hd (by rw[<-aA HVV];exact uv) c5 c6 c1 c3 c4);clear hd;have m1:q*v0<=18446744073709551615:=by
   have:=Int.mul_le_mul q1 (show v0<=4294967295 by omega) c3 Yo;omega
  have m0:0<=q*v0:=Int.mul_nonneg q0 c3;rcases aA HW with ⟨k1,k2,k3⟩|⟨k1,k2,k3,k4,k5⟩|⟨k1,k2,hE⟩|⟨k1,k2,k3,k4,hE⟩|⟨k1,k2,hE⟩
  .have K3:=aB k3;clear k3 HW;go_wp2_with fail
   go_round
   case rel=>exact⟨_,_,rfl,rfl,aA K3,k2⟩
   case measure=>simp[intOf];omega
  .have K5:=aB k5;clear k5 HW;go_wp2_with fail
   go_round
   case rel=>exact⟨_,_,rfl,rfl,aA K5,k4⟩
   case measure=>simp[intOf];omega
  .obtain⟨x,ex⟩:∃x,q-1=x:=⟨_,rfl⟩;rw[ex] at hE;clear HW;obtain⟨z,ez,z0,z1,hz⟩:=kZ hE (aA HVV) hs1;have HZ:=aB hz;obtain⟨d0,d1,d2,d3⟩:=hE;clear d2 d3 hz;obtain⟨b,p2,eb,ep2,b0,b1,b2,b3,b4,b5⟩:=wW (u1:=a0) z0 (by have:=aA HVV;omega:z<v1*4294967296+v0) c8 c1 c2 c3 c4;have HS2:=aB b4;have HB:=aB eb;have HL2:=aB b5;clear b4 b5;go_wp2_with fail
   clear ep2 eb b0 b1 b2 b3 ez
   go_loop [18,16] (λqs rs=>∃q r:Int,qs=.int .u64 q/\rs=.int .u64 r/\yB z a0 v1 v0 q r/\r<4294967296) (λqs _=>(intOf qs).toNat)
   case atStart=>first|exact⟨_,_,rfl,rfl,aA HS2,aA HL2⟩|exact⟨_,_,rfl,rfl,(aA HB) ▸ aA HS2,aA HL2⟩
   case round=>
    obtain⟨q',r',rfl,rfl,hd',hr'⟩:=hrel;have hd2:=hd';obtain⟨q0',q1',r0',qe,ql⟩:=hd2;clear qe ql;have HW:=aB (zK hd' (by rw[<-aA HVV];exact z1) c7 c8 c1 c3 c4);clear hd';have m1':q'*v0<=18446744073709551615:=by
     have:=Int.mul_le_mul q1' (show v0<=4294967295 by omega) c3 Yo;omega
    have m0':0<=q'*v0:=Int.mul_nonneg q0' c3;rcases aA HW with ⟨j1,j2,j3⟩|⟨j1,j2,j3,j4,j5⟩|⟨j1,j2,hE⟩|⟨j1,j2,j3,j4,hE⟩|⟨j1,j2,hE⟩
    .have J3:=aB j3;clear j3 HW;go_wp2_with fail
     go_round
     case rel=>exact⟨_,_,rfl,rfl,aA J3,j2⟩
     case measure=>simp[intOf];omega
    .have J5:=aB j5;clear j5 HW;go_wp2_with fail
     go_round
     case rel=>exact⟨_,_,rfl,rfl,aA J5,j4⟩
     case measure=>simp[intOf];omega
    .obtain⟨x',ex'⟩:∃x',q'-1=x':=⟨_,rfl⟩;rw[ex'] at hE;clear HW;obtain⟨R,eR,R0,R1,hR⟩:=kZ hE (aA HVV) hs1;obtain⟨f1,f2⟩:=lG (hi*18446744073709551616+lo) y (2^s) u t v x x' z a1 a0 (aA HP) (aA HE) (aA HN) (aA HT) (aA HZ) Yo Yo;rw[<-hR] at f2;have F1:=aB f1;have F2:=aB f2;obtain⟨e0,e1,e2,e3⟩:=hE;clear e2 e3 hR f1 f2;go_wp2_with fail
     go_ret2
     exact⟨by rw[aA F1,aA F2];rfl,rfl⟩
    .obtain⟨x',ex'⟩:∃x',q'-1=x':=⟨_,rfl⟩;rw[ex'] at hE;clear HW;obtain⟨R,eR,R0,R1,hR⟩:=kZ hE (aA HVV) hs1;obtain⟨f1,f2⟩:=lG (hi*18446744073709551616+lo) y (2^s) u t v x x' z a1 a0 (aA HP) (aA HE) (aA HN) (aA HT) (aA HZ) Yo Yo;rw[<-hR] at f2;have F1:=aB f1;have F2:=aB f2;obtain⟨e0,e1,e2,e3⟩:=hE;clear e2 e3 hR f1 f2;go_wp2_with fail
     go_ret2
     exact⟨by rw[aA F1,aA F2];rfl,rfl⟩
    .obtain⟨x',hx'⟩:∃x',x'=q':=⟨_,rfl⟩;subst hx';clear HW;obtain⟨R,eR,R0,R1,hR⟩:=kZ hE (aA HVV) hs1;obtain⟨f1,f2⟩:=lG (hi*18446744073709551616+lo) y (2^s) u t v x x' z a1 a0 (aA HP) (aA HE) (aA HN) (aA HT) (aA HZ) Yo Yo;rw[<-hR] at f2;have F1:=aB f1;have F2:=aB f2;obtain⟨e0,e1,e2,e3⟩:=hE;clear e2 e3 hR f1 f2;go_wp2_with fail
     go_ret2
     exact⟨by rw[aA F1,aA F2];rfl,rfl⟩
  .obtain⟨x,ex⟩:∃x,q-1=x:=⟨_,rfl⟩;rw[ex] at hE;clear HW;obtain⟨z,ez,z0,z1,hz⟩:=kZ hE (aA HVV) hs1;have HZ:=aB hz;obtain⟨d0,d1,d2,d3⟩:=hE;clear d2 d3 hz;obtain⟨b,p2,eb,ep2,b0,b1,b2,b3,b4,b5⟩:=wW (u1:=a0) z0 (by have:=aA HVV;omega:z<v1*4294967296+v0) c8 c1 c2 c3 c4;have HS2:=aB b4;have HB:=aB eb;have HL2:=aB b5;clear b4 b5;go_wp2_with fail
   clear ep2 eb b0 b1 b2 b3 ez
   go_loop [18,16] (λqs rs=>∃q r:Int,qs=.int .u64 q/\rs=.int .u64 r/\yB z a0 v1 v0 q r/\r<4294967296) (λqs _=>(intOf qs).toNat)
   case atStart=>first|exact⟨_,_,rfl,rfl,aA HS2,aA HL2⟩|exact⟨_,_,rfl,rfl,(aA HB) ▸ aA HS2,aA HL2⟩
   case round=>
    obtain⟨q',r',rfl,rfl,hd',hr'⟩:=hrel;have hd2:=hd';obtain⟨q0',q1',r0',qe,ql⟩:=hd2;clear qe ql;have HW:=aB (zK hd' (by rw[<-aA HVV];exact z1) c7 c8 c1 c3 c4);clear hd';have m1':q'*v0<=18446744073709551615:=by
     have:=Int.mul_le_mul q1' (show v0<=4294967295 by omega) c3 Yo;omega
    have m0':0<=q'*v0:=Int.mul_nonneg q0' c3;rcases aA HW with ⟨j1,j2,j3⟩|⟨j1,j2,j3,j4,j5⟩|⟨j1,j2,hE⟩|⟨j1,j2,j3,j4,hE⟩|⟨j1,j2,hE⟩
    .have J3:=aB j3;clear j3 HW;go_wp2_with fail
     go_round
     case rel=>exact⟨_,_,rfl,rfl,aA J3,j2⟩
     case measure=>simp[intOf];omega
    .have J5:=aB j5;clear j5 HW;go_wp2_with fail
     go_round
     case rel=>exact⟨_,_,rfl,rfl,aA J5,j4⟩
     case measure=>simp[intOf];omega
    .obtain⟨x',ex'⟩:∃x',q'-1=x':=⟨_,rfl⟩;rw[ex'] at hE;clear HW;obtain⟨R,eR,R0,R1,hR⟩:=kZ hE (aA HVV) hs1;obtain⟨f1,f2⟩:=lG (hi*18446744073709551616+lo) y (2^s) u t v x x' z a1 a0 (aA HP) (aA HE) (aA HN) (aA HT) (aA HZ) Yo Yo;rw[<-hR] at f2;have F1:=aB f1;have F2:=aB f2;obtain⟨e0,e1,e2,e3⟩:=hE;clear e2 e3 hR f1 f2;go_wp2_with fail
     go_ret2
     exact⟨by rw[aA F1,aA F2];rfl,rfl⟩
    .obtain⟨x',ex'⟩:∃x',q'-1=x':=⟨_,rfl⟩;rw[ex'] at hE;clear HW;obtain⟨R,eR,R0,R1,hR⟩:=kZ hE (aA HVV) hs1;obtain⟨f1,f2⟩:=lG (hi*18446744073709551616+lo) y (2^s) u t v x x' z a1 a0 (aA HP) (aA HE) (aA HN) (aA HT) (aA HZ) Yo Yo;rw[<-hR] at f2;have F1:=aB f1;have F2:=aB f2;obtain⟨e0,e1,e2,e3⟩:=hE;clear e2 e3 hR f1 f2;go_wp2_with fail
     go_ret2
     exact⟨by rw[aA F1,aA F2];rfl,rfl⟩
    .obtain⟨x',hx'⟩:∃x',x'=q':=⟨_,rfl⟩;subst hx';clear HW;obtain⟨R,eR,R0,R1,hR⟩:=kZ hE (aA HVV) hs1;obtain⟨f1,f2⟩:=lG (hi*18446744073709551616+lo) y (2^s) u t v x x' z a1 a0 (aA HP) (aA HE) (aA HN) (aA HT) (aA HZ) Yo Yo;rw[<-hR] at f2;have F1:=aB f1;have F2:=aB f2;obtain⟨e0,e1,e2,e3⟩:=hE;clear e2 e3 hR f1 f2;go_wp2_with fail
     go_ret2
     exact⟨by rw[aA F1,aA F2];rfl,rfl⟩
  .obtain⟨x,hx⟩:∃x,x=q:=⟨_,rfl⟩;subst hx;clear HW;obtain⟨z,ez,z0,z1,hz⟩:=kZ hE (aA HVV) hs1;have HZ:=aB hz;obtain⟨d0,d1,d2,d3⟩:=hE;clear d2 d3 hz;obtain⟨b,p2,eb,ep2,b0,b1,b2,b3,b4,b5⟩:=wW (u1:=a0) z0 (by have:=aA HVV;omega:z<v1*4294967296+v0) c8 c1 c2 c3 c4;have HS2:=aB b4;have HB:=aB eb;have HL2:=aB b5;clear b4 b5;go_wp2_with fail
   clear ep2 eb b0 b1 b2 b3 ez
   go_loop [18,16] (λqs rs=>∃q r:Int,qs=.int .u64 q/\rs=.int .u64 r/\yB z a0 v1 v0 q r/\r<4294967296) (λqs _=>(intOf qs).toNat)
   case atStart=>first|exact⟨_,_,rfl,rfl,aA HS2,aA HL2⟩|exact⟨_,_,rfl,rfl,(aA HB) ▸ aA HS2,aA HL2⟩
   case round=>
    obtain⟨q',r',rfl,rfl,hd',hr'⟩:=hrel;have hd2:=hd';obtain⟨q0',q1',r0',qe,ql⟩:=hd2;clear qe ql;have HW:=aB (zK hd' (by rw[<-aA HVV];exact z1) c7 c8 c1 c3 c4);clear hd';have m1':q'*v0<=18446744073709551615:=by
     have:=Int.mul_le_mul q1' (show v0<=4294967295 by omega) c3 Yo;omega
    have m0':0<=q'*v0:=Int.mul_nonneg q0' c3;rcases aA HW with ⟨j1,j2,j3⟩|⟨j1,j2,j3,j4,j5⟩|⟨j1,j2,hE⟩|⟨j1,j2,j3,j4,hE⟩|⟨j1,j2,hE⟩
    .have J3:=aB j3;clear j3 HW;go_wp2_with fail
     go_round
     case rel=>exact⟨_,_,rfl,rfl,aA J3,j2⟩
     case measure=>simp[intOf];omega
    .have J5:=aB j5;clear j5 HW;go_wp2_with fail
     go_round
     case rel=>exact⟨_,_,rfl,rfl,aA J5,j4⟩
     case measure=>simp[intOf];omega
    .obtain⟨x',ex'⟩:∃x',q'-1=x':=⟨_,rfl⟩;rw[ex'] at hE;clear HW;obtain⟨R,eR,R0,R1,hR⟩:=kZ hE (aA HVV) hs1;obtain⟨f1,f2⟩:=lG (hi*18446744073709551616+lo) y (2^s) u t v x x' z a1 a0 (aA HP) (aA HE) (aA HN) (aA HT) (aA HZ) Yo Yo;rw[<-hR] at f2;have F1:=aB f1;have F2:=aB f2;obtain⟨e0,e1,e2,e3⟩:=hE;clear e2 e3 hR f1 f2;go_wp2_with fail
     go_ret2
     exact⟨by rw[aA F1,aA F2];rfl,rfl⟩
    .obtain⟨x',ex'⟩:∃x',q'-1=x':=⟨_,rfl⟩;rw[ex'] at hE;clear HW;obtain⟨R,eR,R0,R1,hR⟩:=kZ hE (aA HVV) hs1;obtain⟨f1,f2⟩:=lG (hi*18446744073709551616+lo) y (2^s) u t v x x' z a1 a0 (aA HP) (aA HE) (aA HN) (aA HT) (aA HZ) Yo Yo;rw[<-hR] at f2;have F1:=aB f1;have F2:=aB f2;obtain⟨e0,e1,e2,e3⟩:=hE;clear e2 e3 hR f1 f2;go_wp2_with fail
     go_ret2
     exact⟨by rw[aA F1,aA F2];rfl,rfl⟩
    .obtain⟨x',hx'⟩:∃x',x'=q':=⟨_,rfl⟩;subst hx';clear HW;obtain⟨R,eR,R0,R1,hR⟩:=kZ hE (aA HVV) hs1;obtain⟨f1,f2⟩:=lG (hi*18446744073709551616+lo) y (2^s) u t v x x' z a1 a0 (aA HP) (aA HE) (aA HN) (aA HT) (aA HZ) Yo Yo;rw[<-hR] at f2;have F1:=aB f1;have F2:=aB f2;obtain⟨e0,e1,e2,e3⟩:=hE;clear e2 e3 hR f1 f2;go_wp2_with fail
     go_ret2
     exact⟨by rw[aA F1,aA F2];rfl,rfl⟩
theorem ND(n:Int):n/4294967296*18446744073709551616+IntKind.u64.wrap (n*4294967296)=n*4294967296/\0<=IntKind.u64.wrap (n*4294967296)/\IntKind.u64.wrap (n*4294967296)<18446744073709551616:=by
 rw[IntKind.wrap_u64];omega
theorem aAd(n d:Int)(n0:0<=n)(n1:n<=9223372036854775808)(d1:1<=d)(h:n/4294967296<d):∃q r:Int,n*4294967296/d=q/\n*4294967296%d=r/\n*4294967296=d*q+r/\0<=r/\r<d/\0<=q/\q<18446744073709551616/\(d-r<=r->q<18446744073709551615):=by
 have e:d*(n*4294967296/d)+n*4294967296%d=n*4294967296:=Int.mul_ediv_add_emod _ _;have r0:0<=n*4294967296%d:=Int.emod_nonneg _ Yo;have r1:n*4294967296%d<d:=Int.emod_lt_of_pos _ Yo;have q0:0<=n*4294967296/d:=Int.ediv_nonneg Yo Yo;refine⟨_,_,rfl,rfl,e.symm,r0,r1,q0,?_,?_⟩
 .rcases Int.lt_or_le (n*4294967296/d) 18446744073709551616 with h1|h1
  .exact h1
  .have:=Int.mul_le_mul_of_nonneg_left h1 (show 0<=d by omega);omega
 .intro hr;rcases Int.lt_or_le (n*4294967296/d) 18446744073709551615 with h1|h1
  .exact h1
  .have:=Int.mul_le_mul_of_nonneg_left h1 (show 0<=d by omega);omega
theorem SA(n d q r:Int)(d1:1<=d)(h:d<=n/4294967296)(e:n*4294967296=d*q+r)(r1:r<d):18446744073709551616<=q:=by
 rcases Int.lt_or_le q 18446744073709551616 with h1|h1
 .have:=Int.mul_le_mul_of_nonneg_left (show q<=18446744073709551615 by omega) (show 0<=d by omega);omega
 .exact h1
end Go.Proofs.YthimcecbgpamdaaGreatDoor
