import Derived.Test.YthimcecbgpamdaaGreatBigDiv3
set_option maxHeartbeats 1000000
namespace Go.Proofs.YthimcecbgpamdaaGreat
open Go.RowKit
theorem aJk(X Y:Int)(h0:0<=X)(hY:0<Y):uE X Y:=by
 rcases Int.lt_or_le X Y with h|h
 .exact TI X Y h0 h
 .rcases Int.lt_or_le X 18446744073709551616 with h1|h1
  .exact OM X Y h0 hY h1
  .rcases Int.lt_or_le Y 4294967296 with h2|h2
   .exact div_one X Y hY h1 h2
   .exact aHZ X Y h2 h h1
theorem MZ(x y:Int)(hy:y≠0):uE (absZ x) (absZ y):=aJk _ _ (by unfold absZ;split<;>omega) (by unfold absZ;split<;>omega)
variable{a:Int}
theorem WN{b:Int}(ha:R64 a)(hb:R64 b):absZ (a*b+2147483648)<4294967296^5:=by
 have h:=AO ha hb;have e:absZ (a*b)=absZ a*absZ b:=by
  unfold absZ;have h1:a<0->b<0->0<a*b:=λx y=>Int.mul_pos_of_neg_of_neg x y
  have h2:a<0->0<=b->a*b<=0:=λx y=>Int.mul_nonpos_of_nonpos_of_nonneg (Int.le_of_lt x) y
  have h3:0<=a->b<0->a*b<=0:=λx y=>Int.mul_nonpos_of_nonneg_of_nonpos x (Int.le_of_lt y)
  have h4:0<=a->0<=b->0<=a*b:=λx y=>Int.mul_nonneg x y
  by_cases ha:a<0<;>by_cases hb:b<0
  .have:=h1 ha hb;rw[if_neg Yo,if_pos ha,if_pos hb,Int.neg_mul_neg]
  .have:=h2 ha Yo;rw[if_pos ha,if_neg hb,Int.neg_mul];split<;>omega
  .have:=h3 Yo hb;rw[if_neg ha,if_pos hb,Int.mul_neg];split<;>omega
  .have:=h4 Yo Yo;rw[if_neg Yo,if_neg ha,if_neg hb]
 have h2:=Q7 (a*b) 2147483648;have e2:absZ 2147483648=2147483648:=rfl;rw[e,e2] at h2;have e5:(4294967296:Int)^5=1461501637330902918203684832716283019655932542976:=by decide
 omega
theorem aBh(a b:Int)(ha:R64 a)(hb:R64 b)(w:World):Calls Tryz.prog 144 #[.int .i64 a,.int .i64 b] w λe w'=>e=.returned (.tuple #[.int .i64 (gM (vR a b)),.bool (gK (vR a b))])/\Below w.heap.size w w':=by
 have HA:=aB ha;have HB:=aB hb;have D:=aB (show Bd (a*b+2147483648) from uY (WN ha hb) Yc);have D0:=aB (show Bd (a*b) from uY (k:=6) (by
  have h:=WN ha hb;have h2:=UY (a*b+2147483648) 2147483648;have e2:absZ 2147483648=2147483648:=rfl;have e5:(4294967296:Int)^5=1461501637330902918203684832716283019655932542976:=by decide
  have e6:(4294967296:Int)^6=6277101735386680763835789423207666416102355444464034512896:=by decide
  rw[e2,show a*b+2147483648-2147483648=a*b by omega] at h2;omega) Yc)
 have DQ:=aB (show Bd (vR a b) from IR (aA D) (by
  unfold vR absZ;split<;>split<;>omega))
 have HDv:=aB (MZ (a*b+2147483648) 4294967296 Yc);clear ha hb;go_enter Tryz.func144,Tryz.ntmps144
 go_wp2_with fail
 refine (jI a (aA HA) _).mono ?_;rintro e w1 ⟨b1,rfl,hb1,n1,k1⟩;have N1:=aB n1;have K1:=aB k1;clear n1 k1 hb1;go_wp2_with fail
 refine (jI b (aA HB) _).mono ?_;rintro e w2 ⟨b2,rfl,hb2,n2,k2⟩;have N2:=aB n2;have K2:=aB k2;clear n2 k2 hb2;have HW:=aB (show Below w.heap.size w w2 from by
  have h1:=eB (eO w _) (aA K1) (by simp);exact eB h1 (aA K2) h1.size)
 go_wp2_with fail
 refine (aBT w.heap.size b1 b2 a b _ _ _ (((jS w).below (aA K1)).below (aA K2)) ((aA N1).below (aA K2)) (aA N2) (qY (aA HA)) (qY (aA HB))).mono ?_;rintro e w3 ⟨rfl,n3,k3⟩;have N3:=aB n3;have HW3:=aB (jE (aA HW) k3 (Xr _));clear n3 k3;go_wp2_with fail
 refine (OB 31 Yc _).mono ?_;rintro e w4 ⟨b4,rfl,hb4,n4,k4⟩;have N4:=aB (show Num w4 b4 2147483648 from n4);have N3':=aB ((aA N3).below k4);have HW4:=aB (eB (aA HW3) k4 (aA HW3).size);clear n4 k4 hb4;obtain⟨sz,vz,iz⟩:=(aA N3').intAt;have IZ:=aB iz;clear iz;go_wp2_with fail
 refine (qP w.heap.size w.heap.size b4 (a*b) 2147483648 _ _ _ (aA IZ) (aA N3') (aA N4) (aA D0) (qY (by unfold R64;omega))).mono ?_;rintro e w5 ⟨rfl,n5,k5⟩;have N5:=aB n5;have HW5:=aB (jE (aA HW4) k5 (Xr _));clear n5 k5;go_wp2_with fail
 refine (OB 32 Yc _).mono ?_;rintro e w6 ⟨b6,rfl,hb6,n6,k6⟩;have N6:=aB (show Num w6 b6 4294967296 from n6);have N5':=aB ((aA N5).below k6);have HW6:=aB (eB (aA HW5) k6 (aA HW5).size);clear n6 k6 hb6;go_wp2_with fail
 refine (L8 w.heap.size b6 _ 4294967296 _ (aA N5') (aA N6) (aA D) (qY (by unfold R64;omega)) Yc (aA HDv)).mono ?_;rintro e w7 ⟨b7,rfl,n7,k7⟩;have N7:=aB (show Num w7 b7 (vR a b) from n7);have HW7:=aB (eB (aA HW6) k7 (aA HW6).size);clear n7 k7;go_wp2_with fail
 refine (rE _ _ _ (aA N7) (aA DQ)).mono ?_;rintro e w8 ⟨rfl,rfl⟩;go_wp2_with fail
 go_ret2
 exact⟨rfl,aA HW7⟩
abbrev rW(w:World)(b:Nat)(x:Bool):Prop:=BlAt 176 w b x
theorem CS(b:Nat)(x:Bool)(n:Int)(y:Bool)(w:World)(h:rW w b x):Calls Tryz.prog 142 #[.pointer (some ⟨b,0,none⟩),.int .i64 n,.bool y] w λe w'=>e=.returned (.int .i64 n)/\rW w' b (x||y)/\Kept b w w':=by
 have c0:=h.cell0;have f0:=h.free 0;have H:=aB h;clear h
 cases y
 .go_enter Tryz.func142,Tryz.ntmps142
  go_wp2_with fail
  go_ret
  refine⟨rfl,?_,BB _ _⟩;rw[Bool.or_false];exact aA H
 .go_enter Tryz.func142,Tryz.ntmps142
  go_wp2_with fail
  go_ret
  refine⟨rfl,?_,bG _ _ _ _⟩;rw[Bool.or_true];exact (aA H).set _
def aHE(k:Nat)(g:Int->Int->Int):Prop:=∀(b:Nat) (x:Bool) (a c:Int) (w:World),R64 a->R64 c->rW w b x->
 Calls Tryz.prog k #[.pointer (some ⟨b,0,none⟩),.int .i64 a,.int .i64 c] w λe w'=>
  e=.returned (.int .i64 (gM (g a c)))/\rW w' b (x||gK (g a c))/\Kept b w w'
theorem aHY:aHE 116 (λa c=>a+c):=by
 intro b x a c w ha hc h;have HA:=aB ha;have HC:=aB hc;have H:=aB h;clear ha hc h;go_enter Tryz.func116,Tryz.ntmps116
 go_wp2_with fail
 refine (aBB a c (aA HA) (aA HC) _).mono ?_;rintro e w1 ⟨rfl,k1⟩;have H1:=aB ((aA H).below k1);have K1:=aB k1;clear k1;go_wp2_with fail
 refine (CS b x _ _ _ (aA H1)).mono ?_;rintro e w2 ⟨rfl,h2,k2⟩;have H2:=aB h2;have K2:=aB ((Kept.of_below (z:=b) (aA K1)).trans k2 (Or.inl rfl));clear h2 k2;go_wp2_with fail
 go_ret
 exact⟨rfl,aA H2,aA K2⟩
theorem aHG:aHE 115 (λa c=>a-c):=by
 intro b x a c w ha hc h;have HA:=aB ha;have HC:=aB hc;have H:=aB h;clear ha hc h;go_enter Tryz.func115,Tryz.ntmps115
 go_wp2_with fail
 refine (aBY a c (aA HA) (aA HC) _).mono ?_;rintro e w1 ⟨rfl,k1⟩;have H1:=aB ((aA H).below k1);have K1:=aB k1;clear k1;go_wp2_with fail
 refine (CS b x _ _ _ (aA H1)).mono ?_;rintro e w2 ⟨rfl,h2,k2⟩;have H2:=aB h2;have K2:=aB ((Kept.of_below (z:=b) (aA K1)).trans k2 (Or.inl rfl));clear h2 k2;go_wp2_with fail
 go_ret
 exact⟨rfl,aA H2,aA K2⟩
theorem aHq:aHE 117 vR:=by
 intro b x a c w ha hc h;have HA:=aB ha;have HC:=aB hc;have H:=aB h;clear ha hc h;go_enter Tryz.func117,Tryz.ntmps117
 go_wp2_with fail
 refine (aBh a c (aA HA) (aA HC) _).mono ?_;rintro e w1 ⟨rfl,k1⟩;have H1:=aB ((aA H).below k1);have K1:=aB k1;clear k1;go_wp2_with fail
 refine (CS b x _ _ _ (aA H1)).mono ?_;rintro e w2 ⟨rfl,h2,k2⟩;have H2:=aB h2;have K2:=aB ((Kept.of_below (z:=b) (aA K1)).trans k2 (Or.inl rfl));clear h2 k2;go_wp2_with fail
 go_ret
 exact⟨rfl,aA H2,aA K2⟩
theorem YI(a:Int)(w:World):Calls Tryz.prog 145 #[.int .i64 a,.int .i64 0] w λe w'=>e=.returned (.tuple #[.int .i64 (fH a 0),.bool (vT a 0)])/\w'=w:=by
 have e1:fH a 0=uZ a:=if_pos rfl;have e2:vT a 0=true:=if_pos rfl;rw[e1,e2];clear e1 e2;rcases Int.lt_trichotomy a 0 with h|h|h
 .have e3:uZ a= -9223372036854775808:=by unfold uZ;rw[if_neg Yo,Xt h];rfl
  rw[e3];clear e3;go_enter Tryz.func145,Tryz.ntmps145
  go_wp2_with fail
  go_ret2
  exact⟨rfl,rfl⟩
 .subst h;go_enter Tryz.func145,Tryz.ntmps145
  go_wp2_with fail
  go_ret2
  exact⟨rfl,rfl⟩
 .have e3:uZ a=9223372036854775807:=by unfold uZ;rw[if_neg Yo,Xf (show ¬a<0 by omega)];rfl
  rw[e3];clear e3;go_enter Tryz.func145,Tryz.ntmps145
  go_wp2_with fail
  go_ret2
  exact⟨rfl,rfl⟩
theorem P7{x:Int}(h:0<=x):absZ x=x:=if_neg Yo
theorem WS(b:Int):absZ (absZ b)=absZ b:=P7 (by unfold absZ;split<;>omega)
theorem aCB(n:Int){d:Int}(hd:0<d):absZ (n/d)<=absZ n:=by
 rcases Int.lt_or_le n 0 with h|h
 .have q1:n/d<0:=Int.ediv_neg_of_neg_of_pos h hd;have q2:n<=n/d:=by
   rw[Int.le_ediv_iff_mul_le hd];have:=Int.mul_le_mul_of_nonneg_left (show 1<=d by omega) (show 0<= -n by omega);rw[Int.neg_mul,Int.neg_mul,Int.mul_one] at this;omega
  unfold absZ;rw[if_pos q1,if_pos h];omega
 .rw[P7 h,P7 (Int.ediv_nonneg h Yo)];exact Int.ediv_le_self _ h
theorem AC(ha:R64 a):absZ (a*8589934592)<4294967296^4:=by
 have h1:=iY ha;have e:(4294967296:Int)^4=340282366920938463463374607431768211456:=by decide
 unfold absZ at*;split at h1<;>split<;>omega
theorem aBm(a b:Int)(ha:R64 a)(hb:R64 b)(hz:b≠0)(w:World):Calls Tryz.prog 145 #[.int .i64 a,.int .i64 b] w λe w'=>e=.returned (.tuple #[.int .i64 (fH a b),.bool (vT a b)])/\Below w.heap.size w w':=by
 have E1:fH a b=gM (rO a b):=if_neg hz;have E2:vT a b=gK (rO a b):=if_neg hz;rw[E1,E2];clear E1 E2;have HA:=aB ha;have HB:=aB hb;have AB:=aB (iY hb);have DN:=aB (show Bd (a*8589934592) from uY (AC ha) Yc);have hzb:(b==0)=false:=by simp;exact hz
 obtain⟨b1',b2'⟩:=hb;obtain⟨n0,en0⟩:∃n0,cZ (decide (b<0)) a*8589934592+absZ b=n0:=⟨_,rfl⟩;have D:=aB (show Bd n0 from uY (k:=5) (by
  have h1:=AC ha;have h2:=iY ⟨b1',b2'⟩;have h3:absZ (cZ (decide (b<0)) a*8589934592)=absZ (a*8589934592):=by
   unfold cZ absZ;split
   .rw[Int.neg_mul];split<;>split<;>omega
   .rfl
  have h4:=Q7 (cZ (decide (b<0)) a*8589934592) (absZ b);have h5:=WS b;rw[en0,h3,h5] at h4;have e:(4294967296:Int)^4=340282366920938463463374607431768211456:=by decide
  have e5:(4294967296:Int)^5=1461501637330902918203684832716283019655932542976:=by decide
  omega) Yc)
 have hab:0<absZ b:=by unfold absZ;split<;>omega
 have EQ:=aB (show rO a b=n0/(absZ b*2) from by
  unfold rO;rw[<-en0,Int.mul_comm 2 (absZ b)]
  congr 1
  omega)
 have DQ:=aB (show Bd (rO a b) from by
  rw[aA EQ];exact IR (aA D) (aCB n0 Yo))
 have HDv:=aB (MZ n0 (absZ b*2) Yo);have DB:=aB (show Bd (absZ b) from uY (k:=2) (by
  have h5:=WS b;have:=aA AB;rw[h5];show _<(18446744073709551616:Int);omega) Yc)
 have DB2:=aB (show Bd (absZ b*2) from uY (k:=3) (by
  have h5:absZ (absZ b*2)=absZ b*2:=P7 Yo;have:=aA AB;rw[h5];show _<(79228162514264337593543950336:Int);omega) Yc)
 have P:=aB hab;clear ha hab;rcases Int.lt_or_le b 0 with h|h
 .have EA:=aB (show -(a*8589934592)=cZ (decide (b<0)) a*8589934592 by rw[Xt h];show _= -a*8589934592;omega);have EB:=aB (show -b=absZ b by unfold absZ;rw[if_pos h]);have EN:=aB en0;clear en0;go_enter Tryz.func145,Tryz.ntmps145
  go_wp2_with fail
  refine (jI a (aA HA) _).mono ?_;rintro e w1 ⟨b1,rfl,hb1,n1,k1⟩;have N1:=aB n1;have K1:=aB k1;clear n1 k1 hb1;go_wp2_with fail
  refine (A8 w.heap.size b1 33 a Yc _ _ _ ((jS w).below (aA K1)) (aA N1) (qY (aA HA))).mono ?_;rintro e w2 ⟨rfl,n2,k2⟩;have N2:=aB (show Num w2 w.heap.size (a*8589934592) from n2);have HW2:=aB (jE (eB (eO w _) (aA K1) (by simp)) k2 (Xr _));clear n2 k2;go_wp2_with fail
  refine (jI b (aA HB) _).mono ?_;rintro e w3 ⟨b3,rfl,hb3,n3,k3⟩;have N3:=aB n3;have L3:=aB hb3;have N2':=aB ((aA N2).below k3);have HW3:=aB (eB (aA HW2) k3 (aA HW2).size);have NE:=aB (show b3≠w.heap.size from by have:=(aA N2).lt;omega);have GE:=aB (show w.heap.size<=b3 from by have:=(aA N2).lt;omega);clear n3 k3 hb3;obtain⟨sz,vz,iz⟩:=(aA N2').intAt;have IZ:=aB iz;clear iz;go_wp2_with fail
  refine (ZY w.heap.size w.heap.size _ _ _ _ (aA IZ) (aA N2') (aA DN)).mono ?_;rintro e w4 ⟨rfl,n4,k4⟩;have N4:=aB (show Num w4 w.heap.size (cZ (decide (b<0)) a*8589934592) from by rw[<-aA EA];exact n4);have N3':=aB ((aA N3).other k4 (aA NE) (aA IZ));have HW4:=aB (jE (aA HW3) k4 (Xr _));clear n4 k4;obtain⟨sd,vd,id⟩:=(aA N3').intAt;have ID:=aB id;clear id;go_wp2_with fail
  refine (ZY b3 b3 _ _ _ _ (aA ID) (aA N3') (qY (aA HB))).mono ?_;rintro e w5 ⟨rfl,n5,k5⟩;have N5:=aB (show Num w5 b3 (absZ b) from by rw[<-aA EB];exact n5);have N4':=aB ((aA N4).other k5 (λh=>aA NE h.symm) (aA ID));have HW5:=aB (jE (aA HW4) k5 (aA GE));clear n5 k5;have DA:=aB (show Bd (cZ (decide (b<0)) a*8589934592) from by rw[<-aA EA];exact IR (aA DN) (by unfold absZ;split<;>split<;>omega));obtain⟨sy,vy,iy⟩:=(aA N4').intAt;have IY:=aB iy;clear iy;go_wp2_with fail
  refine (qP w.heap.size w.heap.size b3 _ (absZ b) _ _ _ (aA IY) (aA N4') (aA N5) (aA DA) (aA DB)).mono ?_;rintro e w6 ⟨rfl,n6,k6⟩;have N6:=aB (show Num w6 w.heap.size n0 from by rw[<-aA EN];exact n6);have N5':=aB ((aA N5).other k6 (aA NE) (aA IY));have HW6:=aB (jE (aA HW5) k6 (Xr _));clear n6 k6;go_wp2_with fail
  refine (A8 w6.heap.size b3 1 _ Yc _ _ _ (jS w6) ((aA N5').below (eO w6 _)) (aA DB)).mono ?_;rintro e w7 ⟨rfl,n7,k7⟩;have N7:=aB (show Num w7 w6.heap.size (absZ b*2) from n7);have B7:=aB (uB k7);have N6':=aB ((aA N6).below (aA B7));have HW7:=aB (eB (aA HW6) (aA B7) (aA HW6).size);clear n7 k7;go_wp2_with fail
  refine (L8 w.heap.size w6.heap.size n0 (absZ b*2) _ (aA N6') (aA N7) (aA D) (aA DB2) (by have:=aA P;omega) (aA HDv)).mono ?_;rintro e w8 ⟨b8,rfl,n8,k8⟩;have N8:=aB (show Num w8 b8 (rO a b) from by rw[aA EQ];exact n8);have HW8:=aB (eB (aA HW7) k8 (aA HW7).size);clear n8 k8;go_wp2_with fail
  refine (rE _ _ _ (aA N8) (aA DQ)).mono ?_;rintro e w9 ⟨rfl,rfl⟩;go_wp2_with fail
  go_ret2
  exact⟨rfl,aA HW8⟩
 .have EA:=aB (show a*8589934592=cZ (decide (b<0)) a*8589934592 by rw[Xf (show ¬b<0 by omega)];rfl);have EB:=aB (show b=absZ b by unfold absZ;rw[if_neg (show ¬b<0 by omega)]);have EN:=aB en0;clear en0;go_enter Tryz.func145,Tryz.ntmps145
  go_wp2_with fail
  refine (jI a (aA HA) _).mono ?_;rintro e w1 ⟨b1,rfl,hb1,n1,k1⟩;have N1:=aB n1;have K1:=aB k1;clear n1 k1 hb1;go_wp2_with fail
  refine (A8 w.heap.size b1 33 a Yc _ _ _ ((jS w).below (aA K1)) (aA N1) (qY (aA HA))).mono ?_;rintro e w2 ⟨rfl,n2,k2⟩;have N2:=aB (show Num w2 w.heap.size (a*8589934592) from n2);have HW2:=aB (jE (eB (eO w _) (aA K1) (by simp)) k2 (Xr _));clear n2 k2;go_wp2_with fail
  refine (jI b (aA HB) _).mono ?_;rintro e w3 ⟨b3,rfl,hb3,n3,k3⟩;have N3:=aB n3;have L3:=aB hb3;have N2':=aB ((aA N2).below k3);have HW3:=aB (eB (aA HW2) k3 (aA HW2).size);have NE:=aB (show b3≠w.heap.size from by have:=(aA N2).lt;omega);have GE:=aB (show w.heap.size<=b3 from by have:=(aA N2).lt;omega);clear n3 k3 hb3;have N5:=aB (show Num w3 b3 (absZ b) from by rw[<-aA EB];exact aA N3);have N4':=aB (show Num w3 w.heap.size (cZ (decide (b<0)) a*8589934592) from by rw[<-aA EA];exact aA N2');have HW5:=aB (aA HW3);have DA:=aB (show Bd (cZ (decide (b<0)) a*8589934592) from by rw[<-aA EA];exact aA DN);obtain⟨sy,vy,iy⟩:=(aA N4').intAt;have IY:=aB iy;clear iy;go_wp2_with fail
  refine (qP w.heap.size w.heap.size b3 _ (absZ b) _ _ _ (aA IY) (aA N4') (aA N5) (aA DA) (aA DB)).mono ?_;rintro e w6 ⟨rfl,n6,k6⟩;have N6:=aB (show Num w6 w.heap.size n0 from by rw[<-aA EN];exact n6);have N5':=aB ((aA N5).other k6 (aA NE) (aA IY));have HW6:=aB (jE (aA HW5) k6 (Xr _));clear n6 k6;go_wp2_with fail
  refine (A8 w6.heap.size b3 1 _ Yc _ _ _ (jS w6) ((aA N5').below (eO w6 _)) (aA DB)).mono ?_;rintro e w7 ⟨rfl,n7,k7⟩;have N7:=aB (show Num w7 w6.heap.size (absZ b*2) from n7);have B7:=aB (uB k7);have N6':=aB ((aA N6).below (aA B7));have HW7:=aB (eB (aA HW6) (aA B7) (aA HW6).size);clear n7 k7;go_wp2_with fail
  refine (L8 w.heap.size w6.heap.size n0 (absZ b*2) _ (aA N6') (aA N7) (aA D) (aA DB2) (by have:=aA P;omega) (aA HDv)).mono ?_;rintro e w8 ⟨b8,rfl,n8,k8⟩;have N8:=aB (show Num w8 b8 (rO a b) from by rw[aA EQ];exact n8);have HW8:=aB (eB (aA HW7) k8 (aA HW7).size);clear n8 k8;go_wp2_with fail
  refine (rE _ _ _ (aA N8) (aA DQ)).mono ?_;rintro e w9 ⟨rfl,rfl⟩;go_wp2_with fail
  go_ret2
  exact⟨rfl,aA HW8⟩
end Go.Proofs.YthimcecbgpamdaaGreat
