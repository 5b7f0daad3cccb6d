import Derived.Test.YthimcecbgpamdaaGreatJoinD
set_option maxHeartbeats 1000000
namespace Go.Proofs.YthimcecbgpamdaaGreat
open Go.RowKit
theorem NC(va:Value)(n:Nat)(f:Nat->Int)(hn:n<=2)(w:World)(ha:Sl w va n f)(wa:Wd n f):Calls Tryz.prog 206 #[va] w λe w'=>e=.returned (.int .u64 (val f n))/\w'=w:=by
 rcases (show n=0\/n=1\/n=2 by omega) with rfl|rfl|rfl
 .obtain⟨ao,cap,rfl, -, -, -⟩:=ha.view;clear ha wa;go_enter Tryz.func206,Tryz.ntmps206
  go_wp2
  go_ret
  exact⟨rfl,rfl⟩
 .have ev:=aB (show val f 1=f 0 by show 0+f 0*4294967296^0=f 0;simp);obtain⟨t0,t1⟩:=wa 0 Yo;rcases ha with ⟨-,h⟩|⟨bv,cap,rfl, -, -, -,hr⟩
  .cases h
  have k0:=hr 0 Yo;clear wa hr;go_enter Tryz.func206,Tryz.ntmps206
  go_wp2
  go_ret
  exact⟨by rw[aA ev];rfl,rfl⟩
 .have ev:=aB (show val f 2=f 1*4294967296+f 0 by show 0+f 0*4294967296^0+f 1*4294967296^1=_;simp;omega);obtain⟨t0,t1⟩:=wa 0 Yo;obtain⟨t2,t3⟩:=wa 1 Yo;rcases ha with ⟨-,h⟩|⟨bv,cap,rfl, -, -, -,hr⟩
  .cases h
  have k0:=hr 0 Yo;have k1:=hr 1 Yo;have eo:=I9 (f 1) (f 0) t2 t3 t0 t1;obtain⟨u,eu⟩:∃u,f 1*4294967296+f 0=u:=⟨_,rfl⟩;rw[eu] at eo;have EU:=aB eu;clear wa hr eu;go_enter Tryz.func206,Tryz.ntmps206
  go_wp2
  go_ret
  exact⟨by rw[aA ev,aA EU];rfl,rfl⟩
def uE(X Y:Int):Prop:=∀(n m:Nat) (fa fb:Nat->Int) (va vb:Value) (w:World),Sl w va n fa->Sl w vb m fb->Wd n fa->Wd m fb->Nm n fa->Nm m fb->n<=1000->m<=1000->val fa n=X->val fb m=Y->
 Calls Tryz.prog 189 #[va,vb] w λe w'=>
  ∃(v1 v2:Value) (l1 l2:Nat) (f1 f2:Nat->Int),e=.returned (.tuple #[v1,v2])/\Sl w' v1 l1 f1/\Wd l1 f1/\Nm l1 f1/\Sl w' v2 l2 f2/\Wd l2 f2/\Nm l2 f2/\val f1 l1=X/Y/\val f2 l2=X%Y/\Below w.heap.size w w'
set_option maxRecDepth 100000 in
theorem TI(X Y:Int)(h0:0<=X)(h:X<Y):uE X Y:=by
 intro n m fa fb va vb w ha hb wa wb na nb hn hm hX hY;have t:((m:Int)==0)=false:=by
  rcases Nat.eq_zero_or_pos m with h1|h1
  .subst h1;have:val fb 0=0:=rfl;omega
  .simp;omega
 have EC:=aB (zF (show val fa n<val fb m by omega));have HA:=aB ha;have HB:=aB hb;have WA:=aB wa;have WB:=aB wb;have NA:=aB na;have NB:=aB nb;have HX:=aB (show val fa n=X%Y by rw[Int.emod_eq_of_lt h0 h];exact hX);have HX0:=aB (show X/Y=0 from Int.ediv_eq_zero_of_lt h0 h);obtain⟨ao,capa,rfl, -, -, -⟩:=ha.view;obtain⟨bo,capb,rfl, -, -, -⟩:=hb.view;clear ha hb wa wb na nb hX hY h h0;go_enter Tryz.func189,Tryz.ntmps189
 go_wp2_with fail
 refine (vH _ _ n m fa fb Yo Yo _ (aA HA) (aA HB) (aA WA) (aA WB) (aA NA) (aA NB)).mono ?_;rintro e w1 ⟨rfl,hd⟩;rw[aA EC];have HD:=aB (hd.below w.heap.size);clear hd;go_wp2_with fail
 refine (Q0 _ n fa Yo _ ((aA HA).below (aA HD))).mono ?_;rintro e w2 ⟨v,rfl,h2,h3⟩;have F:=aB (show Sl w2 v n fa/\Below w.heap.size w w2 from ⟨h2,eB (aA HD) h3 (aA HD).size⟩);clear h2 h3;go_wp2_with fail
 go_ret2
 exact⟨_,_,0,n,fa,fa,rfl,Or.inl ⟨rfl,rfl⟩,λi hi=>absurd hi Yo,Or.inl rfl,(aA F).1,aA WA,aA NA,by rw[aA HX0];rfl,aA HX,(aA F).2⟩
set_option maxRecDepth 100000 in
theorem aIK(X Y:Int)(h0:0<Y)(h:Y<=X)(h1:X<18446744073709551616):uE X Y:=by
 intro n m fa fb va vb w ha hb wa wb na nb hn hm hX hY;have t:((m:Int)==0)=false:=by
  rcases Nat.eq_zero_or_pos m with h1|h1
  .subst h1;have:val fb 0=0:=rfl;omega
  .simp;omega
 have hn2:n<=2:=mD wa na (show val fa n<18446744073709551616 by omega);have hm2:m<=2:=mD wb nb (show val fb m<18446744073709551616 by omega);have c0:0<=pF (val fa n) (val fb m):=by unfold pF;rw[if_neg Yo];split<;>decide
 have HA:=aB ha;have HB:=aB hb;have WA:=aB wa;have WB:=aB wb;have NA:=aB na;have NB:=aB nb;have HX:=aB hX;have HY:=aB hY;obtain⟨ao,capa,rfl, -, -, -⟩:=ha.view;obtain⟨bo,capb,rfl, -, -, -⟩:=hb.view;have q0:0<=X/Y:=Int.ediv_nonneg Yo Yo;have q1:X/Y<=X:=Int.ediv_le_self _ Yo;have r0:0<=X%Y:=Int.emod_nonneg _ Yo;have r1:X%Y<Y:=Int.emod_lt_of_pos _ h0;have ty:(Y==0)=false:=by simp;omega
 clear ha hb wa wb na nb hX hY;go_enter Tryz.func189,Tryz.ntmps189
 go_wp2_with fail
 refine (vH _ _ n m fa fb Yo Yo _ (aA HA) (aA HB) (aA WA) (aA WB) (aA NA) (aA NB)).mono ?_;rintro e w1 ⟨rfl,hd⟩;have HD:=aB (hd.below w.heap.size);clear hd;go_wp2_with fail
 refine (NC _ n fa hn2 _ ((aA HA).below (aA HD)) (aA WA)).mono ?_;rintro e w2 ⟨rfl,rfl⟩;rw[aA HX];go_wp2_with fail
 refine (NC _ m fb hm2 _ ((aA HB).below (aA HD)) (aA WB)).mono ?_;rintro e w3 ⟨rfl,rfl⟩;rw[aA HY];go_wp2_with fail
 have y0:Y≠0:=Yo;have td:X.tdiv Y=X/Y:=Int.tdiv_eq_ediv_of_nonneg Yo;have tm:X.tmod Y=X%Y:=Int.tmod_eq_emod_of_nonneg Yo;have wq:IntKind.u64.wrap (X/Y)=X/Y:=by rw[IntKind.wrap_u64];omega
 refine dF (S:=λ_=>True) [(0,false),(1,false),(2,false),(4,false),(5,false),(6,false),(3,true),(7,true),(8,true),(9,true)] [] Yl Yl ?_;iterate 6
  refine bB (v:=?_) rfl (λ_ _ _ h=>h) (by rfl) trivial ?_ ?_
  rotate_left 1
  .intro wx hwx;clear hwx;go_simp<;>exact rfl
  go_frame
 refine aZ rfl (λK hK=>?_);go_simp
 refine (yP (X/Y) q0 Yo _).mono ?_;rintro e w4 ⟨v1,l1,f1,rfl,s1,d1,m1,e1,b1⟩;have S1:=aB s1;have D1:=aB d1;have M1:=aB m1;have E1:=aB e1;have B1:=aB b1;refine hK _ _ (λ_=>trivial) ?_;clear hK K s1 d1 m1 e1 b1;refine aZ rfl (λK hK=>?_);go_simp
 refine (yP (X%Y) r0 Yo _).mono ?_;rintro e w5 ⟨v2,l2,f2,rfl,s2,d2,m2,e2,b2⟩;have F:=aB (show Sl w5 v1 l1 f1/\Wd l1 f1/\Nm l1 f1/\Sl w5 v2 l2 f2/\Wd l2 f2/\Nm l2 f2/\val f1 l1=X/Y/\val f2 l2=X%Y/\Below w.heap.size w w5 from by
  have h4:Below w.heap.size w w4:=eB ((aA HD).drew) (aA B1) (aA HD).size;exact⟨(aA S1).below b2,aA D1,aA M1,s2,d2,m2,aA E1,e2,eB h4 b2 h4.size⟩)
 refine hK _ _ (λ_=>trivial) ?_;clear hK K s2 d2 m2 e2 b2;refine aZ rfl (λK hK=>?_);go_simp
 refine hK _ _ (λ_=>trivial) ?_;clear hK K;refine aZ rfl (λK hK=>?_);go_simp
 refine hK _ _ (λ_=>trivial) ?_;clear hK K;refine fA ?_;go_wp2_with fail
 go_ret2
 exact⟨_,_,l1,l2,f1,f2,rfl,aA F⟩
theorem OM(X Y:Int)(h0:0<=X)(hY:0<Y)(h1:X<18446744073709551616):uE X Y:=by
 rcases Int.lt_or_le X Y with h|h
 .exact TI X Y h0 h
 .exact aIK X Y hY h h1
def TwoV(bx by_:Nat)(xv yv:Value)(w:World):Prop:=w.cell? ⟨bx,1,none⟩=some xv/\w.cell? ⟨by_,1,none⟩=some yv
variable{w' w:World}
theorem TwoV.below{bx by_:Nat}{xv yv:Value}(h:TwoV bx by_ xv yv w)(k:Below w.heap.size w w'):TwoV bx by_ xv yv w':=⟨jN h.1 k,jN h.2 k⟩
def Turns(z r:Nat)(w w':World):Prop:=(∀(b:Nat) (y:Int),b≠z->b≠r->Num w b y->Num w' b y)/\(∀B,B<=z->B<=r->B<=w.heap.size->Below B w w')/\w.heap.size<=w'.heap.size
variable{z:Nat}
theorem Kept.below_of(h:Kept z w w'){B:Nat}(hz:B<=z)(hB:B<=w.heap.size):Below B w w':=⟨h.os,h.tape,h.output,h.size,λk hk=>h.block k Yo Yo⟩
set_option maxRecDepth 100000 in
theorem aBF(z bx by_ r:Nat)(x y:Int)(s0 s1:Bool)(v0 v1:Value)(w:World)(hz:IntAt w z (.bool s0) v0)(hr:IntAt w r (.bool s1) v1)(hzr:r≠z)(hx:Num w bx x)(hy:Num w by_ y)(dx:Bd x)(dy:Bd y)(hd:uE (absZ x) (absZ y)):Calls Tryz.prog 166 #[.pointer (some ⟨z,0,none⟩),.pointer (some ⟨bx,0,none⟩),.pointer (some ⟨by_,0,none⟩),.pointer (some ⟨r,0,none⟩)] w λe w'=>e=.returned (.tuple #[.pointer (some ⟨z,0,none⟩),.pointer (some ⟨r,0,none⟩)])/\Num w' z (cZ (negZ x y) (absZ x/absZ y))/\Num w' r (cZ (decide (x<0)) (absZ x%absZ y))/\Turns z r w w':=by
 obtain⟨xn,xv,n,fa,hx1,hx2,hx3,hx4,hx5,hx6⟩:=hx;obtain⟨yn,yv,m,fb,hy1,hy2,hy3,hy4,hy5,hy6⟩:=hy;have hn:n<=100:=by
  unfold Bd at dx;rw[hx5,kI (dH hx3).1] at dx;exact mD hx3 hx4 dx
 have hm:m<=100:=by
  unfold Bd at dy;rw[hy5,kI (dH hy3).1] at dy;exact mD hy3 hy4 dy
 have c1:=hx1.cell0;have c2:=hx1.cell1;have c3:=hy1.cell0;have c4:=hy1.cell1;have AX:=aB (show val fa n=absZ x by rw[hx5,kI (dH hx3).1]);have AY:=aB (show val fb m=absZ y by rw[hy5,kI (dH hy3).1]);have XN:=aB (show xn=decide (x<0) from by
  rcases Nat.eq_zero_or_pos n with h0|h0
  .rw[hx6 h0,hx5,hx6 h0,h0];exact (Xf (show ¬((0:Int)<0) by decide)).symm
  .have:=wO hx3 hx4 Yo;rw[hx5]
   cases xn
   .symm;exact Xf (show ¬val fa n<0 by omega)
   .symm;exact Xt (show -val fa n<0 by omega))
 have YN:=aB (show yn=decide (y<0) from by
  rcases Nat.eq_zero_or_pos m with h0|h0
  .rw[hy6 h0,hy5,hy6 h0,h0];exact (Xf (show ¬((0:Int)<0) by decide)).symm
  .have:=wO hy3 hy4 Yo;rw[hy5]
   cases yn
   .symm;exact Xf (show ¬val fb m<0 by omega)
   .symm;exact Xt (show -val fb m<0 by omega))
 have HX2:=aB hx2;have HX3:=aB hx3;have HX4:=aB hx4;have HY2:=aB hy2;have HY3:=aB hy3;have HY4:=aB hy4;have HZ:=aB hz;have HR:=aB hr;have HD:=aB hd;obtain⟨ao,capa,rfl, -, -, -⟩:=hx2.view;obtain⟨bo,capb,rfl, -, -, -⟩:=hy2.view;clear hx1 hx2 hx3 hx4 hx5 hx6 hy1 hy2 hy3 hy4 hy5 hy6 hz hr dx dy hd;go_enter Tryz.func166,Tryz.ntmps166
 go_wp2_with fail
 go_region
 go_wp2_with fail
 refine dF (S:=TwoV bx by_ (.slice ao n capa) (.slice bo m capb))
  [(0,false),(1,false),(2,false),(3,false),(4,false),(5,false),(6,false),(7,false),(8,true),(9,false),(10,false),(11,false),(12,true),(13,true)] [] Yl Yl ?_
 have hS:TwoV bx by_ (.slice ao n capa) (.slice bo m capb) w.drew.drew:=⟨c2,c4⟩;clear c1 c2 c3 c4;iterate 8
  refine bB (v:=?_) rfl (λ_ _ _ h=>h) (by rfl) hS ?_ ?_
  rotate_left 1
  .intro wx hwx;obtain⟨k1,k2⟩:=hwx;go_simp<;>exact rfl
  go_frame
 refine aZ rfl (λK hK=>?_);go_simp
 refine (aA HD n m fa fb _ _ _ (by exact aA HX2) (by exact aA HY2) (aA HX3) (aA HY3) (aA HX4) (aA HY4) Yo Yo (aA AX) (aA AY)).mono ?_;rintro e w1 ⟨q1,q2,l1,l2,f1,f2,rfl,h1,h2,h3,h4,h5,h6,h7,h8,h9⟩;have H1:=aB h1;have H2:=aB h2;have H3:=aB h3;have H4:=aB h4;have H5:=aB h5;have H6:=aB h6;have H7:=aB h7;have H8:=aB h8;have H9:=aB h9;obtain⟨vo,cap,rfl, -, -, -⟩:=h1.view;obtain⟨uo,cap2,rfl, -, -, -⟩:=h4.view;have hS1:=hS.below h9;refine hK _ _ (λ_=>hS1) ?_;clear hS hK K h1 h2 h3 h4 h5 h6 h7 h8 h9;iterate 3
  refine bB (v:=?_) rfl (λ_ _ _ h=>h) (by rfl) hS1 ?_ ?_
  rotate_left 1
  .intro wx hwx;clear hwx;go_simp<;>exact rfl
  go_frame
 refine aZ rfl (λK hK=>?_);go_simp
 refine hK _ _ (λ_=>hS1) ?_;clear hK K;refine aZ rfl (λK hK=>?_);go_simp
 refine hK _ _ (λ_=>hS1) ?_;clear hK K hS1;refine fA ?_;have HB1:=aB (show Below w.heap.size w w1 from ((Drw.refl w).drew.drew.below _).trans (aA H9));go_wp2_with fail
 refine (nI z _ _ _ _ _ _ _ (IntAt.below (aA HZ) (aA HB1))).mono ?_;rintro e w2 ⟨rfl,g1,g2⟩;have G1:=aB g1;have G2:=aB g2;clear g1 g2;go_wp2_with fail
 refine (nI r _ _ _ _ _ _ _ ((IntAt.below (aA HR) (aA HB1)).kept (aA G2) hzr)).mono ?_;rintro e w3 ⟨rfl,g3,g4⟩;have F:=aB (show Num w3 z (cZ (negZ x y) (absZ x/absZ y))/\Num w3 r (cZ (decide (x<0)) (absZ x%absZ y))/\Turns z r w w3 from by
  have hz1:=IntAt.below (aA HZ) (aA HB1);have hr1:=IntAt.below (aA HR) (aA HB1);have hr2:=hr1.kept (aA G2) hzr;have hz2:=aA G1;have sl1:=(aA H1).other (aA G2) hz1;have sl2:=(aA H4).other (aA G2) hz1;have nz:=jL hz2 sl1 (aA H2) (aA H3);have nz3:=nz.other g4 (λe=>hzr e.symm) hr2;have nr:=jL g3 (sl2.other g4 hr2) (aA H5) (aA H6);rw[aA H7,aA XN,aA YN] at nz3;rw[aA H8,aA XN] at nr;refine⟨nz3,nr,?_,?_,?_⟩
  .intro b y' hbz hbr hb;exact ((hb.below (aA HB1)).other (aA G2) hbz hz1).other g4 hbr hr2
  .intro B hBz hBr hB;have k1:=((aA HB1).mono hB);have k2:=(aA G2).below_of hBz (Nat.le_trans hB (aA HB1).size);exact (k1.trans k2).trans (g4.below_of hBr (Nat.le_trans hB (Nat.le_trans (aA HB1).size (aA G2).size)))
  .exact Nat.le_trans (aA HB1).size (Nat.le_trans (aA G2).size g4.size))
 clear g3 g4;go_wp2_with fail
 go_ret2
 exact⟨rfl,aA F⟩
variable{x:Int}{b:Nat}
theorem Num.intAt(h:Num w b x):∃s v,IntAt w b (.bool s) v:=by
 obtain⟨neg,v,n,f,h1, -⟩:=h;exact⟨neg,v,h1⟩
theorem Num.sign(h:Num w b x):w.cell? ⟨b,0,none⟩=some (.bool (decide (x<0))):=by
 obtain⟨neg,v,n,f,h1,h2,h3,h4,h5,h6⟩:=h;rw[h1.cell0]
 congr 2
 rcases Nat.eq_zero_or_pos n with h0|h0
 .rw[h6 h0,h5,h6 h0,h0];exact (Xf (show ¬((0:Int)<0) by decide)).symm
 .have:=wO h3 h4 Yo;rw[h5]
  cases neg
  .symm;exact Xf (show ¬val f n<0 by omega)
  .symm;exact Xt (show -val f n<0 by omega)
variable{r:Nat}
theorem Turns.of_below(h:Below w.heap.size w w'):Turns z r w w':=⟨λ_ _ _ _ k=>k.below h,λ_ _ _ hB=>h.mono hB,h.size⟩
theorem Turns.of_kept(h:Kept z w w')(hz:∃s v,IntAt w z (.bool s) v):Turns z r w w':=by
 obtain⟨s,v,hz⟩:=hz;exact⟨λ_ _ hb _ k=>k.other h hb hz,λ_ h1 _ h3=>h.below_of h1 h3,h.size⟩
theorem Turns.of_kept'(h:Kept r w w')(hz:∃s v,IntAt w r (.bool s) v):Turns z r w w':=by
 obtain⟨s,v,hz⟩:=hz;exact⟨λ_ _ _ hb k=>k.other h hb hz,λ_ _ h1 h3=>h.below_of h1 h3,h.size⟩
theorem Turns.trans{a b c:World}(h:Turns z r a b)(k:Turns z r b c):Turns z r a c:=
 ⟨λi y h1 h2 n=>k.1 i y h1 h2 (h.1 i y h1 h2 n),λB h1 h2 h3=>(h.2.1 B h1 h2 h3).trans (k.2.1 B h1 h2 (Nat.le_trans h3 h.2.2)),Nat.le_trans h.2.2 k.2.2⟩
variable{y:Int}
theorem aDF(hy:0<y)(hm:¬cZ (decide (x<0)) (absZ x%absZ y)<0):cZ (negZ x y) (absZ x/absZ y)=x/y/\cZ (decide (x<0)) (absZ x%absZ y)=x%y:=by
 have ey:absZ y=y:=by unfold absZ;rw[if_neg Yo]
 have hn:negZ x y=decide (x<0):=by unfold negZ;rw[Xf (show ¬y<0 by omega)];cases decide (x<0)<;>rfl
 rw[ey] at hm ⊢;rw[hn];by_cases hx:x<0
 .have ex:absZ x= -x:=by unfold absZ;rw[if_pos hx]
  rw[ex,Xt hx] at hm ⊢;have r0:0<= -x%y:=Int.emod_nonneg _ Yo;have hr: -x%y=0:=by
   have:¬ -(-x%y)<0:=hm;omega
  have e:y*(-x/y)+ -x%y= -x:=Int.mul_ediv_add_emod _ _;have e2:x/y= -(-x/y):=oQ hy (by rw[Int.mul_neg];omega) (by rw[Int.mul_neg];omega);have e3:x%y=0:=by rw[Int.emod_def,e2,Int.mul_neg];omega
  exact⟨e2.symm,by rw[hr,e3];rfl⟩
 .have ex:absZ x=x:=by unfold absZ;rw[if_neg hx]
  rw[ex,Xf hx];exact⟨rfl,rfl⟩
theorem aEk(hy:0<y)(hm:cZ (decide (x<0)) (absZ x%absZ y)<0):cZ (negZ x y) (absZ x/absZ y)-1=x/y/\cZ (decide (x<0)) (absZ x%absZ y)+y=x%y:=by
 have ey:absZ y=y:=by unfold absZ;rw[if_neg Yo]
 have hn:negZ x y=decide (x<0):=by unfold negZ;rw[Xf (show ¬y<0 by omega)];cases decide (x<0)<;>rfl
 rw[ey] at hm ⊢;rw[hn];have r0:0<=absZ x%y:=Int.emod_nonneg _ Yo;have r1:absZ x%y<y:=Int.emod_lt_of_pos _ hy;by_cases hx:x<0
 .have ex:absZ x= -x:=by unfold absZ;rw[if_pos hx]
  rw[ex] at hm r0 r1 ⊢;rw[Xt hx] at hm ⊢;have hr: -(-x%y)<0:=hm;have e:y*(-x/y)+ -x%y= -x:=Int.mul_ediv_add_emod _ _;have e2:x/y= -(-x/y)-1:=oQ hy (by rw[Int.mul_sub,Int.mul_neg,Int.mul_one];omega) (by rw[Int.mul_sub,Int.mul_neg,Int.mul_one];omega);have e3:x%y= -(-x%y)+y:=by rw[Int.emod_def,e2,Int.mul_sub,Int.mul_neg,Int.mul_one];omega
  exact⟨e2.symm,e3.symm⟩
 .rw[Xf hx] at hm;have:absZ x%y<0:=hm;omega
theorem IR(h:Bd y)(hx:absZ x<=absZ y):Bd x:=by unfold Bd at*;omega
set_option maxRecDepth 100000 in
theorem aBG(z bx by_ m:Nat)(x y:Int)(s0 s1:Bool)(v0 v1:Value)(w:World)(hz:IntAt w z (.bool s0) v0)(hm:IntAt w m (.bool s1) v1)(hzm:m≠z)(hx:Num w bx x)(hy:Num w by_ y)(dx:Bd x)(dy:Bd y)(y0:0<y)(hd:uE (absZ x) (absZ y)):Calls Tryz.prog 140 #[.pointer (some ⟨z,0,none⟩),.pointer (some ⟨bx,0,none⟩),.pointer (some ⟨by_,0,none⟩),.pointer (some ⟨m,0,none⟩)] w λe w'=>e=.returned (.tuple #[.pointer (some ⟨z,0,none⟩),.pointer (some ⟨m,0,none⟩)])/\Num w' z (x/y)/\Num w' m (x%y)/\Turns z m w w':=by
 have HZ:=aB hz;have HM:=aB hm;have HX:=aB hx;have HY:=aB hy;have DX:=aB dx;have DY:=aB dy;have HD:=aB hd;have zl:=aB hz.lt;have ml:=aB hm.lt;have QD:=aB (show Bd (cZ (negZ x y) (absZ x/absZ y)) from IR dx (by
  rw[kI (Int.ediv_nonneg (show 0<=absZ x by unfold absZ;split<;>omega) (show 0<=absZ y by unfold absZ;split<;>omega))];exact Int.ediv_le_self _ (by unfold absZ;split<;>omega)))
 have RD:=aB (show Bd (cZ (decide (x<0)) (absZ x%absZ y)) from IR dy (by
  have hy1:0<absZ y:=by unfold absZ;split<;>omega
  rw[kI (Int.emod_nonneg _ Yo)];exact Int.le_of_lt (Int.emod_lt_of_pos _ hy1)))
 clear hz hm hx hy dx dy hd;go_enter Tryz.func140,Tryz.ntmps140
 go_wp2_with fail
 refine (aKb w.heap.size by_ y _ _ _ (jS w) ((aA HY).below (eO w _)) (aA DY)).mono ?_;rintro e w1 ⟨rfl,n1,k1⟩;have N1:=aB n1;have B1:=aB (uB k1);clear n1 k1;go_wp2_with fail
 refine (aBF z bx by_ m x y _ _ _ _ _ (IntAt.below (aA HZ) (aA B1)) (IntAt.below (aA HM) (aA B1)) hzm ((aA HX).below (aA B1)) ((aA HY).below (aA B1)) (aA DX) (aA DY) (aA HD)).mono ?_;rintro e w2 ⟨rfl,n2,n3,t2⟩;have N2:=aB n2;have N3:=aB n3;have T2:=aB t2;have cs:=n3.sign;have ND:=aB (t2.1 w.heap.size y (by have:=aA zl;omega) (by have:=aA ml;omega) (aA N1));have cd:=(aA ND).sign;clear n2 n3 t2;have yd:decide (y<0)=false:=Xf Yo;rw[yd] at cd;by_cases hs:cZ (decide (x<0)) (absZ x%absZ y)<0
 .have E:=aB (aEk y0 hs);rw[Xt hs] at cs;clear hs yd;go_wp2_with fail
  refine (F5 1 (by unfold R64;omega) _).mono ?_;rintro e w3 ⟨b3,rfl,hb3,n4,k4⟩;have N4:=aB n4;have K4:=aB k4;clear n4 k4 hb3;have NZ:=aB ((aA N2).below (aA K4));have NM:=aB ((aA N3).below (aA K4));have ND3:=aB ((aA ND).below (aA K4));obtain⟨sz,vz,iz⟩:=(aA NZ).intAt;have IZ:=aB iz;clear iz;go_wp2_with fail
  refine (IX z z b3 _ 1 _ _ _ (aA IZ) (aA NZ) (aA N4) (aA QD) (qY (by unfold R64;omega))).mono ?_;rintro e w4 ⟨rfl,n5,k5⟩;have N5:=aB n5;have K5:=aB k5;clear n5 k5;have NM4:=aB ((aA NM).other (aA K5) hzm (aA IZ));have ND4:=aB ((aA ND3).other (aA K5) (by have:=aA zl;omega) (aA IZ));obtain⟨sm,vm,im⟩:=(aA NM4).intAt;have IM:=aB im;clear im;go_wp2_with fail
  refine (qP m m w.heap.size _ y _ _ _ (aA IM) (aA NM4) (aA ND4) (aA RD) (aA DY)).mono ?_;rintro e w5 ⟨rfl,n6,k6⟩;have F:=aB (show Num w5 z (x/y)/\Num w5 m (x%y)/\Turns z m w w5 from by
   have e1:=(aA E).1;have e2:=(aA E).2;have a:=(aA N5).other k6 (λh=>hzm h.symm) (aA IM);rw[e1] at a;rw[e2] at n6;exact⟨a,n6,((((Turns.of_below (aA B1)).trans (aA T2)).trans (Turns.of_below (aA K4))).trans (Turns.of_kept (aA K5) ⟨_,_,aA IZ⟩)).trans (Turns.of_kept' k6 ⟨_,_,aA IM⟩)⟩)
  clear n6 k6;go_wp2_with fail
  go_ret2
  exact⟨rfl,aA F⟩
 .have E:=aB (aDF y0 hs);rw[Xf hs] at cs;clear hs yd;go_wp2_with fail
  go_ret2
  have F:Num w2 z (x/y)/\Num w2 m (x%y)/\Turns z m w w2:=by
   have a:=aA N2;have b:=aA N3;rw[(aA E).1] at a;rw[(aA E).2] at b;exact⟨a,b,(Turns.of_below (aA B1)).trans (aA T2)⟩
  exact⟨rfl,F⟩
theorem L8(bx by_:Nat)(x y:Int)(w:World)(hx:Num w bx x)(hy:Num w by_ y)(dx:Bd x)(dy:Bd y)(y0:0<y)(hd:uE (absZ x) (absZ y)):Calls Tryz.prog 84 #[.pointer (some ⟨bx,0,none⟩),.pointer (some ⟨by_,0,none⟩)] w λe w'=>∃b:Nat,e=.returned (.pointer (some ⟨b,0,none⟩))/\Num w' b (x/y)/\Below w.heap.size w w':=by
 have HX:=aB hx;have HY:=aB hy;have DX:=aB dx;have DY:=aB dy;have HD:=aB hd;clear hx hy dx dy hd;go_enter Tryz.func84,Tryz.ntmps84
 go_wp2_with (first|(go_at_call 113;go_in))
 have W2:=aB (show Below w.heap.size w ((w.alloc (.cells #[.bool false,.slice none 0 0] 172)).alloc (.cells #[.bool false,.slice none 0 0] 172)) from
  eB (eO w _) (eO _ _) (by simp))
 have IM:=aB (show IntAt ((w.alloc (.cells #[.bool false,.slice none 0 0] 172)).alloc (.cells #[.bool false,.slice none 0 0] 172)) (w.heap.size+1) (.bool false) (.slice none 0 0) from by
  have h:=jS (w.alloc (.cells #[.bool false,.slice none 0 0] 172));rw[show (w.alloc (.cells #[.bool false,.slice none 0 0] 172)).heap.size=w.heap.size+1 by simp] at h;exact h)
 refine (aBG w.heap.size bx by_ (w.heap.size+1) x y _ _ _ _ _ ((jS w).below (eO _ _)) (aA IM) Yo ((aA HX).below (aA W2)) ((aA HY).below (aA W2)) (aA DX) (aA DY) y0 (aA HD)).mono ?_;rintro e w3 ⟨rfl,n1,n2,t⟩;have F:=aB (show Num w3 w.heap.size (x/y)/\Below w.heap.size w w3 from ⟨n1,(aA W2).trans (t.2.1 w.heap.size (Xr _) Yo (by simp;omega))⟩);clear n1 n2 t;go_wp2_with fail
 go_ret
 exact⟨_,rfl,aA F⟩
theorem wH(g:Nat->Int)(i:Nat)(x:Int):∀{N:Nat},i<N->val (upd g i x) N=val g N+(x-g i)*4294967296^i
 |0,h=>absurd h Yo
 |N+1,h=>by
  rcases Nat.lt_or_ge i N with h1|h1
  .show val (upd g i x) N+upd g i x N*4294967296^N=val g N+g N*4294967296^N+_
   rw[wH g i x h1,iE g x Yo];omega
  .have:i=N:=Yo;subst this;rw[mX];show _=val g i+g i*4294967296^i+_
   rw[Int.sub_mul];omega
theorem OY{a b:Int}(a0:0<=a)(a1:a<4294967296)(b0:0<=b)(b1:b<4294967296):0<=a*b/\a*b<=18446744065119617025:=by
 refine⟨Int.mul_nonneg a0 b0,?_⟩;have:=Int.mul_le_mul (show a<=4294967295 by omega) (show b<=4294967295 by omega) b0 Yo;omega
variable{g:Nat->Int}{c A t:Int}{k:Nat}
theorem aGF{fb:Nat->Int}{l N:Nat}{V:Int}(hN:k+l<N)(h:val g N+c*4294967296^(k+l)=V+A*val fb l*4294967296^k)(ht:t=c+A*fb l+g (k+l)):val (upd g (k+l) (t%4294967296)) N+t/4294967296*4294967296^(k+(l+1))=V+A*val fb (l+1)*4294967296^k:=by
 rw[wH g _ _ hN,show k+(l+1)=k+l+1 by omega,Int.pow_succ,Int.mul_comm (4294967296^(k+l)) 4294967296, <-Int.mul_assoc,Int.sub_mul];have e1:t%4294967296*4294967296^(k+l)+t/4294967296*4294967296*4294967296^(k+l)=t*4294967296^(k+l):=by
  rw[<-Int.add_mul];congr 1;omega
 have e2:t*4294967296^(k+l)=c*4294967296^(k+l)+A*fb l*4294967296^(k+l)+g (k+l)*4294967296^(k+l):=by rw[ht,Int.add_mul,Int.add_mul]
 have e3:A*val fb (l+1)*4294967296^k=A*val fb l*4294967296^k+A*fb l*4294967296^(k+l):=by
  show A*(val fb l+fb l*4294967296^l)*4294967296^k=_
  rw[Int.mul_add,Int.add_mul, <-Int.mul_assoc A (fb l),Int.mul_assoc (A*fb l), <-Int.pow_add,Nat.add_comm l k]
 rw[e3];omega
theorem rng_upd{i:Nat}(h:∀j,0<=g j/\g j<4294967296)(h0:0<=x)(h1:x<4294967296):∀j,0<=upd g i x j/\upd g i x j<4294967296:=by
 intro j;unfold upd;split
 .exact⟨h0,h1⟩
 .exact h j
theorem aGA(ao bo:Option Addr)(n m capa capb:Nat)(fa fb:Nat->Int)(hn0:0<n)(hm0:0<m)(hn:n<=100000)(hm:m<=100000)(w:World)(ha:Has w ao n fa)(hb:Has w bo m fb)(wa:Wd n fa)(wb:Wd m fb):Calls Tryz.prog 192 #[.slice ao n capa,.slice bo m capb] w λe w'=>∃(v:Value) (l:Nat) (f:Nat->Int),e=.returned v/\Sl w' v l f/\Wd l f/\Nm l f/\val f l=val fa n*val fb m/\Below w.heap.size w w':=by
 have hmk:=λwx=>run_make_row' (P:=Tryz.prog) 168 200 (.int .u32 0) 4 Tryz.underlying168 Tryz.infoU32 rfl .i64 .i64 (n+m) Yo Yo wx
 rw[show ((n+m:Nat):Int)=(n:Int)+(m:Int) by omega] at hmk;obtain⟨ba,rfl,hba,hra⟩:=ha hn0;obtain⟨bb,rfl,hbb,hrb⟩:=hb hm0;have tn:((n:Int)==0)=false:=by simp;omega
 have tm:((m:Int)==0)=false:=by simp;omega
 have HA:=aB hra;have HB:=aB hrb;have WA:=aB wa;have WB:=aB wb;clear ha hb wa wb hra hrb;go_enter Tryz.func192,Tryz.ntmps192
 go_wp2_with fail
 clear hmk
 go_loopw [6,7,8] (λis _ _ wr=>∃(k:Nat) (g:Nat->Int),is=.int .i64 k/\k<=n/\Own wr w.heap.size (n+m) g/\(∀j,0<=g j/\g j<4294967296)/\(∀j,k+m<=j->g j=0)/\val g (k+m)=val fa k*val fb m/\Below w.heap.size w wr)
  (λis _ _ _=>n-(intOf is).toNat)
 case atStart=>exact⟨0,_,rfl,Xz _,qG w (n+m),λ_=>⟨Int.le_refl _,by decide⟩,λ_ _=>rfl,by rw[fQ (m:=0) Yo (λ_ _ _=>rfl)];show 0=0*val fb m;rw[Int.zero_mul],eO w _⟩
 case round=>
  obtain⟨k,g,rfl,hk,hO,hW,hz,hv,hBl⟩:=hrel;have HO:=aB hO;have HW:=aB hW;have HZ:=aB hz;have HV:=aB hv;have HBl:=aB hBl;clear hO hW hz hv hBl;by_cases hkn:k<n
  .obtain⟨a0,a1⟩:=aA WA k hkn;go_wp2_with fail
   go_loopw [7,8] (λcs js wx=>∃(l:Nat) (c:Int) (g2:Nat->Int),js=.int .i64 l/\cs=.int .u64 c/\l<=m/\0<=c/\c<4294967296/\Own wx w.heap.size (n+m) g2/\(∀j,0<=g2 j/\g2 j<4294967296)/\(∀j,k+l<=j->g2 j=g j)/\val g2 (k+m)+c*4294967296^(k+l)=val g (k+m)+fa k*val fb l*4294967296^k/\Below w.heap.size w wx)
    (λ_ js _=>m-(intOf js).toNat)
   case atStart=>exact⟨0,0,g,rfl,rfl,Xz _,Int.le_refl _,by decide,aA HO,aA HW,λ_ _=>rfl,by show _+0*_=_+fa k*0*_;simp,aA HBl⟩
   case round=>
    obtain⟨l,c,g2,rfl,rfl,hl,c0,c1,hO,hW,hz,hv,hBl⟩:=hrel;have HO2:=aB hO;have HW2:=aB hW;have HZ2:=aB hz;have HV2:=aB hv;have HBl2:=aB hBl;clear hO hW hz hv hBl;by_cases hlm:l<m
    .obtain⟨b0,b1⟩:=aA WB l hlm;obtain⟨g0,g1⟩:=aA HW2 (k+l);obtain⟨p0,p1⟩:=OY a0 a1 b0 b1;have HS:=aB (aGF (N:=k+m) Yo (aA HV2) (t:=c+fa k*fb l+g2 (k+l)) rfl);obtain⟨p,ep⟩:∃p,fa k*fb l=p:=⟨_,rfl⟩;rw[ep] at p0 p1 HS;obtain⟨t,et⟩:∃t,c+(p+g2 (k+l))=t:=⟨_,rfl⟩;rw[show c+p+g2 (k+l)=t by omega] at HS;have t0:0<=t:=Yo;have t1:t<18446744073709551616:=Yo;have ca:=(aA HBl2).cell (p:=⟨ba,k,none⟩) hba;rw[aA HA k hkn] at ca;have cb:=(aA HBl2).cell (p:=⟨bb,l,none⟩) hbb;rw[aA HB l hlm] at cb;have co:=(aA HO2).cell (show k+l<n+m by omega);have fo:=(aA HO2).free (k+l);have wi:IntKind.i64.wrap ((k:Int)+(l:Int))=(k:Int)+(l:Int):=by rw[IntKind.wrap_i64];omega
     have wp:IntKind.u64.wrap p=p:=by rw[IntKind.wrap_u64];omega
     have ws:IntKind.u64.wrap (p+g2 (k+l))=p+g2 (k+l):=by rw[IntKind.wrap_u64];omega
     have wt:IntKind.u64.wrap t=t:=by rw[IntKind.wrap_u64];omega
     go_wp2_with fail
     go_region
     go_wp2_with fail
     go_roundw
     case rel=>exact⟨l+1,_,_,by go_num,rfl,Yo,Yo,Yo,(aA HO2).set (k+l) (t%4294967296),rng_upd (aA HW2) Yo Yo,λj hj=>by rw[iE _ _ Yo];exact aA HZ2 j Yo,aA HS,((aA HBl2).setCell (Xr _) _).drew⟩
     case measure=>simp[intOf];omega
    .have hlm2:l=m:=Yo;subst hlm2;have HV3:=aB (show val (upd g2 (k+l) c) (k+1+l)=val fa (k+1)*val fb l from by
      rw[show k+1+l=k+l+1 by omega,mX,aA HV2,aA HV];show _=(val fa k+fa k*4294967296^k)*val fb l
      rw[Int.add_mul,Int.mul_right_comm (fa k)])
     have co:=(aA HO2).cell (show k+l<n+l by omega);have fo:=(aA HO2).free (k+l);go_wp2_with fail
     go_roundw
     case rel=>exact⟨k+1,_,by go_num,Yo,(aA HO2).set (k+l) c,rng_upd (aA HW2) c0 c1,λj hj=>by rw[iE _ _ Yo,aA HZ2 j Yo];exact aA HZ j Yo,aA HV3,(aA HBl2).setCell (Xr _) _⟩
     case measure=>simp[intOf];omega
  .have hkn2:k=n:=Yo;subst hkn2;have HWD:=aB (show Wd (k+m) g from λi _=>aA HW i);have HOL:=aB (aA HO).lt;go_wp2_with fail
   refine (kT w.heap.size (k+m) (k+m) g (Xr _) Yo _ (aA HO).row).mono ?_;rintro e w1 ⟨l,rfl,hl,hz,hnm,rfl⟩;have F:=aB (show Sl w1 (.slice (some ⟨w.heap.size,0,none⟩) l (k+m)) l g/\Wd l g/\Nm l g/\val g l=val fa k*val fb m/\Below w.heap.size w w1 from
    ⟨Or.inr ⟨_,_,rfl,hl,Yo,aA HOL,(aA HO).row.less hl⟩,(aA HWD).less hl,hnm,by rw[<-fQ hl hz];exact aA HV,aA HBl⟩)
   clear hz hnm;go_wp2_with fail
   go_ret
   exact⟨_,l,_,rfl,aA F⟩
theorem aDp(va vb:Value)(n m:Nat)(fa fb:Nat->Int)(hn:n<=100000)(hm:m<=100000)(w:World)(ha:Sl w va n fa)(hb:Sl w vb m fb)(wa:Wd n fa)(wb:Wd m fb):Calls Tryz.prog 192 #[va,vb] w λe w'=>∃(v:Value) (l:Nat) (f:Nat->Int),e=.returned v/\Sl w' v l f/\Wd l f/\Nm l f/\val f l=val fa n*val fb m/\Below w.heap.size w w':=by
 obtain⟨ao,capa,rfl, -, -,ha⟩:=ha.view;obtain⟨bo,capb,rfl, -, -,hb⟩:=hb.view;rcases Nat.eq_zero_or_pos n with h0|h0
 .subst h0;clear ha hb wa wb;go_enter Tryz.func192,Tryz.ntmps192
  go_wp2_with fail
  go_ret
  exact⟨_,0,fa,rfl,Or.inl ⟨rfl,rfl⟩,λi hi=>absurd hi Yo,Or.inl rfl,by show 0=0*val fb m;rw[Int.zero_mul],Below.refl _ _⟩
 .rcases Nat.eq_zero_or_pos m with h1|h1
  .subst h1;have tn:((n:Int)==0)=false:=by simp;omega
   clear ha hb wa wb;go_enter Tryz.func192,Tryz.ntmps192
   go_wp2_with fail
   go_ret
   exact⟨_,0,fa,rfl,Or.inl ⟨rfl,rfl⟩,λi hi=>absurd hi Yo,Or.inl rfl,by show 0=val fa n*0;rw[Int.mul_zero],Below.refl _ _⟩
  .exact aGA ao bo n m capa capb fa fb h0 h1 hn hm w ha hb wa wb
theorem aBT(z bx by_:Nat)(x y:Int)(s0:Bool)(v0:Value)(w:World)(hz:IntAt w z (.bool s0) v0)(hx:Num w bx x)(hy:Num w by_ y)(dx:Bd x)(dy:Bd y):Calls Tryz.prog 169 #[.pointer (some ⟨z,0,none⟩),.pointer (some ⟨bx,0,none⟩),.pointer (some ⟨by_,0,none⟩)] w λe w'=>e=.returned (.pointer (some ⟨z,0,none⟩))/\Num w' z (x*y)/\Kept z w w':=by
 obtain⟨xn,xv,n,fa,hx1,hx2,hx3,hx4,hx5,hx6⟩:=hx;obtain⟨yn,yv,m,fb,hy1,hy2,hy3,hy4,hy5,hy6⟩:=hy;have hn:n<=100:=by
  unfold Bd at dx;rw[hx5,kI (dH hx3).1] at dx;exact mD hx3 hx4 dx
 have hm:m<=100:=by
  unfold Bd at dy;rw[hy5,kI (dH hy3).1] at dy;exact mD hy3 hy4 dy
 have c1:=hx1.cell0;have c2:=hx1.cell1;have c3:=hy1.cell0;have c4:=hy1.cell1;have HX2:=aB hx2;have HX3:=aB hx3;have HX4:=aB hx4;have HY2:=aB hy2;have HY3:=aB hy3;have HY4:=aB hy4;have E:=aB (show cZ (!xn==yn) (val fa n*val fb m)=x*y by rw[hx5,hy5];cases xn<;>cases yn<;>simp[cZ,Int.neg_mul,Int.mul_neg]);have HZ:=aB hz;obtain⟨ao,capa,rfl, -, -, -⟩:=hx2.view;obtain⟨bo,capb,rfl, -, -, -⟩:=hy2.view;clear hx1 hx2 hx3 hx4 hx5 hx6 hy1 hy2 hy3 hy4 hy5 hy6 hz dx dy;go_enter Tryz.func169,Tryz.ntmps169
 go_wp2_with fail
 refine dF (S:=Two bx by_ (.bool xn) (.slice ao n capa) (.bool yn) (.slice bo m capb))
  [(0,false),(1,false),(2,false),(3,false),(4,false),(5,false),(6,false),(7,false),(8,false),(9,false),(10,false),(11,false),(12,false),(13,false),(14,false),(15,false),(16,false),(17,false),(18,true),(19,true),(20,true)] [19,20] Yl Yl ?_
 have hS:Two bx by_ (.bool xn) (.slice ao n capa) (.bool yn) (.slice bo m capb) w.drew:=⟨c1,c2,c3,c4⟩;clear c1 c2 c3 c4;iterate 18
  refine bB (v:=?_) rfl (λ_ _ _ h=>h) (by rfl) hS ?_ ?_
  rotate_left 1
  .intro wx hwx;obtain⟨k1,k2,k3,k4⟩:=hwx;go_simp<;>exact rfl
  go_frame
 refine aZ rfl (λK hK=>?_);go_simp
 refine (aDp _ _ n m fa fb Yo Yo _ (by exact aA HX2) (by exact aA HY2) (aA HX3) (aA HY3)).mono ?_;rintro e w1 ⟨v,l,f,rfl,h2,h3,h4,h5,h6⟩;have H2:=aB h2;have H3:=aB h3;have H4:=aB h4;have H5:=aB h5;have H6:=aB h6;obtain⟨vo,cap,rfl, -, -, -⟩:=h2.view;have hS1:=hS.below h6;refine hK _ _ (λ_=>hS1) ?_;clear hS hK K h2 h3 h4 h5 h6 hS1;refine aZ rfl (λK hK=>?_);go_simp
 refine (nI z _ _ _ _ _ _ _ (IntAt.below (w:=w.drew) (aA HZ) (aA H6))).mono ?_;rintro e w2 ⟨rfl,g1,g2⟩;refine hK _ _ (λh=>by cases h) ?_;have F:=aB (show Num w2 z (x*y)/\Kept z w w2 from by
  have hsl:=(aA H2).other g2 (IntAt.below (w:=w.drew) (aA HZ) (aA H6));have hnum:=jL g1 hsl (aA H3) (aA H4);rw[aA H5,aA E] at hnum;exact⟨hnum,(Kept.of_below (show Below w.heap.size w w1 from ((Drw.refl w).drew.below _).trans (aA H6))).trans g2 (Or.inl rfl)⟩)
 clear g1 g2 hK K;refine aZ rfl (λK hK=>?_);go_simp
 refine hK _ _ (λh=>by cases h) ?_;clear hK K;refine fA ?_;go_wp2_with fail
 go_ret
 exact⟨rfl,(aA F).1,(aA F).2⟩
def Gs(u v1 t q r:Int):Prop:=t<=q/\q<=4294967297/\0<=r/\q*v1+r=u
def yN(u u1 v1 v0 t q:Int):Prop:=t<=q/\0<=q/\q<=4294967295/\q*(v1*4294967296+v0)<=u*4294967296+u1
variable{v0 q v1:Int}
theorem MF:q*(v1*4294967296+v0)=q*v1*4294967296+q*v0:=by rw[Int.mul_add, <-Int.mul_assoc]
variable{u u1:Int}
theorem aFS(hv1:2147483648<=v1)(h0:0<=v0)(hu0:0<=u)(hu:u<=v1*4294967296+4294967295)(hu1:u1<4294967296)(HT:∀q,u*4294967296+u1<q*(v1*4294967296+v0)->t<q):Gs u v1 t (u/v1) (u%v1)/\u%v1<v1:=by
 have e:v1*(u/v1)+u%v1=u:=Int.mul_ediv_add_emod u v1;have m0:0<=u%v1:=Int.emod_nonneg _ Yo;have m1:u%v1<v1:=Int.emod_lt_of_pos _ Yo;have q0:0<=u/v1:=Int.ediv_nonneg hu0 Yo;have hq:u/v1<=4294967297:=by
  apply Int.le_of_lt_add_one;rw[Int.ediv_lt_iff_lt_mul Yo];omega
 have ec:u/v1*v1=v1*(u/v1):=Int.mul_comm _ _;refine⟨⟨?_,hq,m0,Yo⟩,m1⟩;have h1:=HT (u/v1+1) (by
  rw[MF,Int.add_mul,Int.one_mul];have:0<=(u/v1+1)*v0:=Int.mul_nonneg Yo h0;omega)
 omega
variable{r:Int}
theorem UO(h:Gs u v1 t q r)(ht:t<=4294967295)(hv1:2147483648<=v1)(HT:∀q,u*4294967296+u1<q*(v1*4294967296+v0)->t<q)(hc:4294967296<=q\/4294967296*r+u1<q*v0):Gs u v1 t (q-1) (r+v1):=by
 obtain⟨h1,h2,h3,h4⟩:=h;have e:(q-1)*v1=q*v1-v1:=by rw[Int.sub_mul,Int.one_mul]
 refine⟨?_,Yo,Yo,Yo⟩;rcases hc with hc|hc
 .omega
 .have:=HT q (by rw[MF];omega);omega
theorem aDZ(h:Gs u v1 t q r)(ht0:0<=t)(hq:q<4294967296)(hc:q*v0<=4294967296*r+u1):yN u u1 v1 v0 t q:=by
 obtain⟨h1,h2,h3,h4⟩:=h;refine⟨h1,Yo,Yo,?_⟩;rw[MF];omega
theorem TY(h:Gs u v1 t (q-1) (r+v1))(h':Gs u v1 t q r)(ht0:0<=t)(hu:u<=v1*4294967296+4294967295)(hu1:0<=u1)(h0:0<=v0)(h1:v0<4294967296)(hr:4294967296<=r+v1):yN u u1 v1 v0 t (q-1):=by
 have hq:q<=4294967296:=by
  obtain⟨a1,a2,a3,a4⟩:=h';rcases Int.lt_or_le q 4294967297 with hq|hq
  .omega
  .have:q=4294967297:=Yo;subst this;omega
 apply aDZ h ht0 Yo;have:=Int.mul_le_mul (show q-1<=4294967295 by omega) (show v0<=4294967295 by omega) h0 Yo;omega
theorem aKp(h:Gs u v1 t q r)(ht0:0<=t)(ht:t<=4294967295)(hv1:2147483648<=v1)(h0:0<=v0)(h1:v0<4294967296)(hu:u<=v1*4294967296+4294967295)(hu1:0<=u1)(HT:∀q,u*4294967296+u1<q*(v1*4294967296+v0)->t<q):(4294967296<=q/\r+v1<4294967296/\Gs u v1 t (q-1) (r+v1))\/(q<4294967296/\1<=q/\4294967296*r+u1<q*v0/\r+v1<4294967296/\Gs u v1 t (q-1) (r+v1))\/(4294967296<=q/\4294967296<=r+v1/\yN u u1 v1 v0 t (q-1))\/(q<4294967296/\1<=q/\4294967296*r+u1<q*v0/\4294967296<=r+v1/\yN u u1 v1 v0 t (q-1))\/(q<4294967296/\q*v0<=4294967296*r+u1/\yN u u1 v1 v0 t q):=by
 by_cases hq:4294967296<=q
 .have hr:=UO (u1:=u1) (v0:=v0) h ht hv1 HT (Or.inl hq);by_cases hb:4294967296<=r+v1
  .exact Or.inr (Or.inr (Or.inl ⟨hq,hb,TY hr h ht0 hu hu1 h0 h1 hb⟩))
  .exact Or.inl ⟨hq,Yo,hr⟩
 .by_cases hc:4294967296*r+u1<q*v0
  .have hr:=UO (u1:=u1) (v0:=v0) h ht hv1 HT (Or.inr hc);have q1:1<=q:=by have:=hr.1;omega
   by_cases hb:4294967296<=r+v1
   .exact Or.inr (Or.inr (Or.inr (Or.inl ⟨Yo,q1,hc,hb,TY hr h ht0 hu hu1 h0 h1 hb⟩)))
   .exact Or.inr (Or.inl ⟨Yo,q1,hc,Yo,hr⟩)
  .exact Or.inr (Or.inr (Or.inr (Or.inr ⟨Yo,Yo,aDZ h ht0 Yo Yo⟩)))
theorem aGw{U V P:Int}(hP:0<P)(hv1:2147483648<=v1)(hV0:(v1*4294967296+v0)*P<=V)(hV1:V<(v1*4294967296+v0)*P+P)(h0:0<=v0)(hU0:(u*4294967296+u1)*P<=U)(hq0:0<=q)(hq1:q<=4294967295)(hc:q*(v1*4294967296+v0)<=u*4294967296+u1):q*V<U+V:=by
 have a1:q*V<=q*((v1*4294967296+v0)*P+P):=Int.mul_le_mul_of_nonneg_left Yo hq0;have a2:q*((v1*4294967296+v0)*P+P)=q*(v1*4294967296+v0)*P+q*P:=by rw[Int.mul_add, <-Int.mul_assoc]
 have a3:q*(v1*4294967296+v0)*P<=(u*4294967296+u1)*P:=Int.mul_le_mul_of_nonneg_right hc (Int.le_of_lt hP);have a4:q*P<=4294967295*P:=Int.mul_le_mul_of_nonneg_right hq1 (Int.le_of_lt hP);have a5:9223372036854775808*P<=(v1*4294967296+v0)*P:=Int.mul_le_mul_of_nonneg_right Yo (Int.le_of_lt hP);omega
theorem aKO{U V P:Int}(hP:0<P)(hVp:0<V)(hV0:(v1*4294967296+v0)*P<=V)(hU1:U<(u*4294967296+u1)*P+P)(hu:0<=u*4294967296+u1)(hv:0<=v1*4294967296+v0)(hc:u*4294967296+u1<q*(v1*4294967296+v0)):U/V<q:=by
 rw[Int.ediv_lt_iff_lt_mul hVp];have q0:0<=q:=by
  rcases Int.lt_or_le q 0 with h|h
  .have:=Int.mul_nonpos_of_nonpos_of_nonneg (Int.le_of_lt h) hv;omega
  .exact h
 have a1:q*((v1*4294967296+v0)*P)<=q*V:=Int.mul_le_mul_of_nonneg_left hV0 q0;rw[<-Int.mul_assoc] at a1;have a2:(u*4294967296+u1+1)*P<=q*(v1*4294967296+v0)*P:=Int.mul_le_mul_of_nonneg_right Yo (Int.le_of_lt hP);rw[Int.add_mul,Int.one_mul] at a2;omega
variable{d:Int}{f:Nat->Int}
theorem aJi{U V:Nat->Int}{g c1 d':Int}(h:val f k=val U k-g*val V k+(c+d)*4294967296^k)(hc1:c1=c+g*V k)(ht:t=U k-c1%4294967296-d)(hx:t=x-d'*4294967296):val (upd f k x) (k+1)=val U (k+1)-g*val V (k+1)+(c1/4294967296+d')*4294967296^(k+1):=by
 rw[mX,h];show _=val U k+U k*4294967296^k-g*(val V k+V k*4294967296^k)+_
 have e:(c+d+x)*4294967296^k=(U k-g*V k+(c1/4294967296+d')*4294967296)*4294967296^k:=by
  congr 1;omega
 rw[Int.pow_succ,Int.mul_comm (4294967296^k) 4294967296, <-Int.mul_assoc (c1/4294967296+d'),Int.mul_add g, <-Int.mul_assoc g];rw[Int.add_mul (c+d),Int.add_mul (U k-g*V k),Int.sub_mul] at e;omega
variable{F:Nat->Int}
theorem aKy{V:Nat->Int}(h:val f k+c*4294967296^k=val F k+val V k)(ht:t=c+(F k+V k)):val (upd f k (t%4294967296)) (k+1)+t/4294967296*4294967296^(k+1)=val F (k+1)+val V (k+1):=
 xL (fa:=F) (fb:=V) h Yo
variable{n:Nat}
theorem aKu(hw:Wd n f)(hk:k<n):val f n/4294967296^k=val f n/4294967296^(k+1)*4294967296+f k:=by
 obtain⟨d,rfl⟩:∃d,n=k+1+d:=⟨n-(k+1),Yo⟩;have e1:=nX f k (1+d);have e2:=nX f (k+1) d;rw[<-Nat.add_assoc] at e1;have b1:=dH (hw.less (show k<=k+1+d by omega));have b2:=dH (hw.less (show k+1<=k+1+d by omega));have e3:val f (k+1+d)/4294967296^(k+1)=val (λi=>f (k+1+i)) d:=by
  rw[e2,Int.add_comm,Int.mul_add_ediv_left' _ _ (pow_pos (k+1)) b2.1 b2.2]
 have e4:val f (k+1+d)/4294967296^k=val (λi=>f (k+i)) (1+d):=by
  rw[e1,Int.add_comm,Int.mul_add_ediv_left' _ _ (pow_pos k) b1.1 b1.2]
 rw[e3,e4,nX];have e5:val (λi=>f (k+i)) 1=f k:=by show 0+f (k+0)*4294967296^0=f k;simp
 have e6:(λi=>(λi=>f (k+i)) (1+i))=λi=>f (k+1+i):=by funext j;show f (k+(1+j))=_;rw[Nat.add_assoc]
 rw[e5,e6];show f k+4294967296^1*_=_
 simp only[Int.reducePow];omega
theorem aEK(hw:Wd n f):val f n/4294967296^n=0:=Int.ediv_eq_zero_of_lt (dH hw).1 (dH hw).2
theorem aBl(hw:Wd n f)(hk:k<n)(hd:0<d)(hg:g k=0)(hv:val g n=val f n/4294967296^(k+1)/d*4294967296^(k+1))(hr:r=val f n/4294967296^(k+1)%d):0<=(r*4294967296+f k)/d/\(r*4294967296+f k)/d<4294967296/\val (upd g k ((r*4294967296+f k)/d)) n=val f n/4294967296^k/d*4294967296^k/\(r*4294967296+f k)%d=val f n/4294967296^k%d:=by
 have h:=aKu hw hk;obtain⟨H,eH⟩:∃H,val f n/4294967296^(k+1)=H:=⟨_,rfl⟩;obtain⟨G,eG⟩:∃G,val f n/4294967296^k=G:=⟨_,rfl⟩;rw[eH] at hv hr h;rw[eG] at h ⊢;obtain⟨w0,w1⟩:=hw k hk;have r0:0<=r:=by rw[hr];exact Int.emod_nonneg _ Yo
 have r1:r<d:=by rw[hr];exact Int.emod_lt_of_pos _ hd
 have eD:d*(H/d)+r=H:=by rw[hr];exact Int.mul_ediv_add_emod H d
 have eT:G=d*(H/d*4294967296)+(r*4294967296+f k):=by
  rw[h, <-eD, <-Int.mul_assoc];have:(d*(H/d)+r)/d=H/d:=by rw[Int.mul_add_ediv_left' _ _ hd r0 r1]
  rw[this,Int.add_mul];omega
 have q1:G/d=H/d*4294967296+(r*4294967296+f k)/d:=by
  rw[eT,Int.add_comm,Int.add_mul_ediv_left _ _ Yo,Int.add_comm]
 have q2:G%d=(r*4294967296+f k)%d:=by
  rw[eT,Int.add_comm,Int.add_mul_emod_self_left]
 refine⟨Int.ediv_nonneg Yo Yo,?_,?_,q2.symm⟩
 .rw[Int.ediv_lt_iff_lt_mul hd];have:=Int.mul_le_mul_of_nonneg_right (show r+1<=d by omega) (show (0:Int)<=4294967296 by decide);rw[Int.mul_comm 4294967296 d];omega
 .rw[wH _ _ _ hk,hv,hg,q1,Int.add_mul,Int.sub_zero,Int.pow_succ,Int.mul_comm (4294967296^k) 4294967296, <-Int.mul_assoc]
theorem aCP(va:Value)(n:Nat)(f:Nat->Int)(d:Int)(hd:0<d)(hd1:d<4294967296)(hn:n<=100000)(w:World)(ha:Sl w va n f)(wa:Wd n f):Calls Tryz.prog 207 #[va,.int .u32 d] w λe w'=>∃(v:Value) (l:Nat) (g:Nat->Int),e=.returned (.tuple #[v,.int .u32 (val f n%d)])/\Sl w' v l g/\Wd l g/\Nm l g/\val g l=val f n/d/\Below w.heap.size w w':=by
 have hmk:=λwx=>run_make_row' (P:=Tryz.prog) 168 200 (.int .u32 0) 4 Tryz.underlying168 Tryz.infoU32 rfl .i64 .i64 n Yo Yo wx
 obtain⟨ao,cap,rfl, -, -,ha⟩:=ha.view;have HA:=aB ha;have WA:=aB wa;have td:(d==0)=false:=by simp;omega
 have dn:d≠0:=Yo;clear ha wa;go_enter Tryz.func207,Tryz.ntmps207
 go_wp2_with fail
 clear hmk
 go_loopw [7,8] (λrs is wr=>∃(k:Nat) (r:Int) (g:Nat->Int),rs=.int .u64 r/\is=.int .i64 ((k:Int)-1)/\k<=n/\0<=r/\r<d/\Own wr w.heap.size n g/\(∀j,0<=g j/\g j<4294967296)/\(∀j,j<k->g j=0)/\val g n=val f n/4294967296^k/d*4294967296^k/\r=val f n/4294967296^k%d/\Below w.heap.size w wr)
  (λ_ is _=>(intOf is+1).toNat)
 case atStart=>exact⟨n,0,_,rfl,rfl,Xr _,Int.le_refl _,hd,qG w n,λ_=>⟨Int.le_refl _,by decide⟩,λ_ _=>rfl,by rw[aEK (aA WA),Int.zero_ediv,Int.zero_mul];exact fQ (m:=0) (Xz _) (λ_ _ _=>rfl),by rw[aEK (aA WA),Int.zero_emod],eO w _⟩
 case round=>
  obtain⟨k,r,g,rfl,rfl,hk,r0,r1,hO,hW,hz,hv,hr,hB⟩:=hrel;have HO:=aB hO;have HW:=aB hW;have HZ:=aB hz;have HV:=aB hv;have HR:=aB hr;have HB:=aB hB;clear hO hW hz hv hr hB;rcases Nat.eq_zero_or_pos k with h|h
  .subst h;have E1:=aB (show val g n=val f n/d by have:=aA HV;simpa using this);have E2:=aB (show r=val f n%d by have:=aA HR;simpa using this);have HWD:=aB (show Wd n g from λi _=>aA HW i);have HOL:=aB (aA HO).lt;go_wp2_with fail
   refine (kT w.heap.size n n g (Xr _) Yo _ (aA HO).row).mono ?_;rintro e w1 ⟨l,rfl,hl,hz,hnm,rfl⟩;have F:=aB (show Sl w1 (.slice (some ⟨w.heap.size,0,none⟩) l n) l g/\Wd l g/\Nm l g/\val g l=val f n/d/\Below w.heap.size w w1 from
    ⟨Or.inr ⟨_,_,rfl,hl,Yo,aA HOL,(aA HO).row.less hl⟩,(aA HWD).less hl,hnm,by rw[<-fQ hl hz];exact aA E1,aA HB⟩)
   clear hz hnm;have re:r%4294967296=r:=Yo;go_wp2_with fail
   go_ret2
   exact⟨_,l,g,by rw[<-aA E2];rfl,aA F⟩
  .obtain⟨i,rfl⟩:∃i,k=i+1:=⟨k-1,Yo⟩;rw[show (((i+1:Nat):Int)-1)=(i:Int) by omega];obtain⟨ba,rfl,hba,hra⟩:=Has.below' (aA HA) (aA HB) Yo;have ca:=hra i Yo;obtain⟨a0,a1⟩:=aA WA i Yo;obtain⟨q0,q1,q2,q3⟩:=aBl (aA WA) (show i<n by omega) hd (aA HZ i Yo) (aA HV) (aA HR);have co:=(aA HO).cell (show i<n by omega);have fo:=(aA HO).free i;have eo:=vN r (f i) r0 Yo a0 a1;have b1:r*4294967296+f i<18446744073709551616:=Yo;have b0:0<=r*4294967296+f i:=Yo;have m0:0<=(r*4294967296+f i)%d:=Int.emod_nonneg _ dn;have m1:(r*4294967296+f i)%d<d:=Int.emod_lt_of_pos _ hd;have Q2:=aB q2;have Q3:=aB q3;clear hra q2 q3 h;go_wp2_with fail
   refine⟨⟨i,_,_,rfl,rfl,Yo,m0,m1,(aA HO).set i _,rng_upd (aA HW) q0 q1,λj hj=>by rw[iE _ _ Yo];exact aA HZ j Yo,aA Q2,aA Q3,(aA HB).setCell (Xr _) _⟩,?_⟩;simp[intOf]
variable{s:Nat}
theorem aBj{a b:Int}(hs:s<32)(a0:0<=a)(a1:a<4294967296):0<=(b*4294967296+a)/2^s%4294967296/\(b*4294967296+a)/2^s%4294967296<4294967296/\(b*4294967296+a)/2^s%4294967296*2^s=a-a%2^s+b%2^s*4294967296:=by
 have hp:=gI s;have hq:=gI (32-s);have h32:(2:Int)^s*2^(32-s)=4294967296:=by rw[<-Int.pow_add,show s+(32-s)=32 by omega];rfl
 obtain⟨P,eP⟩:∃P:Int,2^s=P:=⟨_,rfl⟩;obtain⟨Q,eQ⟩:∃Q:Int,2^(32-s)=Q:=⟨_,rfl⟩;rw[eP] at hp h32 ⊢;rw[eQ] at hq h32;clear eP eQ;have ea:P*(a/P)+a%P=a:=Int.mul_ediv_add_emod a P;have eb:P*(b/P)+b%P=b:=Int.mul_ediv_add_emod b P;have ra0:0<=a%P:=Int.emod_nonneg _ Yo;have ra1:a%P<P:=Int.emod_lt_of_pos _ hp;have rb0:0<=b%P:=Int.emod_nonneg _ Yo;have rb1:b%P<P:=Int.emod_lt_of_pos _ hp;have qa0:0<=a/P:=Int.ediv_nonneg a0 Yo;have qa1:a/P<Q:=by rw[Int.ediv_lt_iff_lt_mul hp,Int.mul_comm,h32];exact a1
 have e1:(b*4294967296+a)/P=b*Q+a/P:=by
  apply oQ hp
  .rw[Int.mul_add,Int.mul_left_comm,h32];omega
  .rw[Int.mul_add,Int.mul_left_comm,h32];omega
 have e2:b*Q+a/P=(b%P*Q+a/P)+4294967296*(b/P):=by
  have:b*Q=P*(b/P)*Q+b%P*Q:=by rw[<-Int.add_mul,eb]
  rw[this,Int.mul_right_comm,h32];omega
 have m0:0<=b%P*Q:=Int.mul_nonneg rb0 Yo;have m1:b%P*Q+Q<=4294967296:=by
  have:=Int.mul_le_mul_of_nonneg_right (show b%P+1<=P by omega) (Int.le_of_lt hq);rw[h32,Int.add_mul,Int.one_mul] at this;exact this
 have e3:(b*4294967296+a)/P%4294967296=b%P*Q+a/P:=by
  rw[e1,e2,Int.add_mul_emod_self_left,Int.emod_eq_of_lt Yo Yo]
 rw[e3];refine⟨Yo,Yo,?_⟩;rw[Int.add_mul,Int.mul_assoc,Int.mul_comm Q P,h32,Int.mul_comm (a/P)];omega
theorem aCh{h:Nat->Int}(hv:val g k*2^s=val h k-h 0%2^s+h k%2^s*4294967296^k)(hx:x*2^s=h k-h k%2^s+h (k+1)%2^s*4294967296):val (upd g k x) (k+1)*2^s=val h (k+1)-h 0%2^s+h (k+1)%2^s*4294967296^(k+1):=by
 rw[mX,Int.add_mul,hv,Int.mul_right_comm,hx];show _=val h k+h k*4294967296^k-h 0%2^s+h (k+1)%2^s*4294967296^(k+1)
 rw[Int.pow_succ,Int.mul_comm (4294967296^k) 4294967296, <-Int.mul_assoc,Int.add_mul,Int.sub_mul];omega
theorem aBM(ao:Option Addr)(n cap ww s:Nat)(fa:Nat->Int)(h0:ww<n)(hn:n<=100000)(hs:s<32)(w:World)(ha:Has w ao n fa)(wa:Wd n fa):Calls Tryz.prog 209 #[.slice ao n cap,.int .u64 ((32*ww+s:Nat):Int)] w λe w'=>∃(v:Value) (l:Nat) (f:Nat->Int),e=.returned v/\Sl w' v l f/\Wd l f/\Nm l f/\val f l=val fa n/4294967296^ww/2^s/\Below w.heap.size w w':=by
 have hmk:=λwx=>run_make_row' (P:=Tryz.prog) 168 200 (.int .u32 0) 4 Tryz.underlying168 Tryz.infoU32 rfl .i64 .i64 (n-ww) Yo Yo wx
 rw[show ((n-ww:Nat):Int)=(n:Int)-(ww:Int) by omega] at hmk;obtain⟨p,ep⟩:∃p:Int,((32*ww+s:Nat):Int)=p:=⟨_,rfl⟩;have e1:p/32=(ww:Int):=Yo;have e2:p%32=(s:Int):=Yo;have p0:0<=p:=Yo;have p1:p<4000000:=Yo;rw[ep];obtain⟨h,eh⟩:∃h:Nat->Int,h=λi=>rP n fa (ww+i):=⟨_,rfl⟩
 have hh1:∀i,ww+i<n->h i=fa (ww+i):=λi hi=>by rw[eh];exact if_pos hi
 have hh2:∀i,¬ww+i<n->h i=0:=λi hi=>by rw[eh];exact if_neg hi
 have hhw:∀i,0<=h i/\h i<4294967296:=λi=>by
  by_cases hi:ww+i<n
  .rw[hh1 i hi];exact wa _ hi
  .rw[hh2 i hi];exact⟨Int.le_refl _,by decide⟩
 have EV:=aB (show val fa n/4294967296^ww=val h (n-ww) from by
  have e:=nX fa ww (n-ww);rw[show ww+(n-ww)=n by omega] at e;have b:=dH (wa.less (show ww<=n by omega));rw[e,Int.add_comm,Int.mul_add_ediv_left' _ _ (pow_pos ww) b.1 b.2];exact sP (λi hi=>(hh1 i Yo).symm))
 have HA:=aB ha;have H1:=aB hh1;have H2:=aB hh2;have HW:=aB hhw;clear ha wa ep eh hh1 hh2 hhw;go_enter Tryz.func209,Tryz.ntmps209
 go_wp2_with fail
 clear hmk e1
 go_loopw [8,9] (λis _ wr=>∃(k:Nat) (g:Nat->Int),is=.int .i64 k/\k<=n-ww/\Own wr w.heap.size (n-ww) g/\(∀j,0<=g j/\g j<4294967296)/\val g k*2^s=val h k-h 0%2^s+h k%2^s*4294967296^k/\Below w.heap.size w wr)
  (λis _ _=>n-ww-(intOf is).toNat)
 case atStart=>exact⟨0,_,rfl,Xz _,qG w (n-ww),λ_=>⟨Int.le_refl _,by decide⟩,by show 0*_=0-h 0%2^s+h 0%2^s*4294967296^0;simp;omega,eO w _⟩
 case round=>
  obtain⟨k,g,rfl,hk,hO,hG,hv,hB⟩:=hrel;have HO:=aB hO;have HG:=aB hG;have HV:=aB hv;have HB:=aB hB;clear hO hG hv hB;by_cases hkn:k<n-ww
  .obtain⟨ba,rfl,hba,hra⟩:=Has.below' (aA HA) (aA HB) Yo;have ca:=hra (k+ww) Yo;rw[show fa (k+ww)=h k by rw[aA H1 k Yo,Nat.add_comm]] at ca;obtain⟨a0,a1⟩:=aA HW k;obtain⟨b0,b1⟩:=aA HW (k+1);have co:=(aA HO).cell (show k<n-ww by omega);have fo:=(aA HO).free k;obtain⟨q0,q1,q2⟩:=aBj (b:=h (k+1)) hs a0 a1;have HS:=aB (aCh (aA HV) q2);have eo:=I9 (h (k+1)) (h k) b0 b1 a0 a1;obtain⟨y,ey⟩:∃y,h (k+1)*4294967296+h k=y:=⟨_,rfl⟩;have y0:0<=y:=Yo;have y1:y<18446744073709551616:=Yo;rw[ey] at eo q0 q1 HS;have z0:0<=y/2^s:=Int.ediv_nonneg y0 (Int.le_of_lt (gI s));have z1:y/2^s<=y:=Int.ediv_le_self _ y0;clear q2;by_cases hl:ww+k+1<n
   .have ca2:=hra (k+ww+1) Yo;rw[show fa (k+ww+1)=h (k+1) by rw[aA H1 (k+1) Yo];congr 1;omega] at ca2;clear hra ey;go_wp2_with fail
    go_roundw
    case rel=>exact⟨k+1,_,by go_num,Yo,(aA HO).set k _,rng_upd (aA HG) q0 q1,aA HS,(aA HB).setCell (Xr _) _⟩
    case measure=>simp[intOf];omega
   .have e0:h (k+1)=0:=aA H2 (k+1) Yo;have ey2:h k=y:=by rw[e0] at ey;omega
    rw[ey2] at ca;clear hra ey eo e0 a0 a1 b0 b1;go_wp2_with fail
    go_roundw
    case rel=>exact⟨k+1,_,by go_num,Yo,(aA HO).set k _,rng_upd (aA HG) q0 q1,aA HS,(aA HB).setCell (Xr _) _⟩
    case measure=>simp[intOf];omega
  .have hkn2:k=n-ww:=Yo;subst hkn2;have E1:=aB (show val g (n-ww)=val fa n/4294967296^ww/2^s from by
    have hv:=aA HV;rw[aA H2 (n-ww) Yo,Int.zero_emod,Int.zero_mul] at hv;have m0:=Int.emod_nonneg (h 0) (show (2:Int)^s≠0 by have:=gI s;omega);have m1:=Int.emod_lt_of_pos (h 0) (gI s);rw[aA EV]
    symm
    apply oQ (gI s)
    .rw[Int.mul_comm];omega
    .rw[Int.mul_comm];omega)
   have HWD:=aB (show Wd (n-ww) g from λi _=>aA HG i);have HOL:=aB (aA HO).lt;go_wp2_with fail
   refine (kT w.heap.size (n-ww) (n-ww) g (Xr _) Yo _ (aA HO).row).mono ?_;rintro e w1 ⟨l,rfl,hl,hz,hnm,rfl⟩;have F:=aB (show Sl w1 (.slice (some ⟨w.heap.size,0,none⟩) l (n-ww)) l g/\Wd l g/\Nm l g/\val g l=val fa n/4294967296^ww/2^s/\Below w.heap.size w w1 from
    ⟨Or.inr ⟨_,_,rfl,hl,Yo,aA HOL,(aA HO).row.less hl⟩,(aA HWD).less hl,hnm,by rw[<-fQ hl hz];exact aA E1,aA HB⟩)
   clear hz hnm;go_wp2_with fail
   go_ret
   exact⟨_,l,_,rfl,aA F⟩
theorem ZH(va:Value)(n p:Nat)(fa:Nat->Int)(hn:n<=100000)(hp:p<=3000000)(w:World)(ha:Sl w va n fa)(wa:Wd n fa):Calls Tryz.prog 209 #[va,.int .u64 (p:Int)] w λe w'=>∃(v:Value) (l:Nat) (f:Nat->Int),e=.returned v/\Sl w' v l f/\Wd l f/\Nm l f/\val f l=val fa n/2^p/\Below w.heap.size w w':=by
 obtain⟨ao,cap,rfl, -, -,ha⟩:=ha.view;rcases Nat.lt_or_ge (p/32) n with h0|h0
 .have h:=aBM ao n cap (p/32) (p%32) fa h0 hn Yo w ha wa;rw[show 32*(p/32)+p%32=p by omega] at h;refine h.mono ?_;rintro e w' ⟨v,l,f,h1,h2,h3,h4,h5,h6⟩;refine⟨v,l,f,h1,h2,h3,h4,?_,h6⟩;rw[h5,mZ,Int.ediv_ediv_of_nonneg (Int.le_of_lt (gI _)), <-Int.pow_add,show 32*(p/32)+p%32=p by omega]
 .have EV:=aB (show val fa n/2^p=0 from by
   have b:=dH wa;refine Int.ediv_eq_zero_of_lt b.1 (Int.lt_of_lt_of_le b.2 ?_);rw[mZ];exact jF Yo)
  clear ha wa;obtain⟨q,eq⟩:∃q:Int,(p:Int)=q:=⟨_,rfl⟩;obtain⟨ww,eww⟩:∃ww:Nat,p/32=ww:=⟨_,rfl⟩;have e1:q/32=(ww:Int):=Yo;have q0:0<=q:=Yo;have q1:q<4000000:=Yo;rw[eq];rw[eww] at h0;clear eq eww;go_enter Tryz.func209,Tryz.ntmps209
  go_wp2_with fail
  go_ret
  exact⟨_,0,fa,rfl,Or.inl ⟨rfl,rfl⟩,λi hi=>absurd hi Yo,Or.inl rfl,by rw[aA EV];rfl,Below.refl _ _⟩
set_option maxRecDepth 100000 in
theorem div_one(X Y:Int)(h0:0<Y)(h:18446744073709551616<=X)(h1:Y<4294967296):uE X Y:=by
 intro n m fa fb va vb w ha hb wa wb na nb hn hm hX hY;have m0:m≠0:=by
  intro h2;subst h2;have:val fb 0=0:=rfl;omega
 obtain rfl:m=1:=by
  have:=mD (k:=1) wb nb (show val fb m<4294967296 by omega);omega
 have n3:3<=n:=by
  rcases Nat.lt_or_ge n 3 with h2|h2
  .have:=(dH wa).2;have h3:(4294967296:Int)^n<=4294967296^2:=by rw[mZ,mZ];exact jF Yo
   have h4:(4294967296:Int)^2=18446744073709551616:=by decide
   omega
  .exact h2
 have c0:0<=pF (val fa n) (val fb 1):=by unfold pF;rw[if_neg Yo];split<;>decide
 obtain rfl:fb 0=Y:=by rw[<-hY];show fb 0=0+fb 0*4294967296^0;simp
 have HA:=aB ha;have HB:=aB hb;have WA:=aB wa;have WB:=aB wb;have NA:=aB na;have NB:=aB nb;have HX:=aB hX;obtain⟨ao,capa,rfl, -, -, -⟩:=ha.view;rcases hb with ⟨-,h2⟩|⟨bb,capb,rfl, -, -,hbb,hrb⟩
 .cases h2
 have cb:=hrb 0 Yo;have r0:0<=X%fb 0:=Int.emod_nonneg _ Yo;have r1:X%fb 0<fb 0:=Int.emod_lt_of_pos _ h0;clear ha wa wb na nb hX hY hrb m0 h;go_enter Tryz.func189,Tryz.ntmps189
 go_wp2_with fail
 refine (vH _ _ n 1 fa fb Yo Yo _ (aA HA) (aA HB) (aA WA) (aA WB) (aA NA) (aA NB)).mono ?_;rintro e w1 ⟨rfl,hd⟩;have HD:=aB (hd.below w.heap.size);have cb1:=jN cb (aA HD);clear hd;go_wp2_with fail
 refine (aCP _ n fa (fb 0) h0 h1 Yo _ ((aA HA).below (aA HD)) (aA WA)).mono ?_;rintro e w2 ⟨v1,l1,f1,rfl,s1,d1,m1,e1,b1⟩;rw[aA HX] at e1;have S1:=aB s1;have D1:=aB d1;have M1:=aB m1;have E1:=aB e1;have B2:=aB (eB (aA HD) b1 (aA HD).size);clear s1 d1 m1 e1 b1;rw[aA HX];obtain⟨r,er⟩:∃r,X%fb 0=r:=⟨_,rfl⟩;rw[er] at r0 r1 ⊢;go_wp2_with fail
 have hr:Row (w2.alloc (.cells #[.int .u32 r] 200)) w2.heap.size 1 (λ_=>r):=by
  intro i hi;rw[World.cell?_alloc_new]
  match i,hi with
  |0,_=>rfl
 refine (kT w2.heap.size 1 1 _ Yc Yc _ hr).mono ?_;rintro e w3 ⟨l,rfl,hl,hz,hnm,rfl⟩;have F:=aB (show Sl (w2.alloc (.cells #[.int .u32 r] 200)) v1 l1 f1/\Wd l1 f1/\Nm l1 f1/\Sl (w2.alloc (.cells #[.int .u32 r] 200)) (.slice (some ⟨w2.heap.size,0,none⟩) l 1) l (λ_=>r)/\Wd l (λ_=>r)/\Nm l (λ_=>r)/\val f1 l1=X/fb 0/\val (λ_=>r) l=X%fb 0/\Below w.heap.size w (w2.alloc (.cells #[.int .u32 r] 200)) from by
  refine⟨(aA S1).below (eO w2 _),aA D1,aA M1,Or.inr ⟨_,_,rfl,hl,by decide,by simp,hr.less hl⟩,λ_ _=>⟨r0,show r<4294967296 by omega⟩,hnm,aA E1,?_,eB (aA B2) (eO w2 _) (aA B2).size⟩;rw[<-fQ hl hz,er];show 0+r*4294967296^0=r
  simp)
 clear hr hz hnm;go_wp2_with fail
 go_ret2
 exact⟨_,_,l1,l,f1,_,rfl,aA F⟩
def sh(F:Nat->Int)(j:Nat):Nat->Int:=λi=>F (j+i)
theorem JB(F:Nat->Int)(j i:Nat)(x:Int):sh (upd F (j+i) x) j=upd (sh F j) i x:=by
 funext y
 unfold sh upd;by_cases h:y=i
 .subst h;simp
 .rw[if_neg Yo,if_neg h]
theorem QE{j:Nat}(h:∀i,0<=F i/\F i<4294967296):Wd n (sh F j):=λi _=>h (j+i)
theorem aDo(F:Nat->Int)(j n:Nat):val F (j+n)=val F j+4294967296^j*val (sh F j) n:=nX F j n
structure Dv (A:Int) (m T N:Nat) (v F q:Nat->Int) (k:Nat):Prop where
 f:∀i,0<=F i/\F i<4294967296
 g:∀i,0<=q i/\q i<4294967296
 qz:∀i,i<k->q i=0
 z:∀i,k+m<=i->i<T->F i=0
 lt:val F (k+m)<val v m*4294967296^k
 e:A=val F (k+m)+val v m*val q N
structure Dr (m:Nat) (v:Nat->Int):Prop where
 m2:2<=m
 w:Wd m v
 top:2147483648<=v (m-1)
variable{v:Nat->Int}{m:Nat}
theorem Dr.pos(h:Dr m v):0<val v m:=by
 have h2:=h.m2;have ht:=h.top;exact wO h.w (Or.inr Yo) Yo
theorem aLg(f:Nat->Int)(m:Nat)(hw:Wd (m+2) f):(f (m+1)*4294967296+f m)*4294967296^m<=val f (m+2)/\val f (m+2)<(f (m+1)*4294967296+f m)*4294967296^m+4294967296^m:=by
 have b:=dH (hw.less (show m<=m+2 by omega));have e:val f (m+2)=val f m+(f (m+1)*4294967296+f m)*4294967296^m:=by
  show val f m+f m*4294967296^m+f (m+1)*4294967296^(m+1)=_
  rw[Int.pow_succ,Int.mul_comm (4294967296^m) 4294967296, <-Int.mul_assoc,Int.add_mul];omega
 omega
theorem aDq(f:Nat->Int)(m:Nat)(hw:Wd (m+3) f):((f (m+2)*4294967296+f (m+1))*4294967296+f m)*4294967296^m<=val f (m+3)/\val f (m+3)<((f (m+2)*4294967296+f (m+1))*4294967296+f m)*4294967296^m+4294967296^m:=by
 have b:=dH (hw.less (show m<=m+3 by omega));have e:val f (m+3)=val f m+((f (m+2)*4294967296+f (m+1))*4294967296+f m)*4294967296^m:=by
  show val f m+f m*4294967296^m+f (m+1)*4294967296^(m+1)+f (m+2)*4294967296^(m+2)=_
  have e1:(4294967296:Int)^(m+1)=4294967296*4294967296^m:=by rw[Int.pow_succ,Int.mul_comm]
  have e2:(4294967296:Int)^(m+2)=4294967296*(4294967296*4294967296^m):=by rw[Int.pow_succ,e1,Int.mul_comm]
  rw[e1,e2,Int.add_mul,Int.add_mul,Int.add_mul];have e3:f (m+2)*(4294967296*(4294967296*4294967296^m))=f (m+2)*4294967296*4294967296*4294967296^m:=by rw[<-Int.mul_assoc, <-Int.mul_assoc]
  have e4:f (m+1)*(4294967296*4294967296^m)=f (m+1)*4294967296*4294967296^m:=by rw[<-Int.mul_assoc]
  rw[e3,e4];omega
 omega
theorem ZV{T N j:Nat}{q:Nat->Int}(h:Dv A m T N v F q (j+1)):val F (j+1+m)=val F j+4294967296^j*val (sh F j) (m+1)/\0<=val (sh F j) (m+1)/\val (sh F j) (m+1)<val v m*4294967296:=by
 have e:val F (j+1+m)=val F j+4294967296^j*val (sh F j) (m+1):=by
  rw[show j+1+m=j+(m+1) by omega];exact aDo F j (m+1)
 have b0:=(dH (QE (n:=m+1) (j:=j) h.f)).1;refine⟨e,b0,?_⟩;have b1:=(dH (n:=j) (λi _=>h.f i)).1;have hl:=h.lt;rw[e,Int.pow_succ, <-Int.mul_assoc,Int.mul_right_comm (val v m),Int.mul_comm (4294967296^j)] at hl;have hp:=pow_pos j;rcases Int.lt_or_le (val (sh F j) (m+1)) (val v m*4294967296) with h1|h1
 .exact h1
 .have:=Int.mul_le_mul_of_nonneg_right h1 (Int.le_of_lt hp);omega
theorem aHs(hv:Dr m v)(hf:∀i,0<=f i/\f i<4294967296)(hU:val f (m+1)<val v m*4294967296):0<=val f (m+1)/val v m/\val f (m+1)/val v m<=4294967295/\f m*4294967296+f (m-1)<=v (m-1)*4294967296+4294967295/\(∀q,(f m*4294967296+f (m-1))*4294967296+f (m-2)<q*(v (m-1)*4294967296+v (m-2))->val f (m+1)/val v m<q)/\(∀g,yN (f m*4294967296+f (m-1)) (f (m-2)) (v (m-1)) (v (m-2)) (val f (m+1)/val v m) g->g*val v m<val f (m+1)+val v m):=by
 have hm:=hv.m2;have hV:=hv.pos;have ht:=hv.top;obtain⟨p,rfl⟩:∃p,m=p+2:=⟨m-2,Yo⟩;rw[show p+2-1=p+1 by omega,show p+2-2=p by omega] at*;have tv:=aLg v p hv.w;have tf:=aDq f p (λi _=>hf i);have b0:=(dH (n:=p+2+1) (λi _=>hf i:Wd (p+2+1) f)).1;have hp:=pow_pos p;have w0:=hv.w p Yo;have w1:=hv.w (p+1) Yo;have f0:=hf p;have f1:=hf (p+1);have f2:=hf (p+2);refine⟨Int.ediv_nonneg b0 (Int.le_of_lt hV),?_,?_,?_,?_⟩
 .have:val f (p+2+1)/val v (p+2)<4294967296:=by rw[Int.ediv_lt_iff_lt_mul hV,Int.mul_comm];exact hU
  omega
 .
  rcases Int.lt_or_le (f (p+2)*4294967296+f (p+1)) ((v (p+1)+1)*4294967296) with h1|h1
  .omega
  .exfalso;have a1:((v (p+1)+1)*4294967296*4294967296)*4294967296^p<=((f (p+2)*4294967296+f (p+1))*4294967296+f p)*4294967296^p:=Int.mul_le_mul_of_nonneg_right Yo (Int.le_of_lt hp);have a2:(v (p+1)*4294967296+v p)*4294967296^p+4294967296^p<=((v (p+1)+1)*4294967296)*4294967296^p:=by
    have:=Int.mul_le_mul_of_nonneg_right (show v (p+1)*4294967296+v p+1<=(v (p+1)+1)*4294967296 by omega) (Int.le_of_lt hp);rw[Int.add_mul (v (p+1)*4294967296+v p),Int.one_mul] at this;exact this
   have a3:(v (p+1)+1)*4294967296*4294967296*4294967296^p=((v (p+1)+1)*4294967296)*4294967296^p*4294967296:=by rw[Int.mul_right_comm]
   have e3:val f (p+3)=val f (p+2+1):=rfl;omega
 .intro q hq;exact aKO hp hV tv.1 tf.2 Yo Yo hq
 .intro g hg;obtain⟨h1,h2,h3,h4⟩:=hg;exact aGw hp ht tv.1 tv.2 w0.1 tf.1 h2 h3 h4
theorem aAj{T N j:Nat}{G q:Nat->Int}(hv:Dr m v)(h:Dv A m T N v F q (j+1))(hN:j<N)(hg:∀i,0<=G i/\G i<4294967296)(hs:∀i,i<j\/j+m<i->G i=F i)(ht:0<=t/\t<4294967296)(hr:val (sh G j) (m+1)=val (sh F j) (m+1)-t*val v m)(hr1:val (sh G j) (m+1)<val v m):Dv A m T N v G (upd q j t) j:=by
 obtain⟨e1,e2,e3⟩:=ZV h;have hV:=dH hv.w;have b0:=(dH (QE (n:=m) (j:=j) hg)).1;have eG:val (sh G j) (m+1)=val (sh G j) m+G (j+m)*4294967296^m:=rfl;have hz:G (j+m)=0:=by
  rcases Int.lt_or_le 0 (G (j+m)) with h1|h1
  .have:=Int.mul_le_mul_of_nonneg_right (show 1<=G (j+m) by omega) (Int.le_of_lt (pow_pos m));omega
  .have:=(hg (j+m)).1;omega
 rw[hz,Int.zero_mul,Int.add_zero] at eG;have eFG:val G j=val F j:=sP (λi hi=>hs i (Or.inl hi));have eVG:val G (j+m)=val F j+4294967296^j*val (sh G j) m:=by rw[aDo,eFG]
 have bj:=dH (n:=j) (λi _=>h.f i);refine⟨hg,?_,?_,?_,?_,?_⟩
 .exact rng_upd h.g ht.1 ht.2
 .intro i hi;rw[iE _ _ Yo];exact h.qz i Yo
 .intro i h1 h2;rcases Nat.lt_or_ge (j+m) i with h3|h3
  .rw[hs i (Or.inr h3)];exact h.z i Yo h2
  .have:i=j+m:=Yo;subst this;exact hz
 .rw[eVG];have:=Int.mul_le_mul_of_nonneg_left (show val (sh G j) m+1<=val v m by omega) (Int.le_of_lt (pow_pos j));rw[Int.mul_add,Int.mul_one] at this;rw[Int.mul_comm (val v m)];omega
 .rw[eVG, <-eG,hr,wH _ _ _ hN,h.qz j Yo,h.e,e1,Int.sub_zero];rw[Int.mul_sub,Int.mul_add (val v m),Int.mul_comm (4294967296^j) (t*val v m),Int.mul_right_comm t,Int.mul_comm (t*4294967296^j) (val v m)];omega
theorem aFV(hv:Dr m v)(hg:∀i,0<=g i/\g i<4294967296)(ht:val f (m+1)/val v m<=q)(h:val g m=val f m-q*val v m+(c+d)*4294967296^m)(hx:x=f m-c-d)(h0:0<=x)(h1:x<4294967296):val (upd g m x) (m+1)=val f (m+1)-q*val v m/\val (upd g m x) (m+1)<val v m:=by
 have e:val (upd g m x) (m+1)=val f (m+1)-q*val v m:=by
  rw[mX,h,hx];show _=val f m+f m*4294967296^m-_
  rw[Int.sub_mul,Int.sub_mul,Int.add_mul];omega
 refine⟨e,?_⟩;have hV:=hv.pos;have b:=(dH (n:=m+1) (λi _=>rng_upd hg h0 h1 i:Wd (m+1) (upd g m x))).1;have hle:q<=val f (m+1)/val v m:=by rw[Int.le_ediv_iff_mul_le hV];omega
 obtain rfl:q=val f (m+1)/val v m:=Yo;rw[e];have:=Int.mul_ediv_add_emod (val f (m+1)) (val v m);have m1:=Int.emod_lt_of_pos (val f (m+1)) hV;rw[Int.mul_comm] at this;omega
theorem aJt{g2:Nat->Int}{c2:Int}(hv:Dr m v)(hg:∀i,0<=g i/\g i<4294967296)(hg2:∀i,0<=g2 i/\g2 i<4294967296)(hw:q*val v m<val f (m+1)+val v m)(h:val g m=val f m-q*val v m+(c+d)*4294967296^m)(hx:x=f m-c-d)(h0:x<0)(h1: -4294967296<=x)(h2:val g2 m+c2*4294967296^m=val g m+val v m):(x+4294967296+c2)%4294967296=0/\val (upd g2 m 0) (m+1)=val f (m+1)-(q-1)*val v m/\val (upd g2 m 0) (m+1)<val v m:=by
 have hp:=pow_pos m;have hV:=dH hv.w;have bg:=dH (n:=m) (λi _=>hg i:Wd m g);have bg2:=dH (n:=m) (λi _=>hg2 i:Wd m g2);have ef:val f (m+1)=val f m+f m*4294967296^m:=rfl;have e1:val g m=val f (m+1)-q*val v m-x*4294967296^m:=by
  rw[h,hx,ef,Int.sub_mul,Int.sub_mul,Int.add_mul];omega
 have e2:val g2 m=val f (m+1)-q*val v m+val v m-(x+c2)*4294967296^m:=by
  rw[Int.add_mul];omega
 have hneg:val f (m+1)-q*val v m<0:=by
  have a:=Int.mul_le_mul_of_nonneg_right (show x<= -1 by omega) (Int.le_of_lt hp);omega
 obtain⟨R,eR⟩:∃R,val f (m+1)-q*val v m+val v m=R:=⟨_,rfl⟩;have R0:0<R:=Yo;have R1:R<val v m:=Yo;have hs:x+c2=0:=by
  rw[eR] at e2;rcases Int.lt_trichotomy (x+c2) 0 with h3|h3|h3
  .have a:=Int.mul_le_mul_of_nonneg_right (show x+c2<= -1 by omega) (Int.le_of_lt hp);omega
  .exact h3
  .have a:=Int.mul_le_mul_of_nonneg_right (show 1<=x+c2 by omega) (Int.le_of_lt hp);omega
 rw[hs,Int.zero_mul,Int.sub_zero] at e2;have e3:val (upd g2 m 0) (m+1)=val g2 m:=by rw[mX,Int.zero_mul,Int.add_zero]
 refine⟨Yo,?_,?_⟩
 .rw[e3,e2,Int.sub_mul,Int.one_mul];omega
 .rw[e3,e2,eR];exact R1
theorem aMd(hf:Wd m f)(hg:Wd m g)(h:val g m=val f m-q*val v m+(c+d)*4294967296^m)(hy:0<=y)(hx:y-c-d<0)(q0:0<=q):1<=q:=by
 rcases Int.lt_or_le 0 q with h1|h1
 .omega
 .obtain rfl:q=0:=Yo;have bg:=dH hg;have bf:=dH hf;rw[Int.zero_mul,Int.sub_zero] at h;have:=Int.mul_le_mul_of_nonneg_right (show 1<=c+d by omega) (Int.le_of_lt (pow_pos m));omega
end Go.Proofs.YthimcecbgpamdaaGreat
