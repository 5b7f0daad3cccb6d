import Derived.Test.YthimcecbgpamdaaGreatNear66
import Derived.Deep.CutBlock
import Derived.Deep.DeepCutAuto
namespace Go.Proofs.YthimcecbgpamdaaGreat
open Go.RowKit
set_option maxHeartbeats 4000000 in
set_option maxRecDepth 100000 in
theorem aFi(X Y:Int)(h0:4294967296<=Y)(h:Y<=X)(h1:18446744073709551616<=X):uB X Y:=by
 intro n m fa fb va vb w ha hb wa wb na nb hn hm hX hY;have m2:2<=m:=by
  rcases Nat.lt_or_ge m 2 with h2|h2
  .have:=(dJ wb).2;have h3:(4294967296:Int)^m<=4294967296^1:=by rw[nD,nD];exact jG Yo
   have h4:(4294967296:Int)^1=4294967296:=by decide
   omega
  .exact h2
 have n3:3<=n:=by
  rcases Nat.lt_or_ge n 3 with h2|h2
  .have:=(dJ wa).2;have h3:(4294967296:Int)^n<=4294967296^2:=by rw[nD,nD];exact jG Yo
   have h4:(4294967296:Int)^2=18446744073709551616:=by decide
   omega
  .exact h2
 have c0:0<=pO (val fa n) (val fb m):=by unfold pO;rw[if_neg Yo];split<;>decide
 have HA:=aB ha;have HB:=aB hb;have WA:=aB wa;have WB:=aB wb;have NA:=aB na;have NB:=aB nb;have HX:=aB hX;have HY:=aB hY;obtain⟨ao,capa,rfl, -, -, -⟩:=ha.view;obtain⟨bo,capb,rfl, -, -, -⟩:=hb.view;have t1:((m:Int)==0)=false:=by simp;omega
 have t2:((m:Int)==1)=false:=by simp;omega
 clear ha hb wa wb na nb hX hY;go_enter Tryz.func189,Tryz.ntmps189
 go_wp2_with fail
 refine (vR _ _ n m fa fb Yo Yo _ (aA HA) (aA HB) (aA WA) (aA WB) (aA NA) (aA NB)).mono ?_;rintro e w1 ⟨rfl,hd⟩;have HD:=aB (hd.below w.heap.size);clear hd;go_wp2_with fail
 refine (Y6 _ m fb Yo _ ((aA HB).below (aA HD)) (aA WB) (aA NB)).mono ?_;rintro e w2 ⟨L,rfl, -,l1,l2,rfl⟩;rw[aA HY] at l1 l2;have l2':=l2 Yo;have hL1:1<=L:=by
  rcases Nat.eq_zero_or_pos L with h2|h2
  .subst h2;have:Y<1:=l1;omega
  .exact h2
 have hL2:L<=32*n:=by
  have a:=(dJ (aA WA)).2;rw[aA HX,nD] at a;have hK:(2:Int)^L<2^(32*n+1):=by rw[Int.pow_succ];omega
  exact Nat.le_of_lt_succ (UM hK)
 have LL:=aB (show Y<2^L/\2^L<=2*Y from ⟨l1,l2'⟩);obtain⟨s,es⟩:∃s,31-(L-1)%32=s:=⟨_,rfl⟩;have hs:s<32:=Yo;have es2:31-((L:Int)-1)%32=(s:Int):=Yo;clear l1 l2 l2';go_wp2_with fail
 rw[show (32-((L:Int)-1)%32-1)=(s:Int) by omega];refine (U4 _ m s fb Yo Yo _ ((aA HB).below (aA HD)) (aA WB)).mono ?_;rintro e w3 ⟨vv,l,fv,rfl,v2,v3,v4,v5,v6⟩;rw[aA HY] at v5;obtain⟨hl,hDr,hbig⟩:=aHK hL1 (aA LL).1 (aA LL).2 h0 v3 v4 (by rw[es];exact v5);have l2:=hDr.m2;have l3:l<=n:=Yo;clear hl es es2 hL1 hL2;obtain⟨p,rfl⟩:∃p,l=p+2:=⟨l-2,Yo⟩;obtain⟨N,rfl⟩:∃N,n=p+N:=⟨n-p,Yo⟩;have N2:2<=N:=Yo;have HDr:=aB hDr;have HBig:=aB hbig;have HV:=aB v5;have HB3:=aB (fA (aA HD) v6 (aA HD).size);obtain⟨vo,capv,rfl, -, -, -⟩:=v2.view;have HVS:=aB v2;have HAS:=aB ((((aA HA).below (aA HD)).below v6).below (eY w3 (.cells (madeCells #[.int .u32 0] (p+N+2)) 200)));have hmk:=λwx=>run_make_row' (P:=Tryz.prog) 168 200 (.int .u32 0) 4 Tryz.underlying168 Tryz.infoU32 rfl .i64 .i64 (p+N+2) Yo Yo wx
 rw[show ((p+N+2:Nat):Int)=(p:Int)+(N:Int)+2 by omega] at hmk;clear v2 v3 v4 v5 v6 hDr hbig;go_wp2_with fail
 refine (U4 _ (p+N) s fa Yo Yo _ (aA HAS) (aA WA)).mono ?_;rintro e w4 ⟨va,la,fu,rfl,u2,u3,u4,u5,u6⟩;rw[aA HX] at u5;obtain⟨uo,capu,rfl, -, -, -⟩:=u2.view;have hla:la<=p+N+1:=by
  refine mV u3 u4 ?_;have a:=(dJ (aA WA)).2;rw[aA HX] at a;rw[u5,Int.pow_succ];have b:=jG (show s<=32 by omega);have c:(2:Int)^32=4294967296:=by decide
  have d1:=Int.mul_lt_mul_of_pos_right a (gI s);have d2:=Int.mul_le_mul_of_nonneg_left (show (2:Int)^s<=4294967296 by omega) (Int.le_of_lt (pow_pos (p+N)));omega
 have hg4:w4.heap[w3.heap.size]?=some (.cells (madeCells #[.int .u32 0] (p+N+2)) 200 (0,0)):=by
  rw[u6.block w3.heap.size (by simp)];show (w3.heap.push _)[w3.heap.size]?=_
  rw[Array.getElem?_push_size]
 obtain⟨w5,hcp,ho5,hk5⟩:=ZC (p+N+2) la capu w3.heap.size uo fu Yo w4 hg4 u2;have HO5:=aB ho5;have HVS5:=aB (show Sl w5 (.slice vo (p+2) capv) (p+2) fv from by
  have a:=((aA HVS).below (eY w3 _)).below u6;exact a.kept hk5 (λb cap hb=>by
   have c:=aA HVS;rcases c with ⟨-,c⟩|⟨b',cap',hv', -, -,hlt, -⟩
   .omega
   .rw[hv'] at hb;cases hb;omega))
 have HB5:=aB (show Below w.heap.size w w5 from by
  have a:=fA (aA HB3) (eY w3 (.cells (madeCells #[.int .u32 0] (p+N+2)) 200)) (aA HB3).size;have b:=fA a u6 a.size;exact jE b hk5 (aA HB3).size)
 have HS5:=aB (show w3.heap.size<w5.heap.size from ho5.lt);have UV:=aB (show val (sG la fu) (p+N+2)=X*2^s from by rw[CY fu Yo];exact u5);have UW:=aB (show ∀i,0<=sG la fu i/\sG la fu i<4294967296 from λi=>by
  show 0<=(if i<la then fu i else 0)/\(if i<la then fu i else 0)<4294967296
  split
  .rename_i h;exact u3 i h
  .exact⟨Int.le_refl _,by decide⟩)
 have hmk2:=λwx=>run_make_row' (P:=Tryz.prog) 168 200 (.int .u32 0) 4 Tryz.underlying168 Tryz.infoU32 rfl .i64 .i64 N Yo Yo wx
 obtain⟨bv,rfl,hbv,hrv⟩:∃bv,vo=some ⟨bv,0,none⟩/\bv<w3.heap.size/\Row w5 bv (p+2) fv:=by
  rcases aA HVS5 with ⟨-,c⟩|⟨b',cap',hv', -, -, -,hr⟩
  .omega
  .rcases aA HVS with ⟨-,c⟩|⟨b2,cap2,hv2, -, -,hlt, -⟩
   .omega
   .cases hv';cases hv2
    exact⟨b',rfl,hlt,hr⟩
 have cv1:=hrv (p+1) Yo;have cv2:=hrv p Yo;have HRV:=aB hrv;clear hrv;have eN:(p:Int)+(N:Int)+2-((p:Int)+2)=(N:Int):=Yo;clear u2 u3 u4 u5 u6 hg4 ho5 hk5 hmk;go_wp2_with fail
 have HI:=aB (show Dv (X*2^s) (p+2) (p+N+2) N fv (sG la fu) (λ_=>0) N from by
  refine⟨aA UW,λ_=>⟨Int.le_refl _,by decide⟩,λ_ _=>rfl,λi h1 h2=>by omega,?_,?_⟩
  .rw[show N+(p+2)=p+N+2 by omega,aA UV];have a:=(dJ (aA WA)).2;rw[aA HX] at a;have b:=jG (show s<=31 by omega);have c:(2:Int)^31=2147483648:=by decide
   have d1:=Int.mul_lt_mul_of_pos_right a (gI s);have d2:=Int.mul_le_mul_of_nonneg_left (show (2:Int)^s<=2147483648 by omega) (Int.le_of_lt (pow_pos (p+N)));have d3:=Int.mul_le_mul_of_nonneg_right (show (4294967296:Int)^(p+2)<=2*val fv (p+2) from aA HBig) (Int.le_of_lt (pow_pos N));rw[<-Int.pow_add,show p+2+N=p+N+2 by omega,Int.pow_add,show (4294967296:Int)^2=18446744073709551616 by decide,Int.mul_assoc 2] at d3;have:=pow_pos (p+N);omega
  .rw[show N+(p+2)=p+N+2 by omega,aA UV,fV (m:=0) (Xz _) (λ_ _ _=>rfl)];show _=_+val fv (p+2)*0
   omega)
 have cw1:=kF cv1 (eY w5 (.cells (madeCells #[.int .u32 0] N) 200));have cw2:=kF cv2 (eY w5 (.cells (madeCells #[.int .u32 0] N) 200));clear hmk2 hcp cv1 cv2;have hv1:=(aA HDr).w (p+1) Yo;have hv0:=(aA HDr).w p Yo;have htop:2147483648<=fv (p+1):=(aA HDr).top;obtain⟨v10,v11⟩:=hv1;obtain⟨v00,v01⟩:=hv0;have HO6:=aB (show Own (w5.alloc (.cells (madeCells #[.int .u32 0] N) 200)) w3.heap.size (p+N+2) (sG la fu) from (aA HO5).same (by
  show (w5.heap.push _)[w3.heap.size]?=_
  rw[Array.getElem?_push,if_neg (by have:=aA HS5;omega)]))
 have HQ6:=aB (qP w5 N);have hne:w3.heap.size≠w5.heap.size:=by have:=aA HS5;omega
 have HB6:=aB (show Below w3.heap.size w5 (w5.alloc (.cells (madeCells #[.int .u32 0] N) 200)) from (eY w5 _).mono (by have:=aA HS5;omega))
 go_region
 go_wp2_with fail
 clear cw1 cw2
 go_loopg [18,19,20,21,22,23,24,25,26,27] N (λgk js _ _ _ _ _ _ _ _ _ wr=>∃(F q:Nat->Int),js=.int .i64 ((gk:Int)-1)/\gk<=N/\Own wr w3.heap.size (p+N+2) F/\Own wr w5.heap.size N q/\Dv (X*2^s) (p+2) (p+N+2) N fv F q gk/\Below w3.heap.size w5 wr)
 case atStart=>exact⟨_,_,rfl,Xr _,aA HO6,aA HQ6,aA HI,(aA HB6).drew⟩
 case round=>
  obtain⟨F,q,rfl,hgk,hO,hQ,hDv,hBw⟩:=hrel;have HO:=aB hO;have HQ:=aB hQ;have HDv:=aB hDv;have HBw:=aB hBw;clear hO hQ hDv hBw;rcases Nat.eq_zero_or_pos gk with hz|hz
  .subst hz;have hdone:=aA HDv;have eQ:val q N=X/Y/\val F (p+N+2)=X%Y*2^s:=by
    have e1:=hdone.e;have e2:=hdone.lt;have e3:val F (p+N+2)=val F (0+(p+2)):=by
     rw[Nat.zero_add];exact fV Yo (λi a b=>hdone.z i Yo b)
    have e4:=(dJ (n:=0+(p+2)) (λi _=>hdone.f i)).1;have hV:=aA HV;have hp:=gI s;rw[<-e3] at e1 e2 e4;rw[Int.pow_zero,Int.mul_one] at e2;have hpos:0<val fv (p+2):=(aA HDr).pos;have d1:X*2^s/val fv (p+2)=val q N:=by
     rw[e1,Int.add_mul_ediv_left _ _ Yo,Int.ediv_eq_zero_of_lt e4 e2,Int.zero_add]
    have d2:X*2^s%val fv (p+2)=val F (p+N+2):=by
     rw[e1,Int.add_mul_emod_self_left,Int.emod_eq_of_lt e4 e2]
    rw[hV] at d1 d2;rw[Int.mul_ediv_mul_of_pos_left _ _ hp] at d1;rw[Int.mul_comm X,Int.mul_comm Y,Int.mul_emod_mul_of_pos _ _ hp] at d2;exact⟨d1.symm,by rw[<-d2,Int.mul_comm]⟩
   have EQ:=aB eQ;clear eQ hdone;have HBA:=aB ((aA HB5).trans ((aA HBw).mono (aA HB3).size));go_wp2_with fail
   refine (lG w5.heap.size N N q (Xr _) Yo _ (aA HQ).row).mono ?_;rintro e w6 ⟨l1,rfl,k1,z1,nm1,rfl⟩;have Z1:=aB z1;have NM1:=aB nm1;clear z1 nm1;go_wp2_with fail
   refine (lG w3.heap.size (p+N+2) (p+N+2) F (Xr _) Yo _ (aA HO).row).mono ?_;rintro e w7 ⟨l2',rfl,k2,z2,nm2,rfl⟩;have Z2:=aB z2;clear z2 nm2;go_wp2_with fail
   refine (XE _ l2' s F Yo Yo _ (Or.inr ⟨_,_,rfl,k2,Yo,(aA HO).lt,(aA HO).row.less k2⟩) (λi _=>(aA HDv).f i)).mono ?_;rintro e w8 ⟨v2,l3',f2,rfl,s2,d2,n2,e2,b2⟩;have FF:=aB (show Sl w8 (.slice (some ⟨w5.heap.size,0,none⟩) l1 N) l1 q/\Wd l1 q/\Nm l1 q/\Sl w8 v2 l3' f2/\Wd l3' f2/\Nm l3' f2/\val q l1=X/Y/\val f2 l3'=X%Y/\Below w.heap.size w w8 from by
    refine⟨Sl.below (Or.inr ⟨_,_,rfl,k1,Yo,(aA HQ).lt,(aA HQ).row.less k1⟩) b2,λi _=>(aA HDv).g i,aA NM1,s2,d2,n2,?_,?_,fA (aA HBA) b2 (aA HBA).size⟩
    .rw[<-fV k1 (aA Z1)];exact (aA EQ).1
    .rw[e2, <-fV k2 (aA Z2),(aA EQ).2];exact Int.mul_ediv_cancel _ (by have:=gI s;omega))
   clear s2 d2 n2 e2 b2;go_wp2_with fail
   go_ret2
   exact⟨_,_,l1,l3',q,f2,rfl,aA FF⟩
  .obtain⟨j,rfl⟩:∃j,gk=j+1:=⟨gk-1,Yo⟩;rw[show (((j+1:Nat):Int)-1)=(j:Int) by omega];have co2:=(aA HO).cell (show j+(p+2)<p+N+2 by omega);have co1:=(aA HO).cell (show j+(p+1)<p+N+2 by omega);have co0:=(aA HO).cell (show j+p<p+N+2 by omega);obtain⟨f20,f21⟩:=(aA HDv).f (j+(p+2));obtain⟨f10,f11⟩:=(aA HDv).f (j+(p+1));obtain⟨f00,f01⟩:=(aA HDv).f (j+p);have eo:=vT (F (j+(p+2))) (F (j+(p+1))) f20 f21 f10 f11;obtain⟨hh,ehh⟩:∃hh,F (j+(p+2))*4294967296+F (j+(p+1))=hh:=⟨_,rfl⟩;have hh0:0<=hh:=Yo;have hh1:hh<18446744073709551616:=Yo;rw[ehh] at eo;go_wp2_with fail
   have co1b:wr.cell? ⟨w3.heap.size,j+(p+2)-1,none⟩=some (.int .u32 (F (j+(p+1)))):=by rw[show j+(p+2)-1=j+(p+1) by omega];exact co1
   have co1c:wr.cell? ⟨w3.heap.size,j+p+1,none⟩=some (.int .u32 (F (j+(p+1)))):=co1
   go_region
   go_wp2_with fail
   obtain⟨tq,etq⟩:∃tq,val (sh F j) (p+2+1)/val fv (p+2)=tq:=⟨_,rfl⟩;obtain⟨b0,b1,b2,b3,b4⟩:=aHt (aA HDr) (λi=>(aA HDv).f (j+i)) (ZP (aA HDv)).2.2;have hle:hh<=fv (p+1)*4294967296+4294967295:=by rw[<-ehh];exact b2
   have HT:∀q,hh*4294967296+F (j+p)<q*(fv (p+1)*4294967296+fv p)->tq<q:=by rw[<-ehh, <-etq];exact b3
   have HW:∀g,yS hh (F (j+p)) (fv (p+1)) (fv p) tq g->g*val fv (p+2)<val (sh F j) (p+2+1)+val fv (p+2):=by rw[<-ehh, <-etq];exact b4
   have HGu:=aB HT;have HGw:=aB HW;have t0:0<=tq:=by rw[<-etq];exact b0
   have t1':tq<=4294967295:=by rw[<-etq];exact b1
   have HTQ:=aB (And.intro t0 t1');have HLE:=aB hle;have gst:=aHW htop v00 hh0 hle f01 HT;have td:hh.tdiv (fv (p+1))=hh/fv (p+1):=Int.tdiv_eq_ediv_of_nonneg hh0;have tm:hh.tmod (fv (p+1))=hh%fv (p+1):=Int.tmod_eq_emod_of_nonneg hh0;obtain⟨g0,eg0⟩:∃g0,hh/fv (p+1)=g0:=⟨_,rfl⟩;obtain⟨r0,er0⟩:∃r0,hh%fv (p+1)=r0:=⟨_,rfl⟩;rw[eg0] at td;rw[er0] at tm;rw[eg0,er0] at gst;have GST:=aB gst;obtain⟨⟨ga,gb,gc, -⟩,gd⟩:=gst;have g0p:0<=g0:=Yo;have hnz:fv (p+1)≠0:=Yo;have EHH:=aB ehh;have ETQ:=aB etq;clear b0 b1 b2 b3 b4 ehh etq HT HW hle t0 t1' eg0 er0 co1 co1b co1c co2 eo ga
   go_region
   go_upto_block 2 with fail
   clear td tm
   go_cut [20,21] (λgs rs wx=>∃(g r:Int),gs=.int .u64 g/\rs=.int .u64 r/\yS hh (F (j+p)) (fv (p+1)) (fv p) tq g/\Own wx w3.heap.size (p+N+2) F/\Own wx w5.heap.size N q/\Below w3.heap.size w5 wx)
   case first=>
    clear hz hh1 hnz f10 f11 f20 f21;go_wp2_with fail
    go_loopg [20,21] g0.toNat (λgk gs rs wx=>∃(g r:Int),gs=.int .u64 g/\rs=.int .u64 r/\gk=g.toNat/\r<4294967296/\Gs hh (fv (p+1)) tq g r/\Own wx w3.heap.size (p+N+2) F/\Own wx w5.heap.size N q/\Below w3.heap.size w5 wx)
    case atStart=>exact⟨_,_,rfl,rfl,rfl,Yo,(aA GST).1,(aA HO).same rfl,(aA HQ).same rfl,(aA HBw).drew.drew⟩
    case round=>
     obtain⟨g,r,rfl,rfl,rfl,hr1,hG,hOx,hQx,hBx⟩:=hrel;have cx0:=hOx.cell (show j+p<p+N+2 by omega);have cx0b:wr.cell? ⟨w3.heap.size,j+(p+2)-2,none⟩=some (.int .u32 (F (j+p))):=by rw[show j+(p+2)-2=j+p by omega];exact cx0
     have HOx:=aB hOx;have HQx:=aB hQx;have HBx:=aB hBx;have HW:=aJj hG (aA HTQ).1 (aA HTQ).2 htop v00 v01 (aA HLE) f00 (aA HGu);obtain⟨hq0,hq1,hr0, -⟩:=hG;have hg0:0<=g:=by have:=(aA HTQ).1;omega
     clear hOx hQx hBx gb gc gd g0p;have eo:=vT r (F (j+p)) hr0 hr1 f00 f01;obtain⟨y,ey⟩:∃y,r*4294967296+F (j+p)=y:=⟨_,rfl⟩;have hy:4294967296*r+F (j+p)=y:=Yo;rw[ey] at eo;rw[hy] at HW;have y0:0<=y:=Yo;have y1:y<18446744073709551616:=Yo;have gp0:0<=g*fv p:=Int.mul_nonneg hg0 v00;have gp1:g<=4294967295->g*fv p<18446744073709551616:=λhg=>by
      have:=Int.mul_le_mul hg (show fv p<=4294967295 by omega) v00 Yo;omega
     have GP1:=aB gp1;clear gp1;clear ey hy;have rv:0<=r+fv (p+1)/\r+fv (p+1)<18446744073709551616:=Yo;rcases HW with ⟨h1,h2,h3⟩|⟨h1,h2,h3,h4,h5⟩|⟨h1,h2,h3⟩|⟨h1,h2,h3,h4,h5⟩|⟨h1,h2,h3⟩
     .have H3:=aB h3;clear h3;have g1:1<=g:=Yo;go_wp2_with fail
      go_roundg (g-1).toNat
      case measure=>omega
      case rel=>exact⟨_,_,rfl,rfl,rfl,h2,aA H3,aA HOx,aA HQx,aA HBx⟩
     .have H3:=aB h5;clear h5;have gp2:=aA GP1 Yo;go_wp2_with fail
      go_roundg (g-1).toNat
      case measure=>omega
      case rel=>exact⟨_,_,rfl,rfl,rfl,h4,aA H3,aA HOx,aA HQx,aA HBx⟩
     .have H3:=aB h3;clear h3;have g1:1<=g:=Yo;go_wp2_with fail
      go_meet
      exact⟨_,_,rfl,rfl,aA H3,aA HOx,aA HQx,aA HBx⟩
     .have H3:=aB h5;clear h5;have gp2:=aA GP1 Yo;go_wp2_with fail
      go_meet
      exact⟨_,_,rfl,rfl,aA H3,aA HOx,aA HQx,aA HBx⟩
     .have H3:=aB h3;clear h3;have gp2:=aA GP1 Yo;go_wp2_with fail
      go_meet
      exact⟨_,_,rfl,rfl,aA H3,aA HOx,aA HQx,aA HBx⟩
   case rest=>
    obtain⟨g,r,rfl,rfl,hge,hO2,hQ2,hB2⟩:=hcut;have HGE:=aB hge;have HO2:=aB hO2;have HQ2:=aB hQ2;have HB2:=aB hB2;obtain⟨-,ge0,ge1, -⟩:=hge;clear hO2 hQ2 hB2 HO HQ HBw gd gb gc g0p hnz hz hh0 hh1 co0 f00 f01 f10 f11;go_wp2_with fail
    go_loopg [22,23,24,25] (p+2) (λgk cs ds is _ wx=>∃(i:Nat) (c d:Int) (G:Nat->Int),cs=.int .u64 c/\ds=.int .u64 d/\is=.int .i64 i/\i<=p+2/\gk=p+2-i/\0<=c/\c<4294967296/\0<=d/\d<=1/\(∀k,0<=G k/\G k<4294967296)/\(∀k,k<j\/j+i<=k->G k=F k)/\val (sh G j) i=val (sh F j) i-g*val fv i+(c+d)*4294967296^i/\Own wx w3.heap.size (p+N+2) G/\Own wx w5.heap.size N q/\Below w3.heap.size w5 wx)
    case atStart=>exact⟨0,0,0,F,rfl,rfl,rfl,Xz _,rfl,Int.le_refl _,by decide,Int.le_refl _,by decide,(aA HDv).f,λ_ _=>rfl,by show 0=0-g*0+(0+0)*_;simp,aA HO2,aA HQ2,aA HB2⟩
    case round=>
     obtain⟨i,c,d,G,rfl,rfl,rfl,hi,rfl,c0',c1,d0,d1,hG,hs',hv,hOx,hQx,hBx⟩:=hrel;have HG:=aB hG;have HS:=aB hs';have HVV:=aB hv;have HOx:=aB hOx;have HQx:=aB hQx;have HBx:=aB hBx;clear hG hs' hv hOx hQx hBx;by_cases hip:i<p+2
     .obtain⟨b0,b1⟩:=(aA HDr).w i hip;obtain⟨a0,a1⟩:=aA HG (j+i);obtain⟨p0,p1⟩:=NH ge0 Yo b0 b1;obtain⟨pr,epr⟩:∃pr,g*fv i=pr:=⟨_,rfl⟩;rw[epr] at p0 p1;obtain⟨t,et⟩:∃t,c+pr=t:=⟨_,rfl⟩;have t0:0<=t:=Yo;have t9:t<18446744073709551616:=Yo;have wp:IntKind.u64.wrap pr=pr:=by rw[IntKind.wrap_u64];omega
      have wt:IntKind.u64.wrap t=t:=by rw[IntKind.wrap_u64];omega
      have cv:=(aA HBx).cell (p:=⟨bv,i,none⟩) hbv;rw[aA HRV i hip] at cv;obtain⟨U,eU⟩:∃U,G (i+j)=U:=⟨_,rfl⟩;have co:=(aA HOx).cell (show i+j<p+N+2 by omega);rw[eU] at co;rw[Nat.add_comm j i,eU] at a0 a1;have fo:=(aA HOx).free (i+j);obtain⟨D,eD⟩:∃D,IntKind.u64.wrap (IntKind.u64.wrap (U-t%4294967296)-d)=D:=⟨_,rfl⟩;have hD:D=(U-t%4294967296-d)%18446744073709551616:=by rw[<-eD];simp only[IntKind.wrap_u64];omega
      have D0:0<=D:=Yo;have D1:D<18446744073709551616:=Yo;have D2:0<=D/9223372036854775808/\D/9223372036854775808<=1:=Yo;have HST:=aB (show val (sh (upd G (i+j) (D%4294967296)) j) (i+1)=val (sh F j) (i+1)-g*val fv (i+1)+(t/4294967296+D/9223372036854775808)*4294967296^(i+1) from by
       rw[Nat.add_comm i j,JX];refine aJa (t:=U-t%4294967296-d) (aA HVV) (c1:=t) (by rw[epr];omega) ?_ Yo;show _=F (j+i)-_-_
       rw[<-aA HS (j+i) (Or.inr (Xr _)),Nat.add_comm j i,eU])
      have EU:=aB eU;clear hD eU;go_wp2_with fail
      go_roundg (p+2-(i+1))
      case measure=>omega
      case rel=>exact⟨i+1,_,_,_,rfl,rfl,by go_num,Yo,rfl,Yo,Yo,D2.1,D2.2,rng_upd (aA HG) Yo Yo,λk hk=>by rw[iL _ _ Yo];exact aA HS k Yo,aA HST,(aA HOx).set (i+j) _,(aA HQx).other (λe=>hne e.symm) _ _,(aA HBx).setCell (Xr _) _⟩
     .obtain rfl:i=p+2:=Yo;clear hip hi;obtain⟨U,eU⟩:∃U,F (j+(p+2))=U:=⟨_,rfl⟩;rw[eU] at f20 f21;have eG:G (j+(p+2))=U:=by rw[aA HS (j+(p+2)) (Or.inr (Xr _)),eU]
      have co:=(aA HOx).cell (show j+(p+2)<p+N+2 by omega);rw[eG] at co;have fo:=(aA HOx).free (j+(p+2));have cq:=(aA HQx).cell (show j<N by omega);have fq:=(aA HQx).free j;have cq2:=λx=>((aA HQx).other (b:=w5.heap.size) (c:=w3.heap.size) (λe=>hne e.symm) (j+(p+2)) (.int .u32 x)).cell (show j<N by omega)
      have fq2:=λx=>((aA HQx).other (b:=w5.heap.size) (c:=w3.heap.size) (λe=>hne e.symm) (j+(p+2)) (.int .u32 x)).free j
      have EU:=aB eU;have EG:=aB eG;clear eU eG;obtain⟨D,eD⟩:∃D,IntKind.u64.wrap (IntKind.u64.wrap (U-c)-d)=D:=⟨_,rfl⟩;have hD:D=(U-c-d)%18446744073709551616:=by rw[<-eD];simp only[IntKind.wrap_u64];omega
      by_cases hx:0<=U-c-d
      .have D3:D=U-c-d:=Yo;have D0:0<=D:=Yo;have D1:D<4294967296:=Yo;have D2:D/9223372036854775808=0:=Yo;have HD3:=aB D3;clear D3 hD hx;have HFin:=aB (show Dv (X*2^s) (p+2) (p+N+2) N fv (upd G (j+(p+2)) D) (upd q j g) j from by
        have r:=aGW (m:=p+2) (v:=fv) (f:=sh F j) (g:=sh G j) (q:=g) (c:=c) (d:=d) (x:=D) (aA HDr) (λi=>aA HG (j+i)) (by rw[aA ETQ];exact (aA HGE).1) (aA HVV) (by show D=F (j+(p+2))-c-d;rw[aA EU];exact aA HD3) D0 D1;rw[<-JX] at r;exact aAy (aA HDr) (aA HDv) Yo (rng_upd (aA HG) D0 D1) (λi hi=>by rw[iL _ _ Yo];exact aA HS i Yo) ⟨ge0,Yo⟩ r.1 r.2)
       go_wp2_with fail
       go_roundg j
       case measure=>omega
       case rel=>exact⟨_,_,rfl,Yo,((aA HOx).set (j+(p+2)) D).other hne _ _,((aA HQx).other (λe=>hne e.symm) _ _).set j g,aA HFin,((aA HBx).setCell (Xr _) _).setCell (Nat.le_of_lt (aA HS5)) _⟩
      .have D3:D=U-c-d+18446744073709551616:=Yo;have D0:0<=D:=Yo;have D1:D<18446744073709551616:=Yo;have D2:D/9223372036854775808=1:=Yo;have HD3:=aB D3;have HX:=aB hx;have g1:1<=g:=aMK (QJ (aA HDv).f) (QJ (aA HG)) (aA HVV) f20 Yo ge0;obtain⟨z,ez⟩:∃z,D%4294967296=z:=⟨_,rfl⟩;have z0:0<=z:=Yo;have z1:z<4294967296:=Yo;have EZ:=aB ez;clear D3 hD hx cq fq;have HO3:=aB ((aA HOx).set (j+(p+2)) z);have HQ3:=aB ((aA HQx).other (c:=w3.heap.size) (λe=>hne e.symm) (j+(p+2)) (.int .u32 z));have HB4:=aB ((aA HBx).setCell (p:=⟨w3.heap.size,j+(p+2),none⟩) (Xr _) (.int .u32 z));go_wp2_with fail
       clear cq2 fq2 co fo
       go_loopg [22,27] (p+2) (λgk cs is wx=>∃(i:Nat) (c2:Int) (G2:Nat->Int),cs=.int .u64 c2/\is=.int .i64 i/\i<=p+2/\gk=p+2-i/\0<=c2/\c2<=1/\(∀k,0<=G2 k/\G2 k<4294967296)/\(∀k,k<j\/j+i<=k->G2 k=upd G (j+(p+2)) z k)/\val (sh G2 j) i+c2*4294967296^i=val (sh G j) i+val fv i/\Own wx w3.heap.size (p+N+2) G2/\Own wx w5.heap.size N q/\Below w3.heap.size w5 wx)
       case atStart=>exact⟨0,0,_,rfl,rfl,Xz _,rfl,Int.le_refl _,by decide,rng_upd (aA HG) z0 z1,λ_ _=>rfl,by show 0+0*_=0+0;simp,aA HO3,aA HQ3,aA HB4⟩
       case round=>
        obtain⟨i,c2,G2,rfl,rfl,hi,rfl,e0,e1,hG2,hs2,hv2,hO4,hQ4,hB4⟩:=hrel;have HG2:=aB hG2;have HS2:=aB hs2;have HV2:=aB hv2;have HO4:=aB hO4;have HQ4:=aB hQ4;have HB4:=aB hB4;clear hG2 hs2 hv2 hO4 hQ4 hB4;by_cases hip:i<p+2
        .obtain⟨b0,b1⟩:=(aA HDr).w i hip;obtain⟨a0,a1⟩:=aA HG2 (i+j);obtain⟨V,eV⟩:∃V,G2 (i+j)=V:=⟨_,rfl⟩;rw[eV] at a0 a1;have cv:=(aA HB4).cell (p:=⟨bv,i,none⟩) hbv;rw[aA HRV i hip] at cv;have co:=(aA HO4).cell (show i+j<p+N+2 by omega);rw[eV] at co;have fo:=(aA HO4).free (i+j);obtain⟨t,et⟩:∃t,c2+(V+fv i)=t:=⟨_,rfl⟩;have t0:0<=t:=Yo;have t9:t<8589934592:=Yo;have HST:=aB (show val (sh (upd G2 (i+j) (t%4294967296)) j) (i+1)+t/4294967296*4294967296^(i+1)=val (sh G j) (i+1)+val fv (i+1) from by
          rw[Nat.add_comm i j,JX];refine aJM (aA HV2) ?_;show _=c2+(G (j+i)+fv i)
          have e1:=aA HS2 (j+i) (Or.inr (Xr _));rw[iL _ _ Yo] at e1;rw[<-e1,Nat.add_comm j i,eV,et])
         clear eV;go_wp2_with fail
         go_region
         go_wp2_with fail
         go_roundg (p+2-(i+1))
         case measure=>omega
         case rel=>exact⟨i+1,_,_,rfl,by go_num,Yo,rfl,Yo,Yo,rng_upd (aA HG2) Yo Yo,λk hk=>by rw[iL _ _ Yo];exact aA HS2 k Yo,aA HST,(aA HO4).set (i+j) _,(aA HQ4).other (λe=>hne e.symm) _ _,((aA HB4).setCell (Xr _) _).drew⟩
        .obtain rfl:i=p+2:=Yo;clear hip hi;have eG2:G2 (j+(p+2))=z:=by rw[aA HS2 (j+(p+2)) (Or.inr (Xr _)),I1]
         have co:=(aA HO4).cell (show j+(p+2)<p+N+2 by omega);rw[eG2] at co;have fo:=(aA HO4).free (j+(p+2));have cq2:=λx=>((aA HQ4).other (b:=w5.heap.size) (c:=w3.heap.size) (λe=>hne e.symm) (j+(p+2)) (.int .u32 x)).cell (show j<N by omega)
         have fq2:=λx=>((aA HQ4).other (b:=w5.heap.size) (c:=w3.heap.size) (λe=>hne e.symm) (j+(p+2)) (.int .u32 x)).free j
         obtain⟨r1,r2,r3⟩:=aJE (m:=p+2) (v:=fv) (f:=sh F j) (g:=sh G j) (g2:=sh G2 j) (q:=g) (c:=c) (d:=d) (x:=U-c-d) (c2:=c2) (aA HDr) (λi=>aA HG (j+i)) (λi=>aA HG2 (j+i)) (aA HGw g (aA HGE)) (aA HVV) (by show _=F (j+(p+2))-c-d;rw[aA EU]) (by have:=aA HX;omega) Yo (aA HV2);rw[<-JX] at r2 r3;have HFin:=aB (show Dv (X*2^s) (p+2) (p+N+2) N fv (upd G2 (j+(p+2)) 0) (upd q j (g-1)) j from
          aAy (aA HDr) (aA HDv) Yo (rng_upd (aA HG2) (Int.le_refl _) Yc) (λi hi=>by rw[iL _ _ Yo,aA HS2 i Yo,iL _ _ Yo];exact aA HS i Yo) ⟨Yo,Yo⟩ r2 r3)
         have wz:IntKind.u32.wrap (z+c2)=0:=by
          have a:=aA EZ;have b:=aA HD3;rw[IntKind.wrap_u32];omega
         clear r1 r2 r3 eG2;go_wp2_with fail
         go_roundg j
         case measure=>omega
         case rel=>exact⟨_,_,rfl,Yo,((aA HO4).set (j+(p+2)) 0).other hne _ _,((aA HQ4).other (λe=>hne e.symm) _ _).set j (g-1),aA HFin,((aA HB4).setCell (Xr _) _).setCell (Nat.le_of_lt (aA HS5)) _⟩
end Go.Proofs.YthimcecbgpamdaaGreat
