import Derived.Test.YthimcecbgpamdaaGreatDoorNear199
import Derived.Deep.DeepCutAuto
set_option maxHeartbeats 4000000
set_option maxRecDepth 100000
open Go.Proofs.YthimcecbgpamdaaGreatDoor renaming aA->C,hide->J,Yo->O,absZ->δ,R64->ε,val->ι,SAt->π,decV->σ,Num->τ,Own->φ,offW->ψ,Kept->Γ,offY->Δ,rng_upd->á,wholeV->â,pow_pos->å,fracV->æ
open _root_ renaming rfl->Z,Nat->β,if_neg->η,if_pos->θ,List->χ,Bool->ω,UInt8->Θ,absurd->Λ
open Go.Value renaming int->γ,slice->ρ,pointer->υ,tuple->Ψ,bool->à
open Go.Elab renaming told->ζ
open Option renaming none->κ,some->ξ
open Go.IntKind renaming i64->μ
open Go.Proofs.Tryz renaming prog->ν
open Go renaming Calls->ο,madeCells->Φ,World->Ω,bodyPost_ret->ã,results->ä
open List renaming range->Ξ,length->ç
namespace Go.Proofs.YthimcecbgpamdaaGreatDoor
section
open Go.RowKit
set_option maxHeartbeats 4000000 in
theorem aJR(X Y)(h0:4294967296<=Y)(h:Y<=X)(h1:18446744073709551616<=X):wN X Y:=by
 intro n m fa fb va vb w ha hb wa wb na nb hn hm hX hY;have m2:2<=m:=by
  rcases Ar m 2 with h2|h2
  .have:=(dP wb).2;have h3:(4294967296:Int)^m<=4294967296^1:=by rw[pG,pG];exact kN O
   have h4:(4294967296:Int)^1=4294967296:=by decide
   omega
  exact h2
 have n3:3<=n:=by
  rcases Ar n 3 with h2|h2
  .have:=(dP wa).2;have h3:(4294967296:Int)^n<=4294967296^2:=by rw[pG,pG];exact kN O
   have h4:(4294967296:Int)^2=18446744073709551616:=by decide
   omega
  exact h2
 have c0:0<=sH (ι fa n) (ι fb m):=by unfold sH;rw[η O];split<;>decide
 have HA:=J ha;have HB:=J hb;have WA:=J wa;have WB:=J wb;have NA:=J na;have NB:=J nb;have HX:=J hX;have HY:=J hY;obtain⟨ao,capa,rfl, -, -, -⟩:=ha.view;obtain⟨bo,capb,rfl, -, -, -⟩:=hb.view;have t1:((m:Int)==0)=false:=by simp;omega
 have t2:((m:Int)==1)=false:=by simp;omega
 clear ha hb wa wb na nb hX hY;go_in;go_wp2_with fail;refine (yI _ _ n m fa fb O O _ (C HA) (C HB) (C WA) (C WB) (C NA) (C NB)).mono ?_;rintro e w1 ⟨rfl,hd⟩;have HD:=J (hd.below w.heap.size);clear hd;go_wp2_with fail;refine (I8 _ m fb O _ ((C HB).below (C HD)) (C WB) (C NB)).mono ?_;rintro e w2 ⟨L,rfl, -,l1,l2,rfl⟩;rw[C HY] at l1 l2;have l2':=l2 O;have hL1:1<=L:=by
  rcases Bj L with h2|h2
  .subst h2;have:Y<1:=l1;omega
  exact h2
 have hL2:L<=32*n:=by
  have a:=(dP (C WA)).2;rw[C HX,pG] at a;have hK:(2:Int)^L<2^(32*n+1):=by rw[Bw];omega
  exact Nat.le_of_lt_succ (QH hK)
 have LL:=J (show Y<2^L/\2^L<=2*Y from ⟨l1,l2'⟩);obtain⟨s,es⟩:∃s,31-(L-1)%32=s:=⟨_,rfl⟩;have hs:s<32:=O;have es2:31-((L:Int)-1)%32=(s:Int):=O;clear l1 l2 l2';go_wp2_with fail;rw[show (32-((L:Int)-1)%32-1)=(s:Int) by omega];refine (CW _ m s fb O O _ ((C HB).below (C HD)) (C WB)).mono ?_;rintro e w3 ⟨vv,l,fv,rfl,v2,v3,v4,v5,v6⟩;rw[C HY] at v5;obtain⟨hl,hDr,hbig⟩:=aKB hL1 (C LL).1 (C LL).2 h0 v3 v4 (by rw[es];exact v5);have l2:=hDr.m2;have l3:l<=n:=O;clear hl es es2 hL1 hL2;obtain⟨p,rfl⟩:∃p,l=p+2:=⟨l-2,O⟩;obtain⟨N,rfl⟩:∃N,n=p+N:=⟨n-p,O⟩;have N2:2<=N:=O;have HDr:=J hDr;have HBig:=J hbig;have HV:=J v5;have HB3:=J (bZ (C HD) v6 (C HD).size);obtain⟨vo,capv,rfl, -, -, -⟩:=v2.view;have HVS:=J v2;have HAS:=J ((((C HA).below (C HD)).below v6).below (fQ w3 (.cells (Φ #[γ .u32 0] (p+N+2)) 168)));have hmk:=λwx=>run_make_row' (P:=ν) 139 168 (γ .u32 0) 4 Ec Tryz.infoU32 Z μ μ (p+N+2) O O wx;rw[show ((p+N+2:β):Int)=(p:Int)+(N:Int)+2 by omega] at hmk;clear v2 v3 v4 v5 v6 hDr hbig;go_wp2_with fail;refine (CW _ (p+N) s fa O O _ (C HAS) (C WA)).mono ?_;rintro e w4 ⟨va,la,fu,rfl,u2,u3,u4,u5,u6⟩;rw[C HX] at u5;obtain⟨uo,capu,rfl, -, -, -⟩:=u2.view;have hla:la<=p+N+1:=by
  refine jJ u3 u4 ?_;have a:=(dP (C WA)).2;rw[C HX] at a;rw[u5,Bw];have b:=kN (show s<=32 by omega);have c:(2:Int)^32=4294967296:=by decide
  have d1:=Iz a (iD s);have d2:=Dl (show (2:Int)^s<=4294967296 by omega) (Ba (å (p+N)));omega
 have hg4:w4.heap[w3.heap.size]?=ξ (.cells (Φ #[γ .u32 0] (p+N+2)) 168 (0,0)):=by rw[u6.block w3.heap.size (by simp)];show (w3.heap.push _)[w3.heap.size]?=_;rw[Bt]
 obtain⟨w5,hcp,ho5,hk5⟩:=aDz (p+N+2) la capu w3.heap.size uo fu O w4 hg4 u2;have HO5:=J ho5;have HVS5:=J (show Sl w5 (ρ vo (p+2) capv) (p+2) fv from by
  have a:=((C HVS).below (fQ w3 _)).below u6;exact a.kept hk5 (λb cap hb=>by
   have c:=C HVS;rcases c with ⟨-,c⟩|⟨b',cap',hv', -, -,hlt, -⟩
   .omega
   rw[hv'] at hb;cases hb;omega))
 have HB5:=J (show Below w.heap.size w w5 from by have a:=bZ (C HB3) (fQ w3 (.cells (Φ #[γ .u32 0] (p+N+2)) 168)) (C HB3).size;have b:=bZ a u6 a.size;exact gB b hk5 (C HB3).size);have HS5:=J (show w3.heap.size<w5.heap.size from ho5.lt);have UV:=J (show ι (vN la fu) (p+N+2)=X*2^s from by rw[LG fu O];exact u5);have UW:=J (show ∀i,0<=vN la fu i/\vN la fu i<4294967296 from λi=>by
  show 0<=(if i<la then fu i else 0)/\(if i<la then fu i else 0)<4294967296;split
  .rename_i h;exact u3 i h
  exact⟨Bp _,by decide⟩)
 have hmk2:=λwx=>run_make_row' (P:=ν) 139 168 (γ .u32 0) 4 Ec Tryz.infoU32 Z μ μ N O O wx;obtain⟨bv,rfl,hbv,hrv⟩:∃bv,vo=ξ ⟨bv,0,κ⟩/\bv<w3.heap.size/\Row w5 bv (p+2) fv:=by
  rcases C HVS5 with ⟨-,c⟩|⟨b',cap',hv', -, -, -,hr⟩
  .omega
  rcases C HVS with ⟨-,c⟩|⟨b2,cap2,hv2, -, -,hlt, -⟩
  .omega
  cases hv';cases hv2;exact⟨b',Z,hlt,hr⟩
 have cv1:=hrv (p+1) O;have cv2:=hrv p O;have HRV:=J hrv;clear hrv;have eN:(p:Int)+(N:Int)+2-((p:Int)+2)=(N:Int):=O;clear u2 u3 u4 u5 u6 hg4 ho5 hk5 hmk;go_wp2_with fail;have HI:=J (show Dv (X*2^s) (p+2) (p+N+2) N fv (vN la fu) (λ_=>0) N from by
  refine⟨C UW,λ_=>⟨Bp _,by decide⟩,λ_ _=>rfl,λi h1 h2=>by omega,?_,?_⟩
  .rw[show N+(p+2)=p+N+2 by omega,C UV];have a:=(dP (C WA)).2;rw[C HX] at a;have b:=kN (show s<=31 by omega);have c:(2:Int)^31=2147483648:=by decide
   have d1:=Iz a (iD s);have d2:=Dl (show (2:Int)^s<=2147483648 by omega) (Ba (å (p+N)));have d3:=Ci (show (4294967296:Int)^(p+2)<=2*ι fv (p+2) from C HBig) (Ba (å N));rw[<-Ca,show p+2+N=p+N+2 by omega,Ca,show (4294967296:Int)^2=18446744073709551616 by decide,Av 2] at d3;have:=å (p+N);omega
  rw[show N+(p+2)=p+N+2 by omega,C UV,gV (m:=0) (Xz _) (λ_ _ _=>rfl)];show _=_+ι fv (p+2)*0;omega)
 have cw1:=lG cv1 (fQ w5 (.cells (Φ #[γ .u32 0] N) 168));have cw2:=lG cv2 (fQ w5 (.cells (Φ #[γ .u32 0] N) 168));clear hmk2 hcp cv1 cv2;have hv1:=(C HDr).w (p+1) O;have hv0:=(C HDr).w p O;have htop:2147483648<=fv (p+1):=(C HDr).top;obtain⟨v10,v11⟩:=hv1;obtain⟨v00,v01⟩:=hv0;have HO6:=J (show φ (w5.alloc (.cells (Φ #[γ .u32 0] N) 168)) w3.heap.size (p+N+2) (vN la fu) from (C HO5).same (by show (w5.heap.push _)[w3.heap.size]?=_;rw[Array.getElem?_push,η (by have:=C HS5;omega)]));have HQ6:=J (tX w5 N);have hne:w3.heap.size≠w5.heap.size:=by have:=C HS5;omega
 have HB6:=J (show Below w3.heap.size w5 (w5.alloc (.cells (Φ #[γ .u32 0] N) 168)) from (fQ w5 _).mono (by have:=C HS5;omega));go_region;go_wp2_with fail;clear cw1 cw2;go_loopg [18,19,20,21,22,23,24,25,26,27] N (λgk js _ _ _ _ _ _ _ _ _ wr=>∃(F q:β->Int),js=γ μ ((gk:Int)-1)/\gk<=N/\φ wr w3.heap.size (p+N+2) F/\φ wr w5.heap.size N q/\Dv (X*2^s) (p+2) (p+N+2) N fv F q gk/\Below w3.heap.size w5 wr);case atStart=>exact⟨_,_,rfl,Xr _,C HO6,C HQ6,C HI,(C HB6).drew⟩
 case round=>
  obtain⟨F,q,rfl,hgk,hO,hQ,hDv,hBw⟩:=hrel;have HO:=J hO;have HQ:=J hQ;have HDv:=J hDv;have HBw:=J hBw;clear hO hQ hDv hBw;rcases Bj gk with hz|hz
  .subst hz;have hdone:=C HDv;have eQ:ι q N=X/Y/\ι F (p+N+2)=X%Y*2^s:=by
    have e1:=hdone.e;have e2:=hdone.lt;have e3:ι F (p+N+2)=ι F (0+(p+2)):=by rw[Ah];exact gV O (λi a b=>hdone.z i O b)
    have e4:=(dP (n:=0+(p+2)) (λi _=>hdone.f i)).1;have hV:=C HV;have hp:=iD s;rw[<-e3] at e1 e2 e4;rw[Int.pow_zero,Ep] at e2;have hpos:0<ι fv (p+2):=(C HDr).pos;have d1:X*2^s/ι fv (p+2)=ι q N:=by rw[e1,Int.add_mul_ediv_left _ _ O,Ih e4 e2,Int.zero_add]
    have d2:X*2^s%ι fv (p+2)=ι F (p+N+2):=by rw[e1,Mi,Int.emod_eq_of_lt e4 e2]
    rw[hV] at d1 d2;rw[Int.mul_ediv_mul_of_pos_left _ _ hp] at d1;rw[Bc X,Bc Y,Int.mul_emod_mul_of_pos _ _ hp] at d2;exact⟨d1.symm,by rw[<-d2,Bc]⟩
   have EQ:=J eQ;clear eQ hdone;have HBA:=J ((C HB5).trans ((C HBw).mono (C HB3).size));go_wp2_with fail;refine (mP w5.heap.size N N q (Xr _) O _ (C HQ).row).mono ?_;rintro e w6 ⟨l1,rfl,k1,z1,nm1,rfl⟩;have Z1:=J z1;have NM1:=J nm1;clear z1 nm1;go_wp2_with fail;refine (mP w3.heap.size (p+N+2) (p+N+2) F (Xr _) O _ (C HO).row).mono ?_;rintro e w7 ⟨l2',rfl,k2,z2,nm2,rfl⟩;have Z2:=J z2;clear z2 nm2;go_wp2_with fail;refine (MK _ l2' s F O O _ (Ab ⟨_,_,Z,k2,O,(C HO).lt,(C HO).row.less k2⟩) (λi _=>(C HDv).f i)).mono ?_;rintro e w8 ⟨v2,l3',f2,rfl,s2,d2,n2,e2,b2⟩;have FF:=J (show Sl w8 (ρ (ξ ⟨w5.heap.size,0,κ⟩) l1 N) l1 q/\Wd l1 q/\Nm l1 q/\Sl w8 v2 l3' f2/\Wd l3' f2/\Nm l3' f2/\ι q l1=X/Y/\ι f2 l3'=X%Y/\Below w.heap.size w w8 from by
    refine⟨Sl.below (Ab ⟨_,_,Z,k1,O,(C HQ).lt,(C HQ).row.less k1⟩) b2,λi _=>(C HDv).g i,C NM1,s2,d2,n2,?_,?_,bZ (C HBA) b2 (C HBA).size⟩
    .rw[<-gV k1 (C Z1)];exact (C EQ).1
    rw[e2, <-gV k2 (C Z2),(C EQ).2];exact Int.mul_ediv_cancel _ (by have:=iD s;omega))
   clear s2 d2 n2 e2 b2;go_wp2_with fail;go_ret2;exact⟨_,_,l1,l3',q,f2,Z,C FF⟩
  .obtain⟨j,rfl⟩:∃j,gk=j+1:=⟨gk-1,O⟩;rw[show (((j+1:β):Int)-1)=(j:Int) by omega];have co2:=(C HO).cell (show j+(p+2)<p+N+2 by omega);have co1:=(C HO).cell (show j+(p+1)<p+N+2 by omega);have co0:=(C HO).cell (show j+p<p+N+2 by omega);obtain⟨f20,f21⟩:=(C HDv).f (j+(p+2));obtain⟨f10,f11⟩:=(C HDv).f (j+(p+1));obtain⟨f00,f01⟩:=(C HDv).f (j+p);have eo:=yN (F (j+(p+2))) (F (j+(p+1))) f20 f21 f10 f11;obtain⟨hh,ehh⟩:∃hh,F (j+(p+2))*4294967296+F (j+(p+1))=hh:=⟨_,rfl⟩;have hh0:0<=hh:=O;have hh1:hh<18446744073709551616:=O;rw[ehh] at eo;go_wp2_with fail;have co1b:wr.cell? ⟨w3.heap.size,j+(p+2)-1,κ⟩=ξ (γ .u32 (F (j+(p+1)))):=by rw[show j+(p+2)-1=j+(p+1) by omega];exact co1
   have co1c:wr.cell? ⟨w3.heap.size,j+p+1,κ⟩=ξ (γ .u32 (F (j+(p+1)))):=co1;go_region;go_wp2_with fail;obtain⟨tq,etq⟩:∃tq,ι (sh F j) (p+2+1)/ι fv (p+2)=tq:=⟨_,rfl⟩;obtain⟨b0,b1,b2,b3,b4⟩:=aJT (C HDr) (λi=>(C HDv).f (j+i)) (aDX (C HDv)).2.2;have hle:hh<=fv (p+1)*4294967296+4294967295:=by rw[<-ehh];exact b2
   have HT:∀q,hh*4294967296+F (j+p)<q*(fv (p+1)*4294967296+fv p)->tq<q:=by rw[<-ehh, <-etq];exact b3
   have HW:∀g,R5 hh (F (j+p)) (fv (p+1)) (fv p) tq g->g*ι fv (p+2)<ι (sh F j) (p+2+1)+ι fv (p+2):=by rw[<-ehh, <-etq];exact b4
   have HGu:=J HT;have HGw:=J HW;have t0:0<=tq:=by rw[<-etq];exact b0
   have t1':tq<=4294967295:=by rw[<-etq];exact b1
   have HTQ:=J (And.intro t0 t1');have HLE:=J hle;have gst:=aKi htop v00 hh0 hle f01 HT;have td:hh.tdiv (fv (p+1))=hh/fv (p+1):=Ir hh0;have tm:hh.tmod (fv (p+1))=hh%fv (p+1):=Iq hh0;obtain⟨g0,eg0⟩:∃g0,hh/fv (p+1)=g0:=⟨_,rfl⟩;obtain⟨r0,er0⟩:∃r0,hh%fv (p+1)=r0:=⟨_,rfl⟩;rw[eg0] at td;rw[er0] at tm;rw[eg0,er0] at gst;have GST:=J gst;obtain⟨⟨ga,gb,gc, -⟩,gd⟩:=gst;have g0p:0<=g0:=O;have hnz:fv (p+1)≠0:=O;have EHH:=J ehh;have ETQ:=J etq;clear b0 b1 b2 b3 b4 ehh etq HT HW hle t0 t1' eg0 er0 co1 co1b co1c co2 eo ga;go_region;go_upto_block 2 with fail;clear td tm;go_cut [20,21] (λgs rs wx=>∃(g r:Int),gs=γ .u64 g/\rs=γ .u64 r/\R5 hh (F (j+p)) (fv (p+1)) (fv p) tq g/\φ wx w3.heap.size (p+N+2) F/\φ wx w5.heap.size N q/\Below w3.heap.size w5 wx);case first=>
    clear hz hh1 hnz f10 f11 f20 f21;go_wp2_with fail;go_loopg [20,21] g0.toNat (λgk gs rs wx=>∃(g r:Int),gs=γ .u64 g/\rs=γ .u64 r/\gk=g.toNat/\r<4294967296/\Gs hh (fv (p+1)) tq g r/\φ wx w3.heap.size (p+N+2) F/\φ wx w5.heap.size N q/\Below w3.heap.size w5 wx);case atStart=>exact⟨_,_,rfl,rfl,rfl,O,(C GST).1,(C HO).same rfl,(C HQ).same rfl,(C HBw).drew.drew⟩
    case round=>
     obtain⟨g,r,rfl,rfl,rfl,hr1,hG,hOx,hQx,hBx⟩:=hrel;have cx0:=hOx.cell (show j+p<p+N+2 by omega);have cx0b:wr.cell? ⟨w3.heap.size,j+(p+2)-2,κ⟩=ξ (γ .u32 (F (j+p))):=by rw[show j+(p+2)-2=j+p by omega];exact cx0
     have HOx:=J hOx;have HQx:=J hQx;have HBx:=J hBx;have HW:=aOo hG (C HTQ).1 (C HTQ).2 htop v00 v01 (C HLE) f00 (C HGu);obtain⟨hq0,hq1,hr0, -⟩:=hG;have hg0:0<=g:=by have:=(C HTQ).1;omega
     clear hOx hQx hBx gb gc gd g0p;have eo:=yN r (F (j+p)) hr0 hr1 f00 f01;obtain⟨y,ey⟩:∃y,r*4294967296+F (j+p)=y:=⟨_,rfl⟩;have hy:4294967296*r+F (j+p)=y:=O;rw[ey] at eo;rw[hy] at HW;have y0:0<=y:=O;have y1:y<18446744073709551616:=O;have gp0:0<=g*fv p:=Hg hg0 v00;have gp1:g<=4294967295->g*fv p<18446744073709551616:=λhg=>by have:=rZ hg (show fv p<=4294967295 by omega) v00 O;omega
     have GP1:=J gp1;clear gp1;clear ey hy;have rv:0<=r+fv (p+1)/\r+fv (p+1)<18446744073709551616:=O;rcases HW with ⟨h1,h2,h3⟩|⟨h1,h2,h3,h4,h5⟩|⟨h1,h2,h3⟩|⟨h1,h2,h3,h4,h5⟩|⟨h1,h2,h3⟩
     .have H3:=J h3;clear h3;have g1:1<=g:=O;go_wp2_with fail;go_roundg (g-1).toNat;case measure=>omega
      case rel=>exact⟨_,_,rfl,rfl,rfl,h2,C H3,C HOx,C HQx,C HBx⟩
     .have H3:=J h5;clear h5;have gp2:=C GP1 O;go_wp2_with fail;go_roundg (g-1).toNat;case measure=>omega
      case rel=>exact⟨_,_,rfl,rfl,rfl,h4,C H3,C HOx,C HQx,C HBx⟩
     .have H3:=J h3;clear h3;have g1:1<=g:=O;go_wp2_with fail;go_meet;exact⟨_,_,Z,Z,C H3,C HOx,C HQx,C HBx⟩
     .have H3:=J h5;clear h5;have gp2:=C GP1 O;go_wp2_with fail;go_meet;exact⟨_,_,Z,Z,C H3,C HOx,C HQx,C HBx⟩
     .have H3:=J h3;clear h3;have gp2:=C GP1 O;go_wp2_with fail;go_meet;exact⟨_,_,Z,Z,C H3,C HOx,C HQx,C HBx⟩
   case rest=>
    obtain⟨g,r,rfl,rfl,hge,hO2,hQ2,hB2⟩:=hcut;have HGE:=J hge;have HO2:=J hO2;have HQ2:=J hQ2;have HB2:=J hB2;obtain⟨-,ge0,ge1, -⟩:=hge;clear hO2 hQ2 hB2 HO HQ HBw gd gb gc g0p hnz hz hh0 hh1 co0 f00 f01 f10 f11;go_wp2_with fail;go_loopg [22,23,24,25] (p+2) (λgk cs ds is _ wx=>∃(i:β) (c d:Int) (G:β->Int),cs=γ .u64 c/\ds=γ .u64 d/\is=γ μ i/\i<=p+2/\gk=p+2-i/\0<=c/\c<4294967296/\0<=d/\d<=1/\(∀k,0<=G k/\G k<4294967296)/\(∀k,k<j\/j+i<=k->G k=F k)/\ι (sh G j) i=ι (sh F j) i-g*ι fv i+(c+d)*4294967296^i/\φ wx w3.heap.size (p+N+2) G/\φ wx w5.heap.size N q/\Below w3.heap.size w5 wx);case atStart=>exact⟨0,0,0,F,rfl,rfl,rfl,Xz _,rfl,Bp _,by decide,Bp _,by decide,(C HDv).f,λ_ _=>rfl,by show 0=0-g*0+(0+0)*_;simp,C HO2,C HQ2,C HB2⟩
    case round=>
     obtain⟨i,c,d,G,rfl,rfl,rfl,hi,rfl,c0',c1,d0,d1,hG,hs',hv,hOx,hQx,hBx⟩:=hrel;have HG:=J hG;have HS:=J hs';have HVV:=J hv;have HOx:=J hOx;have HQx:=J hQx;have HBx:=J hBx;clear hG hs' hv hOx hQx hBx;by_cases hip:i<p+2
     .obtain⟨b0,b1⟩:=(C HDr).w i hip;obtain⟨a0,a1⟩:=C HG (j+i);obtain⟨p0,p1⟩:=XZ ge0 O b0 b1;obtain⟨pr,epr⟩:∃pr,g*fv i=pr:=⟨_,rfl⟩;rw[epr] at p0 p1;obtain⟨t,et⟩:∃t,c+pr=t:=⟨_,rfl⟩;have t0:0<=t:=O;have t9:t<18446744073709551616:=O;have wp:IntKind.u64.wrap pr=pr:=by rw[Eb];omega
      have wt:IntKind.u64.wrap t=t:=by rw[Eb];omega
      have cv:=(C HBx).cell (p:=⟨bv,i,κ⟩) hbv;rw[C HRV i hip] at cv;obtain⟨U,eU⟩:∃U,G (i+j)=U:=⟨_,rfl⟩;have co:=(C HOx).cell (show i+j<p+N+2 by omega);rw[eU] at co;rw[Ey j i,eU] at a0 a1;have fo:=(C HOx).free (i+j);obtain⟨D,eD⟩:∃D,IntKind.u64.wrap (IntKind.u64.wrap (U-t%4294967296)-d)=D:=⟨_,rfl⟩;have hD:D=(U-t%4294967296-d)%18446744073709551616:=by rw[<-eD];simp only[Eb];omega
      have D0:0<=D:=O;have D1:D<18446744073709551616:=O;have D2:0<=D/9223372036854775808/\D/9223372036854775808<=1:=O;have HST:=J (show ι (sh (upd G (i+j) (D%4294967296)) j) (i+1)=ι (sh F j) (i+1)-g*ι fv (i+1)+(t/4294967296+D/9223372036854775808)*4294967296^(i+1) from by rw[Ey i j,TH];refine aOR (t:=U-t%4294967296-d) (C HVV) (c1:=t) (by rw[epr];omega) ?_ O;show _=F (j+i)-_-_;rw[<-C HS (j+i) (Ab (Xr _)),Ey j i,eU]);have EU:=J eU;clear hD eU;go_wp2_with fail;go_roundg (p+2-(i+1));case measure=>omega
      case rel=>exact⟨i+1,_,_,_,rfl,rfl,by go_num,O,rfl,O,O,D2.1,D2.2,á (C HG) O O,λk hk=>by rw[jF _ _ O];exact C HS k O,C HST,(C HOx).set (i+j) _,(C HQx).other (λe=>hne e.symm) _ _,(C HBx).setCell (Xr _) _⟩
     .obtain rfl:i=p+2:=O;clear hip hi;obtain⟨U,eU⟩:∃U,F (j+(p+2))=U:=⟨_,rfl⟩;rw[eU] at f20 f21;have eG:G (j+(p+2))=U:=by rw[C HS (j+(p+2)) (Ab (Xr _)),eU]
      have co:=(C HOx).cell (show j+(p+2)<p+N+2 by omega);rw[eG] at co;have fo:=(C HOx).free (j+(p+2));have cq:=(C HQx).cell (show j<N by omega);have fq:=(C HQx).free j;have cq2:=λx=>((C HQx).other (b:=w5.heap.size) (c:=w3.heap.size) (λe=>hne e.symm) (j+(p+2)) (γ .u32 x)).cell (show j<N by omega);have fq2:=λx=>((C HQx).other (b:=w5.heap.size) (c:=w3.heap.size) (λe=>hne e.symm) (j+(p+2)) (γ .u32 x)).free j;have EU:=J eU;have EG:=J eG;clear eU eG;obtain⟨D,eD⟩:∃D,IntKind.u64.wrap (IntKind.u64.wrap (U-c)-d)=D:=⟨_,rfl⟩;have hD:D=(U-c-d)%18446744073709551616:=by rw[<-eD];simp only[Eb];omega
      by_cases hx:0<=U-c-d
      .have D3:D=U-c-d:=O;have D0:0<=D:=O;have D1:D<4294967296:=O;have D2:D/9223372036854775808=0:=O;have HD3:=J D3;clear D3 hD hx;have HFin:=J (show Dv (X*2^s) (p+2) (p+N+2) N fv (upd G (j+(p+2)) D) (upd q j g) j from by have r:=aJU (m:=p+2) (v:=fv) (f:=sh F j) (g:=sh G j) (q:=g) (c:=c) (d:=d) (x:=D) (C HDr) (λi=>C HG (j+i)) (by rw[C ETQ];exact (C HGE).1) (C HVV) (by show D=F (j+(p+2))-c-d;rw[C EU];exact C HD3) D0 D1;rw[<-TH] at r;exact aDW (C HDr) (C HDv) O (á (C HG) D0 D1) (λi hi=>by rw[jF _ _ O];exact C HS i O) ⟨ge0,O⟩ r.1 r.2);go_wp2_with fail;go_roundg j;case measure=>omega
       case rel=>exact⟨_,_,rfl,O,((C HOx).set (j+(p+2)) D).other hne _ _,((C HQx).other (λe=>hne e.symm) _ _).set j g,C HFin,((C HBx).setCell (Xr _) _).setCell (Nat.le_of_lt (C HS5)) _⟩
      have D3:D=U-c-d+18446744073709551616:=O;have D0:0<=D:=O;have D1:D<18446744073709551616:=O;have D2:D/9223372036854775808=1:=O;have HD3:=J D3;have HX:=J hx;have g1:1<=g:=aRX (ZM (C HDv).f) (ZM (C HG)) (C HVV) f20 O ge0;obtain⟨z,ez⟩:∃z,D%4294967296=z:=⟨_,rfl⟩;have z0:0<=z:=O;have z1:z<4294967296:=O;have EZ:=J ez;clear D3 hD hx cq fq;have HO3:=J ((C HOx).set (j+(p+2)) z);have HQ3:=J ((C HQx).other (c:=w3.heap.size) (λe=>hne e.symm) (j+(p+2)) (γ .u32 z));have HB4:=J ((C HBx).setCell (p:=⟨w3.heap.size,j+(p+2),κ⟩) (Xr _) (γ .u32 z));go_wp2_with fail;clear cq2 fq2 co fo;go_loopg [22,27] (p+2) (λgk cs is wx=>∃(i:β) (c2:Int) (G2:β->Int),cs=γ .u64 c2/\is=γ μ i/\i<=p+2/\gk=p+2-i/\0<=c2/\c2<=1/\(∀k,0<=G2 k/\G2 k<4294967296)/\(∀k,k<j\/j+i<=k->G2 k=upd G (j+(p+2)) z k)/\ι (sh G2 j) i+c2*4294967296^i=ι (sh G j) i+ι fv i/\φ wx w3.heap.size (p+N+2) G2/\φ wx w5.heap.size N q/\Below w3.heap.size w5 wx);case atStart=>exact⟨0,0,_,rfl,rfl,Xz _,rfl,Bp _,by decide,á (C HG) z0 z1,λ_ _=>rfl,by show 0+0*_=0+0;simp,C HO3,C HQ3,C HB4⟩
      case round=>
       obtain⟨i,c2,G2,rfl,rfl,hi,rfl,e0,e1,hG2,hs2,hv2,hO4,hQ4,hB4⟩:=hrel;have HG2:=J hG2;have HS2:=J hs2;have HV2:=J hv2;have HO4:=J hO4;have HQ4:=J hQ4;have HB4:=J hB4;clear hG2 hs2 hv2 hO4 hQ4 hB4;by_cases hip:i<p+2
       .obtain⟨b0,b1⟩:=(C HDr).w i hip;obtain⟨a0,a1⟩:=C HG2 (i+j);obtain⟨V,eV⟩:∃V,G2 (i+j)=V:=⟨_,rfl⟩;rw[eV] at a0 a1;have cv:=(C HB4).cell (p:=⟨bv,i,κ⟩) hbv;rw[C HRV i hip] at cv;have co:=(C HO4).cell (show i+j<p+N+2 by omega);rw[eV] at co;have fo:=(C HO4).free (i+j);obtain⟨t,et⟩:∃t,c2+(V+fv i)=t:=⟨_,rfl⟩;have t0:0<=t:=O;have t9:t<8589934592:=O;have HST:=J (show ι (sh (upd G2 (i+j) (t%4294967296)) j) (i+1)+t/4294967296*4294967296^(i+1)=ι (sh G j) (i+1)+ι fv (i+1) from by rw[Ey i j,TH];refine aNt (C HV2) ?_;show _=c2+(G (j+i)+fv i);have e1:=C HS2 (j+i) (Ab (Xr _));rw[jF _ _ O] at e1;rw[<-e1,Ey j i,eV,et]);clear eV;go_wp2_with fail;go_region;go_wp2_with fail;go_roundg (p+2-(i+1));case measure=>omega
        case rel=>exact⟨i+1,_,_,rfl,by go_num,O,rfl,O,O,á (C HG2) O O,λk hk=>by rw[jF _ _ O];exact C HS2 k O,C HST,(C HO4).set (i+j) _,(C HQ4).other (λe=>hne e.symm) _ _,((C HB4).setCell (Xr _) _).drew⟩
       .obtain rfl:i=p+2:=O;clear hip hi;have eG2:G2 (j+(p+2))=z:=by rw[C HS2 (j+(p+2)) (Ab (Xr _)),FE]
        have co:=(C HO4).cell (show j+(p+2)<p+N+2 by omega);rw[eG2] at co;have fo:=(C HO4).free (j+(p+2));have cq2:=λx=>((C HQ4).other (b:=w5.heap.size) (c:=w3.heap.size) (λe=>hne e.symm) (j+(p+2)) (γ .u32 x)).cell (show j<N by omega);have fq2:=λx=>((C HQ4).other (b:=w5.heap.size) (c:=w3.heap.size) (λe=>hne e.symm) (j+(p+2)) (γ .u32 x)).free j;obtain⟨r1,r2,r3⟩:=aOf (m:=p+2) (v:=fv) (f:=sh F j) (g:=sh G j) (g2:=sh G2 j) (q:=g) (c:=c) (d:=d) (x:=U-c-d) (c2:=c2) (C HDr) (λi=>C HG (j+i)) (λi=>C HG2 (j+i)) (C HGw g (C HGE)) (C HVV) (by show _=F (j+(p+2))-c-d;rw[C EU]) (by have:=C HX;omega) O (C HV2);rw[<-TH] at r2 r3;have HFin:=J (show Dv (X*2^s) (p+2) (p+N+2) N fv (upd G2 (j+(p+2)) 0) (upd q j (g-1)) j from
         aDW (C HDr) (C HDv) O (á (C HG2) (Bp _) Yc) (λi hi=>by rw[jF _ _ O,C HS2 i O,jF _ _ O];exact C HS i O) ⟨O,O⟩ r2 r3)
        have wz:IntKind.u32.wrap (z+c2)=0:=by have a:=C EZ;have b:=C HD3;rw[IntKind.wrap_u32];omega
        clear r1 r2 r3 eG2;go_wp2_with fail;go_roundg j;case measure=>omega
        case rel=>exact⟨_,_,rfl,O,((C HO4).set (j+(p+2)) 0).other hne _ _,((C HQ4).other (λe=>hne e.symm) _ _).set j (g-1),C HFin,((C HB4).setCell (Xr _) _).setCell (Nat.le_of_lt (C HS5)) _⟩
end
section
open Go.RowKit
theorem aOc(X Y)(h0:0<=X)(hY:0<Y):wN X Y:=by
 rcases Cm X Y with h|h
 .exact aAk X Y h0 h
 rcases Cm X 18446744073709551616 with h1|h1
 .exact WN X Y h0 hY h1
 rcases Cm Y 4294967296 with h2|h2
 .exact div_one X Y hY h1 h2
 exact aJR X Y h2 h h1
theorem GU(x y)(hy:y≠0):wN (δ x) (δ y):=aOc _ _ (by unfold δ;split<;>omega) (by unfold δ;split<;>omega)
variable{a:Int}
theorem aBd{b}(ha:ε a)(hb:ε b):δ (a*b+2147483648)<4294967296^5:=by
 have h:=GA ha hb;have e:δ (a*b)=δ a*δ b:=by
  unfold δ;have h1:a<0->b<0->0<a*b:=λx y=>Int.mul_pos_of_neg_of_neg x y;have h2:a<0->0<=b->a*b<=0:=λx y=>Int.mul_nonpos_of_nonpos_of_nonneg (Ba x) y;have h3:0<=a->b<0->a*b<=0:=λx y=>Int.mul_nonpos_of_nonneg_of_nonpos x (Ba y);have h4:0<=a->0<=b->0<=a*b:=λx y=>Hg x y;by_cases ha:a<0<;>by_cases hb:b<0
  .have:=h1 ha hb;rw[η O,θ ha,θ hb,Int.neg_mul_neg]
  .have:=h2 ha O;rw[θ ha,η hb,Fj];split<;>omega
  .have:=h3 O hb;rw[η ha,θ hb,Ga];split<;>omega
  have:=h4 O O;rw[η O,η ha,η hb]
 have h2:=BV (a*b) 2147483648;have e2:δ 2147483648=2147483648:=rfl;rw[e,e2] at h2;have e5:(4294967296:Int)^5=1461501637330902918203684832716283019655932542976:=by decide
 omega
theorem aFD(a b)(ha:ε a)(hb:ε b)(w):ο ν 241 #[.int .i64 a,.int .i64 b] w λe w'=>e=.returned (.tuple #[.int .i64 (gD (zA a b)),.bool (fO (zA a b))])/\Below w.heap.size w w':=by
 have HA:=J ha;have HB:=J hb;have D:=J (show Bd (a*b+2147483648) from vF (aBd ha hb) Yc);have D0:=J (show Bd (a*b) from vF (k:=6) (by
  have h:=aBd ha hb;have h2:=ZU (a*b+2147483648) 2147483648;have e2:δ 2147483648=2147483648:=rfl;have e5:(4294967296:Int)^5=1461501637330902918203684832716283019655932542976:=by decide
  have e6:(4294967296:Int)^6=6277101735386680763835789423207666416102355444464034512896:=by decide
  rw[e2,show a*b+2147483648-2147483648=a*b by omega] at h2;omega) Yc)
 have DQ:=J (show Bd (zA a b) from PQ (C D) (by unfold zA δ;split<;>split<;>omega));have HDv:=J (GU (a*b+2147483648) 4294967296 Yc);clear ha hb;go_in;go_wp2_with fail;refine (jG a (C HA) _).mono ?_;rintro e w1 ⟨b1,rfl,hb1,n1,k1⟩;have N1:=J n1;have K1:=J k1;clear n1 k1 hb1;go_wp2_with fail;refine (jG b (C HB) _).mono ?_;rintro e w2 ⟨b2,rfl,hb2,n2,k2⟩;have N2:=J n2;have K2:=J k2;clear n2 k2 hb2;have HW:=J (show Below w.heap.size w w2 from by have h1:=bZ (fQ w _) (C K1) (by simp);exact bZ h1 (C K2) h1.size);go_wp2_with fail;refine (zK w.heap.size b1 b2 a b _ _ _ (((kV w).below (C K1)).below (C K2)) ((C N1).below (C K2)) (C N2) (qV (C HA)) (qV (C HB))).mono ?_;rintro e w3 ⟨rfl,n3,k3⟩;have N3:=J n3;have HW3:=J (gB (C HW) k3 (Xr _));clear n3 k3;go_wp2_with fail;refine (XB 31 Yc _).mono ?_;rintro e w4 ⟨b4,rfl,hb4,n4,k4⟩;have N4:=J (show τ w4 b4 2147483648 from n4);have N3':=J ((C N3).below k4);have HW4:=J (bZ (C HW3) k4 (C HW3).size);clear n4 k4 hb4;obtain⟨sz,vz,iz⟩:=(C N3').intAt;have IZ:=J iz;clear iz;go_wp2_with fail;refine (rA w.heap.size w.heap.size b4 (a*b) 2147483648 _ _ _ (C IZ) (C N3') (C N4) (C D0) (qV (by unfold ε;omega))).mono ?_;rintro e w5 ⟨rfl,n5,k5⟩;have N5:=J n5;have HW5:=J (gB (C HW4) k5 (Xr _));clear n5 k5;go_wp2_with fail;refine (XB 32 Yc _).mono ?_;rintro e w6 ⟨b6,rfl,hb6,n6,k6⟩;have N6:=J (show τ w6 b6 4294967296 from n6);have N5':=J ((C N5).below k6);have HW6:=J (bZ (C HW5) k6 (C HW5).size);clear n6 k6 hb6;go_wp2_with fail;refine (D7 w.heap.size b6 _ 4294967296 _ (C N5') (C N6) (C D) (qV (by unfold ε;omega)) Yc (C HDv)).mono ?_;rintro e w7 ⟨b7,rfl,n7,k7⟩;have N7:=J (show τ w7 b7 (zA a b) from n7);have HW7:=J (bZ (C HW6) k7 (C HW6).size);clear n7 k7;go_wp2_with fail;refine (vD _ _ _ (C N7) (C DQ)).mono ?_;rintro e w8 ⟨rfl,rfl⟩;go_wp2_with fail;go_ret2;exact⟨Z,C HW7⟩
abbrev vI(w:Ω)(b:β)(x:ω):Prop:=BlAt 253 w b x
theorem LB(b)(x)(n)(y)(w)(h:vI w b x):ο ν 239 #[.pointer (ξ ⟨b,0,κ⟩),.int .i64 n,.bool y] w λe w'=>e=.returned (.int .i64 n)/\vI w' b (x||y)/\Γ b w w':=by
 have c0:=h.cell0;have f0:=h.free 0;have H:=J h;clear h;cases y
 .go_in;go_wp2_with fail;go_ret;refine⟨Z,?_,IX _ _⟩;rw[Bool.or_false];exact C H
 go_in;go_wp2_with fail;go_ret;refine⟨Z,?_,bN _ _ _ _⟩;rw[Bool.or_true];exact (C H).set _
def aJw(k:β)(g:Int->Int->Int):Prop:=∀(b) x (a c) w,ε a->ε c->vI w b x->
 ο ν k #[υ (ξ ⟨b,0,κ⟩),γ μ a,γ μ c] w λe w'=>
  e=.returned (γ μ (gD (g a c)))/\vI w' b (x||fO (g a c))/\Γ b w w'
theorem aKY:aJw 212 (λa c=>a+c):=by intro b x a c w ha hc h;have HA:=J ha;have HC:=J hc;have H:=J h;clear ha hc h;go_in;go_wp2_with fail;refine (aFA a c (C HA) (C HC) _).mono ?_;rintro e w1 ⟨rfl,k1⟩;have H1:=J ((C H).below k1);have K1:=J k1;clear k1;go_wp2_with fail;refine (LB b x _ _ _ (C H1)).mono ?_;rintro e w2 ⟨rfl,h2,k2⟩;have H2:=J h2;have K2:=J ((Ch (z:=b) (C K1)).trans k2 (Aa Z));clear h2 k2;go_wp2_with fail;go_ret;exact⟨Z,C H2,C K2⟩
theorem aLa:aJw 211 (λa c=>a-c):=by intro b x a c w ha hc h;have HA:=J ha;have HC:=J hc;have H:=J h;clear ha hc h;go_in;go_wp2_with fail;refine (aFG a c (C HA) (C HC) _).mono ?_;rintro e w1 ⟨rfl,k1⟩;have H1:=J ((C H).below k1);have K1:=J k1;clear k1;go_wp2_with fail;refine (LB b x _ _ _ (C H1)).mono ?_;rintro e w2 ⟨rfl,h2,k2⟩;have H2:=J h2;have K2:=J ((Ch (z:=b) (C K1)).trans k2 (Aa Z));clear h2 k2;go_wp2_with fail;go_ret;exact⟨Z,C H2,C K2⟩
theorem aKZ:aJw 213 zA:=by intro b x a c w ha hc h;have HA:=J ha;have HC:=J hc;have H:=J h;clear ha hc h;go_in;go_wp2_with fail;refine (aFD a c (C HA) (C HC) _).mono ?_;rintro e w1 ⟨rfl,k1⟩;have H1:=J ((C H).below k1);have K1:=J k1;clear k1;go_wp2_with fail;refine (LB b x _ _ _ (C H1)).mono ?_;rintro e w2 ⟨rfl,h2,k2⟩;have H2:=J h2;have K2:=J ((Ch (z:=b) (C K1)).trans k2 (Aa Z));clear h2 k2;go_wp2_with fail;go_ret;exact⟨Z,C H2,C K2⟩
theorem aDm(a)(w):ο ν 242 #[.int .i64 a,.int .i64 0] w λe w'=>e=.returned (.tuple #[.int .i64 (gK a 0),.bool (yX a 0)])/\w'=w:=by
 have e1:gK a 0=yC a:=θ Z;have e2:yX a 0=true:=θ Z;rw[e1,e2];clear e1 e2;rcases Int.lt_trichotomy a 0 with h|h|h
 .have e3:yC a= -9223372036854775808:=by unfold yC;rw[η O,Xt h];rfl
  rw[e3];clear e3;go_in;go_wp2_with fail;go_ret2;exact⟨Z,Z⟩
 .subst h;go_in;go_wp2_with fail;go_ret2;exact⟨Z,Z⟩
 have e3:yC a=9223372036854775807:=by unfold yC;rw[η O,Xf (show ¬a<0 by omega)];rfl
 rw[e3];clear e3;go_in;go_wp2_with fail;go_ret2;exact⟨Z,Z⟩
theorem BZ{x}(h:0<=x):δ x=x:=η O
theorem ZT(b):δ (δ b)=δ b:=BZ (by unfold δ;split<;>omega)
theorem aGk(n){d}(hd:0<d):δ (n/d)<=δ n:=by
 rcases Cm n 0 with h|h
 .have q1:n/d<0:=Int.ediv_neg_of_neg_of_pos h hd;have q2:n<=n/d:=by rw[xK hd];have:=Dl (show 1<=d by omega) (show 0<= -n by omega);rw[Fj,Fj,Ep] at this;omega
  unfold δ;rw[θ q1,θ h];omega
 rw[BZ h,BZ (Ei h O)];exact Fh _ h
theorem GV(ha:ε a):δ (a*8589934592)<4294967296^4:=by
 have h1:=jB ha;have e:(4294967296:Int)^4=340282366920938463463374607431768211456:=by decide
 unfold δ at*;split at h1<;>split<;>omega
theorem aFB(a b)(ha:ε a)(hb:ε b)(hz:b≠0)(w):ο ν 242 #[.int .i64 a,.int .i64 b] w λe w'=>e=.returned (.tuple #[.int .i64 (gK a b),.bool (yX a b)])/\Below w.heap.size w w':=by
 have E1:gK a b=gD (vK a b):=η hz;have E2:yX a b=fO (vK a b):=η hz;rw[E1,E2];clear E1 E2;have HA:=J ha;have HB:=J hb;have AB:=J (jB hb);have DN:=J (show Bd (a*8589934592) from vF (GV ha) Yc);have hzb:(b==0)=false:=by simp;exact hz
 obtain⟨b1',b2'⟩:=hb;obtain⟨n0,en0⟩:∃n0,cK (decide (b<0)) a*8589934592+δ b=n0:=⟨_,rfl⟩;have D:=J (show Bd n0 from vF (k:=5) (by
  have h1:=GV ha;have h2:=jB ⟨b1',b2'⟩;have h3:δ (cK (decide (b<0)) a*8589934592)=δ (a*8589934592):=by
   unfold cK δ;split
   .rw[Fj];split<;>split<;>omega
   rfl
  have h4:=BV (cK (decide (b<0)) a*8589934592) (δ b);have h5:=ZT b;rw[en0,h3,h5] at h4;have e:(4294967296:Int)^4=340282366920938463463374607431768211456:=by decide
  have e5:(4294967296:Int)^5=1461501637330902918203684832716283019655932542976:=by decide
  omega) Yc)
 have hab:0<δ b:=by unfold δ;split<;>omega
 have EQ:=J (show vK a b=n0/(δ b*2) from by unfold vK;rw[<-en0,Bc 2 (δ b)];congr 1;omega);have DQ:=J (show Bd (vK a b) from by rw[C EQ];exact PQ (C D) (aGk n0 O));have HDv:=J (GU n0 (δ b*2) O);have DB:=J (show Bd (δ b) from vF (k:=2) (by have h5:=ZT b;have:=C AB;rw[h5];show _<(18446744073709551616:Int);omega) Yc);have DB2:=J (show Bd (δ b*2) from vF (k:=3) (by have h5:δ (δ b*2)=δ b*2:=BZ O;have:=C AB;rw[h5];show _<(79228162514264337593543950336:Int);omega) Yc);have P:=J hab;clear ha hab;rcases Cm b 0 with h|h;have EA:=J (show -(a*8589934592)=cK (decide (b<0)) a*8589934592 by rw[Xt h];show _= -a*8589934592;omega);have EB:=J (show -b=δ b by unfold δ;rw[θ h]);have EN:=J en0;clear en0;go_in;go_wp2_with fail;refine (jG a (C HA) _).mono ?_;rintro e w1 ⟨b1,rfl,hb1,n1,k1⟩;have N1:=J n1;have K1:=J k1;clear n1 k1 hb1;go_wp2_with fail;refine (xO w.heap.size b1 33 a Yc _ _ _ ((kV w).below (C K1)) (C N1) (qV (C HA))).mono ?_;rintro e w2 ⟨rfl,n2,k2⟩;have N2:=J (show τ w2 w.heap.size (a*8589934592) from n2);have HW2:=J (gB (bZ (fQ w _) (C K1) (by simp)) k2 (Xr _));clear n2 k2;go_wp2_with fail;refine (jG b (C HB) _).mono ?_;rintro e w3 ⟨b3,rfl,hb3,n3,k3⟩;have N3:=J n3;have L3:=J hb3;have N2':=J ((C N2).below k3);have HW3:=J (bZ (C HW2) k3 (C HW2).size);have NE:=J (show b3≠w.heap.size from by have:=(C N2).lt;omega);have GE:=J (show w.heap.size<=b3 from by have:=(C N2).lt;omega);clear n3 k3 hb3;obtain⟨sz,vz,iz⟩:=(C N2').intAt;have IZ:=J iz;clear iz;go_wp2_with fail;refine (UX w.heap.size w.heap.size _ _ _ _ (C IZ) (C N2') (C DN)).mono ?_;rintro e w4 ⟨rfl,n4,k4⟩;have N4:=J (show τ w4 w.heap.size (cK (decide (b<0)) a*8589934592) from by rw[<-C EA];exact n4);have N3':=J ((C N3).other k4 (C NE) (C IZ));have HW4:=J (gB (C HW3) k4 (Xr _));clear n4 k4;obtain⟨sd,vd,id⟩:=(C N3').intAt;have ID:=J id;clear id;go_wp2_with fail;refine (UX b3 b3 _ _ _ _ (C ID) (C N3') (qV (C HB))).mono ?_;rintro e w5 ⟨rfl,n5,k5⟩;have N5:=J (show τ w5 b3 (δ b) from by rw[<-C EB];exact n5);have N4':=J ((C N4).other k5 (λh=>C NE h.symm) (C ID));have HW5:=J (gB (C HW4) k5 (C GE));clear n5 k5;have DA:=J (show Bd (cK (decide (b<0)) a*8589934592) from by rw[<-C EA];exact PQ (C DN) (by unfold δ;split<;>split<;>omega));rotate_left;have EA:=J (show a*8589934592=cK (decide (b<0)) a*8589934592 by rw[Xf (show ¬b<0 by omega)];rfl);have EB:=J (show b=δ b by unfold δ;rw[η (show ¬b<0 by omega)]);have EN:=J en0;clear en0;go_in;go_wp2_with fail;refine (jG a (C HA) _).mono ?_;rintro e w1 ⟨b1,rfl,hb1,n1,k1⟩;have N1:=J n1;have K1:=J k1;clear n1 k1 hb1;go_wp2_with fail;refine (xO w.heap.size b1 33 a Yc _ _ _ ((kV w).below (C K1)) (C N1) (qV (C HA))).mono ?_;rintro e w2 ⟨rfl,n2,k2⟩;have N2:=J (show τ w2 w.heap.size (a*8589934592) from n2);have HW2:=J (gB (bZ (fQ w _) (C K1) (by simp)) k2 (Xr _));clear n2 k2;go_wp2_with fail;refine (jG b (C HB) _).mono ?_;rintro e w3 ⟨b3,rfl,hb3,n3,k3⟩;have N3:=J n3;have L3:=J hb3;have N2':=J ((C N2).below k3);have HW3:=J (bZ (C HW2) k3 (C HW2).size);have NE:=J (show b3≠w.heap.size from by have:=(C N2).lt;omega);have GE:=J (show w.heap.size<=b3 from by have:=(C N2).lt;omega);clear n3 k3 hb3;have N5:=J (show τ w3 b3 (δ b) from by rw[<-C EB];exact C N3);have N4':=J (show τ w3 w.heap.size (cK (decide (b<0)) a*8589934592) from by rw[<-C EA];exact C N2');have HW5:=J (C HW3);have DA:=J (show Bd (cK (decide (b<0)) a*8589934592) from by rw[<-C EA];exact C DN);rotate_left;all_goals
  obtain⟨sy,vy,iy⟩:=(C N4').intAt;have IY:=J iy;clear iy;go_wp2_with fail;refine (rA w.heap.size w.heap.size b3 _ (δ b) _ _ _ (C IY) (C N4') (C N5) (C DA) (C DB)).mono ?_;rintro e w6 ⟨rfl,n6,k6⟩;have N6:=J (show τ w6 w.heap.size n0 from by rw[<-C EN];exact n6);have N5':=J ((C N5).other k6 (C NE) (C IY));have HW6:=J (gB (C HW5) k6 (Xr _));clear n6 k6;go_wp2_with fail;refine (xO w6.heap.size b3 1 _ Yc _ _ _ (kV w6) ((C N5').below (fQ w6 _)) (C DB)).mono ?_;rintro e w7 ⟨rfl,n7,k7⟩;have N7:=J (show τ w7 w6.heap.size (δ b*2) from n7);have B7:=J (tJ k7);have N6':=J ((C N6).below (C B7));have HW7:=J (bZ (C HW6) (C B7) (C HW6).size);clear n7 k7;go_wp2_with fail;refine (D7 w.heap.size w6.heap.size n0 (δ b*2) _ (C N6') (C N7) (C D) (C DB2) (by have:=C P;omega) (C HDv)).mono ?_;rintro e w8 ⟨b8,rfl,n8,k8⟩;have N8:=J (show τ w8 b8 (vK a b) from by rw[C EQ];exact n8);have HW8:=J (bZ (C HW7) k8 (C HW7).size);clear n8 k8;go_wp2_with fail;refine (vD _ _ _ (C N8) (C DQ)).mono ?_;rintro e w9 ⟨rfl,rfl⟩;go_wp2_with fail;go_ret2;exact⟨Z,C HW8⟩
end
section
open Go.RowKit Go.Lib
theorem aGI(c:β)(hc:c<256)(w):ο ν 48 #[.int .u8 (c)] w λe w'=>e=.returned (.bool (decide (48<=c)&&decide (c<=57)))/\w'=w:=by
 by_cases h1:48<=c
 .have b1:decide (48<=(c:Int))=true:=Xt O;by_cases h2:c<=57
  .have b2:decide ((c:Int)<=57)=true:=Xt O;rw[Xt h1,Xt h2];go_in;go_wp2_with fail;go_ret;exact⟨Z,Z⟩
  have b2:decide ((c:Int)<=57)=false:=Xf O;rw[Xt h1,Xf h2];go_in;go_wp2_with fail;go_ret;exact⟨Z,Z⟩
 have b1:decide (48<=(c:Int))=false:=Xf O;rw[Xf h1,Bool.false_and];go_in;go_wp2_with fail;go_ret;exact⟨Z,Z⟩
def TW(t wh fr:χ Θ)(pt:ω)(i:β):Prop:=∀j,j<i->∀h,qA (t[j]'h)=true\/(t[j]'h=46/\pt=true/\j=wh.length/\wh≠[]/\fr≠[])
def yO(wh:χ Θ)(pt:ω)(i:β):Int:=if pt=true/\wh.length<i then wh.length else -1
def wY(l:χ Θ):Int:=(cK (sS l) ((σ ((kG l).1++(kG l).2.1)))*8589934592+((10^(kG l).2.1.length:β)))/(((10^(kG l).2.1.length:β))*2)
def VN(l:χ Θ):Int:=if oJ l=false then 0 else if fO (wY l) then 0 else wY l
def VG(l:χ Θ):Int:=if oJ l=false then 2 else if fO (wY l) then 3 else 0
variable{l wh:χ Θ}{pt:ω}
theorem xR{fr}(hp:kG l=(wh,fr,pt))(h:lH wh=false\/(pt=true/\lH fr=false)):oJ l=false:=by
 unfold oJ;rw[hp];show (P8 wh&&(!pt||lH fr))=false;rcases h with h|⟨h1,h2⟩
 .unfold P8;rw[h];rfl
 rw[h1,h2];simp
theorem UY{j:β}hj(h:qA l[j]=false):lH l=false:=by
 unfold lH;have:l.all qA=false:=by rw[List.all_eq_false];exact⟨l[j],Dj hj,by rw[h];simp⟩
 rw[this];rfl
variable{i:β}
theorem aJD{t fr}(hp:kG l=(wh,fr,pt))(hs:(pt=false/\wh=t/\fr=[]/\∀c∈t,c≠46)\/(pt=true/\t=wh++46::fr/\∀c∈wh,c≠46))hi(hd:qA t[i]=false)(hb:¬(t[i]=46/\pt=true/\i=wh.length/\wh≠[]/\fr≠[])):oJ l=false:=by
 rcases hs with ⟨h1,h2,h3,h4⟩|⟨h1,h2,h3⟩
 .subst h2;exact xR hp (Aa (UY hi hd))
 subst h2;rcases uG i wh.length with h|h|h
 .rw[List.getElem_append_left h] at hd;exact xR hp (Aa (UY h hd))
 .subst h;have e:(wh++46::fr)[wh.length]'hi=46:=by simp
  rcases Classical.em (wh=[]) with h5|h5
  .subst h5;exact xR hp (Aa Z)
  rcases Classical.em (fr=[]) with h6|h6
  .subst h6;exact xR hp (Ab ⟨h1,Z⟩)
  exact Λ ⟨e,h1,Z,h5,h6⟩ hb
 have hi2:i-wh.length-1<fr.length:=by simp at hi;omega
 have e:(wh++46::fr)[i]'hi=fr[i-wh.length-1]:=by rw[List.getElem_append_right O];simp only[List.getElem_cons];rw[dif_neg O]
 rw[e] at hd;exact xR hp (Ab ⟨h1,UY hi2 hd⟩)
theorem aKO(h:¬(pt=true/\i=wh.length)):yO wh pt (i+1)=yO wh pt i:=by
 unfold yO;by_cases hp:pt=true
 .have:i≠wh.length:=λe=>h ⟨hp,e⟩;by_cases h1:wh.length<i
  .rw[θ ⟨hp,O⟩,θ ⟨hp,h1⟩]
  rw[η (λh2=>by omega),η (λh2=>h1 h2.2)]
 rw[η (λh2=>hp h2.1),η (λh2=>hp h2.1)]
abbrev aEL(t wh fr:χ Θ)(pt:ω):Prop:=(pt=false/\wh=t/\fr=[]/\∀c∈t,c≠46)\/(pt=true/\t=wh++46::fr/\∀c∈wh,c≠46)
section
variable {t wh fr:χ Θ} {pt:ω} {i:β}
theorem aPJ(hg:TW t wh fr pt i)hi(hb:t[i]=46/\pt=true/\i=wh.length/\wh≠[]/\fr≠[]):sQ t (i+1)=sQ t i/\yO wh pt (i+1)=(i)/\TW t wh fr pt (i+1):=by
 obtain⟨q1,q2,q3,q4,q5⟩:=hb;refine⟨by rw[QU hi,θ q1],?_,?_⟩
 .unfold yO;rw[θ ⟨q2,O⟩,q3]
 intro j hj h;rcases Ar j i with h1|h1
 .exact hg j h1 h
 obtain rfl:j=i:=O;exact Ab ⟨q1,q2,q3,q4,q5⟩
theorem aPI(hs:aEL t wh fr pt)(hg:TW t wh fr pt i)hi(hd:qA t[i]=true):sQ t (i+1)=sQ t i++[t[i]]/\yO wh pt (i+1)=yO wh pt i/\TW t wh fr pt (i+1):=by
 have hn46:t[i]≠46:=λe=>by rw[e] at hd;cases hd
 refine⟨by rw[QU hi,η hn46],aKO ?_,?_⟩
 .rintro⟨h1,h2⟩;rcases hs with ⟨h3, -⟩|⟨-,h4, -⟩
  .rw[h3] at h1;cases h1
  subst h4;exact hn46 (by simp[h2])
 intro j hj h;rcases Ar j i with h1|h1
 .exact hg j h1 h
 obtain rfl:j=i:=O;exact Aa hd
theorem aLO(hs:aEL t wh fr pt)hi:(t[i]=46/\yO wh pt i<0/\0<i/\i+1<t.length)↔(t[i]=46/\pt=true/\i=wh.length/\wh≠[]/\fr≠[]):=by
 constructor
 .rintro⟨q1,q2,q3,q4⟩;rcases hs with ⟨-, -, -,h4⟩|⟨h1,h2,h3⟩
  .exact Λ q1 (h4 _ (Dj hi))
  rcases uG i wh.length with h|h|h
  .have e:t[i]=wh[i]:=by simp only[h2];exact List.getElem_append_left h
   exact Λ (e.symm.trans q1) (h3 _ (Dj h))
  .refine⟨q1,h1,h,λe=>?_,λe=>?_⟩
   .rw[e] at h;simp at h;omega
   rw[h2,e] at q4;simp at q4;omega
  unfold yO at q2;rw[θ ⟨h1,h⟩] at q2;omega
 rintro⟨q1,q2,q3,q4,q5⟩;have h4:=List.length_pos_iff.2 q4;have h5:=List.length_pos_iff.2 q5;refine⟨q1,by unfold yO;rw[η (λh=>by omega)];decide,O,?_⟩;rcases hs with ⟨h, -⟩|⟨-,h, -⟩
 .rw[h] at q2;cases q2
 rw[h,Ag,Ai];omega
theorem aLN(hs:aEL t wh fr pt)(hg:TW t wh fr pt t.length):sQ t t.length=wh++fr/\(∀c∈wh++fr,qA c=true)/\((yO wh pt t.length= -1/\fr=[]/\pt=false)\/(yO wh pt t.length=wh.length/\pt=true/\wh≠[]/\fr≠[])):=by
 have hk:sQ t t.length=t.filter (· !=46):=by unfold sQ;rw[Hz]
 rw[hk];rcases hs with ⟨h1,h2,h3,h4⟩|⟨h1,h2,h3⟩
 .subst h1 h2 h3;refine⟨by rw[NS h4,Be],λc hc=>?_,Aa ⟨Z,Z,Z⟩⟩;rw[Be] at hc;obtain⟨j,hj,rfl⟩:=Iy.1 hc;rcases hg j hj hj with h|⟨-,h, -⟩
  .exact h
  cases h
 subst h1 h2;have hl:(wh++46::fr).length=wh.length+fr.length+1:=by simp;omega
 have hw:∀c∈wh,qA c=true:=λc hc=>by
  obtain⟨j,hj,rfl⟩:=Iy.1 hc;have hjt:j<(wh++46::fr).length:=O;rcases hg j hjt hjt with h|⟨-, -,h, -⟩
  .rw[List.getElem_append_left hj] at h;exact h
  omega
 have hf:∀c∈fr,qA c=true:=λc hc=>by
  obtain⟨j,hj,rfl⟩:=Iy.1 hc;have hjt:wh.length+1+j<(wh++46::fr).length:=O;rcases hg (wh.length+1+j) hjt hjt with h|⟨-, -,h, -⟩
  .rw[List.getElem_append_right O,List.getElem_cons,dif_neg O] at h;rw[<-h];congr 2;omega
  omega
 have hp:=hg wh.length O O;rw[show (wh++46::fr)[wh.length]'Yo=46 by simp] at hp;rcases hp with h|⟨-, -, -,h5,h6⟩
 .cases h
 refine⟨?_,λc hc=>(De.1 hc).elim (hw c) (hf c),Ab ⟨?_,Z,h5,h6⟩⟩
 .rw[List.filter_append,NS h3,List.filter_cons,η (by simp),NS (λc hc e=>by have:=hf c hc;rw[e] at this;cases this)]
 unfold yO;rw[θ ⟨Z,O⟩]
theorem aJY{c}(hp:kG l=(c::wh,fr,pt))(ha:∀d∈(c::wh)++fr,qA d=true)(hf:pt=true->fr≠[]):oJ l= !(decide (1<(c::wh).length)&&decide (c=48)):=by
 have h1:lH (c::wh)=true:=by unfold lH;rw[Cj.2 (λd hd=>ha d (List.mem_append_left _ hd))];rfl
 have h2:pt=true->lH fr=true:=λh=>by
  unfold lH;rw[Cj.2 (λd hd=>ha d (List.mem_append_right _ hd))];cases fr with
  |nil=>exact Λ rfl (hf h)
  |cons _ _=>rfl
 unfold oJ;rw[hp];unfold P8;dsimp only;rw[h1];have h3:(!pt||lH fr)=true:=by cases pt with
  |false=>rfl
  |true=>rw[h2 rfl];rfl
 rw[h3];by_cases h48:c=48
 .subst h48;cases wh<;>simp
 simp[h48]
end
theorem yV{y}(h1: -100000000000000000000000000000000000000000000000000000000000000000000000000000000<y)(h2:y<100000000000000000000000000000000000000000000000000000000000000000000000000000000):Bd y:=vF (k:=20) (by
 have h3:(100000000000000000000000000000000000000000000000000000000000000000000000000000000:Int)<4294967296^20:=by decide
 unfold δ;split<;>omega) Yc
theorem aQW{Y D}(hY: -1000000000000000000000000000000000000000000000000000000000000<Y/\Y<1000000000000000000000000000000000000000000000000000000000000)(hD:1<=D/\D<=1000000000000000000000000000000000000000000000000000000000000):Bd ((Y*8589934592+D)/(D*2)):=by
 have h1:0<D*2:=O;refine yV ?_ ?_
 .rcases Cm (Y*8589934592+D) 0 with h3|h3
  .have h4:Y*8589934592+D<=(Y*8589934592+D)/(D*2):=by rw[xK h1];have h5:=Dl (show 1<=D*2 by omega) (show 0<= -(Y*8589934592+D) by omega);rw[Fj,Fj,Ep] at h5;omega
   omega
  have:=Ei h3 (Ba h1);omega
 rcases Cm (Y*8589934592+D) 0 with h3|h3
 .have:=Int.ediv_neg_of_neg_of_pos h3 h1;omega
 have:=Fh (D*2) h3;omega
theorem aHh(l):∀n,l.foldl (λn c=>n*10+(c.toNat-48)) n=n*10^l.length+σ l:=by
 induction l with
 |nil=>intro n;show n=n*1+0;omega
 |cons c l ih=>intro n;have h1:σ (c::l)=l.foldl (λn c=>n*10+(c.toNat-48)) (0*10+(c.toNat-48)):=rfl;rw[List.foldl_cons,ih,h1,ih,Ai,Cg,iN,Gn,Ah,Cu,Dk 10,Ew]
theorem aCG(a b):σ (a++b)=σ a*10^b.length+σ b:=by unfold σ;rw[List.foldl_append];exact aHh b _
theorem aOU{W N T nx r:Int}(hT:0<T)(hr:0<=r)(hr1:r<T)(hn:nx=0\/nx=1):(W*T*8589934592+(T*(2*N+nx)+r)+T)/(T*2)=W*4294967296+N+nx:=by
 refine oP O ?_ ?_;all_goals
  have e1:T*2*(W*4294967296+N+nx)=W*T*8589934592+2*(T*N)+2*(T*nx):=by rw[Dm,Dm,Bc T 2,Av 2 T,Av 2 T,Av 2 T, <-Av T W,Bc T W];omega
  have e2:T*(2*N+nx)=2*(T*N)+T*nx:=by rw[Dm, <-Av,Bc T 2,Av]
  rw[e1,e2];rcases hn with rfl|rfl
  .rw[Int.mul_zero];omega
  .rw[Ep];omega
theorem WU{W N T nx r e}(hT:0<T)(hr:0<=r)(hr1:r<T)(hn:nx=0\/nx=1)(he:(r=0/\e=0)\/(r≠0/\e=nx)):(-(W*T)*8589934592-(T*(2*N+nx)+r)+T)/(T*2)= -(W*4294967296+N+e):=by
 refine oP O ?_ ?_;all_goals
  have e1:T*2* -(W*4294967296+N+e)= -(W*T*8589934592+2*(T*N)+2*(T*e)):=by rw[Ga,Dm,Dm,Bc T 2,Av 2 T,Av 2 T,Av 2 T, <-Av T W,Bc T W];omega
  have e2:T*(2*N+nx)=2*(T*N)+T*nx:=by rw[Dm, <-Av,Bc T 2,Av]
  rw[e1,e2,Fj];rcases hn with rfl|rfl
  .rcases he with ⟨h1,rfl⟩|⟨h1,rfl⟩
   .rw[Int.mul_zero];omega
   rw[Int.mul_zero];omega
  .rcases he with ⟨h1,rfl⟩|⟨h1,rfl⟩
   .rw[Int.mul_zero,Ep];omega
   rw[Ep];omega
theorem aNn(x):cK false x=x:=rfl
theorem aNo(x):cK true x= -x:=rfl
theorem aIb(wh fr)(ng):(cK ng ((σ (wh++fr)))*8589934592+((10^fr.length:β)))/(((10^fr.length:β))*2)=cK ng ((σ wh*4294967296+æ fr ng:β)):=by
 rw[aCG];unfold æ;have hT:0<10^fr.length:=Nat.pow_pos Yc;obtain⟨T,eT⟩:∃T,10^fr.length=T:=⟨_,rfl⟩;rw[eT] at hT ⊢;obtain⟨W,eW⟩:∃W,σ wh=W:=⟨_,rfl⟩;obtain⟨F,eF⟩:∃F,σ fr=F:=⟨_,rfl⟩;rw[eW,eF];obtain⟨N,eN⟩:∃N,F*2^32/T=N:=⟨_,rfl⟩;obtain⟨q,eq⟩:∃q,F*2^33/T=q:=⟨_,rfl⟩;obtain⟨r,er⟩:∃r,F*2^33%T=r:=⟨_,rfl⟩;rw[eN,eq,er];have h1:=Nat.div_add_mod (F*2^33) T;have h2:=qN (F*2^33) hT;have h3:=Nat.div_add_mod (F*2^32) T;have h4:=qN (F*2^32) hT;rw[eq,er] at h1;rw[er] at h2;rw[eN] at h3;have e32:(2:β)^32=4294967296:=by decide
 have e33:(2:β)^33=8589934592:=by decide
 rw[e33] at h1;rw[e32] at h3 h4;have hq:q=2*N\/q=2*N+1:=by
  have g1:2*(T*N)<=F*8589934592:=O;have g2:F*8589934592<2*(T*N)+2*T:=O;have g3:2*N<=q:=by rw[<-eq,e33,Nat.le_div_iff_mul_le hT,Cu,Dk N T];exact g1
  have g4:q<2*N+2:=by rw[<-eq,e33,Ia hT,iN,Cu,Dk N T];omega
  omega
 obtain⟨nx,hnx,hn01⟩:∃nx:β,q=2*N+nx/\(nx=0\/nx=1):=by
  rcases hq with h|h
  .exact⟨0,O,Aa Z⟩
  exact⟨1,O,Ab Z⟩
 have hF:(F:Int)*8589934592=(T:Int)*(2*(N:Int)+(nx:Int))+(r:Int):=by
  rw[hnx] at h1;have g:((T*(2*N+nx)+r:β):Int)=((F*8589934592:β):Int):=by rw[h1]
  rw[yJ,gG T] at g;have g2:((2*N+nx:β):Int)=2*(N:Int)+(nx:Int):=O;have g3:((F*8589934592:β):Int)=(F:Int)*8589934592:=O;rw[g2,g3] at g;exact g.symm
 have hTi:(0:Int)<(T:Int):=O;have hri:(r:Int)<(T:Int):=O;cases ng
 .rw[η (by simp),aNn,aNn];have e:=aOU (W:=W) (N:=N) hTi (show (0:Int)<=(r:Int) by omega) hri (nx:=nx) O;rw[<-hF] at e;have e5:((W*T+F:β):Int)*8589934592+(T:Int)=(W:Int)*(T:Int)*8589934592+(F:Int)*8589934592+(T:Int):=by rw[yJ,gG,Bi]
  rw[e5,e];omega
 rw[aNo,aNo];have e5: -((W*T+F:β):Int)*8589934592+(T:Int)= -((W:Int)*(T:Int))*8589934592-(F:Int)*8589934592+(T:Int):=by rw[yJ,gG,Int.neg_add,Bi,Fj (F:Int)];omega
 rw[e5,hF];by_cases h0:r=0
 .have e:=WU (W:=W) (N:=N) hTi (show (0:Int)<=(r:Int) by omega) hri (nx:=nx) (e:=0) O (Aa ⟨O,Z⟩);rw[θ ⟨Z,h0⟩,e];omega
 have e:=WU (W:=W) (N:=N) hTi (show (0:Int)<=(r:Int) by omega) hri (nx:=nx) (e:=nx) O (Ab ⟨O,Z⟩);rw[η (λh=>h0 h.2),e];omega
theorem XC(l)(hl:l.length<=60):VN l=jL l/\VG l=lV l:=by
 have hno:¬60<l.length:=O;unfold VN VG jL lV;rw[η hno,η hno];cases hf:oJ l
 .exact⟨Z,Z⟩
 obtain⟨wh,fr,pt,hp⟩:∃wh fr pt,kG l=(wh,fr,pt):=⟨_,_,_,rfl⟩;have hM:wY l=cK (sS l) ((σ wh*4294967296+æ fr (sS l):β):Int):=by unfold wY;rw[hp];exact aIb wh fr (sS l)
 have hR:jP l=cK (sS l) ((â wh*4294967296+æ fr (sS l):β):Int):=by unfold jP;rw[hp]
 have key:(wY l=jP l)\/(fO (wY l)=true/\fO (jP l)=true):=by
  rcases Ar 2147483649 (σ wh) with h|h
  .right;have ew:â wh=2147483649:=by unfold â;rw[η O]
   rw[hM,hR,ew];unfold fO cK;cases sS l
   .constructor
    .simp;omega
    simp;omega
   constructor
   .simp;omega
   simp;omega
  left;have ew:â wh=σ wh:=by unfold â;rw[θ h]
  rw[hM,hR,ew]
 rcases key with h|⟨h1,h2⟩
 .rw[h];cases hb:fO (jP l)
  .have hc:gD (jP l)=jP l:=by unfold fO at hb;rw[Bool.or_eq_false_iff,Ik,Ik] at hb;unfold gD;rw[η hb.1,η hb.2]
   rw[hc];exact⟨Z,Z⟩
  exact⟨Z,Z⟩
 rw[h1,h2];exact⟨Z,Z⟩
end
section
open Go.RowKit
theorem aON:Many ν 32 21:=Bg _ Dw rfl Yl
end
section
open Go.RowKit
theorem yP:BgC 19:=by
 intro t w ht;refine bC Tryz.func19 Z 19 Z Yd (λA hs hd hb=>?_);have b0:A.eval (.tmp 0)=aX (qF t) 0 4:=hb 0 _ Z;clear hb;have H:=Bl w;refine aD (aG ?_);refine jO H ?_;intro w1 H z1;refine gQ H ?_;intro w2 H z2;refine aC<|aD<|gQ H ?_;intro w3 H z3;refine aC<|aH<|aD ?_;repeat first|refine qa ?_|refine aC ?_
 refine aJ ?_;refine bR (λr A W => ∃ (i : β) (D : β -> Nd × Ad), i <= 4 /\ 4 - i <= r /\ A.tmps.size = 19 /\ A.defers = [] /\ A.eval (.tmp 1) = υ (ξ ⟨w.heap.size, 0, κ⟩) /\ A.eval (.tmp 2) = υ (ξ ⟨w1.heap.size, 0, κ⟩) /\ A.eval (.tmp 3) = υ (ξ ⟨w2.heap.size, 0, κ⟩) /\ A.eval (.tmp 5) = γ μ (i : Int) /\ (∀ j, j < i -> (D j).1 = jT (j : β) t) /\
   Cx w W [oU w.heap.size D,vhI 46 w2.heap.size 297 297 (kZ 0 D),vhI 46 w1.heap.size 297 297 (tK 0 (λ_=>dS) (λ_=>slV (κ,0) 0)),vhI 27 w.heap.size 4 4 (qF t)]) 4
  ⟨0,λ_=>(dS,(κ,0)),Xz _,O,YA,YB,Qv,Qv,Qv,Qv,λj h=>Λ h (Fv j),H.add (Af _ _) (oU w.heap.size (λ_=>(dS,(κ,0)))) (λ_ _=>Am _ _ _ _) (λj ⟨_,_,e⟩=>Λ e (λe=>nomatch e))⟩ (λr B W hI=>?_)
 clear b0 hs hd H;obtain⟨i,D,hi,hr,hs,hd,b1,b2,b3,b5,hD,H⟩:=hI;refine aD (aG ?_);repeat first|refine qa ?_|refine aC ?_|refine aD ?_|refine aH ?_
 refine fB (λh=>?_) (λh=>?_)
 .have hin:i<4:=by have:=Xu h;omega
  refine aR<|aH (aJ ?_);refine aD ?_;repeat first|refine qa ?_|refine aC ?_|refine aI ?_
  have hsz:=H.size;refine q_c (RU (i:Int) t W (by unfold ε;omega) ht) ?_;rintro e w4 ⟨a',c',rfl,g1,k4⟩;refine⟨_,Z,?_⟩;replace H:=H.add k4 (zC w.heap.size (jT (i:β) t,(a',c'))) (cO g1 hsz) (λj e=>(g1.lt j e).1);iterate 5 refine qa ?_
  refine gH H.a2 (λj hj=>Ae (by rw[show 0+1+i*74=1+i*74 by omega];rfl) (UD 0 D i (jT (i:β) t,(a',c')) j hj)) (bQ _ _ _ _) ?_;intro w5 H z5;refine fK<|aI ?_;repeat refine qa ?_
  exact aU ⟨4-(i+1),O,i+1,_,O,O,YA,YB,Qv,Qv,Qv,Ae Qv YC,λj hj=>(by
   by_cases e:j=i
   .rw[e,dZ]
   rw[dI _ _ e];exact hD j O),nX (g:=zC w.heap.size) i H⟩
 obtain rfl:i=4:=by have:=Xg h;omega
 refine bL (dQ ?_);refine aD<|qa ?_;refine gH H.a2 aZ (oN _ _) ?_;intro w5 H z5;refine aC ?_;exact aQ (aN YB (sW Z Qv ManyK.out H.v2 (Xr _)) ⟨D,Z,hD,H.sub (Gz _ (El _))⟩)
instance iRefCl2_1:ManyK ν 119 4:=⟨Bg _ Tryz.underlying119 rfl Yl⟩
instance iRefCl2_2:ArrK ν 119 4 118:=⟨Tryz.underlying119⟩
instance iRefCl2_3:OneK ν 118:=⟨⟨λw=>by go_simp,λw=>Yh⟩⟩
instance iRefCl2_4:SizK ν 118 1:=⟨λw=>Yh⟩
theorem aEq{w0 w w'}{c}{l}(H:Cx w0 w (fU w0.heap.size 3 1 (lmV c) c.m.L.length (rowV (iF (gL c.m.L)) c.m.L.length)::l))(k:Below w.heap.size w w')(m:Vh 79 w' w.heap.size 4 4 (wT c)):Cx w0 w' (qO w0.heap.size (.slice (ξ ⟨w.heap.size,0,κ⟩) 1 1) [c]::l):=by
 have hM:World.ownsRow _ _ _ _ _ _ _:=H.o0;refine H.a0.put (y:=(qO w0.heap.size (ρ (ξ ⟨w.heap.size,0,κ⟩) 1 1) [c])) ⟨k.os,k.tape,k.output,k.size,λj h5 _=>k.block j h5,⟨OB m H.size,λd hd=>?_⟩,λj hj=>?_⟩
 .simp only[Bv,Di,or_false] at hd;subst hd;exact bO hM k
 rcases hj with e|⟨d,hd,e⟩
 .cases e;exact Ab (Xr _)
 simp only[Bv,Di,or_false] at hd;subst hd;exact Aa e
theorem JL(x:Ip)ζ(ta:β->Ad)(po:β->Option Addr)(lo)(lc)(LL)(wo ph:β)(w)(hx:x.ly=LL.map Lj.y)(hj:JRd w lo LL)(hl:LL.length<=400)(ht:∀j,j<4->j≠wo->(j)≠x.bad->∃b,po j=ξ ⟨b,0,κ⟩/\Vh 79 w b 4 4 (msF (ζ j).K (ζ j).F (ζ j).R (slV (ta j) (ζ j).L.length))/\MsOK (ζ j)/\(ζ j).L.length<=(ta j).2/\Sr w (ta j).1 (ζ j).L.length (ta j).2 (iF (gL (ζ j).L))):ο ν 53 #[.int .i64 wo,aX (λj=>.pointer (po j)) 0 4,aX (jW x.rd x.bad (.slice lo LL.length lc)) 0 14,.int .i64 (ph)] w λe w'=>∃mo mc M,e=.returned (.slice mo M.length mc)/\M.map Lm.m=nO x ζ wo ph 4/\OwnM w' w.heap.size (.slice mo M.length mc) M/\Below w.heap.size w w':=by
 refine bC Tryz.func53 Z 89 Z Yd (λA hs hd hb=>?_);have b0:A.eval (.tmp 0)=γ μ (wo:Int):=hb 0 _ Z;have b1:A.eval (.tmp 1)=aX (λj=>υ (po j)) 0 4:=hb 1 _ Z;have b2:A.eval (.tmp 2)=aX (jW x.rd x.bad (ρ lo LL.length lc)) 0 14:=hb 2 _ Z;have b3:A.eval (.tmp 3)=γ μ (ph:Int):=hb 3 _ Z;clear hb;have H:=Bl w;refine aD (aG ?_);refine jO H ?_;clear H;intro w1 H z1;refine jO H ?_;clear H;intro w2 H z2;refine qa ?_;refine aC<|aD<|qa ?_;refine aC<|aH<|aD<|qa ?_;refine aC<|aJ ?_;refine bR (λr A W=>∃(i:β) (u:Value) (M:χ Lm),i<=4/\4-i<=r/\A.tmps.size=89/\A.defers=[]/\A.eval (.tmp 0)=γ μ (wo:Int)/\A.eval (.tmp 3)=γ μ (ph:Int)/\A.eval (.tmp 5)=υ (ξ ⟨w.heap.size,0,κ⟩)/\A.eval (.tmp 6)=υ (ξ ⟨w1.heap.size,0,κ⟩)/\A.eval (.tmp 9)=u/\A.eval (.tmp 10)=γ μ (i:Int)/\M.map Lm.m=nO x ζ wo ph i/\Cx w W [qO w.heap.size u M,vhI 52 w1.heap.size 14 14 (jW x.rd x.bad (ρ lo LL.length lc)),vhI 119 w.heap.size 4 4 (λj=>υ (po j))]) 4
  ⟨0,_,[],Xz _,O,YA,YB,Qv,Qv,Qv,Qv,Qv,Qv,rfl,H.add (Af _ _) (qO _ _ _) (OwnM.nil _ _) (λj e=>X0 (OwnM.nil w2 w2.heap.size) j e)⟩ (λr B W hI=>?_)
 clear b0 b1 b2 b3 hs hd H;obtain⟨i,u,M,hi,hr,hs,hd,b0,b3,b5,b6,b9,b10,hM,H⟩:=hI;have hMl:M.length<=400*i:=by have h1:=congrArg ç hM;rw[Ao] at h1;rw[h1];exact KM (by rw[hx,Ao];exact hl) ζ wo ph i
 refine aH<|aD (aG ?_);iterate 2 refine qa ?_
 refine aC<|fB (λh=>?_) (λh=>?_)
 .have hin:i<4:=by have:=Xu h;omega
  refine aR<|aH (aJ ?_);refine aH<|aD ?_;iterate 3 refine qa ?_
  refine aC<|fB (λh1=>?_) (λh1=>?_)
  .have e1:i=wo:=by have:=Xu h1;omega
   refine bL (Z0 ?_);refine aI ?_;repeat refine qa ?_
   exact aU ⟨4-(i+1),O,i+1,_,M,O,O,YA,YB,Qv,Qv,Qv,Qv,Qv,Ae Qv YC,by rw[hM];show _=nO x ζ wo ph i++_;rw[θ e1,Be],H⟩
  have e1:i≠wo:=by have:=Xg h1;omega
  refine aR<|aH<|aD ?_;iterate 4 refine qa ?_
  refine aC<|fB (λh2=>?_) (λh2=>?_)
  .have e2:(i:Int)≠x.bad:=Xu h2;obtain⟨mb,hpt,G0,t1,t2,t3⟩:=ht i hin e1 e2;refine aD<|qa ?_;refine qg (bB _ _ _ _ Z ArrK.out SizK.out Qv Qv Z hin _) ?_;refine qg (aT (v:=υ (ξ ⟨mb,0,κ⟩)) _ _ Z OneK.out Qv H.v2 O (by show Value.pointer (po (0+i*1))=_;rw[show 0+i*1=i by omega,hpt])) ?_;iterate 2 refine qa ?_
   have hn:=t1.n;refine q_c (show ο _ _ #[aX (msF (ζ i).K (ζ i).F (ζ i).R (slV (ta i) (ζ i).L.length)) 0 4] _ _ from JK (ζ i).K (ζ i).F (ζ i).R (ta i).1 (ζ i).L.length (ta i).2 (gL (ζ i).L) _ t1.K t1.F t1.R t1.L O t2 (t3.below H.bel)) ?_;rintro e w4 ⟨v4,rfl,o4,k4⟩;obtain⟨a4,c4,rfl,hc4⟩:=dU o4;refine⟨_,Z,?_⟩;have hsz:=H.size;replace H:=H.add k4 (fU _ _ _ _ _ _) o4 (λj e=>(o4.lt j e).1);repeat refine qa ?_
   refine aC<|aH<|aD ?_;iterate 2 refine qa ?_
   refine aC<|fB (λh3=>?_) (λh3=>?_)
   .have hE:wrongM (ζ i).K (ζ i).F (ζ i).R (ζ i).L.length=0:=Xu h3;have eL:rT (ζ i).K (ζ i).F (ζ i).R (ζ i).L.length=12+8*(ζ i).L.length:=by unfold rT;rw[θ hE]
    have hrow:World.ownsRow _ _ _ _ _ _ _:=H.o0;rw[eL] at hrow hc4;obtain⟨x1,x2,ex,s4,_⟩:=iT hrow;cases ex;refine aD<|qa ?_;refine q_c (show ο _ _ #[ρ a4 (rT (ζ i).K (ζ i).F (ζ i).R (ζ i).L.length) c4] _ _ from (by rw[eL];exact aSX JJ hE t1.L a4 c4 w4 hc4 s4)) ?_;rintro e w5 ⟨bo,bc,rfl,o5,k5⟩;refine⟨Ψ #[aX (msF (ζ i).K (ζ i).F (ζ i).R (ρ bo (ζ i).L.length bc)) 0 4,γ μ 0],Z,?_⟩;have hsz4:=k4.size;replace H:=H.tl.add k5 (fU _ _ _ _ _ _) (cO o5 (show w.heap.size<=_ by omega)) (λj e=>(o5.lt j e).1);iterate 3 refine qa ?_
    refine gQ H ?_;clear H;intro w6 H z6;refine gH H.a0 aZ (fV _ _ _ _ _ _) ?_;clear H;intro w7 H z7;refine qa ?_;refine aC<|aI ?_;iterate 2 refine qa ?_
    refine bI Z Yw (λK hK=>FJ _ _ Z (c:=⟨ζ i,bo,bc⟩) Qv (λw8 m8 k8 z8=>hK _ _ ?_));replace H:=(aEq (c:=⟨ζ i,bo,bc⟩) H.tl k8 m8).perm (List.Perm.swap _ _ _);refine RP H (by show M.length+1<=_;omega) ?_;clear H;intro u9 w9 H;refine qa ?_;refine aC<|bL (Z0 ?_);refine aI ?_;repeat refine qa ?_
    exact aU ⟨4-(i+1),O,i+1,_,M++[⟨ζ i,bo,bc⟩],O,O,YA,YB,Qv,Qv,Qv,Qv,Qv,Ae Qv YC,by rw[Cb,hM];show _=nO x ζ wo ph i++_;rw[η e1,η e2];unfold KD;rw[θ hE];rfl,H⟩
   have hE:wrongM (ζ i).K (ζ i).F (ζ i).R (ζ i).L.length≠0:=Xg h3;refine aR<|bL (Z0 ?_);refine aI ?_;repeat refine qa ?_
   exact aU ⟨4-(i+1),O,i+1,_,M,O,O,YA,YB,Qv,Qv,Qv,Qv,Qv,Ae Qv YC,by rw[hM];show _=nO x ζ wo ph i++_;rw[η e1,η e2];unfold KD;rw[η hE,Be],H.tl⟩
  have e2:(i:Int)=x.bad:=by simpa using h2
  refine aR<|aD ?_;iterate 4 refine qa ?_
  refine aC<|aJ ?_;refine bR (λr A W=>∃(k:β) (u:Value) (M2:χ Lm),k<=LL.length/\LL.length-k<=r/\A.tmps.size=89/\A.defers=[]/\A.eval (.tmp 0)=γ μ (wo:Int)/\A.eval (.tmp 3)=γ μ (ph:Int)/\A.eval (.tmp 5)=υ (ξ ⟨w.heap.size,0,κ⟩)/\A.eval (.tmp 6)=υ (ξ ⟨w1.heap.size,0,κ⟩)/\A.eval (.tmp 9)=u/\A.eval (.tmp 10)=γ μ (i:Int)/\A.eval (.tmp 51)=ρ lo LL.length lc/\A.eval (.tmp 52)=γ μ (LL.length:Int)/\A.eval (.tmp 53)=γ μ (k:Int)/\M2.map Lm.m=nO x ζ wo ph i++BC x.bad wo ph ((LL.map Lj.y).take k)/\Cx w W [qO w.heap.size u M2,vhI 52 w1.heap.size 14 14 (jW x.rd x.bad (ρ lo LL.length lc)),vhI 119 w.heap.size 4 4 (λj=>υ (po j))]) LL.length
   ⟨0,_,M,Xz _,O,YA,YB,Qv,Qv,Qv,Qv,Qv,Qv,Qv,Qv,Qv,by rw[hM];exact (Be _).symm,H⟩ (λr B W hI=>?_)
  clear b0 b3 b5 b6 b9 b10 hs hd H;obtain⟨k,u,M2,hk,hr2,hs,hd,b0,b3,b5,b6,b9,b10,b51,b52,b53,hM2,H⟩:=hI;have hM2l:M2.length<=2000:=by have h3:=congrArg ç hM2;rw[Ag,Ao, <-hM,Ao] at h3;have h4:=KQ x.bad wo ph ((LL.map Lj.y).take k);rw[Ea,Ao] at h4;omega
  refine aD (aG ?_);refine qa ?_;refine aC<|aH<|fB (λh=>?_) (λh=>?_)
  .have hkn:k<LL.length:=by have:=Xu h;omega
   have hc:=Bf hkn;obtain⟨cc,ec⟩:∃cc,cc=LL[k]:=⟨_,rfl⟩;rw[<-ec] at hc;have hy:(LL.map Lj.y)[k]?=ξ cc.y:=by rw[Bu,hc];rfl
   obtain⟨pb,pq,rfl,hcell⟩:=hj.1 O;have hcell:=hcell k cc hc;have hlb:=hj.2 cc (by rw[ec];exact Dj hkn);refine aR<|aH (aJ ?_);refine aD<|qg (dD _ _ _ _ rfl SlcK.out SizK.out Qv Qv rfl hkn _) ?_;refine qg (nR (g:=QW cc) ManyK.out (λk hk=>aP (hcell k hk) H.bel) Z Qv) ?_;refine gQ H ?_;clear H;intro w3 H z3;refine gH H.a0 aZ (KS _ _ _ _ _) ?_;clear H;intro w4 H z4;refine aC<|aD ?_;iterate 2 refine qa ?_
   refine q_c (JJ cc.ao cc.y.n cc.cap cc.y.g _ hlb.2.2.2 hlb.2.2.1 hlb.2.1 (hlb.1.below H.bel)) ?_;rintro e w5 ⟨E,v5,hE,rfl,o5,k5⟩;obtain⟨a5,c5,rfl,hc5⟩:=dU o5;refine⟨Ψ #[aX (msF (dN E (cc.y.g 1):β) (dN E (cc.y.g 2):β) (dN E (dR cc.y.g):β) (ρ a5 (dN E (cc.y.g 7)) c5)) 0 4,γ μ E],Z,?_⟩;have hsz:=H.size;replace H:=H.add k5 (fU _ _ _ _ _ _) (cO o5 hsz) (λj e=>(o5.lt j e).1);iterate 3 refine qa ?_
   refine gQ H ?_;clear H;intro w6 H z6;refine gH H.a0 aZ (fV _ _ _ _ _ _) ?_;clear H;intro w7 H z7;refine qa ?_;refine aC<|aD ?_;iterate 3 refine qa ?_
   by_cases h1:cc.y.ph=(ph:Int)
   .refine aUa ?_;iterate 4 refine qa ?_
    by_cases h2:cc.y.wo=(wo:Int)
    .refine aUa ?_;refine aTZ ?_;iterate 2 refine qa ?_
     by_cases h3:E=0
     .subst h3;refine qg (nC (b:=true) _ _ Z Qv Qv Z _) ?_;refine aTZ ?_;iterate 5 refine qa ?_
      refine aTZ ?_;refine aC ?_;have hdm:vU cc.y.n cc.y.g=[⟨(cc.y.g 1:β),(cc.y.g 2:β),(dR cc.y.g:β),(Ξ (cc.y.g 7)).map (dV cc.y.g)⟩]:=by unfold vU;rw[θ (AV.2 hE)]
      refine fB (λh4=>?_) (λh4=>?_)
      .have hF:((cc.y.g 2:β):Int)=x.bad:=(Xu h4).trans e2;have hln:((Ξ (cc.y.g 7)).map (dV cc.y.g)).length=cc.y.g 7:=by rw[Ao,Ck]
       refine aI ?_;iterate 2 refine qa ?_
       refine bI Z Yw (λK hK=>FJ _ _ Z (c:=⟨⟨(cc.y.g 1:β),(cc.y.g 2:β),(dR cc.y.g:β),(Ξ (cc.y.g 7)).map (dV cc.y.g)⟩,a5,c5⟩) (Eq.trans Qv (by unfold wT lmV;rw[hln];rfl)) (λw8 m8 k8 z8=>hK _ _ ?_));replace H:=H.tl;have er:fU w.heap.size 3 1 (ρ a5 (dN 0 (cc.y.g 7)) c5) (dN 0 (cc.y.g 7)) (rowV (iF (dV cc.y.g)) (dN 0 (cc.y.g 7)))=fU w.heap.size 3 1 (lmV ⟨⟨(cc.y.g 1:β),(cc.y.g 2:β),(dR cc.y.g:β),(Ξ (cc.y.g 7)).map (dV cc.y.g)⟩,a5,c5⟩) ((Ξ (cc.y.g 7)).map (dV cc.y.g)).length (rowV (iF (gL ((Ξ (cc.y.g 7)).map (dV cc.y.g)))) ((Ξ (cc.y.g 7)).map (dV cc.y.g)).length):=by unfold lmV;dsimp only;rw[hln,iW (λi hi=>show iF (gL ((Ξ (cc.y.g 7)).map (dV cc.y.g))) i=iF (dV cc.y.g) i by unfold iF;rw[aAI hi])];rfl
       rw[er] at H;replace H:=(aEq H k8 m8).f2;have H':=(H.sub (Gz _ (Gz _ (List.Sublist.cons _ (List.Sublist.refl _)))));refine RP H' (by show M2.length+1<=_;omega) ?_;clear H H';intro u9 w9 H;refine qa ?_;refine fK<|aI ?_;repeat refine qa ?_
       exact aU ⟨LL.length-(k+1),O,k+1,_,M2++[_],O,O,YA,YB,Qv,Qv,Qv,Qv,Qv,Qv,Qv,Qv,Ae Qv YC,by rw[Cb,hM2,Ce,tN hy,θ ⟨h1,h2⟩,hdm];simp[hF],H⟩
      have hF:((cc.y.g 2:β):Int)≠x.bad:=λe=>Xg h4 (e.trans e2.symm);refine gT<|aI ?_;repeat refine qa ?_
      exact aU ⟨LL.length-(k+1),O,k+1,_,M2,O,O,YA,YB,Qv,Qv,Qv,Qv,Qv,Qv,Qv,Qv,Ae Qv YC,by rw[hM2,tN hy,θ ⟨h1,h2⟩,hdm];simp[hF],H.tl.tl.tl⟩
     refine qg (nC (b:=false) _ _ Z Qv Qv (Xf h3) _) ?_;refine aTZ ?_;refine qa ?_;iterate 4 refine bP ?_
     refine aTY ?_;refine aC<|OG rfl (gT ?_);refine aI ?_;repeat refine qa ?_
     exact aU ⟨LL.length-(k+1),O,k+1,_,M2,O,O,YA,YB,Qv,Qv,Qv,Qv,Qv,Qv,Qv,Qv,Ae Qv YC,by rw[hM2,tN hy,θ ⟨h1,h2⟩];unfold vU;rw[aGD hE h3];simp,H.tl.tl.tl⟩
    refine aUb ?_;refine aTZ ?_;refine qa ?_;iterate 2 refine bP ?_
    refine aTY ?_;refine qa ?_;iterate 4 refine bP ?_
    refine aTY ?_;refine aC<|OG rfl (gT ?_);refine aI ?_;repeat refine qa ?_
    exact aU ⟨LL.length-(k+1),O,k+1,_,M2,O,O,YA,YB,Qv,Qv,Qv,Qv,Qv,Qv,Qv,Qv,Ae Qv YC,by rw[tN hy,η (λe=>h2 e.2),Be];exact hM2,H.tl.tl.tl⟩
   refine aUb ?_;refine qa ?_;iterate 4 refine bP ?_
   refine aTY ?_;refine qa ?_;iterate 2 refine bP ?_
   refine aTY ?_;refine qa ?_;iterate 4 refine bP ?_
   refine aTY ?_;refine aC<|OG rfl (gT ?_);refine aI ?_;repeat refine qa ?_
   exact aU ⟨LL.length-(k+1),O,k+1,_,M2,O,O,YA,YB,Qv,Qv,Qv,Qv,Qv,Qv,Qv,Qv,Ae Qv YC,by rw[tN hy,η (λe=>h1 e.1),Be];exact hM2,H.tl.tl.tl⟩
  obtain rfl:k=LL.length:=by have:=Xg h;omega
  refine bL (BQ ?_);refine aI ?_;repeat refine qa ?_
  exact aU ⟨4-(i+1),O,i+1,_,M2,O,O,YA,YB,Qv,Qv,Qv,Qv,Qv,Ae Qv YC,by rw[hM2];show _=nO x ζ wo ph i++_;rw[η e1,θ e2,hx,Hy (by rw[Ao];exact Xr _)],H⟩
 obtain rfl:i=4:=by have:=Xg h;omega
 refine bL (dQ ?_);refine aD ?_;repeat first|refine qa ?_|refine aC ?_
 have hO:OwnM W w.heap.size u M:=H.o0;obtain⟨mo,mc,rfl,hmc⟩:=dU hO.1;exact aQ (aN YB (bS Z Qv) ⟨mo,mc,M,Z,hM,hO,H.bel⟩)
theorem aPM(rd:β->Int)(I)(hI:I<4):∀j,j<12->stP (λ_=>iV 0) (0+I*3) 3 (λa=>iV (rd a)) j=(λi=>iV ((λs a=>if s=I then rd a else 0) (i/3) (i%3))) j:=by
 have:I=0\/I=1\/I=2\/I=3:=O;intro j hj;rcases this with rfl|rfl|rfl|rfl;rotate_left;rotate_left;rotate_left;rotate_left;all_goals
  match j,hj with
  |0,_=>rfl
  |1,_=>rfl
  |2,_=>rfl
  |3,_=>rfl
  |4,_=>rfl
  |5,_=>rfl
  |6,_=>rfl
  |7,_=>rfl
  |8,_=>rfl
  |9,_=>rfl
  |10,_=>rfl
  |11,_=>rfl
theorem sen_di{n:Nd}{rd:β->Int}{I:β}(h:n.id=(I)):(λ(s a:β)=>if s=n.id then rd a else 0)=λs a=>if s=I then rd a else 0:=by grind
theorem aDt:aQP 54:=by
 intro n ao c frame rd w hok hag rF rR;have hag:Sr w ao n.vA.length c (tF (bA n)):=hag;refine bC Tryz.func54 Z 37 Z Yd (λA hs hd hb=>?_);have b0:A.eval (.tmp 0)=jX n (ρ ao n.vA.length c):=hb 0 _ Z;have b1:A.eval (.tmp 1)=γ μ frame:=hb 1 _ Z;have b2:A.eval (.tmp 2)=aX (λa=>iV (rd a)) 0 3:=hb 2 _ Z;clear hb;refine aD (aG ?_);refine Zb (λw1 m1 k1 z1=>?_);have sr1:=hag.below k1;refine Zb (λw2 m2 k2 z2=>?_);have mn2:=m1.below k2;have sr2:=sr1.below k2;refine Za mQ (λw3 m3 k3 z3=>?_);have mn3:=mn2.below k3;have mrd3:=m2.below k3;have sr3:=sr2.below k3;refine Za kW (λw4 m4 k4 z4=>?_);have mn4:=mn3.below k4;have mrd4:=mrd3.below k4;have mr4:=m3.below k4;have sr4:=sr3.below k4;refine aC<|aD<|Yx ?_;refine bI Z Yw (λK hK=>bM _ 52 _ _ Z Yf (QC _ _) (pU n ao c _ sr4 hok.vA) ?_);rintro e w5 ⟨a3,c3,rfl,o5,k5⟩;have n5:=k5.size;have mn5:=mn4.below k5;have mrd5:=mrd4.below k5;have mr5:=mr4.below k5;have mq5:=m4.below k5;refine⟨_,Z,hK _ _ ?_⟩;refine Zs bJ mn5 (bQ _ _ _ _) (λw6 mm6 k6 z6=>?_);have mn6:=Ac mm6 (fH _ _);have mrd6:=mrd5.kept k6 O;have mr6:=mr5.kept k6 O;have mq6:=mq5.kept k6 O;have ow6:=bX o5 k6 (λe=>by have e1:=(o5.lt _ e).1;have e2:=(o5.lt _ e).2;omega);refine aC<|aH<|aD<|Yx ?_;refine bI Z Yw (λK hK=>bM _ 99 _ _ Z Yf (QE _ _) (sD n _ _) ?_);rintro e w7 ⟨rfl,k7⟩;have n7:=k7.size;have mn7:=mn6.below k7;have mrd7:=mrd6.below k7;have mr7:=mr6.below k7;have mq7:=mq6.below k7;have ow7:=bO ow6 k7;refine⟨_,Z,hK _ _ ?_⟩;refine aC ?_;have kA:Below w.heap.size w w7:=(aF ((((k1.trans (k2.mono O)).trans (k3.mono O)).trans (k4.mono O)).trans (k5.mono O)) k6 O O).trans (k7.mono O);refine mK (t:=kR n.id) Yf (λhno=>?_) (λhno=>?_)
 .refine aD<|Yx ?_;refine Yq (oH Z _) ?_;refine Zs bJ mr7 (bQ _ _ _ _) (λw8 mm8 k8 z8=>?_);have mr8:=Ac mm8 (fH _ _);have mn8:=mn7.kept k8 O;have mrd8:=mrd7.kept k8 O;have mq8:=mq7.kept k8 O;have ow8:=bX ow7 k8 (λe=>by have e1:=(o5.lt _ e).1;have e2:=(o5.lt _ e).2;omega);refine Zs fM mq8 (fV _ _ _ _ _ _) (λw9 mm9 k9 z9=>?_);have mq9:=Ac mm9 (fT _ _);have mn9:=mn8.kept k9 O;have mrd9:=mrd8.kept k9 O;have mr9:=mr8.kept k9 O;have ow9:=bX ow8 k9 (λe=>by have e1:=(o5.lt _ e).1;have e2:=(o5.lt _ e).2;omega);refine aC<|aQ ?_;simp only[Nx,Exit.then];refine aN YB (iC Z Yf Yf bJ fM mr9 (Xr _) mq9 (Xr _)) ⟨a3,c3,κ,0,?_,cO ow9 O,?_,?_⟩
  .unfold senN mO;rw[θ hno,θ hno];rfl
  .unfold BU mO;rw[θ hno];exact Am _ _ _ _
  exact aF (aF kA k8 O O) k9 O O
 obtain⟨h0,h3⟩:=tQ hno;obtain⟨I,hI⟩:∃I:β,n.id=(I:Int):=⟨n.id.toNat,O⟩;have hi4:I<4:=O;have e1:senN n frame rd={ n with fr:=frame,di:=λs a=>if s=I then rd a else 0,he:=λ_=>0 }:=by unfold senN;rw[η (by rw[hno];decide),sen_di hI]
 have e2:mO n frame rd=⟨1,n.id,frame,[rd 0,rd 1,rd 2]⟩:=by unfold mO;rw[η (by rw[hno];decide)]
 refine aR<|aD ?_;iterate 2 refine Yx ?_
 refine lN Yw (λK hK=>iO _ _ _ _ Z iI Yf Yf mn7 Yc Z Z Z (λw8 mm8 k8 z8=>hK _ ?_));have mn8:=Ac mm8 (aJe _ _ _);have mrd8:=mrd7.kept k8 O;have mr8:=mr7.kept k8 O;have mq8:=mq7.kept k8 O;have ow8:=bX ow7 k8 (λe=>by have e1:=(o5.lt _ e).1;have e2:=(o5.lt _ e).2;omega);refine aC<|aD<|Za aCx (λw9 m9 k9 z9=>?_);have mn9:=mn8.below k9;have mrd9:=mrd8.below k9;have mr9:=mr8.below k9;have mq9:=mq8.below k9;have ow9:=bO ow8 k9;refine aC<|aD ?_;iterate 2 refine Yx ?_
 refine Yq (bE _ _ Z mW Yf mrd9 Yc) ?_;refine Yq (bB _ _ _ _ Z Er mW.size Yf Yf hI hi4 _) ?_;refine Zs mW m9 (λj hj=>rfl) (λw10 mm10 k10 z10=>?_);have md10:=Ac mm10 (aPM rd I hi4);have mn10:=mn9.kept k10 O;have mrd10:=mrd9.kept k10 O;have mr10:=mr9.kept k10 O;have mq10:=mq9.kept k10 O;have ow10:=bX ow9 k10 (λe=>by have e1:=(o5.lt _ e).1;have e2:=(o5.lt _ e).2;omega);refine aC<|aD<|Yq (bE _ _ rfl uX Yf md10 Yc) ?_;refine Yx ?_;refine Zs uX mn10 (λj hj=>rfl) (λw11 mm11 k11 z11=>?_);have mn11:=Ac mm11 (aJd _ _ (λs a=>if s=I then rd a else 0));have mrd11:=mrd10.kept k11 O;have mr11:=mr10.kept k11 O;have mq11:=mq10.kept k11 O;have md11:=md10.kept k11 O;have ow11:=bX ow10 k11 (λe=>by have e1:=(o5.lt _ e).1;have e2:=(o5.lt _ e).2;omega);refine aC<|aD<|Yq (aBM rfl _) ?_;refine Yx ?_;refine Zs wU mn11 (λj hj=>rfl) (λw12 mm12 k12 z12=>?_);have mn12:=Ac mm12 (aJf _ _ (λ_=>0));have mrd12:=mrd11.kept k12 O;have mr12:=mr11.kept k12 O;have mq12:=mq11.kept k12 O;have md12:=md11.kept k12 O;have ow12:=bX ow11 k12 (λe=>by have e1:=(o5.lt _ e).1;have e2:=(o5.lt _ e).2;omega);refine aC<|aH ?_;have hS0:(λW=>Vh 43 W w.heap.size 74 74 (ndF { n with fr:=frame,di:=λs a=>if s=I then rd a else 0,he:=λ_=>0 } (ρ a3 n.vA.length c3))/\Vh 37 W w1.heap.size 3 3 (λa=>iV (rd a))) w12.drew:=⟨mn12,mrd12⟩;have mr0:Vh _ w12.drew _ _ _ _:=mr12;have mq0:Vh _ w12.drew _ _ _ _:=mq12;have ow0:=(show World.ownsRow w12.drew _ _ _ _ _ _ from ow12);have ez:w12.drew.heap.size=w12.heap.size:=rfl;have kD:Below w.heap.size w w12.drew:=aY (aF (aF (aF ((aF kA k8 O O).trans (k9.mono O)) k10 O O) k11 O O) k12 O O);refine fI (S:=λW=>Vh 43 W w.heap.size 74 74 (ndF { n with fr:=frame,di:=λs a=>if s=I then rd a else 0,he:=λ_=>0 } (ρ a3 n.vA.length c3))/\Vh 37 W w1.heap.size 3 3 (λa=>iV (rd a))) (.rd 0 (.mv 1 (.rd 2 (.mv 3 (.mv 4 (.rd 5 (.mv 6 (.rd 7 (.mv 8 (.rd 9 (.two 10 12 (.mv 11 (.go 12 (.go 13 .fin))) (.go 10 (.mv 11 (.go 13 .fin)))))))))))))) [] Yl Yl ?_;refine Yr Z hS0 (λ_ hS=>bE _ _ Z bJ Yf hS.1 Yc) ?_;refine Yk Z (λ_=>IE Z Yf _) ?_;refine Yr Z hS0 (λ_ hS=>aT _ _ Z iI Yf hS.1 Yc Z) ?_;refine Yj ?_;refine Yk Z (λ_=>bB _ _ _ _ Z Ff iI.size Yf (aL _ _) (i:=0) Z Yc _) ?_;refine Yr Z hS0 (λ_ hS=>aT _ _ Z iI Yf hS.2 Yc Z) ?_;refine Yk Z (λ_=>bB _ _ _ _ Z Ff iI.size Yf (aL _ _) (i:=1) Z Yc _) ?_;refine Yr Z hS0 (λ_ hS=>aT _ _ Z iI Yf hS.2 Yc Z) ?_;refine Yk Z (λ_=>bB _ _ _ _ Z Ff iI.size Yf (aL _ _) (i:=2) Z Yc _) ?_;refine Yr Z hS0 (λ_ hS=>aT _ _ Z iI Yf hS.2 Yc Z) ?_;refine KP ?_ ?_
 .refine dA Z Z Yw (λK hK=>?_);refine LJ _ _ _ _ Z (g:=rd) Yf Yf Yf ?_;intro w13 mv13 k13 z13;have hS13:(λW=>Vh 43 W w.heap.size 74 74 (ndF { n with fr:=frame,di:=λs a=>if s=I then rd a else 0,he:=λ_=>0 } (ρ a3 n.vA.length c3))/\Vh 37 W w1.heap.size 3 3 (λa=>iV (rd a))) w13:=⟨hS0.1.below k13,hS0.2.below k13⟩;have mr13:=mr0.below k13;have mq13:=mq0.below k13;have ow13:=bO ow0 k13;refine hK _ _ (λ_ _=>hS13) ?_;clear hK K;refine Yk Z (λ_=>rH _ _ _ _ Z (aL _ _) Yf Yf Yf _) ?_;refine dK Z Yw (λK hK=>?_);refine aW _ _ _ _ Z bJ Yf Yf mr13 Yc (bQ _ _ _ _) Z ?_;intro w14 mm14 k14 z14;have mr14:=Ac mm14 (fH _ _);have hS14:(λW=>Vh 43 W w.heap.size 74 74 (ndF { n with fr:=frame,di:=λs a=>if s=I then rd a else 0,he:=λ_=>0 } (ρ a3 n.vA.length c3))/\Vh 37 W w1.heap.size 3 3 (λa=>iV (rd a))) w14:=⟨hS13.1.kept k14 O,hS13.2.kept k14 O⟩;have mq14:=mq13.kept k14 O;have ow14:=iJ ow13 k14 O;have mv14:=mv13.kept k14 O;refine hK _ (λ_ _=>hS14) ?_;clear hK K;refine dK Z Yw (λK hK=>?_);refine aW _ _ _ _ Z fM Yf Yf mq14 Yc (fV _ _ _ _ _ _) Z ?_;intro w15 mm15 k15 z15;have mq15:=Ac mm15 (fT _ _);have hS15:(λW=>Vh 43 W w.heap.size 74 74 (ndF { n with fr:=frame,di:=λs a=>if s=I then rd a else 0,he:=λ_=>0 } (ρ a3 n.vA.length c3))/\Vh 37 W w1.heap.size 3 3 (λa=>iV (rd a))) w15:=⟨hS14.1.kept k15 O,hS14.2.kept k15 O⟩;have mr15:=mr14.kept k15 O;have ow15:=iJ ow14 k15 O;have mv15:=mv14.kept k15 O;refine hK _ (λ_ _=>hS15) ?_;clear hK K;refine gM<|aQ<|aN YB (iC rfl Yf Yf bJ fM mr15 (Xr _) mq15 (Xr _)) ⟨a3,c3,ξ ⟨w12.drew.heap.size,0,κ⟩,3,?_,cO ow15 O,?_,aF (aF (kD.trans (k13.mono O)) k14 O O) k15 O O⟩
  .rw[e1,e2];rfl
  unfold BU;rw[e2];exact Vh.owns (Ac mv15 (λi hi=>(by
   match i,hi with
   |0,_=>rfl
   |1,_=>rfl
   |2,_=>rfl))) O
 refine dK Z Yw (λK hK=>?_);refine aW _ _ _ _ Z bJ Yf Yf mr0 Yc (bQ _ _ _ _) Z ?_;intro w13 mm13 k13 z13;have mr13:=Ac mm13 (fH _ _);have hS13:(λW=>Vh 43 W w.heap.size 74 74 (ndF { n with fr:=frame,di:=λs a=>if s=I then rd a else 0,he:=λ_=>0 } (ρ a3 n.vA.length c3))/\Vh 37 W w1.heap.size 3 3 (λa=>iV (rd a))) w13:=⟨hS0.1.kept k13 O,hS0.2.kept k13 O⟩;have mq13:=mq0.kept k13 O;have ow13:=iJ ow0 k13 O;refine hK _ (λ_ _=>hS13) ?_;clear hK K;refine dA Z Z Yw (λK hK=>?_);refine LJ _ _ _ _ Z (g:=rd) Yf Yf Yf ?_;intro w14 mv14 k14 z14;have hS14:(λW=>Vh 43 W w.heap.size 74 74 (ndF { n with fr:=frame,di:=λs a=>if s=I then rd a else 0,he:=λ_=>0 } (ρ a3 n.vA.length c3))/\Vh 37 W w1.heap.size 3 3 (λa=>iV (rd a))) w14:=⟨hS13.1.below k14,hS13.2.below k14⟩;have mr14:=mr13.below k14;have mq14:=mq13.below k14;have ow14:=bO ow13 k14;refine hK _ _ (λ_ _=>hS14) ?_;clear hK K;refine Yk Z (λ_=>rH _ _ _ _ Z (aL _ _) Yf Yf Yf _) ?_;refine dK Z Yw (λK hK=>?_);refine aW _ _ _ _ Z fM Yf Yf mq14 Yc (fV _ _ _ _ _ _) Z ?_;intro w15 mm15 k15 z15;have mq15:=Ac mm15 (fT _ _);have hS15:(λW=>Vh 43 W w.heap.size 74 74 (ndF { n with fr:=frame,di:=λs a=>if s=I then rd a else 0,he:=λ_=>0 } (ρ a3 n.vA.length c3))/\Vh 37 W w1.heap.size 3 3 (λa=>iV (rd a))) w15:=⟨hS14.1.kept k15 O,hS14.2.kept k15 O⟩;have mr15:=mr14.kept k15 O;have ow15:=iJ ow14 k15 O;have mv15:=mv14.kept k15 O;refine hK _ (λ_ _=>hS15) ?_;clear hK K;refine gM<|aQ<|aN YB (iC rfl Yf Yf bJ fM mr15 (Xr _) mq15 (Xr _)) ⟨a3,c3,ξ ⟨w13.heap.size,0,κ⟩,3,?_,cO ow15 O,?_,aF ((aF kD k13 O O).trans (k14.mono O)) k15 O O⟩
 .rw[e1,e2];rfl
 unfold BU;rw[e2];exact Vh.owns (Ac mv15 (λi hi=>(by
  match i,hi with
  |0,_=>rfl
  |1,_=>rfl
  |2,_=>rfl))) O
end
section
open Go.RowKit
theorem aNR(f:β->Int)(n)(v):cl f (n+1) v=cl f n v+if f n<v then 1 else 0:=by
 show cn _ n+(if decide (f n<v)=true then 1 else 0)=_;by_cases h:f n<v
 .rw[θ (Xt h),θ h];rfl
 rw[η (by rw[Xf h];decide),η h];rfl
theorem aNP(f:β->Int)(n)(v):ce f (n+1) v=ce f n v+if f n=v then 1 else 0:=by
 show cn _ n+(if decide (f n=v)=true then 1 else 0)=_;by_cases h:f n=v
 .rw[θ (Xt h),θ h];rfl
 rw[η (by rw[Xf h];decide),η h];rfl
theorem aBA(ao)(n cap k)f(w)(hn:n<=64)(hk:k<n)(hr:Rd w ao n (iF f)):ο ν 165 #[.slice ao n cap,.int .i64 (k)] w λe w'=>∃v,vH f n k v/\e=.returned (.int .i64 v)/\w'=w:=by
 obtain⟨b,o,rfl,hc⟩:=hr O;have HC:=J hc;clear hc hr;go_in;go_wp2_with fail;go_loopw [6,7,8,10,13] (λ_ _ _ _ is wr=>w=wr/\∃i:β,is=γ μ i/\i<=n/\∀j,j<i->¬vH f n k (f j)) (λ_ _ _ _ is _=>n-(intOf is).toNat);case atStart=>exact⟨rfl,0,rfl,Xz _,λj hj=>Λ hj O⟩
 case round=>
  obtain⟨rfl,i,rfl,hi,hno⟩:=hrel;have NO:=J hno;clear hno;by_cases hin:i<n
  .have ci:w.cell? ⟨b,o+i,κ⟩=ξ (γ μ (f i)):=C HC i hin;obtain⟨v,ev⟩:∃v,f i=v:=⟨_,rfl⟩;rw[ev] at ci;have EV:=J ev;clear ev;go_wp2_with fail;clear ci;go_loopw [7,8,10,19] (λls ss _ js wr=>w=wr/\∃j:β,js=γ μ j/\j<=n/\ls=γ μ (cl f j v:β)/\ss=γ μ (ce f j v:β)) (λ_ _ _ js _=>n-(intOf js).toNat);case atStart=>exact⟨rfl,0,rfl,Xz _,rfl,rfl⟩
   case round=>
    obtain⟨rfl,j,rfl,hj,rfl,rfl⟩:=hrel;have b1:cl f j v<=j:=zI _ _;have b2:ce f j v<=j:=zI _ _;by_cases hjn:j<n
    .have cj:w.cell? ⟨b,o+j,κ⟩=ξ (γ μ (f j)):=C HC j hjn;have S1:=J (aNR f j v);have S2:=J (aNP f j v);obtain⟨p,ep⟩:∃p,cl f j v=p:=⟨_,rfl⟩;obtain⟨q,eq⟩:∃q,ce f j v=q:=⟨_,rfl⟩;obtain⟨u,eu⟩:∃u,f j=u:=⟨_,rfl⟩;rw[ep] at b1 S1 ⊢;rw[eq] at b2 S2 ⊢;rw[eu] at cj S1 S2;clear ep eq eu;by_cases hl:u<v
     .have t1:(u==v)=false:=by simp;omega
      have T1:=J (show (cl f (j+1) v:β)=p+1 by rw[C S1,θ hl]);have T2:=J (show ce f (j+1) v=q by rw[C S2,η O];rfl);go_wp2_with fail;go_roundw;case rel=>exact⟨trivial,j+1,by go_num,O,by rw[C T1];go_num,by rw[C T2]⟩
      case measure=>simp[intOf]<;>omega
     by_cases he:u=v
     .subst he;have t1:(u==u)=true:=by simp
      have T1:=J (show cl f (j+1) u=p by rw[C S1,η hl];rfl);have T2:=J (show ce f (j+1) u=q+1 by rw[C S2,θ Z]);go_wp2_with fail;go_roundw;case rel=>exact⟨trivial,j+1,by go_num,O,by rw[C T1],by rw[C T2];go_num⟩
      case measure=>simp[intOf]<;>omega
     have t1:(u==v)=false:=by simp[he]
     have T1:=J (show cl f (j+1) v=p by rw[C S1,η hl];rfl);have T2:=J (show ce f (j+1) v=q by rw[C S2,η he];rfl);go_wp2_with fail;go_roundw;case rel=>exact⟨trivial,j+1,by go_num,O,by rw[C T1],by rw[C T2]⟩
     case measure=>simp[intOf]<;>omega
    .have e9:j=n:=O;subst e9;have RV:=J (show vH f j k v↔cl f j v<=k/\k<cl f j v+ce f j v from Iff.rfl);obtain⟨p,ep⟩:∃p,cl f j v=p:=⟨_,rfl⟩;obtain⟨q,eq⟩:∃q,ce f j v=q:=⟨_,rfl⟩;rw[ep] at b1 RV ⊢;rw[eq] at b2 RV ⊢;clear ep eq;by_cases h1:p<=k
     .by_cases h2:k<p+q
      .go_wp2_with fail;go_ret;exact⟨v,(C RV).2 ⟨h1,h2⟩,Z,Z⟩
      have NV:=J (show ¬vH f j k v from λh=>h2 ((C RV).1 h).2);go_wp2_with fail;go_roundw;case rel=>exact⟨trivial,i+1,by go_num,O,λt ht=>by
       by_cases e:t=i
       .subst e;rw[C EV];exact C NV
       exact C NO t O⟩
      case measure=>simp[intOf]<;>omega
     have NV:=J (show ¬vH f j k v from λh=>h1 ((C RV).1 h).1);go_wp2_with fail;go_roundw;case rel=>exact⟨trivial,i+1,by go_num,O,λt ht=>by
      by_cases e:t=i
      .subst e;rw[C EV];exact C NV
      exact C NO t O⟩
     case measure=>simp[intOf]<;>omega
  .have e9:i=n:=O;subst e9;obtain⟨t,ht,hr⟩:=aTl f i k hk;exact Λ hr (C NO t ht)
theorem YW(ao)(n cap)(w)(h:n<1\/64<n):ο ν 102 #[.slice ao n cap] w λe w'=>e=.returned (.tuple #[.int .i64 0,.int .i64 8])/\Below w.heap.size w w':=by
 by_cases h1:n<1
 .have h1':(n:Int)<1:=O;clear h;go_in;go_wp2_with fail;go_ret2;exact⟨Z,Af _ _⟩
 have h2:(64:Int)<(n:Int):=O;clear h;go_in;go_wp2_with fail;go_ret2;exact⟨Z,Af _ _⟩
theorem aJQ(x y)(hx:ε x)(hy:ε y):wN (δ (x+y)) (δ 2):=by
 have h1:=jB hx;have h2:=jB hy;by_cases h:δ (x+y)<18446744073709551616
 .exact WN _ _ (by unfold δ;split<;>omega) Yc h
 exact div_one _ _ Yc O Yc
theorem aId{f:β->Int}{n k}{v}(hf:∀i,ε (f i))(h:vH f n k v):ε v:=by obtain⟨i,_,rfl⟩:=aSr h;exact hf i
theorem VI(ao)(n cap)f(w)(h1:1<=n)(h2:n<=64)(hf:∀i,ε (f i))(hr:Rd w ao n (iF f)):ο ν 102 #[.slice ao n cap] w λe w'=>∃m,R9 f n m/\e=.returned (.tuple #[.int .i64 m,.int .i64 0])/\Below w.heap.size w w':=by
 obtain⟨k,ek⟩:∃k,(n-1)/3=k:=⟨_,rfl⟩;have hk:3*k+1<=n:=O;have td:((n:Int)-1).tdiv 3=(k:Int):=by rw[show (n:Int)-1=((n-1:β):Int) by omega, <-ek];rfl
 have EK:=J ek;have HF:=J hf;have HR:=J hr;clear ek hf hr;go_in;go_wp2_with fail;refine (aBA ao n cap k f _ h2 O (C HR)).mono ?_;rintro e w1 ⟨a,ra,rfl,rfl⟩;have RA:=J ra;have AR:=J (aId (C HF) ra);clear ra;go_wp2_with fail;refine (jG a (C AR) _).mono ?_;rintro e w2 ⟨b2,rfl,g2,n2,k2⟩;have N2:=J n2;have K2:=J k2;have G2:=J g2;have R2:=J ((C HR).below k2);clear n2 k2 g2;have eq:(n:Int)-1-(k:Int)=((n-1-k:β):Int):=O;go_wp2_with fail;refine (aBA ao n cap (n-1-k) f _ h2 O (C R2)).mono ?_;rintro e w3 ⟨c,rc,rfl,rfl⟩;have RC:=J rc;have CR:=J (aId (C HF) rc);clear rc;go_wp2_with fail;refine (jG c (C CR) _).mono ?_;rintro e w4 ⟨b4,rfl,g4,n4,k4⟩;have N4:=J n4;have M4:=J ((C N2).below k4);have K4:=J (show Below w1.heap.size w1 w4 from (C K2).trans (k4.mono (C K2).size));clear n4 k4 g4;go_wp2_with fail;obtain⟨s,v,ia⟩:=(C M4).intAt;refine (rA b2 b2 b4 a c s v _ ia (C M4) (C N4) (qV (C AR)) (qV (C CR))).mono ?_;rintro e w5 ⟨rfl,n5,k5⟩;have N5:=J n5;have K5:=J (aF (C K4) k5 (C G2) (C K4).size);clear n5 k5 ia;go_wp2_with fail;refine (jG 2 (by unfold ε;omega) _).mono ?_;rintro e w6 ⟨b6,rfl,g6,n6,k6⟩;have N6:=J n6;have M6:=J ((C N5).below k6);have K6:=J (show Below w1.heap.size w1 w6 from (C K5).trans (k6.mono (C K5).size));clear n6 k6 g6;have DS:=J (show Bd (a+c) from vF (k:=3) (by have h1:=jB (C AR);have h2:=jB (C CR);have h3:=BV a c;show _<(79228162514264337593543950336:Int);omega) Yc);go_wp2_with fail;refine (D7 b2 b6 (a+c) 2 _ (C M6) (C N6) (C DS) (qV (by unfold ε;omega)) Yc (aJQ a c (C AR) (C CR))).mono ?_;rintro e w7 ⟨b7,rfl,n7,k7⟩;have N7:=J n7;have K7:=J (show Below w1.heap.size w1 w7 from (C K6).trans (k7.mono (C K6).size));clear n7 k7;have RM:=J (show ε ((a+c)/2) by have h1:=C AR;have h2:=C CR;unfold ε at*;omega);go_wp2_with fail;refine (IU b7 _ _ (C N7) (C RM)).mono ?_;rintro e w8 ⟨rfl,rfl⟩;go_wp2_with fail;go_ret2;exact⟨(a+c)/2,⟨a,c,by rw[C EK];exact C RA,by rw[C EK];exact C RC,Z⟩,Z,C K7⟩
theorem aBK(b)(x)(a c)(w)(ha:ε a)(hc:ε c)(h:vI w b x):ο ν 214 #[.pointer (ξ ⟨b,0,κ⟩),.int .i64 a,.int .i64 c] w λe w'=>e=.returned (.int .i64 (gK a c))/\vI w' b (x||yX a c)/\Γ b w w':=by
 have D:ο ν 242 #[γ μ a,γ μ c] w λe w'=>e=.returned (Ψ #[γ μ (gK a c),à (yX a c)])/\Below w.heap.size w w':=by
  by_cases hz:c=0
  .subst hz;exact (aDm a w).mono λe w' h=>⟨h.1,by rw[h.2];exact Af _ _⟩
  exact aFB a c ha hc hz w
 have DD:=J D;have H:=J h;clear ha hc h D;go_in;go_wp2_with fail;refine (C DD).mono ?_;rintro e w1 ⟨rfl,k1⟩;have H1:=J ((C H).below k1);have K1:=J k1;clear k1;go_wp2_with fail;refine (LB b x _ _ _ (C H1)).mono ?_;rintro e w2 ⟨rfl,h2,k2⟩;have H2:=J h2;have K2:=J ((Ch (z:=b) (C K1)).trans k2 (Aa Z));clear h2 k2;go_wp2_with fail;go_ret;exact⟨Z,C H2,C K2⟩
theorem L6(b)(x)(a c)(w)(ha:ε a)(hc:ε c)(h:vI w b x):ο ν 212 #[.pointer (ξ ⟨b,0,κ⟩),.int .i64 a,.int .i64 c] w λe w'=>e=.returned (.int .i64 (kH a c))/\vI w' b (x||Z8 a c)/\Γ b w w':=aKY b x a c w ha hc h
theorem VA(b)(x)(a c)(w)(ha:ε a)(hc:ε c)(h:vI w b x):ο ν 211 #[.pointer (ξ ⟨b,0,κ⟩),.int .i64 a,.int .i64 c] w λe w'=>e=.returned (.int .i64 (xC a c))/\vI w' b (x||XK a c)/\Γ b w w':=aLa b x a c w ha hc h
theorem xV(b)(x)(a c)(w)(ha:ε a)(hc:ε c)(h:vI w b x):ο ν 213 #[.pointer (ξ ⟨b,0,κ⟩),.int .i64 a,.int .i64 c] w λe w'=>e=.returned (.int .i64 (fD a c))/\vI w' b (x||yK a c)/\Γ b w w':=aKZ b x a c w ha hc h
structure RG (w0:Ω) (s:St) (x:ω) (u:Ω):Prop where
 src:π u w0.heap.size s
 res:π u (w0.heap.size+1) St.nil
 rk:vI u (w0.heap.size+1+1) x
 bel:Below w0.heap.size w0 u
variable{s:St}{u v w0:Ω}{x:ω}
theorem RG.kept{y}(h:RG w0 s x u)(k:Γ (w0.heap.size+1+1) u v)(b:vI v (w0.heap.size+1+1) y):RG w0 s y v:=
 ⟨h.src.kept k O,h.res.kept k O,b,aF h.bel k O h.bel.size⟩
theorem RG.below(h:RG w0 s x u)(k:Below u.heap.size u v):RG w0 s x v:=
 ⟨h.src.below k,h.res.below k,h.rk.below k,h.bel.trans (k.mono h.bel.size)⟩
theorem RG.drew(h:RG w0 s x u):RG w0 s x u.drew:=⟨h.src,h.res,h.rk,aY h.bel⟩
theorem DL(w)(s):∃v,v=((w.alloc (.cells #[.int .i64 s.X,.int .i64 s.V,.int .i64 s.P00,.int .i64 s.P01,.int .i64 s.P11,.bool s.B,.int .i64 s.M] 31)).alloc (.cells #[.int .i64 0,.int .i64 0,.int .i64 0,.int .i64 0,.int .i64 0,.bool false,.int .i64 0] 31)).alloc (.cells #[.bool s.B] 253)/\RG w s s.B v:=by
 obtain⟨w2,e2,h2,g2,k2⟩:=JV w s;have z2:w2.heap.size=w.heap.size+1+1:=by rw[e2,fA,fA]
 have h3:=BlAt.new 253 w2 s.B;rw[z2] at h3;rw[<-e2];have k3:=bU w2 (.cells #[à s.B] 253);exact⟨_,Z,h2.below k3,g2.below k3,h3,k2.trans (k3.mono k2.size)⟩
structure RH (w0:Ω) (bn:β) (s:St) (x:ω) (n:St) (u:Ω):Prop where
 g:RG w0 s x u
 nw:π u bn n
 lt:w0.heap.size+1+1<bn
variable{bn:β}
theorem RH.kept{n}{y}(h:RH w0 bn s x n u)(k:Γ (w0.heap.size+1+1) u v)(b:vI v (w0.heap.size+1+1) y):RH w0 bn s y n v:=
 ⟨h.g.kept k b,h.nw.kept k (by have:=h.lt;omega),h.lt⟩
theorem RH.drew{n}(h:RH w0 bn s x n u):RH w0 bn s x n u.drew:=⟨h.g.drew,h.nw,h.lt⟩
theorem RH.put{n m}(h:RH w0 bn s x n u)(k:Γ bn u v)(b:π v bn m):RH w0 bn s x m v:=by have:=h.lt;exact⟨⟨h.g.src.kept k O,h.g.res.kept k O,h.g.rk.kept k O,aF h.g.bel k O h.g.bel.size⟩,b,h.lt⟩
theorem aBL(h:RG w0 s x u):∃v,v=u.alloc (.cells #[.int .i64 s.X,.int .i64 s.V,.int .i64 s.P00,.int .i64 s.P01,.int .i64 s.P11,.bool s.B,.int .i64 s.M] 31)/\RH w0 u.heap.size s x s v:=by obtain⟨v,e,g,k,z⟩:=yM u s;exact⟨v,e,h.below k,g,h.rk.lt⟩
end
section
open Go.RowKit
theorem VJ(s)(dt q)(w)(hs:s.Ok)(hdt:ε dt)(hq:ε q):ο ν 167 #[qQ s,.int .i64 dt,.int .i64 q] w λe w'=>e=.returned (qQ (sV s dt q))/\Below w.heap.size w w':=by
 obtain⟨w1,e1,g1⟩:=DL w s;have OK:=J hs;have E1:=J e1;have G1:=J g1;have Rdt:=J hdt;have Rq:=J hq;clear hs e1 g1 hdt hq;go_in;go_wp2_with fail;rw[<-C E1];refine (xV _ _ s.P01 dt _ (C OK).P01 (C Rdt) (C G1).rk).mono ?_;rintro e w2 ⟨rfl,h,k⟩;have G2:=J ((C G1).kept k h);clear h k G1;have c4:=(C G2).src.c4;go_wp2_with fail;clear c4;refine (xV _ _ s.P11 dt _ (C OK).P11 (C Rdt) (C G2).rk).mono ?_;rintro e w3 ⟨rfl,h,k⟩;have G3:=J ((C G2).kept k h);clear h k G2;obtain⟨c0,c1,c2,c3,c4,c5,c6⟩:=(C G3).src.cs;go_wp2_with fail;clear c0 c1 c2 c3 c4 c5 c6;obtain⟨w4,e4,h⟩:=aBL (C G3);rw[<-e4];obtain⟨bn,ebn⟩:∃bn,bn=w3.heap.size:=⟨_,rfl⟩;rw[<-ebn] at h;rw[<-ebn];have G4:=J h;clear e4 h ebn G3;have hS4:π w4.drew w.heap.size s:=(C G4).g.src;refine dY (S:=λu=>π u w.heap.size s) [(0,false),(1,false),(2,false),(3,false),(4,false),(5,false),(6,false),(7,true),(8,true),(9,false),(10,true)] [] Yl Yl ?_;iterate 7
  refine bG (v:=?_) Z (λ_ _ _ h=>h) (by rfl) hS4 ?_ ?_;rotate_left 1
  .intro wx hwx;obtain⟨c0,c1,c2,c3,c4,_⟩:=hwx.cs;clear hwx;go_simp<;>exact rfl
  go_frame
 refine bD Z (λK hK=>?_);go_simp;have Gd:=J (C G4).drew;refine (xV _ _ s.V dt _ (C OK).V (C Rdt) (C Gd).g.rk).mono ?_;rintro e w5 ⟨rfl,h,k⟩;have G5:=J ((C Gd).kept k h);have hS5:=(C G5).g.src;refine hK _ _ (λ_=>hS5) ?_;clear hK K hS4;clear h k G4 Gd;refine bD Z (λK hK=>?_);go_simp;refine (L6 _ _ s.X (fD s.V dt) _ (C OK).X (lT _ _) (C G5).g.rk).mono ?_;rintro e w6 ⟨rfl,h,k⟩;have G6:=J ((C G5).kept k h);have hS6:=(C G6).g.src;refine hK _ _ (λ_=>hS6) ?_;clear hK K hS5;clear h k G5;iterate 1
  refine bG (v:=?_) Z (λ_ _ _ h=>h) (by rfl) hS6 ?_ ?_;rotate_left 1
  .intro wx hwx;obtain⟨c0,c1,c2,c3,c4,_⟩:=hwx.cs;clear hwx;go_simp<;>exact rfl
  go_frame
 obtain⟨w7,e4,h,k⟩:=(C G6).nw.pX (kH s.X (fD s.V dt));have c:=(C G6).nw.c0;have f:=(C G6).nw.free 0;refine bD Z (λK hK=>?_);go_simp;rw[<-e4];have G7:=J ((C G6).put k h);refine hK _ _ (λ_=>(C G7).g.src) ?_;clear hK K e4 h k c f hS6 G6;refine fZ ?_;have c2:=(C G7).g.src.c2;go_wp2_with fail;clear c2;refine (L6 _ _ s.P00 (fD s.P01 dt) _ (C OK).P00 (lT _ _) (C G7).g.rk).mono ?_;rintro e w8 ⟨rfl,h,k⟩;have G8:=J ((C G7).kept k h);clear h k G7;go_wp2_with fail;refine (L6 _ _ (kH s.P00 (fD s.P01 dt)) (fD s.P01 dt) _ (qB _ _) (lT _ _) (C G8).g.rk).mono ?_;rintro e w9 ⟨rfl,h,k⟩;have G9:=J ((C G8).kept k h);clear h k G8;go_wp2_with fail;refine (xV _ _ (fD s.P11 dt) dt _ (lT _ _) (C Rdt) (C G9).g.rk).mono ?_;rintro e w10 ⟨rfl,h,k⟩;have G10:=J ((C G9).kept k h);clear h k G9;go_wp2_with fail;refine (L6 _ _ (kH (kH s.P00 (fD s.P01 dt)) (fD s.P01 dt)) (fD (fD s.P11 dt) dt) _ (qB _ _) (lT _ _) (C G10).g.rk).mono ?_;rintro e w11 ⟨rfl,h,k⟩;have G11:=J ((C G10).kept k h);clear h k G10;obtain⟨w12,e4,h,k⟩:=(C G11).nw.pP00 (kH (kH (kH s.P00 (fD s.P01 dt)) (fD s.P01 dt)) (fD (fD s.P11 dt) dt));have c:=(C G11).nw.c2;have f:=(C G11).nw.free 2;have G12:=J ((C G11).put k h);have E4:=J e4;clear h k e4;go_upto_region 7 with fail;rw[<-C E4];clear c f E4 G11;have c3:=(C G12).g.src.c3;go_wp2_with fail;clear c3;refine (L6 _ _ s.P01 (fD s.P11 dt) _ (C OK).P01 (lT _ _) (C G12).g.rk).mono ?_;rintro e w13 ⟨rfl,h,k⟩;have G13:=J ((C G12).kept k h);clear h k G12;obtain⟨w14,e4,h,k⟩:=(C G13).nw.pP01 (kH s.P01 (fD s.P11 dt));have c:=(C G13).nw.c3;have f:=(C G13).nw.free 3;have G14:=J ((C G13).put k h);have E4:=J e4;clear h k e4;go_upto_region 8 with fail;rw[<-C E4];clear c f E4 G13;have c4:=(C G14).g.src.c4;go_wp2_with fail;clear c4;refine (L6 _ _ s.P11 q _ (C OK).P11 (C Rq) (C G14).g.rk).mono ?_;rintro e w15 ⟨rfl,h,k⟩;have G15:=J ((C G14).kept k h);clear h k G14;obtain⟨w16,e4,h,k⟩:=(C G15).nw.pP11 (kH s.P11 q);have c:=(C G15).nw.c4;have f:=(C G15).nw.free 4;have G16:=J ((C G15).put k h);have E4:=J e4;clear h k e4;go_upto_region 9 with fail;rw[<-C E4];clear c f E4 G15;have rk0:=(C G16).g.rk.cell0;obtain⟨w17,e4,h,k⟩:=(C G16).nw.pB _;have c:=(C G16).nw.c5;have f:=(C G16).nw.free 5;have G17:=J ((C G16).put k h);have E4:=J e4;clear h k e4;go_upto_region 10 with fail;rw[<-C E4];clear c f E4 rk0 G16;obtain⟨t,et⟩:∃t:St,t=sV s dt q:=⟨_,rfl⟩;have N:=J (show π w17 bn t by rw[et];exact (C G17).nw);obtain⟨c0,c1,c2,c3,c4,c5,c6⟩:=(C N).cs;obtain⟨b0,b1,b2,b3,b4,b5,b6⟩:=(C G17).g.res.cs;obtain⟨f0,f1,f2,f3,f4,f5,f6⟩:=(C G17).g.res.fs;have ln:=(C G17).lt;obtain⟨u,e4,h4,k4⟩:=(C G17).g.res.put t;have E4:=J e4;have H4:=J h4;have K4:=J (aF (C G17).g.bel k4 O (C G17).g.bel.size);have ET:=J et;clear e4 h4 k4 et;go_wp2_with fail;rw[<-C E4];obtain⟨p0,p1,p2,p3,p4,p5,p6⟩:=(C H4).cs;refine ã (v:=qQ t) (by simp[ä,Tryz.results167,go_sem,p0,p1,p2,p3,p4,p5,p6]) Z ⟨by rw[C ET],C K4⟩
theorem YY(s)(z r gate)(w)(hs:s.Ok)(hz:ε z)(hr:ε r)(hg:ε gate)(hd:ψ s r<=0):ο ν 166 #[qQ s,.int .i64 z,.int .i64 r,.int .i64 gate] w λe w'=>e=.returned (.tuple #[qQ (nN s z r gate),.bool (oL s z r gate)])/\Below w.heap.size w w':=by
 obtain⟨y,ey⟩:∃y,y=Δ s z:=⟨_,rfl⟩;obtain⟨d,ed⟩:∃d,d=ψ s r:=⟨_,rfl⟩;rw[<-ed] at hd;have EY:=J ey;have ED:=J ed;have RY:=J (show ε y by rw[ey];exact zN _ _);have RD:=J (show ε d by rw[ed];exact qB _ _);clear ey ed;obtain⟨w1,e1,g1⟩:=DL w s;have OK:=J hs;have E1:=J e1;have G1:=J g1;have Rz:=J hz;have Rr:=J hr;have Rg:=J hg;clear hs e1 g1 hz hr hg;go_in;go_wp2_with fail;rw[<-C E1];refine (VA _ _ z s.X _ (C Rz) (C OK).X (C G1).rk).mono ?_;rintro e w2 ⟨rfl,h,k⟩;have G2:=J ((C G1).kept k h);clear h k G1;have c2:=(C G2).src.c2;go_wp2_with fail;clear c2;refine (L6 _ _ s.P00 r _ (C OK).P00 (C Rr) (C G2).rk).mono ?_;rintro e w3 ⟨rfl,h,k⟩;have G3:=J ((C G2).kept k h);clear h k G2;rw[show xC z s.X=y from (C EY).symm,show kH s.P00 r=d from (C ED).symm];have h1:d<1:=O;obtain⟨w4,e4,h,k⟩:=(C G3).src.pM (wrap64 (s.M+1));have c:=(C G3).src.c6;have f:=(C G3).src.free 6;have N:=J h;have RS:=J ((C G3).res.kept k O);have BL:=J (aF (C G3).bel k (Xr _) (C G3).bel.size);have E4:=J e4;clear h k e4;go_upto_region 6 with fail;rw[<-C E4];clear c f E4 G3;obtain⟨t,et⟩:∃t:St,t=s.setM (wrap64 (s.M+1)):=⟨_,rfl⟩;have N2:=J (show π w4 w.heap.size t by rw[et];exact C N);obtain⟨c0,c1,c2,c3,c4,c5,c6⟩:=(C N2).cs;obtain⟨b0,b1,b2,b3,b4,b5,b6⟩:=(C RS).cs;obtain⟨f0,f1,f2,f3,f4,f5,f6⟩:=(C RS).fs;obtain⟨u,e4,h4,k4⟩:=(C RS).put t;have E4:=J e4;have H4:=J h4;have K4:=J (aF (C BL) k4 O (C BL).size);have ET:=J et;clear e4 h4 k4 et;go_wp2_with fail;rw[<-C E4];obtain⟨p0,p1,p2,p3,p4,p5,p6⟩:=(C H4).cs;have OV:sU s z r gate=true:=by apply WW;rw[<-C ED];omega
 have eU:nN s z r gate=t:=by unfold nN;rw[OV,C ET];rfl
 have eT:oL s z r gate=false:=by unfold oL;rw[OV];rfl
 refine ã (v:=Ψ #[qQ t,à false]) (by simp[ä,Tryz.results166,go_sem,p0,p1,p2,p3,p4,p5,p6]) Z ⟨by rw[eU,eT],C K4⟩
theorem VK(s)(z r gate)(w)(hs:s.Ok)(hz:ε z)(hr:ε r)(hg:ε gate)(hd:¬ψ s r<=0)(hp:fD gate (ψ s r)<fD (Δ s z) (Δ s z)):ο ν 166 #[qQ s,.int .i64 z,.int .i64 r,.int .i64 gate] w λe w'=>e=.returned (.tuple #[qQ (nN s z r gate),.bool (oL s z r gate)])/\Below w.heap.size w w':=by
 obtain⟨y,ey⟩:∃y,y=Δ s z:=⟨_,rfl⟩;obtain⟨d,ed⟩:∃d,d=ψ s r:=⟨_,rfl⟩;rw[<-ed] at hd;rw[<-ed, <-ey] at hp;have EY:=J ey;have ED:=J ed;have RY:=J (show ε y by rw[ey];exact zN _ _);have RD:=J (show ε d by rw[ed];exact qB _ _);clear ey ed;obtain⟨w1,e1,g1⟩:=DL w s;have OK:=J hs;have E1:=J e1;have G1:=J g1;have Rz:=J hz;have Rr:=J hr;have Rg:=J hg;clear hs e1 g1 hz hr hg;go_in;go_wp2_with fail;rw[<-C E1];refine (VA _ _ z s.X _ (C Rz) (C OK).X (C G1).rk).mono ?_;rintro e w2 ⟨rfl,h,k⟩;have G2:=J ((C G1).kept k h);clear h k G1;have c2:=(C G2).src.c2;go_wp2_with fail;clear c2;refine (L6 _ _ s.P00 r _ (C OK).P00 (C Rr) (C G2).rk).mono ?_;rintro e w3 ⟨rfl,h,k⟩;have G3:=J ((C G2).kept k h);clear h k G2;rw[show xC z s.X=y from (C EY).symm,show kH s.P00 r=d from (C ED).symm];have h1:¬d<1:=O;go_wp2_with fail;refine (xV _ _ y y _ (C RY) (C RY) (C G3).rk).mono ?_;rintro e w4 ⟨rfl,h,k⟩;have G4:=J ((C G3).kept k h);clear h k G3;go_wp2_with fail;refine (xV _ _ gate d _ (C Rg) (C RD) (C G4).rk).mono ?_;rintro e w5 ⟨rfl,h,k⟩;have G5:=J ((C G4).kept k h);clear h k G4;obtain⟨w6,e4,h,k⟩:=(C G5).src.pM (wrap64 (s.M+1));have c:=(C G5).src.c6;have f:=(C G5).src.free 6;have N:=J h;have RS:=J ((C G5).res.kept k O);have BL:=J (aF (C G5).bel k (Xr _) (C G5).bel.size);have E4:=J e4;clear h k e4;go_upto_region 6 with fail;rw[<-C E4];clear c f E4 G5;obtain⟨t,et⟩:∃t:St,t=s.setM (wrap64 (s.M+1)):=⟨_,rfl⟩;have N2:=J (show π w6 w.heap.size t by rw[et];exact C N);obtain⟨c0,c1,c2,c3,c4,c5,c6⟩:=(C N2).cs;obtain⟨b0,b1,b2,b3,b4,b5,b6⟩:=(C RS).cs;obtain⟨f0,f1,f2,f3,f4,f5,f6⟩:=(C RS).fs;obtain⟨u,e4,h4,k4⟩:=(C RS).put t;have E4:=J e4;have H4:=J h4;have K4:=J (aF (C BL) k4 O (C BL).size);have ET:=J et;clear e4 h4 k4 et;go_wp2_with fail;rw[<-C E4];obtain⟨p0,p1,p2,p3,p4,p5,p6⟩:=(C H4).cs;have OV:sU s z r gate=true:=by apply RL;rw[<-C ED, <-C EY];omega
 have eU:nN s z r gate=t:=by unfold nN;rw[OV,C ET];rfl
 have eT:oL s z r gate=false:=by unfold oL;rw[OV];rfl
 refine ã (v:=Ψ #[qQ t,à false]) (by simp[ä,Tryz.results166,go_sem,p0,p1,p2,p3,p4,p5,p6]) Z ⟨by rw[eU,eT],C K4⟩
theorem VM(s)(z r gate)(w)(hs:s.Ok)(hz:ε z)(hr:ε r)(hg:ε gate)(hd:¬ψ s r<=0)(hp:¬fD gate (ψ s r)<fD (Δ s z) (Δ s z)):ο ν 166 #[qQ s,.int .i64 z,.int .i64 r,.int .i64 gate] w λe w'=>e=.returned (.tuple #[qQ (nN s z r gate),.bool (oL s z r gate)])/\Below w.heap.size w w':=by
 obtain⟨y,ey⟩:∃y,y=Δ s z:=⟨_,rfl⟩;obtain⟨d,ed⟩:∃d,d=ψ s r:=⟨_,rfl⟩;rw[<-ed] at hd;rw[<-ed, <-ey] at hp;have EY:=J ey;have ED:=J ed;have RY:=J (show ε y by rw[ey];exact zN _ _);have RD:=J (show ε d by rw[ed];exact qB _ _);clear ey ed;obtain⟨w1,e1,g1⟩:=DL w s;have OK:=J hs;have E1:=J e1;have G1:=J g1;have Rz:=J hz;have Rr:=J hr;have Rg:=J hg;clear hs e1 g1 hz hr hg;go_in;go_wp2_with fail;rw[<-C E1];refine (VA _ _ z s.X _ (C Rz) (C OK).X (C G1).rk).mono ?_;rintro e w2 ⟨rfl,h,k⟩;have G2:=J ((C G1).kept k h);clear h k G1;have c2:=(C G2).src.c2;go_wp2_with fail;clear c2;refine (L6 _ _ s.P00 r _ (C OK).P00 (C Rr) (C G2).rk).mono ?_;rintro e w3 ⟨rfl,h,k⟩;have G3:=J ((C G2).kept k h);clear h k G2;rw[show xC z s.X=y from (C EY).symm,show kH s.P00 r=d from (C ED).symm];have h1:¬d<1:=O;go_wp2_with fail;refine (xV _ _ y y _ (C RY) (C RY) (C G3).rk).mono ?_;rintro e w4 ⟨rfl,h,k⟩;have G4:=J ((C G3).kept k h);clear h k G3;go_wp2_with fail;refine (xV _ _ gate d _ (C Rg) (C RD) (C G4).rk).mono ?_;rintro e w5 ⟨rfl,h,k⟩;have G5:=J ((C G4).kept k h);clear h k G4;have c2:=(C G5).src.c2;go_wp2_with fail;clear c2;refine (aBK _ _ s.P00 d _ (C OK).P00 (C RD) (C G5).rk).mono ?_;rintro e w6 ⟨rfl,h,k⟩;have G6:=J ((C G5).kept k h);clear h k G5;have c3:=(C G6).src.c3;go_wp2_with fail;clear c3;refine (aBK _ _ s.P01 d _ (C OK).P01 (C RD) (C G6).rk).mono ?_;rintro e w7 ⟨rfl,h,k⟩;have G7:=J ((C G6).kept k h);clear h k G6;obtain⟨c0,c1,c2,c3,c4,c5,c6⟩:=(C G7).src.cs;go_wp2_with fail;clear c0 c1 c2 c3 c4 c5 c6;obtain⟨w8,e4,h⟩:=aBL (C G7);rw[<-e4];obtain⟨bn,ebn⟩:∃bn,bn=w7.heap.size:=⟨_,rfl⟩;rw[<-ebn] at h;rw[<-ebn];have G8:=J h;clear e4 h ebn G7;have hS8:π w8.drew w.heap.size s:=(C G8).g.src;refine dY (S:=λu=>π u w.heap.size s) [(0,false),(1,false),(2,false),(3,false),(4,false),(5,false),(6,true),(7,true),(8,false),(9,true)] [] Yl Yl ?_;iterate 6
  refine bG (v:=?_) Z (λ_ _ _ h=>h) (by rfl) hS8 ?_ ?_;rotate_left 1
  .intro wx hwx;obtain⟨c0,c1,c2,c3,c4,_⟩:=hwx.cs;clear hwx;go_simp<;>exact rfl
  go_frame
 refine bD Z (λK hK=>?_);go_simp;have Gd:=J (C G8).drew;refine (xV _ _ (gK s.P00 d) y _ (vC _ _) (C RY) (C Gd).g.rk).mono ?_;rintro e w9 ⟨rfl,h,k⟩;have G9:=J ((C Gd).kept k h);have hS9:=(C G9).g.src;refine hK _ _ (λ_=>hS9) ?_;clear hK K hS8;clear h k G8 Gd;refine bD Z (λK hK=>?_);go_simp;refine (L6 _ _ s.X (fD (gK s.P00 d) y) _ (C OK).X (lT _ _) (C G9).g.rk).mono ?_;rintro e w10 ⟨rfl,h,k⟩;have G10:=J ((C G9).kept k h);have hS10:=(C G10).g.src;refine hK _ _ (λ_=>hS10) ?_;clear hK K hS9;clear h k G9;iterate 1
  refine bG (v:=?_) Z (λ_ _ _ h=>h) (by rfl) hS10 ?_ ?_;rotate_left 1
  .intro wx hwx;obtain⟨c0,c1,c2,c3,c4,_⟩:=hwx.cs;clear hwx;go_simp<;>exact rfl
  go_frame
 obtain⟨w11,e4,h,k⟩:=(C G10).nw.pX (kH s.X (fD (gK s.P00 d) y));have c:=(C G10).nw.c0;have f:=(C G10).nw.free 0;refine bD Z (λK hK=>?_);go_simp;rw[<-e4];have G11:=J ((C G10).put k h);refine hK _ _ (λ_=>(C G11).g.src) ?_;clear hK K e4 h k c f hS10 G10;refine fZ ?_;go_wp2_with fail;have hS11:π w11.drew w.heap.size s:=(C G11).g.src;refine dY (S:=λu=>π u w.heap.size s) [(0,false),(1,false),(2,false),(3,false),(4,false),(5,false),(6,true),(7,true),(8,false),(9,true)] [] Yl Yl ?_;iterate 6
  refine bG (v:=?_) Z (λ_ _ _ h=>h) (by rfl) hS11 ?_ ?_;rotate_left 1
  .intro wx hwx;obtain⟨c0,c1,c2,c3,c4,_⟩:=hwx.cs;clear hwx;go_simp<;>exact rfl
  go_frame
 refine bD Z (λK hK=>?_);go_simp;have Gd:=J (C G11).drew;refine (xV _ _ (gK s.P01 d) y _ (vC _ _) (C RY) (C Gd).g.rk).mono ?_;rintro e w12 ⟨rfl,h,k⟩;have G12:=J ((C Gd).kept k h);have hS12:=(C G12).g.src;refine hK _ _ (λ_=>hS12) ?_;clear hK K hS11;clear h k G11 Gd;refine bD Z (λK hK=>?_);go_simp;refine (L6 _ _ s.V (fD (gK s.P01 d) y) _ (C OK).V (lT _ _) (C G12).g.rk).mono ?_;rintro e w13 ⟨rfl,h,k⟩;have G13:=J ((C G12).kept k h);have hS13:=(C G13).g.src;refine hK _ _ (λ_=>hS13) ?_;clear hK K hS12;clear h k G12;iterate 1
  refine bG (v:=?_) Z (λ_ _ _ h=>h) (by rfl) hS13 ?_ ?_;rotate_left 1
  .intro wx hwx;obtain⟨c0,c1,c2,c3,c4,_⟩:=hwx.cs;clear hwx;go_simp<;>exact rfl
  go_frame
 obtain⟨w14,e4,h,k⟩:=(C G13).nw.pV (kH s.V (fD (gK s.P01 d) y));have c:=(C G13).nw.c1;have f:=(C G13).nw.free 1;refine bD Z (λK hK=>?_);go_simp;rw[<-e4];have G14:=J ((C G13).put k h);refine hK _ _ (λ_=>(C G14).g.src) ?_;clear hK K e4 h k c f hS13 G13;refine fZ ?_;go_wp2_with fail;have hS14:π w14.drew w.heap.size s:=(C G14).g.src;refine dY (S:=λu=>π u w.heap.size s) [(0,false),(1,false),(2,false),(3,false),(4,false),(5,false),(6,false),(7,true),(8,true),(9,false),(10,true)] [] Yl Yl ?_;iterate 7
  refine bG (v:=?_) Z (λ_ _ _ h=>h) (by rfl) hS14 ?_ ?_;rotate_left 1
  .intro wx hwx;obtain⟨c0,c1,c2,c3,c4,_⟩:=hwx.cs;clear hwx;go_simp<;>exact rfl
  go_frame
 refine bD Z (λK hK=>?_);go_simp;have Gd:=J (C G14).drew;refine (xV _ _ (gK s.P00 d) s.P00 _ (vC _ _) (C OK).P00 (C Gd).g.rk).mono ?_;rintro e w15 ⟨rfl,h,k⟩;have G15:=J ((C Gd).kept k h);have hS15:=(C G15).g.src;refine hK _ _ (λ_=>hS15) ?_;clear hK K hS14;clear h k G14 Gd;refine bD Z (λK hK=>?_);go_simp;refine (VA _ _ s.P00 (fD (gK s.P00 d) s.P00) _ (C OK).P00 (lT _ _) (C G15).g.rk).mono ?_;rintro e w16 ⟨rfl,h,k⟩;have G16:=J ((C G15).kept k h);have hS16:=(C G16).g.src;refine hK _ _ (λ_=>hS16) ?_;clear hK K hS15;clear h k G15;iterate 1
  refine bG (v:=?_) Z (λ_ _ _ h=>h) (by rfl) hS16 ?_ ?_;rotate_left 1
  .intro wx hwx;obtain⟨c0,c1,c2,c3,c4,_⟩:=hwx.cs;clear hwx;go_simp<;>exact rfl
  go_frame
 obtain⟨w17,e4,h,k⟩:=(C G16).nw.pP00 (xC s.P00 (fD (gK s.P00 d) s.P00));have c:=(C G16).nw.c2;have f:=(C G16).nw.free 2;refine bD Z (λK hK=>?_);go_simp;rw[<-e4];have G17:=J ((C G16).put k h);refine hK _ _ (λ_=>(C G17).g.src) ?_;clear hK K e4 h k c f hS16 G16;refine fZ ?_;go_wp2_with fail;have hS17:π w17.drew w.heap.size s:=(C G17).g.src;refine dY (S:=λu=>π u w.heap.size s) [(0,false),(1,false),(2,false),(3,false),(4,false),(5,false),(6,false),(7,true),(8,true),(9,false),(10,true)] [] Yl Yl ?_;iterate 7
  refine bG (v:=?_) Z (λ_ _ _ h=>h) (by rfl) hS17 ?_ ?_;rotate_left 1
  .intro wx hwx;obtain⟨c0,c1,c2,c3,c4,_⟩:=hwx.cs;clear hwx;go_simp<;>exact rfl
  go_frame
 refine bD Z (λK hK=>?_);go_simp;have Gd:=J (C G17).drew;refine (xV _ _ (gK s.P00 d) s.P01 _ (vC _ _) (C OK).P01 (C Gd).g.rk).mono ?_;rintro e w18 ⟨rfl,h,k⟩;have G18:=J ((C Gd).kept k h);have hS18:=(C G18).g.src;refine hK _ _ (λ_=>hS18) ?_;clear hK K hS17;clear h k G17 Gd;refine bD Z (λK hK=>?_);go_simp;refine (VA _ _ s.P01 (fD (gK s.P00 d) s.P01) _ (C OK).P01 (lT _ _) (C G18).g.rk).mono ?_;rintro e w19 ⟨rfl,h,k⟩;have G19:=J ((C G18).kept k h);have hS19:=(C G19).g.src;refine hK _ _ (λ_=>hS19) ?_;clear hK K hS18;clear h k G18;iterate 1
  refine bG (v:=?_) Z (λ_ _ _ h=>h) (by rfl) hS19 ?_ ?_;rotate_left 1
  .intro wx hwx;obtain⟨c0,c1,c2,c3,c4,_⟩:=hwx.cs;clear hwx;go_simp<;>exact rfl
  go_frame
 obtain⟨w20,e4,h,k⟩:=(C G19).nw.pP01 (xC s.P01 (fD (gK s.P00 d) s.P01));have c:=(C G19).nw.c3;have f:=(C G19).nw.free 3;refine bD Z (λK hK=>?_);go_simp;rw[<-e4];have G20:=J ((C G19).put k h);refine hK _ _ (λ_=>(C G20).g.src) ?_;clear hK K e4 h k c f hS19 G19;refine fZ ?_;go_wp2_with fail;have hS20:π w20.drew w.heap.size s:=(C G20).g.src;refine dY (S:=λu=>π u w.heap.size s) [(0,false),(1,false),(2,false),(3,false),(4,false),(5,false),(6,false),(7,true),(8,true),(9,false),(10,true)] [] Yl Yl ?_;iterate 7
  refine bG (v:=?_) Z (λ_ _ _ h=>h) (by rfl) hS20 ?_ ?_;rotate_left 1
  .intro wx hwx;obtain⟨c0,c1,c2,c3,c4,_⟩:=hwx.cs;clear hwx;go_simp<;>exact rfl
  go_frame
 refine bD Z (λK hK=>?_);go_simp;have Gd:=J (C G20).drew;refine (xV _ _ (gK s.P01 d) s.P01 _ (vC _ _) (C OK).P01 (C Gd).g.rk).mono ?_;rintro e w21 ⟨rfl,h,k⟩;have G21:=J ((C Gd).kept k h);have hS21:=(C G21).g.src;refine hK _ _ (λ_=>hS21) ?_;clear hK K hS20;clear h k G20 Gd;refine bD Z (λK hK=>?_);go_simp;refine (VA _ _ s.P11 (fD (gK s.P01 d) s.P01) _ (C OK).P11 (lT _ _) (C G21).g.rk).mono ?_;rintro e w22 ⟨rfl,h,k⟩;have G22:=J ((C G21).kept k h);have hS22:=(C G22).g.src;refine hK _ _ (λ_=>hS22) ?_;clear hK K hS21;clear h k G21;iterate 1
  refine bG (v:=?_) Z (λ_ _ _ h=>h) (by rfl) hS22 ?_ ?_;rotate_left 1
  .intro wx hwx;obtain⟨c0,c1,c2,c3,c4,_⟩:=hwx.cs;clear hwx;go_simp<;>exact rfl
  go_frame
 obtain⟨w23,e4,h,k⟩:=(C G22).nw.pP11 (xC s.P11 (fD (gK s.P01 d) s.P01));have c:=(C G22).nw.c4;have f:=(C G22).nw.free 4;refine bD Z (λK hK=>?_);go_simp;rw[<-e4];have G23:=J ((C G22).put k h);refine hK _ _ (λ_=>(C G23).g.src) ?_;clear hK K e4 h k c f hS22 G22;refine fZ ?_;obtain⟨w24,e4,h,k⟩:=(C G23).nw.pM 0;have c:=(C G23).nw.c6;have f:=(C G23).nw.free 6;have G24:=J ((C G23).put k h);have E4:=J e4;clear h k e4;go_upto_region 16 with fail;rw[<-C E4];clear c f E4 G23;have rk0:=(C G24).g.rk.cell0;obtain⟨w25,e4,h,k⟩:=(C G24).nw.pB _;have c:=(C G24).nw.c5;have f:=(C G24).nw.free 5;have G25:=J ((C G24).put k h);have E4:=J e4;clear h k e4;go_upto_region 17 with fail;rw[<-C E4];clear c f E4 rk0 G24;have OV:sU s z r gate=false:=by apply WX<;>rw[<-C ED]<;>first|(rw[<-C EY];omega)|omega
 have eT:oL s z r gate=true:=by unfold oL;rw[OV];rfl
 have eU:nN s z r gate=takeS ((((s.bend (XK z s.X)).bend (Z8 s.P00 r)).bend (yK y y)).bend (yK gate d)) y d:=by unfold nN;rw[OV,C EY,C ED];rfl
 have EU:=J eU;have ETT:=J eT;clear OV eT eU;obtain⟨t,et⟩:∃t:St,t=takeS ((((s.bend (XK z s.X)).bend (Z8 s.P00 r)).bend (yK y y)).bend (yK gate d)) y d:=⟨_,rfl⟩;have N:=J (show π w25 bn t by rw[et];exact (C G25).nw);obtain⟨c0,c1,c2,c3,c4,c5,c6⟩:=(C N).cs;obtain⟨b0,b1,b2,b3,b4,b5,b6⟩:=(C G25).g.res.cs;obtain⟨f0,f1,f2,f3,f4,f5,f6⟩:=(C G25).g.res.fs;have ln:=(C G25).lt;obtain⟨u,e4,h4,k4⟩:=(C G25).g.res.put t;have E4:=J e4;have H4:=J h4;have K4:=J (aF (C G25).g.bel k4 O (C G25).g.bel.size);have ET:=J et;clear e4 h4 k4 et;go_wp2_with fail;rw[<-C E4];obtain⟨p0,p1,p2,p3,p4,p5,p6⟩:=(C H4).cs;refine ã (v:=Ψ #[qQ t,à true]) (by simp[ä,Tryz.results166,go_sem,p0,p1,p2,p3,p4,p5,p6]) Z ⟨by rw[C EU,C ETT,C ET],C K4⟩
theorem YX(s)(z r gate)(w)(hs:s.Ok)(hz:ε z)(hr:ε r)(hg:ε gate):ο ν 166 #[qQ s,.int .i64 z,.int .i64 r,.int .i64 gate] w λe w'=>e=.returned (.tuple #[qQ (nN s z r gate),.bool (oL s z r gate)])/\Below w.heap.size w w':=by
 by_cases hd:ψ s r<=0
 .exact YY s z r gate w hs hz hr hg hd
 by_cases hp:fD gate (ψ s r)<fD (Δ s z) (Δ s z)
 .exact VK s z r gate w hs hz hr hg hd hp
 exact VM s z r gate w hs hz hr hg hd hp
theorem aDu(s)(t)(z)(w)(hs:s.Ok)(ht:t.Ok)(hz:ε z):ο ν 103 #[qQ s,tnV t,.int .i64 z] w λe w'=>e=.returned (.tuple #[qQ (X9 s t z),.bool (LD s t z)])/\Below w.heap.size w w':=by
 obtain⟨w1,e1,d1,g1,k1⟩:=TK w s t;have OK:=J hs;have OT:=J ht;have RZ:=J hz;have E1:=J e1;have G1:=J g1;have K1:=J k1;have hS1:ST w.heap.size (w.heap.size+1) s t w1.drew:=d1.drew;clear hs ht hz e1 d1 g1 k1;go_in;go_wp2_with fail;rw[<-C E1];refine dY (S:=ST w.heap.size (w.heap.size+1) s t) [(0,false),(1,false),(2,false),(3,false),(4,false),(6,false),(7,false),(8,false),(9,false),(10,false),(5,true),(11,true),(12,false),(13,false),(14,true),(15,true)] [] Yl Yl ?_;iterate 10
  refine bG (v:=?_) Z (λ_ _ _ h=>h) (by rfl) hS1 ?_ ?_;rotate_left 1
  .intro wx hwx;have q0:=hwx.tn.c0;have q1:=hwx.tn.c1;have q2:=hwx.tn.c2;have q3:=hwx.tn.c3;obtain⟨c0,c1,c2,c3,c4,c5,c6⟩:=hwx.st.cs;clear hwx;go_simp<;>exact rfl
  go_frame
 refine bD Z (λK hK=>?_);go_simp;refine (VJ s t.Dt t.Q _ (C OK) (C OT).Dt (C OT).Q).mono ?_;rintro e w2 ⟨rfl,k⟩;have hS2:=hS1.below k;refine hK _ _ (λ_=>hS2) ?_;have G2:=J (SAt.below (w:=w1.drew) (C G1) k);have K2:=J ((aY (C K1)).trans (k.mono (C K1).size));clear hK K hS1 k G1 K1;refine bD Z (λK hK=>?_);go_simp;refine (YX (sV s t.Dt t.Q) z t.R t.G _ (OC (C OK) _ _) (C RZ) (C OT).R (C OT).G).mono ?_;rintro e w3 ⟨rfl,k⟩;have hS3:=hS2.below k;refine hK _ _ (λ_=>hS3) ?_;have G3:=J ((C G2).below k);have K3:=J ((C K2).trans (k.mono (C K2).size));clear hK K hS2 k G2 K2;rw[show nN (sV s t.Dt t.Q) z t.R t.G=X9 s t z from rfl,show oL (sV s t.Dt t.Q) z t.R t.G=LD s t z from rfl];obtain⟨p,ep⟩:∃p,p=X9 s t z:=⟨_,rfl⟩;obtain⟨tk,ek⟩:∃tk,tk=LD s t z:=⟨_,rfl⟩;rw[<-ep, <-ek];have EP:=J ep;have EK:=J ek;clear ep ek;iterate 2
  refine bG (v:=?_) Z (λ_ _ _ h=>h) (by rfl) hS3 ?_ ?_;rotate_left 1
  .intro wx hwx;clear hwx;go_simp<;>exact rfl
  go_frame
 obtain⟨b0,b1,b2,b3,b4,b5,b6⟩:=(C G3).cs;obtain⟨f0,f1,f2,f3,f4,f5,f6⟩:=(C G3).fs;obtain⟨w4,e4,h4,k4⟩:=(C G3).put p;refine bD Z (λK hK=>?_);go_simp;rw[<-e4];have hS4:=hS3.kept k4 O O;refine hK _ _ (λ_=>hS4) ?_;have G4:=J h4;have K4:=J (aF (C K3) k4 O (C K3).size);clear hK K b0 b1 b2 b3 b4 b5 b6 f0 f1 f2 f3 f4 f5 f6 e4 h4 k4 hS3 G3 K3;refine bD Z (λK hK=>?_);go_simp;refine hK _ _ (λ_=>hS4) ?_;clear hK K hS4;refine fZ ?_;go_wp2_with fail;obtain⟨p0,p1,p2,p3,p4,p5,p6⟩:=(C G4).cs;refine ã (v:=Ψ #[qQ p,à tk]) (by simp[ä,Tryz.results103,go_sem,p0,p1,p2,p3,p4,p5,p6]) Z ⟨by rw[C EP,C EK],C K4⟩
theorem aFC(ao)(cap)(l)(w)(hl:l.length<=64)(hf:∀i,ε (gL l i))(hr:Rd w ao l.length (iF (gL l))):ο ν 102 #[.slice ao l.length cap] w λe w'=>∃E,e=.returned (.tuple #[.int .i64 (J7 l),.int .i64 E])/\Below w.heap.size w w':=by
 rcases Ar l.length 1 with h|h
 .have e:l=[]:=List.length_eq_zero_iff.1 O;subst e;refine (YW ao 0 cap w (Aa O)).mono ?_;rintro e w' ⟨rfl,k⟩;exact⟨8,Z,k⟩
 refine (VI ao l.length cap (gL l) w h hl hf hr).mono ?_;rintro e w' ⟨m,hm,rfl,k⟩;have:=aEl h hl hm;rw[aHA] at this;subst this;exact⟨0,Z,k⟩
end
end Go.Proofs.YthimcecbgpamdaaGreatDoor
