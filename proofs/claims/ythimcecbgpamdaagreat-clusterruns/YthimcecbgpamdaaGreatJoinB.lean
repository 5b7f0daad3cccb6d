import Derived.Test.YthimcecbgpamdaaGreatNear154
import Derived.WalkSmall
set_option maxHeartbeats 1000000
namespace Go.Proofs.YthimcecbgpamdaaGreat
open Go.RowKit
variable{fa fb:Nat->Int}{k:Nat}
theorem WU{g:Nat->Int}{c t x c':Int}(h:val g k-c*4294967296^k=val fa k-val fb k)(ht:t=fa k-c-fb k)(hx:t=x-c'*4294967296):val (upd g k x) (k+1)-c'*4294967296^(k+1)=val fa (k+1)-val fb (k+1):=by
 rw[mZ];show _=val fa k+fa k*4294967296^k-(val fb k+fb k*4294967296^k)
 have e:t*4294967296^k=fa k*4294967296^k-c*4294967296^k-fb k*4294967296^k:=by rw[ht,Int.sub_mul,Int.sub_mul]
 have e2:x*4294967296^k-c'*4294967296^(k+1)=t*4294967296^k:=by
  rw[Int.pow_succ,Int.mul_comm (4294967296^k) 4294967296, <-Int.mul_assoc, <-Int.sub_mul,hx]
 omega
theorem aHB(ao bo:Option Addr)(n m capa capb:Nat)(fa fb:Nat->Int)(hmn:m<=n)(hn:n<=549755813888)(w:World)(ha:Has w ao n fa)(hb:Has w bo m fb)(wa:Wd n fa)(wb:Wd m fb)(hge:val fb m<=val fa n):Calls Tryz.prog 139 #[.slice ao n capa,.slice bo m capb] w λe w'=>∃(v:Value) (l:Nat) (f:Nat->Int),e=.returned v/\Sl w' v l f/\Wd l f/\Nm l f/\val f l=val fa n-val fb m/\l<=n/\Below w.heap.size w w':=by
 have hmk:=λwx=>run_make_row' (P:=Tryz.prog) 168 200 (.int .u32 0) 4 Tryz.underlying168 Tryz.infoU32 rfl .i64 .i64 n Yo Yo wx
 have HA:=aB ha;have HB:=aB hb;have WA:=aB wa;have WB:=aB wb;have HG:=aB hge;clear ha hb wa wb hge;go_enter Tryz.func139,Tryz.ntmps139
 go_wp2_with fail
 clear hmk
 go_loopw [6,7] (λcs is wr=>∃(k:Nat) (c:Int) (g:Nat->Int),is=.int .i64 k/\cs=.int .u64 c/\k<=n/\0<=c/\c<=1/\Own wr w.heap.size n g/\Wd k g/\val g k-c*4294967296^k=val fa k-val (sG m fb) k/\Below w.heap.size w wr)
  (λ_ is _=>n-(intOf is).toNat)
 case atStart=>exact⟨0,0,_,rfl,rfl,Xz _,Int.le_refl _,by decide,qP w n,λi hi=>absurd hi Yo,rfl,eY w _⟩
 case round=>
  obtain⟨k,c,g,rfl,rfl,hk,c0,c1,hO,hW,hv,hBl⟩:=hrel;have HO:=aB hO;have HW:=aB hW;have HV:=aB hv;have HBl:=aB hBl;clear hO hW hv hBl;by_cases hkn:k<n
  .obtain⟨ba,rfl,hba,hra⟩:=Has.below' (aA HA) (aA HBl) Yo;have ca:=hra k hkn;have co:=(aA HO).cell hkn;have fo:=(aA HO).free k;obtain⟨a0,a1⟩:=aA WA k hkn;clear hra;by_cases hkm:k<m
   .obtain⟨bb,rfl,hbb,hrb⟩:=Has.below' (aA HB) (aA HBl) Yo;have cb:=hrb k hkm;obtain⟨b0,b1⟩:=aA WB k hkm;clear hrb;obtain⟨d,ed⟩:∃d,IntKind.u64.wrap (IntKind.u64.wrap (fa k-c)-fb k)=d:=⟨_,rfl⟩;have hd:d=(fa k-c-fb k)%18446744073709551616:=by rw[<-ed];simp only[IntKind.wrap_u64];omega
    have d0:0<=d:=Yo;have d1:d<18446744073709551616:=Yo;have d2:0<=d/9223372036854775808/\d/9223372036854775808<=1:=Yo;have HS:=aB (WU (t:=fa k-c-fb k) (x:=d%4294967296) (c':=d/9223372036854775808) (aA HV) (by show _=fa k-c-(if k<m then fb k else 0);rw[if_pos hkm]) Yo);clear hd;go_wp2_with fail
    go_roundw
    case rel=>exact⟨k+1,_,_,by go_num,rfl,Yo,d2.1,d2.2,(aA HO).set k _,(aA HW).upd Yo Yo,aA HS,(aA HBl).setCell (Xr _) _⟩
    case measure=>simp[intOf];omega
   .obtain⟨d,ed⟩:∃d,IntKind.u64.wrap (fa k-c)=d:=⟨_,rfl⟩;have hd:d=(fa k-c)%18446744073709551616:=by rw[<-ed];simp only[IntKind.wrap_u64]
    have d0:0<=d:=Yo;have d1:d<18446744073709551616:=Yo;have d2:0<=d/9223372036854775808/\d/9223372036854775808<=1:=Yo;have HS:=aB (WU (t:=fa k-c) (x:=d%4294967296) (c':=d/9223372036854775808) (aA HV) (by show _=fa k-c-(if k<m then fb k else 0);rw[if_neg hkm];omega) Yo);clear hd;go_wp2_with fail
    go_roundw
    case rel=>exact⟨k+1,_,_,by go_num,rfl,Yo,d2.1,d2.2,(aA HO).set k _,(aA HW).upd Yo Yo,aA HS,(aA HBl).setCell (Xr _) _⟩
    case measure=>simp[intOf];omega
  .have hkn2:k=n:=Yo;subst hkn2;have hval:val g k=val fa k-val fb m:=by
    have h1:=aA HV;rw[CY fb hmn] at h1;have h2:=dJ (aA HW);have h3:=aA HG;have h4:c=0:=by
     rcases (show c=0\/c=1 by omega) with h|h
     .exact h
     .subst h;omega
    subst h4;omega
   have HVAL:=aB hval;have HOL:=aB (aA HO).lt;clear hval;go_wp2_with fail
   refine (lG w.heap.size k k g (Xr _) Yo _ (aA HO).row).mono ?_;rintro e w1 ⟨l,rfl,hl,hz,hnm,rfl⟩;have F:=aB (show Sl w1 (.slice (some ⟨w.heap.size,0,none⟩) l k) l g/\Wd l g/\Nm l g/\val g l=val fa k-val fb m/\l<=k/\Below w.heap.size w w1 from
    ⟨Or.inr ⟨_,_,rfl,hl,Yo,aA HOL,(aA HO).row.less hl⟩,(aA HW).less hl,hnm,by rw[<-fV hl hz];exact aA HVAL,hl,aA HBl⟩)
   clear hz hnm;go_wp2_with fail
   go_ret
   exact⟨_,l,_,rfl,aA F⟩
theorem OW(va vb:Value)(n m:Nat)(fa fb:Nat->Int)(hmn:m<=n)(hn:n<=549755813888)(w:World)(ha:Sl w va n fa)(hb:Sl w vb m fb)(wa:Wd n fa)(wb:Wd m fb)(hge:val fb m<=val fa n):Calls Tryz.prog 139 #[va,vb] w λe w'=>∃(v:Value) (l:Nat) (f:Nat->Int),e=.returned v/\Sl w' v l f/\Wd l f/\Nm l f/\val f l=val fa n-val fb m/\l<=n/\Below w.heap.size w w':=by
 obtain⟨ao,capa,rfl, -, -,ha⟩:=ha.view;obtain⟨bo,capb,rfl, -, -,hb⟩:=hb.view;exact aHB ao bo n m capa capb fa fb hmn hn w ha hb wa wb hge
def Drw(w w':World):Prop:=∃q,w'=w.drewN q
theorem Drw.refl(w:World):Drw w w:=⟨0,rfl⟩
variable{w' w:World}
theorem Drw.drew(h:Drw w w'):Drw w w'.drew:=by obtain⟨q,rfl⟩:=h;exact⟨q+1,rfl⟩
theorem Drw.drewN(h:Drw w w')(k:Nat):Drw w (w'.drewN k):=by obtain⟨q,rfl⟩:=h;exact⟨q+k,by rw[World.drewN_drewN]⟩
theorem Drw.trans{a b c:World}(h:Drw a b)(k:Drw b c):Drw a c:=by obtain⟨q,rfl⟩:=k;exact h.drewN q
theorem Drw.heap(h:Drw w w'):w'.heap=w.heap:=by obtain⟨q,rfl⟩:=h;rfl
theorem Drw.below(h:Drw w w')(B:Nat):Below B w w':=by obtain⟨q,rfl⟩:=h;exact below_drewN (Below.refl B w) q
variable{n:Nat}
theorem Drw.row(h:Drw w w'){b:Nat}{f:Nat->Int}(r:Row w b n f):Row w' b n f:=by obtain⟨q,rfl⟩:=h;exact r
def pO(a b:Int):Int:=if a<b then -1 else if b<a then 1 else 0
variable{b a:Int}
theorem D5(h:a<b):pO a b= -1:=if_pos h
theorem DV(h:b<a):pO a b=1:=by unfold pO;rw[if_neg Yo,if_pos h]
theorem aAR(h:a=b):pO a b=0:=by unfold pO;rw[if_neg Yo,if_neg Yo]
variable{m:Nat}
theorem OU:∀{n:Nat},m<=n->(∀i,m<=i->i<n->fa i=fb i)->val fa n-val fa m=val fb n-val fb m
 |0,h,_=>by
  have:m=0:=Yo;subst this;rfl
 |n+1,h,hz=>by
  rcases Nat.lt_or_ge n m with hl|hl
  .have:m=n+1:=Yo;subst this;omega
  .have ih:=OU (n:=n) hl (λi h1 h2=>hz i h1 Yo);show val fa n+fa n*4294967296^n-val fa m=val fb n+fb n*4294967296^n-val fb m
   rw[hz n hl Yo];omega
theorem OE(wa:Wd n fa)(wb:Wd n fb)(hk:k<n)(hz:∀i,k+1<=i->i<n->fa i=fb i)(h:fa k<fb k):val fa n<val fb n:=by
 have h1:val fa n-val fa (k+1)=val fb n-val fb (k+1):=OU hk hz;have h2:=(dJ (wa.less (show k<=n by omega))).2;have h3:=(dJ (wb.less (show k<=n by omega))).1;have h4:(fa k+1)*4294967296^k<=fb k*4294967296^k:=Int.mul_le_mul_of_nonneg_right Yo (Int.le_of_lt (pow_pos k));rw[Int.add_mul,Int.one_mul] at h4;have e1:val fa (k+1)=val fa k+fa k*4294967296^k:=rfl;have e2:val fb (k+1)=val fb k+fb k*4294967296^k:=rfl;omega
theorem wO(wa:Wd n fa)(wb:Wd m fb)(nb:Nm m fb)(h:n<m):val fa n<val fb m:=by
 obtain⟨l,rfl⟩:∃l,m=l+1:=⟨m-1,Yo⟩;have h1:=(dJ wa).2;have h2:=VV wb (by rcases nb with h|h;exact absurd h Yo;exact h);have h3:(4294967296:Int)^n<=4294967296^l:=by
  obtain⟨d,rfl⟩:∃d,l=n+d:=⟨l-n,Yo⟩;rw[Int.pow_add];have:=Int.mul_le_mul_of_nonneg_left (show 1<=(4294967296:Int)^d from pow_pos d) (Int.le_of_lt (pow_pos n));omega
 omega
theorem aFz(ao bo:Option Addr)(n m capa capb:Nat)(fa fb:Nat->Int)(hn:n<=549755813888)(hm:m<=549755813888)(w:World)(ha:Has w ao n fa)(hb:Has w bo m fb)(wa:Wd n fa)(wb:Wd m fb)(na:Nm n fa)(nb:Nm m fb):Calls Tryz.prog 138 #[.slice ao n capa,.slice bo m capb] w λe w'=>e=.returned (.int .i64 (pO (val fa n) (val fb m)))/\Drw w w':=by
 rcases Nat.lt_trichotomy n m with h|h|h
 .have E:=aB (D5 (wO wa wb nb h));have t:((n:Int)!=(m:Int))=true:=by simp;omega
  clear ha hb wa wb na nb;go_enter Tryz.func138,Tryz.ntmps138
  go_wp2_with fail
  go_ret
  exact⟨by rw[aA E];rfl,Drw.refl _⟩
 .subst h;have HA:=aB ha;have HB:=aB hb;have WA:=aB wa;have WB:=aB wb;clear ha hb wa wb na nb;go_enter Tryz.func138,Tryz.ntmps138
  go_wp2_with fail
  go_loopw [5] (λis wr=>∃(i:Int) (k:Nat),is=.int .i64 i/\i=(k:Int)-1/\k<=n/\(∀j,k<=j->j<n->fa j=fb j)/\Drw w wr) (λis _=>(intOf is+1).toNat)
  case atStart=>exact⟨_,n,rfl,rfl,Xr _,λj h1 h2=>absurd h2 Yo,Drw.refl _⟩
  case round=>
   obtain⟨i,k,rfl,hi,hk,hz,hd⟩:=hrel;have HZ:=aB hz;have HD:=aB hd;clear hz hd;rcases Nat.eq_zero_or_pos k with h0|h0
   .subst h0;have hi2:i= -1:=Yo;subst hi2;have E:=aB (aAR (show val fa n=val fb n from tL (λj hj=>aA HZ j Yo hj)));clear hi;go_wp2_with fail
    go_ret
    exact⟨by rw[aA E];rfl,aA HD⟩
   .obtain⟨j,rfl⟩:∃j,k=j+1:=⟨k-1,Yo⟩;have hi2:i=(j:Int):=Yo;subst hi2;clear hi h0;obtain⟨ba,rfl,hba,hra⟩:=aA HA Yo;obtain⟨bb,rfl,hbb,hrb⟩:=aA HB Yo;have ca:=(aA HD).row hra j Yo;have cb:=(aA HD).row hrb j Yo;clear hra hrb;rcases Int.lt_trichotomy (fa j) (fb j) with h|h|h
    .have E:=aB (D5 (OE (aA WA) (aA WB) (show j<n by omega) (aA HZ) h));have t:(fa j !=fb j)=true:=by simp;omega
     go_wp2_with fail
     go_region
     go_wp2_with fail
     go_region
     go_wp2_with fail
     go_ret
     exact⟨by rw[aA E];rfl,(aA HD).drew.drew⟩
    .have t:(fa j !=fb j)=false:=by simp;omega
     have HJ:=aB h;clear h;go_wp2_with fail
     go_region
     go_wp2_with fail
     go_roundw
     case rel=>exact⟨_,j,rfl,rfl,Yo,λi h1 h2=>by
      rcases Nat.lt_or_ge j i with h|h
      .exact aA HZ i Yo h2
      .have:i=j:=Yo;subst this;exact aA HJ,(aA HD).drew⟩
     case measure=>simp[intOf]
    .have E:=aB (DV (OE (aA WB) (aA WA) (show j<n by omega) (λi h1 h2=>(aA HZ i h1 h2).symm) h));have t:(fa j !=fb j)=true:=by simp;omega
     go_wp2_with fail
     go_region
     go_wp2_with fail
     go_region
     go_wp2_with fail
     go_ret
     exact⟨by rw[aA E];rfl,(aA HD).drew.drew⟩
 .have E:=aB (DV (wO wb wa na h));have t:((n:Int)!=(m:Int))=true:=by simp;omega
  clear ha hb wa wb na nb;go_enter Tryz.func138,Tryz.ntmps138
  go_wp2_with fail
  go_ret
  exact⟨by rw[aA E];rfl,Drw.refl _⟩
theorem vR(va vb:Value)(n m:Nat)(fa fb:Nat->Int)(hn:n<=549755813888)(hm:m<=549755813888)(w:World)(ha:Sl w va n fa)(hb:Sl w vb m fb)(wa:Wd n fa)(wb:Wd m fb)(na:Nm n fa)(nb:Nm m fb):Calls Tryz.prog 138 #[va,vb] w λe w'=>e=.returned (.int .i64 (pO (val fa n) (val fb m)))/\Drw w w':=by
 obtain⟨ao,capa,rfl, -, -,ha⟩:=ha.view;obtain⟨bo,capb,rfl, -, -,hb⟩:=hb.view;exact aFz ao bo n m capa capb fa fb hn hm w ha hb wa wb na nb
theorem aAs(xn yn:Bool)(va vb:Value)(n m:Nat)(fa fb:Nat->Int)(hn:n<=549755813888)(hm:m<=549755813888)(w:World)(ha:Sl w va n fa)(hb:Sl w vb m fb)(wa:Wd n fa)(wb:Wd m fb)(na:Nm n fa)(nb:Nm m fb):Calls Tryz.prog 112 #[.bool xn,va,.bool yn,vb] w λe w'=>∃(s:Bool) (v:Value) (l:Nat) (f:Nat->Int),e=.returned (.tuple #[.bool s,v])/\Sl w' v l f/\Wd l f/\Nm l f/\dA s (val f l)=dA xn (val fa n)+dA yn (val fb m)/\Below w.heap.size w w':=by
 have HA:=aB ha;have HB:=aB hb;have WA:=aB wa;have WB:=aB wb;have NA:=aB na;have NB:=aB nb;obtain⟨ao,capa,rfl, -, -, -⟩:=ha.view;obtain⟨bo,capb,rfl, -, -, -⟩:=hb.view;clear ha hb wa wb na nb;by_cases h:xn=yn
 .subst h;have t:(xn==xn)=true:=by simp
  go_enter Tryz.func112,Tryz.ntmps112
  go_wp2_with fail
  refine (aCy _ _ n m fa fb hn hm _ (aA HA) (aA HB) (aA WA) (aA WB)).mono ?_;rintro e w1 ⟨v,l,f,rfl,h2,h3,h4,h5,h6,h7⟩;have F:=aB (show Sl w1 v l f/\Wd l f/\Nm l f/\dA xn (val f l)=dA xn (val fa n)+dA xn (val fb m)/\Below w.heap.size w w1 from ⟨h2,h3,h4,by rw[h5];cases xn<;>simp[dA];omega,h7⟩);clear h2 h3 h4 h5 h6 h7;go_wp2_with fail
  go_ret2
  exact⟨xn,v,l,f,rfl,aA F⟩
 .have t:(xn==yn)=false:=by simpa using h
  have hxy:yn= !xn:=by cases xn<;>cases yn<;>simp_all
  have hs:∀a b:Int,dA xn a+dA yn b=dA xn (a-b):=by intro a b;rw[hxy];cases xn<;>simp[dA]<;>omega
  have hs2:∀a b:Int,dA xn a+dA yn b=dA yn (b-a):=by intro a b;rw[hxy];cases xn<;>simp[dA]<;>omega
  have HS:=aB hs;have HS2:=aB hs2;clear hs hs2 hxy h;go_enter Tryz.func112,Tryz.ntmps112
  go_wp2_with fail
  refine (vR _ _ n m fa fb hn hm _ (aA HA) (aA HB) (aA WA) (aA WB) (aA NA) (aA NB)).mono ?_;rintro e w1 ⟨rfl,hd⟩;have HD:=aB (hd.below w.heap.size);clear hd;by_cases hc:val fb m<=val fa n
  .have c0:0<=pO (val fa n) (val fb m):=by unfold pO;rw[if_neg Yo];split<;>decide
   have hlen:Hid (m<=n):=by
    rcases Nat.lt_or_ge n m with h|h
    .exact absurd (wO (aA WA) (aA WB) (aA NB) h) Yo
    .exact h
   have HC:=aB hc;clear hc;go_wp2_with fail
   refine (OW _ _ n m fa fb (aA hlen) hn _ ((aA HA).below (aA HD)) ((aA HB).below (aA HD)) (aA WA) (aA WB) (aA HC)).mono ?_;rintro e w2 ⟨v,l,f,rfl,h2,h3,h4,h5,h6,h7⟩;have F:=aB (show Sl w2 v l f/\Wd l f/\Nm l f/\dA xn (val f l)=dA xn (val fa n)+dA yn (val fb m)/\Below w.heap.size w w2 from ⟨h2,h3,h4,by rw[h5,aA HS],(aA HD).trans (h7.mono (aA HD).size)⟩);clear h2 h3 h4 h5 h6 h7;go_wp2_with fail
   go_ret2
   exact⟨xn,v,l,f,rfl,aA F⟩
  .have c0:pO (val fa n) (val fb m)<0:=by unfold pO;rw[if_pos Yo];decide
   have hlen:Hid (n<=m):=by
    rcases Nat.lt_or_ge m n with h|h
    .exact absurd (wO (aA WB) (aA WA) (aA NA) h) Yo
    .exact h
   have HC:Hid (val fa n<=val fb m):=by show _<=_;omega
   clear hc;go_wp2_with fail
   refine (OW _ _ m n fb fa (aA hlen) hm _ ((aA HB).below (aA HD)) ((aA HA).below (aA HD)) (aA WB) (aA WA) (aA HC)).mono ?_;rintro e w2 ⟨v,l,f,rfl,h2,h3,h4,h5,h6,h7⟩;have F:=aB (show Sl w2 v l f/\Wd l f/\Nm l f/\dA yn (val f l)=dA xn (val fa n)+dA yn (val fb m)/\Below w.heap.size w w2 from ⟨h2,h3,h4,by rw[h5,aA HS2],(aA HD).trans (h7.mono (aA HD).size)⟩);clear h2 h3 h4 h5 h6 h7;go_wp2_with fail
   go_ret2
   exact⟨yn,v,l,f,rfl,aA F⟩
end Go.Proofs.YthimcecbgpamdaaGreat
