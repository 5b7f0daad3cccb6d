import Derived.Test.YthimcecbgpamdaaGreatNear143
set_option maxHeartbeats 2000000
namespace Go.Proofs.YthimcecbgpamdaaGreat
open Go.RowKit
theorem aLa(f:Nat->Int)(n:Nat)(v:Int):cl f (n+1) v=cl f n v+if f n<v then 1 else 0:=by
 show cn _ n+(if decide (f n<v)=true then 1 else 0)=_
 by_cases h:f n<v
 .rw[if_pos (Xt h),if_pos h];rfl
 .rw[if_neg (by rw[Xf h];decide),if_neg h];rfl
theorem aKn(f:Nat->Int)(n:Nat)(v:Int):ce f (n+1) v=ce f n v+if f n=v then 1 else 0:=by
 show cn _ n+(if decide (f n=v)=true then 1 else 0)=_
 by_cases h:f n=v
 .rw[if_pos (Xt h),if_pos h];rfl
 .rw[if_neg (by rw[Xf h];decide),if_neg h];rfl
theorem UJ(ao:Option Addr)(n cap k:Nat)(f:Nat->Int)(w:World)(hn:n<=64)(hk:k<n)(hr:Rd w ao n (iF f)):Calls Tryz.prog 82 #[.slice ao n cap,.int .i64 (k:Int)] w λe w'=>∃v,sM f n k v/\e=.returned (.int .i64 v)/\w'=w:=by
 obtain⟨b,o,rfl,hc⟩:=hr Yo;have HC:=aB hc;clear hc hr;go_enter Tryz.func82,Tryz.ntmps82
 go_wp2_with fail
 go_loopw [6,7,8,10,13] (λ_ _ _ _ is wr=>w=wr/\∃i:Nat,is=.int .i64 i/\i<=n/\∀j,j<i->¬sM f n k (f j)) (λ_ _ _ _ is _=>n-(intOf is).toNat)
 case atStart=>exact⟨rfl,0,rfl,Xz _,λj hj=>absurd hj Yo⟩
 case round=>
  obtain⟨rfl,i,rfl,hi,hno⟩:=hrel;have NO:=aB hno;clear hno;by_cases hin:i<n
  .have ci:w.cell? ⟨b,o+i,none⟩=some (.int .i64 (f i)):=aA HC i hin;obtain⟨v,ev⟩:∃v,f i=v:=⟨_,rfl⟩;rw[ev] at ci;have EV:=aB ev;clear ev;go_wp2_with fail
   clear ci
   go_loopw [7,8,10,19] (λls ss _ js wr=>w=wr/\∃j:Nat,js=.int .i64 j/\j<=n/\ls=.int .i64 (cl f j v:Nat)/\ss=.int .i64 (ce f j v:Nat)) (λ_ _ _ js _=>n-(intOf js).toNat)
   case atStart=>exact⟨rfl,0,rfl,Xz _,rfl,rfl⟩
   case round=>
    obtain⟨rfl,j,rfl,hj,rfl,rfl⟩:=hrel;have b1:cl f j v<=j:=wP _ _;have b2:ce f j v<=j:=wP _ _;by_cases hjn:j<n
    .have cj:w.cell? ⟨b,o+j,none⟩=some (.int .i64 (f j)):=aA HC j hjn;have S1:=aB (aLa f j v);have S2:=aB (aKn f j v);obtain⟨p,ep⟩:∃p,cl f j v=p:=⟨_,rfl⟩;obtain⟨q,eq⟩:∃q,ce f j v=q:=⟨_,rfl⟩;obtain⟨u,eu⟩:∃u,f j=u:=⟨_,rfl⟩;rw[ep] at b1 S1 ⊢;rw[eq] at b2 S2 ⊢;rw[eu] at cj S1 S2;clear ep eq eu;by_cases hl:u<v
     .have t1:(u==v)=false:=by simp;omega
      have T1:=aB (show (cl f (j+1) v:Nat)=p+1 by rw[aA S1,if_pos hl]);have T2:=aB (show ce f (j+1) v=q by rw[aA S2,if_neg Yo];rfl);go_wp2_with fail
      go_roundw
      case rel=>exact⟨trivial,j+1,by go_num,Yo,by rw[aA T1];go_num,by rw[aA T2]⟩
      case measure=>simp[intOf]<;>omega
     .by_cases he:u=v
      .subst he;have t1:(u==u)=true:=by simp
       have T1:=aB (show cl f (j+1) u=p by rw[aA S1,if_neg hl];rfl);have T2:=aB (show ce f (j+1) u=q+1 by rw[aA S2,if_pos rfl]);go_wp2_with fail
       go_roundw
       case rel=>exact⟨trivial,j+1,by go_num,Yo,by rw[aA T1],by rw[aA T2];go_num⟩
       case measure=>simp[intOf]<;>omega
      .have t1:(u==v)=false:=by simp[he]
       have T1:=aB (show cl f (j+1) v=p by rw[aA S1,if_neg hl];rfl);have T2:=aB (show ce f (j+1) v=q by rw[aA S2,if_neg he];rfl);go_wp2_with fail
       go_roundw
       case rel=>exact⟨trivial,j+1,by go_num,Yo,by rw[aA T1],by rw[aA T2]⟩
       case measure=>simp[intOf]<;>omega
    .have e9:j=n:=Yo;subst e9;have RV:=aB (show sM f j k v↔cl f j v<=k/\k<cl f j v+ce f j v from Iff.rfl);obtain⟨p,ep⟩:∃p,cl f j v=p:=⟨_,rfl⟩;obtain⟨q,eq⟩:∃q,ce f j v=q:=⟨_,rfl⟩;rw[ep] at b1 RV ⊢;rw[eq] at b2 RV ⊢;clear ep eq;by_cases h1:p<=k
     .by_cases h2:k<p+q
      .go_wp2_with fail
       go_ret
       exact⟨v,(aA RV).2 ⟨h1,h2⟩,rfl,rfl⟩
      .have NV:=aB (show ¬sM f j k v from λh=>h2 ((aA RV).1 h).2);go_wp2_with fail
       go_roundw
       case rel=>exact⟨trivial,i+1,by go_num,Yo,λt ht=>by
        by_cases e:t=i
        .subst e;rw[aA EV];exact aA NV
        .exact aA NO t Yo⟩
       case measure=>simp[intOf]<;>omega
     .have NV:=aB (show ¬sM f j k v from λh=>h1 ((aA RV).1 h).1);go_wp2_with fail
      go_roundw
      case rel=>exact⟨trivial,i+1,by go_num,Yo,λt ht=>by
       by_cases e:t=i
       .subst e;rw[aA EV];exact aA NV
       .exact aA NO t Yo⟩
      case measure=>simp[intOf]<;>omega
  .have e9:i=n:=Yo;subst e9;obtain⟨t,ht,hr⟩:=aNq f i k hk;exact absurd hr (aA NO t ht)
theorem PO(ao:Option Addr)(n cap:Nat)(w:World)(h:n<1\/64<n):Calls Tryz.prog 46 #[.slice ao n cap] w λe w'=>e=.returned (.tuple #[.int .i64 0,.int .i64 8])/\Below w.heap.size w w':=by
 by_cases h1:n<1
 .have h1':(n:Int)<1:=Yo;clear h;go_enter Tryz.func46,Tryz.ntmps46
  go_wp2_with fail
  go_ret2
  exact⟨rfl,Below.refl _ _⟩
 .have h2:(64:Int)<(n:Int):=Yo;clear h;go_enter Tryz.func46,Tryz.ntmps46
  go_wp2_with fail
  go_ret2
  exact⟨rfl,Below.refl _ _⟩
theorem aFa(x y:Int)(hx:R64 x)(hy:R64 y):uB (absZ (x+y)) (absZ 2):=by
 have h1:=iY hx;have h2:=iY hy;by_cases h:absZ (x+y)<18446744073709551616
 .exact NT _ _ (by unfold absZ;split<;>omega) Yc h
 .exact div_one _ _ Yc Yo Yc
variable{f:Nat->Int}
theorem aDv{n k:Nat}{v:Int}(hf:∀i,R64 (f i))(h:sM f n k v):R64 v:=by
 obtain⟨i,_,rfl⟩:=aLJ h;exact hf i
theorem LD(ao:Option Addr)(n cap:Nat)(f:Nat->Int)(w:World)(h1:1<=n)(h2:n<=64)(hf:∀i,R64 (f i))(hr:Rd w ao n (iF f)):Calls Tryz.prog 46 #[.slice ao n cap] w λe w'=>∃m,yC f n m/\e=.returned (.tuple #[.int .i64 m,.int .i64 0])/\Below w.heap.size w w':=by
 obtain⟨k,ek⟩:∃k,(n-1)/3=k:=⟨_,rfl⟩;have hk:3*k+1<=n:=Yo;have td:((n:Int)-1).tdiv 3=(k:Int):=by
  rw[show (n:Int)-1=((n-1:Nat):Int) by omega, <-ek];rfl
 have EK:=aB ek;have HF:=aB hf;have HR:=aB hr;clear ek hf hr;go_enter Tryz.func46,Tryz.ntmps46
 go_wp2_with fail
 refine (UJ ao n cap k f _ h2 Yo (aA HR)).mono ?_;rintro e w1 ⟨a,ra,rfl,rfl⟩;have RA:=aB ra;have AR:=aB (aDv (aA HF) ra);clear ra;go_wp2_with fail
 refine (jN a (aA AR) _).mono ?_;rintro e w2 ⟨b2,rfl,g2,n2,k2⟩;have N2:=aB n2;have K2:=aB k2;have G2:=aB g2;have R2:=aB ((aA HR).below k2);clear n2 k2 g2;have eq:(n:Int)-1-(k:Int)=((n-1-k:Nat):Int):=Yo;go_wp2_with fail
 refine (UJ ao n cap (n-1-k) f _ h2 Yo (aA R2)).mono ?_;rintro e w3 ⟨c,rc,rfl,rfl⟩;have RC:=aB rc;have CR:=aB (aDv (aA HF) rc);clear rc;go_wp2_with fail
 refine (jN c (aA CR) _).mono ?_;rintro e w4 ⟨b4,rfl,g4,n4,k4⟩;have N4:=aB n4;have M4:=aB ((aA N2).below k4);have K4:=aB (show Below w1.heap.size w1 w4 from (aA K2).trans (k4.mono (aA K2).size));clear n4 k4 g4;go_wp2_with fail
 obtain⟨s,v,ia⟩:=(aA M4).intAt;refine (qQ b2 b2 b4 a c s v _ ia (aA M4) (aA N4) (rH (aA AR)) (rH (aA CR))).mono ?_;rintro e w5 ⟨rfl,n5,k5⟩;have N5:=aB n5;have K5:=aB (aF (aA K4) k5 (aA G2) (aA K4).size);clear n5 k5 ia;go_wp2_with fail
 refine (jN 2 (by unfold R64;omega) _).mono ?_;rintro e w6 ⟨b6,rfl,g6,n6,k6⟩;have N6:=aB n6;have M6:=aB ((aA N5).below k6);have K6:=aB (show Below w1.heap.size w1 w6 from (aA K5).trans (k6.mono (aA K5).size));clear n6 k6 g6;have DS:=aB (show Bd (a+c) from vF (k:=3) (by have h1:=iY (aA AR);have h2:=iY (aA CR);have h3:=F7 a c;show _<(79228162514264337593543950336:Int);omega) Yc);go_wp2_with fail
 refine (T9 b2 b6 (a+c) 2 _ (aA M6) (aA N6) (aA DS) (rH (by unfold R64;omega)) Yc (aFa a c (aA AR) (aA CR))).mono ?_;rintro e w7 ⟨b7,rfl,n7,k7⟩;have N7:=aB n7;have K7:=aB (show Below w1.heap.size w1 w7 from (aA K6).trans (k7.mono (aA K6).size));clear n7 k7;have RM:=aB (show R64 ((a+c)/2) by have h1:=aA AR;have h2:=aA CR;unfold R64 at*;omega);go_wp2_with fail
 refine (OI b7 _ _ (aA N7) (aA RM)).mono ?_;rintro e w8 ⟨rfl,rfl⟩;go_wp2_with fail
 go_ret2
 exact⟨(a+c)/2,⟨a,c,by rw[aA EK];exact aA RA,by rw[aA EK];exact aA RC,rfl⟩,rfl,aA K7⟩
variable{w:World}
theorem IE{g n l:Nat}(hl:l<=n)(h:w.heap[g]?=some (.cells (splice (madeCells #[Value.int .u32 0] n).toList 0 ((List.range l).map (λi=>Value.int .u32 (f i)))).toArray 200 (0,0))):Own w g n (sG l f):=by
 have hs:(madeCells #[Value.int .u32 0] n).size=n:=size_madeCells _ _;refine⟨_,h,?_,?_⟩
 .simp[splice,hs];omega
 .intro i hi;show ((splice (madeCells #[Value.int .u32 0] n).toList 0 ((List.range l).map (λi=>Value.int .u32 (f i)))).toArray)[i]?=some (.int .u32 (if i<l then f i else 0))
  rw[List.getElem?_toArray];unfold splice;rw[List.take_zero,List.nil_append];by_cases hil:i<l
  .rw[if_pos hil,List.getElem?_append_left (by simpa using hil),List.getElem?_map,List.getElem?_range hil];rfl
  .rw[if_neg hil,List.getElem?_append_right (by simpa using hil)];simp only[List.length_map,List.length_range,Nat.zero_add,List.getElem?_drop];rw[show l+(i-l)=i by omega];simp[madeCells,hi,Nat.mod_one]
theorem ZC(n l cap g:Nat)(ao:Option Addr)(f:Nat->Int)(hl:l<=n)(w:World)(hg:w.heap[g]?=some (.cells (madeCells #[.int .u32 0] n) 200 (0,0)))(hs:Sl w (.slice ao l cap) l f):∃w1,(Builtin.copy_ #[168,168] 3 #[.slice (some ⟨g,0,none⟩) n n,.slice ao l cap]).run Tryz.prog w=.ok (.int .i64 (l:Int)) w1/\Own w1 g n (sG l f)/\Kept g w w1:=by
 obtain⟨i0,hii,hz0,hz1,hz2⟩:=info_parts Tryz.infoU32;have hsz:(Tryz.prog.info? 200).map (·.size)=some 1:=by rw[hii];simp[hz1]
 have hms:(madeCells #[Value.int .u32 0] n).size=n:=size_madeCells _ _;rcases Nat.eq_zero_or_pos l with h0|h0
 .subst h0;refine⟨_,run_copy_none (P:=Tryz.prog) _ _ _ _ 200 _ _ _ _ _ _ Tryz.underlying168 hsz (Nat.zero_min _),?_,Kept.refl _ _⟩;refine IE (f:=f) (Xz _) ?_;rw[hg];simp[splice]
 .rcases hs with ⟨-,h⟩|⟨bv,cap',hv, -, -,hb,hr⟩
  .exact absurd h Yo
  .obtain rfl:ao=some ⟨bv,0,none⟩:=by cases hv;rfl
   have hlen:((List.range l).map (λi=>Value.int .u32 (f i))).length=l:=by rw[List.length_map,List.length_range]
   have hrun:=run_copy_row (P:=Tryz.prog) w 168 168 3 200 g 0 n n ⟨bv,0,none⟩ l cap _ _ ((List.range l).map (λi=>Value.int .u32 (f i)))
    Tryz.underlying168 hsz hg (by rw[hlen];exact (Nat.min_eq_left hl).symm) (by
     intro j u hj;rw[List.getElem?_map] at hj;rcases Nat.lt_or_ge j l with h|h
     .rw[List.getElem?_range h] at hj;simp at hj;subst hj;have e:(⟨bv,0,none⟩:Addr).add j=⟨bv,j,none⟩:=by unfold Addr.add;by_cases hj0:j=0<;>simp[hj0]
      rw[e];exact hr j h
     .rw[List.getElem?_eq_none (by simpa using h)] at hj
      cases hj) (by rw[hlen,hms];omega) (by
     intro u hu;obtain⟨i,_,rfl⟩:=List.mem_map.1 hu;rfl)
   rw[hlen] at hrun;refine⟨_,hrun,?_,⟨rfl,rfl,rfl,by simp[World.setRow],λk _ hk=>setRow_other w g k _ hk⟩⟩;refine IE hl ?_;rw[setRow_heap _ _ _ _ _ _ hg];simp[splice]
theorem aHK{b:Int}{L l:Nat}(hL:1<=L)(h1:b<2^L)(h2:2^L<=2*b)(hb:4294967296<=b)(hw:Wd l f)(hn:Nm l f)(hv:val f l=b*2^(31-(L-1)%32)):l=(L-1)/32+1/\Dr l f/\2*val f l≥4294967296^l:=by
 obtain⟨K,rfl⟩:∃K,L=K+1:=⟨L-1,Yo⟩;rw[show K+1-1=K by omega] at*;obtain⟨s,es⟩:∃s,31-K%32=s:=⟨_,rfl⟩;rw[es] at hv;have e1:K+1+s=32*(K/32+1):=Yo;have hp:=gI s;have hK:(2:Int)^(K+1)=2*2^K:=by rw[Int.pow_succ,Int.mul_comm]
 have u1:val f l<4294967296^(K/32+1):=by
  rw[hv,nD, <-e1,Int.pow_add];exact Int.mul_lt_mul_of_pos_right h1 hp
 have u2:4294967296^(K/32+1)<=2*val f l:=by
  rw[hv,nD, <-e1,Int.pow_add, <-Int.mul_assoc];exact Int.mul_le_mul_of_nonneg_right h2 (Int.le_of_lt hp)
 have l1:=mV hw hn u1;have hlow:K/32+1<=l:=by
  rcases Nat.lt_or_ge l (K/32+1) with h|h
  .have a:=(dJ hw).2;have a2:(4294967296:Int)^l<=4294967296^(K/32):=by rw[nD,nD];exact jG Yo
   rw[Int.pow_succ] at u2;have:=pow_pos (K/32);omega
  .exact h
 obtain rfl:l=K/32+1:=Yo;refine⟨rfl,⟨?_,hw,?_⟩,u2⟩
 .rcases Nat.lt_or_ge K 32 with h|h
  .have:(2:Int)^(K+1)<=2^32:=jG Yo;have e32:(2:Int)^32=4294967296:=by decide
   omega
  .omega
 .rw[show K/32+1-1=K/32 by omega];have b1:=dJ (hw.less (show K/32<=K/32+1 by omega));have ev:val f (K/32+1)=val f (K/32)+f (K/32)*4294967296^(K/32):=rfl;have:=pow_pos (K/32);rw[Int.pow_succ] at u2;rcases Int.lt_or_le (f (K/32)) 2147483648 with h|h
  .have:=Int.mul_le_mul_of_nonneg_right (show f (K/32)<=2147483647 by omega) (Int.le_of_lt (pow_pos (K/32)));omega
  .exact h
variable{g:Nat->Int}
theorem Own.same{w':World}{b N:Nat}(h:Own w b N g)(hb:w'.heap[b]?=w.heap[b]?):Own w' b N g:=by
 obtain⟨cs,h1,h2,h3⟩:=h;exact⟨cs,hb.trans h1,h2,h3⟩
theorem Own.other{b c N:Nat}(h:Own w b N g)(hb:b≠c)(i:Nat)(u:Value):Own (w.setCell ⟨c,i,none⟩ u) b N g:=h.same (heap_setCell_other w ⟨c,i,none⟩ b u hb)
end Go.Proofs.YthimcecbgpamdaaGreat
