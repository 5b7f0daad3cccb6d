import Derived.Test.YthimcecbgpamdaaGreatJoinB
set_option maxHeartbeats 1000000
namespace Go.Proofs.YthimcecbgpamdaaGreat
open Go.RowKit
def Bd(x:Int):Prop:=absZ x<4294967296^100
variable{n k:Nat}{f:Nat->Int}
theorem mD(hw:Wd n f)(hn:Nm n f)(h:val f n<4294967296^k):n<=k:=by
 rcases Nat.lt_or_ge k n with hl|hl
 .obtain⟨l,rfl⟩:∃l,n=l+1:=⟨n-1,Yo⟩;have h2:=VP hw (by rcases hn with h|h;exact absurd h Yo;exact h);have h3:(4294967296:Int)^k<=4294967296^l:=by
   obtain⟨d,rfl⟩:∃d,l=k+d:=⟨l-k,Yo⟩;rw[Int.pow_add];have:=Int.mul_le_mul_of_nonneg_left (show 1<=(4294967296:Int)^d from pow_pos d) (Int.le_of_lt (pow_pos k));omega
  omega
 .exact hl
variable{s:Bool}
theorem kI{v:Int}(h:0<=v):absZ (cZ s v)=v:=by grind [absZ,cZ]
variable{x:Int}
theorem IP(h:Bd x)(hx:x=cZ s (val f n))(hw:Wd n f)(hn:Nm n f):n<=549755813888:=by
 unfold Bd at h;rw[hx,kI (dH hw).1] at h;have:=mD hw hn h;omega
def Two(bx by_:Nat)(xs xv ys yv:Value)(w:World):Prop:=
 w.cell? ⟨bx,0,none⟩=some xs/\w.cell? ⟨bx,1,none⟩=some xv/\w.cell? ⟨by_,0,none⟩=some ys/\w.cell? ⟨by_,1,none⟩=some yv
variable{w:World}
theorem jN{w':World}{a:Addr}{v:Value}(h:w.cell? a=some v)(k:Below w.heap.size w w'):w'.cell? a=some v:=
 (k.cell (World.block_lt_of_cell? w a h)).trans h
theorem Two.below{bx by_:Nat}{xs xv ys yv:Value}{w':World}(h:Two bx by_ xs xv ys yv w)(k:Below w.heap.size w w'):Two bx by_ xs xv ys yv w':=
 ⟨jN h.1 k,jN h.2.1 k,jN h.2.2.1 k,jN h.2.2.2 k⟩
theorem qP(z bx by_:Nat)(x y:Int)(s0:Bool)(v0:Value)(w:World)(hz:IntAt w z (.bool s0) v0)(hx:Num w bx x)(hy:Num w by_ y)(dx:Bd x)(dy:Bd y):Calls Tryz.prog 83 #[.pointer (some ⟨z,0,none⟩),.pointer (some ⟨bx,0,none⟩),.pointer (some ⟨by_,0,none⟩)] w λe w'=>e=.returned (.pointer (some ⟨z,0,none⟩))/\Num w' z (x+y)/\Kept z w w':=by
 obtain⟨xn,xv,n,fa,hx1,hx2,hx3,hx4,hx5,hx6⟩:=hx;obtain⟨yn,yv,m,fb,hy1,hy2,hy3,hy4,hy5,hy6⟩:=hy;have c1:=hx1.cell0;have c2:=hx1.cell1;have c3:=hy1.cell0;have c4:=hy1.cell1;have L1:=aB (IP dx hx5 hx3 hx4);have L2:=aB (IP dy hy5 hy3 hy4);have HX2:=aB hx2;have HX3:=aB hx3;have HX4:=aB hx4;have HY2:=aB hy2;have HY3:=aB hy3;have HY4:=aB hy4;have E:=aB (show x+y=cZ xn (val fa n)+cZ yn (val fb m) by rw[hx5,hy5]);have HZ:=aB hz;obtain⟨ao,capa,rfl, -, -, -⟩:=hx2.view;obtain⟨bo,capb,rfl, -, -, -⟩:=hy2.view;clear hx1 hx2 hx3 hx4 hx5 hx6 hy1 hy2 hy3 hy4 hy5 hy6 hz dx dy;go_enter Tryz.func83,Tryz.ntmps83
 go_wp2_with fail
 refine dF (S:=Two bx by_ (.bool xn) (.slice ao n capa) (.bool yn) (.slice bo m capb))
  [(0,false),(1,false),(2,false),(3,false),(4,false),(5,false),(6,false),(7,false),(8,false),(9,false),(10,false),(11,false),(12,false),(13,false),(14,false),(15,false),(16,false),(17,true),(18,false),(19,false),(20,true),(21,true)] [20,21] Yl Yl ?_
 have hS:Two bx by_ (.bool xn) (.slice ao n capa) (.bool yn) (.slice bo m capb) w.drew:=⟨c1,c2,c3,c4⟩;clear c1 c2 c3 c4;iterate 17
  refine bB (v:=?_) rfl (λ_ _ _ h=>h) (by rfl) hS ?_ ?_
  rotate_left 1
  .intro wx hwx;obtain⟨k1,k2,k3,k4⟩:=hwx;go_simp<;>exact rfl
  go_frame
 refine aZ rfl (λK hK=>?_);go_simp
 refine (aAH xn yn _ _ n m fa fb (aA L1) (aA L2) _ (by exact aA HX2) (by exact aA HY2) (aA HX3) (aA HY3) (aA HX4) (aA HY4)).mono ?_;rintro e w1 ⟨s,v,l,f,rfl,h2,h3,h4,h5,h6⟩;have H2:=aB h2;have H3:=aB h3;have H4:=aB h4;have H5:=aB h5;have H6:=aB h6;obtain⟨vo,cap,rfl, -, -, -⟩:=h2.view;have hS1:=hS.below h6;refine hK _ _ (λ_=>hS1) ?_;clear hS hK K h2 h3 h4 h5 h6;iterate 2
  refine bB (v:=?_) rfl (λ_ _ _ h=>h) (by rfl) hS1 ?_ ?_
  rotate_left 1
  .intro wx hwx;clear hwx;go_simp<;>exact rfl
  go_frame
 refine aZ rfl (λK hK=>?_);go_simp
 refine (nI z _ _ _ _ _ _ _ (IntAt.below (w:=w.drew) (aA HZ) (aA H6))).mono ?_;rintro e w2 ⟨rfl,g1,g2⟩;refine hK _ _ (λh=>by cases h) ?_;have F:=aB (show Num w2 z (x+y)/\Kept z w w2 from by
  have hsl:=(aA H2).other g2 (IntAt.below (w:=w.drew) (aA HZ) (aA H6));have hnum:=jL g1 hsl (aA H3) (aA H4);rw[aA H5, <-aA E] at hnum;exact⟨hnum,(Kept.of_below (show Below w.heap.size w w1 from ((Drw.refl w).drew.below _).trans (aA H6))).trans g2 (Or.inl rfl)⟩)
 clear g1 g2 hK K hS1;refine aZ rfl (λK hK=>?_);go_simp
 refine hK _ _ (λh=>by cases h) ?_;clear hK K;refine fA ?_;go_wp2_with fail
 go_ret
 exact⟨rfl,(aA F).1,(aA F).2⟩
theorem IX(z bx by_:Nat)(x y:Int)(s0:Bool)(v0:Value)(w:World)(hz:IntAt w z (.bool s0) v0)(hx:Num w bx x)(hy:Num w by_ y)(dx:Bd x)(dy:Bd y):Calls Tryz.prog 167 #[.pointer (some ⟨z,0,none⟩),.pointer (some ⟨bx,0,none⟩),.pointer (some ⟨by_,0,none⟩)] w λe w'=>e=.returned (.pointer (some ⟨z,0,none⟩))/\Num w' z (x-y)/\Kept z w w':=by
 obtain⟨xn,xv,n,fa,hx1,hx2,hx3,hx4,hx5,hx6⟩:=hx;obtain⟨yn,yv,m,fb,hy1,hy2,hy3,hy4,hy5,hy6⟩:=hy;have c1:=hx1.cell0;have c2:=hx1.cell1;have c3:=hy1.cell0;have c4:=hy1.cell1;have L1:=aB (IP dx hx5 hx3 hx4);have L2:=aB (IP dy hy5 hy3 hy4);have HX2:=aB hx2;have HX3:=aB hx3;have HX4:=aB hx4;have HY2:=aB hy2;have HY3:=aB hy3;have HY4:=aB hy4;have E:=aB (show x-y=cZ xn (val fa n)+cZ (!yn) (val fb m) by rw[hx5,hy5];cases yn<;>simp[cZ]<;>omega);have HZ:=aB hz;obtain⟨ao,capa,rfl, -, -, -⟩:=hx2.view;obtain⟨bo,capb,rfl, -, -, -⟩:=hy2.view;clear hx1 hx2 hx3 hx4 hx5 hx6 hy1 hy2 hy3 hy4 hy5 hy6 hz dx dy;go_enter Tryz.func167,Tryz.ntmps167
 go_wp2_with fail
 refine dF (S:=Two bx by_ (.bool xn) (.slice ao n capa) (.bool yn) (.slice bo m capb))
  [(0,false),(1,false),(2,false),(3,false),(4,false),(5,false),(6,false),(7,false),(8,false),(9,false),(10,false),(11,false),(12,false),(13,false),(14,false),(15,false),(16,false),(17,false),(18,true),(19,false),(20,false),(21,true),(22,true)] [21,22] Yl Yl ?_
 have hS:Two bx by_ (.bool xn) (.slice ao n capa) (.bool yn) (.slice bo m capb) w.drew:=⟨c1,c2,c3,c4⟩;clear c1 c2 c3 c4;iterate 18
  refine bB (v:=?_) rfl (λ_ _ _ h=>h) (by rfl) hS ?_ ?_
  rotate_left 1
  .intro wx hwx;obtain⟨k1,k2,k3,k4⟩:=hwx;go_simp<;>exact rfl
  go_frame
 refine aZ rfl (λK hK=>?_);go_simp
 refine (aAH xn (!yn) _ _ n m fa fb (aA L1) (aA L2) _ (by exact aA HX2) (by exact aA HY2) (aA HX3) (aA HY3) (aA HX4) (aA HY4)).mono ?_;rintro e w1 ⟨s,v,l,f,rfl,h2,h3,h4,h5,h6⟩;have H2:=aB h2;have H3:=aB h3;have H4:=aB h4;have H5:=aB h5;have H6:=aB h6;obtain⟨vo,cap,rfl, -, -, -⟩:=h2.view;have hS1:=hS.below h6;refine hK _ _ (λ_=>hS1) ?_;clear hS hK K h2 h3 h4 h5 h6;iterate 2
  refine bB (v:=?_) rfl (λ_ _ _ h=>h) (by rfl) hS1 ?_ ?_
  rotate_left 1
  .intro wx hwx;clear hwx;go_simp<;>exact rfl
  go_frame
 refine aZ rfl (λK hK=>?_);go_simp
 refine (nI z _ _ _ _ _ _ _ (IntAt.below (w:=w.drew) (aA HZ) (aA H6))).mono ?_;rintro e w2 ⟨rfl,g1,g2⟩;refine hK _ _ (λh=>by cases h) ?_;have F:=aB (show Num w2 z (x-y)/\Kept z w w2 from by
  have hsl:=(aA H2).other g2 (IntAt.below (w:=w.drew) (aA HZ) (aA H6));have hnum:=jL g1 hsl (aA H3) (aA H4);rw[aA H5, <-aA E] at hnum;exact⟨hnum,(Kept.of_below (show Below w.heap.size w w1 from ((Drw.refl w).drew.below _).trans (aA H6))).trans g2 (Or.inl rfl)⟩)
 clear g1 g2 hK K hS1;refine aZ rfl (λK hK=>?_);go_simp
 refine hK _ _ (λh=>by cases h) ?_;clear hK K;refine fA ?_;go_wp2_with fail
 go_ret
 exact⟨rfl,(aA F).1,(aA F).2⟩
def JI(t0 t:Int)(k:Nat):Prop:=t=t0/2^k/\(k=0\/2^(k-1)<=t0)
theorem gI(k:Nat):(0:Int)<2^k:=Int.pow_pos Yc
variable{t0:Int}
theorem XV{t:Int}(h:JI t0 t k)(ht:t≠0)(h0:0<=t0):JI t0 (t/2) (k+1):=by
 obtain⟨h1,h2⟩:=h;refine⟨?_,Or.inr ?_⟩
 .rw[h1,Int.pow_succ,Int.ediv_ediv_of_nonneg (Int.le_of_lt (gI k))]
 .show 2^k<=t0
  rcases Int.lt_or_le t0 (2^k) with h|h
  .exact absurd (h1.trans (Int.ediv_eq_zero_of_lt h0 h)) ht
  .exact h
theorem aCf(h:JI t0 0 k):t0<2^k:=by
 have h1:=h.1;rcases Int.lt_or_le t0 (2^k) with h2|h2
 .exact h2
 .have:1<=t0/2^k:=by rw[Int.le_ediv_iff_mul_le (gI k)];omega
  omega
theorem mZ(n:Nat):(4294967296:Int)^n=2^(32*n):=by
 rw[Int.pow_mul];rfl
theorem YP(ao:Option Addr)(n cap:Nat)(f:Nat->Int)(hn:n<=549755813888)(w:World)(ha:Has w ao n f)(wa:Wd n f)(na:Nm n f):Calls Tryz.prog 208 #[.slice ao n cap] w λe w'=>∃L:Nat,e=.returned (.int .i64 L)/\(n=0->L=0)/\val f n<2^L/\(n≠0->2^L<=2*val f n)/\w'=w:=by
 rcases Nat.eq_zero_or_pos n with h0|h0
 .subst h0;clear ha wa na;go_enter Tryz.func208,Tryz.ntmps208
  go_wp2_with fail
  go_ret
  exact⟨0,rfl,λ_=>rfl,(show (0:Int)<2^0 by decide),λh=>absurd rfl h,rfl⟩
 .obtain⟨m,rfl⟩:∃m,n=m+1:=⟨n-1,Yo⟩;obtain⟨b,rfl,hb,hr⟩:=ha h0;have hc:=hr m Yo;obtain⟨t0,t1⟩:=wa m Yo;have htop:f m≠0:=by rcases na with h|h;exact absurd h Yo;exact h
  have WA:=aB wa;have HT:=aB htop;have t:((m:Int)+1==0)=false:=by simp;omega
  clear wa na hr ha htop;go_enter Tryz.func208,Tryz.ntmps208
  go_wp2_with fail
  go_loop [3,4] (λns ts=>∃(k:Nat) (t:Int),ns=.int .i64 k/\ts=.int .u32 t/\k<=32/\0<=t/\t<=f m/\JI (f m) t k) (λ_ ts=>(intOf ts).toNat)
  case atStart=>exact⟨0,f m,rfl,rfl,by decide,t0,Int.le_refl _,by show f m=f m/1;omega,Or.inl rfl⟩
  case round=>
   obtain⟨k,t,rfl,rfl,hk,ht0,ht1,hh⟩:=hrel;have HH:=aB hh;clear hh;by_cases hz:t=0
   .subst hz;have F:=aB (show val f (m+1)<2^(32*m+k)/\(2:Int)^(32*m+k)<=2*val f (m+1) from by
     have h1:=aCf (aA HH);have h2:=(aA HH).2;have h3:=dH ((aA WA).less (show m<=m+1 by omega));have hp:=pow_pos m;rw[Int.pow_add, <-mZ];have e:val f (m+1)=val f m+f m*4294967296^m:=rfl;rw[e];constructor
     .have:=Int.mul_le_mul_of_nonneg_right (show f m+1<=2^k by omega) (Int.le_of_lt hp);rw[Int.add_mul,Int.one_mul] at this;rw[Int.mul_comm (4294967296^m)];omega
     .rcases h2 with h2|h2
      .subst h2;have:f m≠0:=aA HT;have e0:f m<1:=h1;omega
      .have h4:(2:Int)^k<=2*f m:=by
        rcases Nat.eq_zero_or_pos k with h5|h5
        .subst h5;have:(1:Int)<=f m:=by have:=aA HT;omega
         show (1:Int)<=2*f m
         omega
        .obtain⟨j,rfl⟩:∃j,k=j+1:=⟨k-1,Yo⟩;have e3:(2:Int)^(j+1-1)=2^j:=rfl;rw[e3] at h2;rw[Int.pow_succ];omega
       have:=Int.mul_le_mul_of_nonneg_right h4 (Int.le_of_lt hp);rw[Int.mul_assoc] at this;rw[Int.mul_comm (4294967296^m)];omega)
    go_wp2_with fail
    go_ret
    exact⟨32*m+k,congrArg (λz=>Ending.returned (Value.int .i64 z)) Yo,(aA F).1,(aA F).2,rfl⟩
   .have tz:(t !=0)=true:=by simpa using hz
    have HN:=aB (XV (aA HH) hz t0);have hk2:k<32:=by
     rcases Nat.lt_or_ge k 32 with h|h
     .exact h
     .have:k=32:=Yo;subst this;have h1:=(aA HH).1;have:f m/2^32=0:=Int.ediv_eq_zero_of_lt t0 t1;omega
    clear hz;go_wp2_with fail
    go_round
    case rel=>exact⟨k+1,_,by go_num,rfl,Yo,Yo,Yo,aA HN⟩
    case measure=>simp[intOf];have:=tz;simp at this;omega
theorem BH(va:Value)(n:Nat)(f:Nat->Int)(hn:n<=549755813888)(w:World)(ha:Sl w va n f)(wa:Wd n f)(na:Nm n f):Calls Tryz.prog 208 #[va] w λe w'=>∃L:Nat,e=.returned (.int .i64 L)/\(n=0->L=0)/\val f n<2^L/\(n≠0->2^L<=2*val f n)/\w'=w:=by
 obtain⟨ao,capa,rfl, -, -,ha⟩:=ha.view;exact YP ao n capa f hn w ha wa na
theorem Int.mul_add_ediv_left'(x y:Int){c:Int}(hc:0<c)(h0:0<=y)(h1:y<c):(c*x+y)/c=x:=oQ hc Yo Yo
theorem nX(f:Nat->Int):∀(q d:Nat),val f (q+d)=val f q+4294967296^q*val (λi=>f (q+i)) d
 |q,0=>by show val f q=val f q+4294967296^q*0;omega
 |q,d+1=>by
  show val f (q+d)+f (q+d)*4294967296^(q+d)=val f q+4294967296^q*(val (λi=>f (q+i)) d+f (q+d)*4294967296^d)
  rw[nX f q d,Int.pow_add,Int.mul_add, <-Int.mul_assoc,Int.mul_comm (f (q+d)),Int.mul_assoc (4294967296^q),Int.add_assoc]
theorem aJl{i:Nat}(hw:Wd n f)(hi:i/32<n):val f n/2^i%2=f (i/32)/2^(i%32)%2:=by
 obtain⟨d,rfl⟩:∃d,n=i/32+(d+1):=⟨n-i/32-1,Yo⟩;generalize hq:i/32=q at*;generalize hr:i%32=r at*;have hi2:i=32*q+r:=Yo;rw[nX];have e1:val (λi=>f (q+i)) (d+1)=f q+4294967296*val (λi=>f (q+(i+1))) d:=by
  have:=nX (λi=>f (q+i)) 1 d;rw[show 1+d=d+1 by omega] at this;rw[this];have e0:val (λi=>f (q+i)) 1=f q:=by show 0+f (q+0)*4294967296^0=f q;simp
  rw[e0];have e2:(λi=>(λi=>f (q+i)) (1+i))=λi=>f (q+(i+1)):=by funext j;show f (q+(1+j))=_;rw[Nat.add_comm 1 j]
  rw[e2];rfl
 rw[e1];obtain⟨v0,v1⟩:=dH (hw.less (show q<=q+(d+1) by omega));rw[hi2,Int.pow_add, <-mZ, <-Int.ediv_ediv_of_nonneg (Int.le_of_lt (pow_pos q)),Int.add_comm (val f q),Int.mul_add_ediv_left' _ _ (pow_pos q) v0 v1];have h32:(4294967296:Int)=2^r*2^(32-r):=by rw[<-Int.pow_add,show r+(32-r)=32 by omega];rfl
 rw[h32,Int.mul_assoc,Int.add_mul_ediv_left _ _ (by have:=gI r;omega)];have h33:(2:Int)^(32-r)=2*2^(31-r):=by rw[show 32-r=(31-r)+1 by omega,Int.pow_succ,Int.mul_comm]
 rw[h33,Int.mul_assoc];omega
theorem aJJ(b n cap i:Nat)(f:Nat->Int)(hn:n<=549755813888)(w:World)(hr:Row w b n f)(wa:Wd n f)(hi:i/32<n):Calls Tryz.prog 224 #[.slice (some ⟨b,0,none⟩) n cap,.int .i64 i] w λe w'=>e=.returned (.int .u64 (val f n/2^i%2))/\w'=w:=by
 have hc:=hr (i/32) hi;obtain⟨t0,t1⟩:=wa (i/32) hi;have E:=aB (aJl wa hi);have hp:=gI (i%32);have q0:0<=f (i/32)/2^(i%32):=Int.ediv_nonneg t0 (Int.le_of_lt hp);have q1:f (i/32)/2^(i%32)<=f (i/32):=Int.ediv_le_self _ t0;have EA:=aB (show bits .and .u64 (f (i/32)/2^(i%32)) 1=f (i/32)/2^(i%32)%2 from by
  rw[u64_and _ _ q0 Yo Yo Yo];rw[show (1:Int).toNat=1 from rfl,nat_mask1];omega)
 clear hr wa hp;go_enter Tryz.func224,Tryz.ntmps224
 go_wp2_with fail
 go_ret
 exact⟨by rw[aA E, <-aA EA];rfl,rfl⟩
variable{v:Int}
theorem aDT(h:v%2^k=0)(h2:v/2^k%2=0):v%2^(k+1)=0:=by
 have e1:2^k*(v/2^k)+v%2^k=v:=Int.mul_ediv_add_emod v (2^k);have e2:2*(v/2^k/2)+v/2^k%2=v/2^k:=Int.mul_ediv_add_emod _ 2;rw[h,h2] at*;have e3:v=2^(k+1)*(v/2^k/2):=by
  rw[Int.pow_succ,Int.mul_assoc];rw[show 2*(v/2^k/2)=v/2^k by omega];omega
 rw[e3];exact Int.mul_emod_right _ _
theorem T9(h:v%2^k=0)(h0:0<v):2^k<=v:=by
 rcases Int.lt_or_le v (2^k) with h1|h1
 .rw[Int.emod_eq_of_lt Yo h1] at h;omega
 .exact h1
theorem WR{m:Nat}(h:(2:Int)^k<2^m):k<m:=by
 rcases Nat.lt_or_ge k m with h1|h1
 .exact h1
 .obtain⟨d,rfl⟩:∃d,k=m+d:=⟨k-m,Yo⟩;rw[Int.pow_add] at h;have:=Int.mul_le_mul_of_nonneg_left (show 1<=(2:Int)^d from gI d) (Int.le_of_lt (gI m));omega
theorem UK(b bv n cap:Nat)(s:Value)(f:Nat->Int)(hn:n<=1000)(h0:n≠0)(w:World)(hi:IntAt w b s (.slice (some ⟨bv,0,none⟩) n cap))(hr:Row w bv n f)(wa:Wd n f)(na:Nm n f):Calls Tryz.prog 210 #[.pointer (some ⟨b,0,none⟩)] w λe w'=>∃k:Nat,e=.returned (.int .u64 k)/\k<32*n/\val f n%2^k=0/\val f n/2^k%2=1/\w'=w:=by
 have c1:=hi.cell1;have hpos:=wO wa na h0;have hlt:=(dH wa).2;rw[mZ] at hlt;have HP:=aB hpos;have HL:=aB hlt;have HR:=aB hr;have WA:=aB wa;have t:((n:Int)==0)=false:=by simp;omega
 clear hi hr wa na hpos hlt h0;go_enter Tryz.func210,Tryz.ntmps210
 go_wp2_with fail
 go_loopw [3] (λns wr=>∃k:Nat,ns=.int .u64 k/\k<32*n/\val f n%2^k=0/\wr=w) (λns _=>32*n-(intOf ns).toNat)
 case atStart=>exact⟨0,rfl,WR (Int.lt_of_le_of_lt (show (2:Int)^0<=val f n from aA HP) (aA HL)),by show _%1=0;omega,rfl⟩
 case round=>
  obtain⟨k,rfl,hk,hm,rfl⟩:=hrel;have HM:=aB hm;clear hm;go_wp2_with fail
  refine (aJJ bv n cap k f Yo _ (aA HR) (aA WA) Yo).mono ?_;rintro e w1 ⟨rfl,rfl⟩;rcases Int.emod_two_eq (val f n/2^k) with h|h
  .have HN:=aB (aDT (aA HM) h);have hk2:Hid (k+1<32*n):=WR (Int.lt_of_le_of_lt (T9 (aA HN) (aA HP)) (aA HL));rw[h];clear h;go_wp2_with fail
   go_roundw
   case rel=>exact⟨k+1,by go_num,aA hk2,aA HN,trivial⟩
   case measure=>simp[intOf];omega
  .have HH:=aB h;rw[h];clear h;go_wp2_with fail
   go_ret
   exact⟨k,rfl,hk,aA HM,aA HH,rfl⟩
theorem jF{m:Nat}(h:k<=m):(2:Int)^k<=2^m:=by
 obtain⟨d,rfl⟩:∃d,m=k+d:=⟨m-k,Yo⟩;rw[Int.pow_add];have:=Int.mul_le_mul_of_nonneg_left (show 1<=(2:Int)^d from gI d) (Int.le_of_lt (gI k));omega
theorem BQ(h:¬R64 x):gK x=true:=by
 cases hx:gK x
 .exact absurd (XR hx) h
 .rfl
theorem aJS(h1:v%2^k=0)(h2:v/2^k%2=1)(h3:9223372036854775808<=v)(h4:v<18446744073709551616):(((k:Nat):Int)==63)=decide (v=9223372036854775808):=by
 by_cases hk:k=63
 .subst hk;have e:(2:Int)^63=9223372036854775808:=by decide
  rw[e] at h1 h2;rw[Xt Yo];rfl
 .have hne:((k:Int)==63)=false:=by simp;omega
  rw[hne]
  symm
  apply Xf;intro hv;subst hv;rcases Nat.lt_or_ge k 63 with h|h
  .obtain⟨d,hd⟩:∃d,63=k+(d+1):=⟨62-k,Yo⟩;have e:(9223372036854775808:Int)=2^k*(2^d*2):=by
    rw[<-Int.pow_succ, <-Int.pow_add, <-hd];decide
   rw[e,Int.mul_ediv_cancel_left _ (by have:=gI k;omega)] at h2;omega
  .have:=T9 h1 Yc;have h64:=jF (show 64<=k by omega);have e:(2:Int)^64=18446744073709551616:=by decide
   omega
theorem YT(b:Nat)(x:Int)(w:World)(hx:Num w b x)(dx:Bd x):Calls Tryz.prog 190 #[.pointer (some ⟨b,0,none⟩)] w λe w'=>e=.returned (.bool (!gK x))/\w'=w:=by
 obtain⟨neg,v,n,f,h1,h2,h3,h4,h5,h6⟩:=hx;have hn:n<=100:=by
  unfold Bd at dx;rw[h5,kI (dH h3).1] at dx;exact mD h3 h4 dx
 have c0:=h1.cell0;have c1:=h1.cell1;have H1:=aB h1;have H2:=aB h2;have H3:=aB h3;have H4:=aB h4;have H5:=aB h5;obtain⟨ao,cap,rfl, -, -, -⟩:=h2.view;clear h1 h2 h3 h4 h5 h6 dx;go_enter Tryz.func190,Tryz.ntmps190
 go_wp2_with fail
 refine (BH _ n f Yo _ (aA H2) (aA H3) (aA H4)).mono ?_;rintro e w1 ⟨L,rfl,l0,l1,l2,rfl⟩;have v0:=(dH (aA H3)).1;rcases Nat.lt_trichotomy L 64 with hL|hL|hL
 .have E:=aB (show gK x=false from by
   apply sF;have:=jF (show L<=63 by omega);have e:(2:Int)^63=9223372036854775808:=by decide
   rw[aA H5];unfold R64 cZ
   cases neg
   .rw[if_neg Yc];omega
   .rw[if_pos rfl];omega)
  clear l0 l1 l2 v0;go_wp2_with fail
  go_ret
  exact⟨by rw[aA E];rfl,rfl⟩
 .subst hL;have hn0:n≠0:=λh=>absurd (l0 h) Yc
  have l3:=l2 hn0;have e64:(2:Int)^64=18446744073709551616:=by decide
  rw[e64] at l1 l3
  cases neg
  .have E:=aB (show gK x=true from by
    rw[aA H5];exact xA (z:=val f n) Yo)
   clear l0 l1 l2 l3 v0 e64 hn0;go_wp2_with fail
   go_ret
   exact⟨by rw[aA E];rfl,rfl⟩
  .have hsl:=aA H2;rcases hsl with ⟨-,h⟩|⟨bv,cap',hv, -, -, -,hr⟩
   .exact absurd h hn0
   .obtain⟨rfl,rfl⟩:ao=some ⟨bv,0,none⟩/\cap=cap':=by cases hv;exact⟨rfl,rfl⟩
    have HR:=aB hr;have L1:=aB l1;have L3:=aB l3;have HN0:=aB hn0;clear l0 l1 l2 l3 v0 e64 hn0 hr hv;go_wp2_with fail
    refine (UK b bv n cap (.bool true) f Yo (aA HN0) _ (aA H1) (aA HR) (aA H3) (aA H4)).mono ?_;rintro e w2 ⟨k,rfl,k0,k1,k2,rfl⟩;have E:=aB (aJS k1 k2 (by have:=aA L3;omega) (aA L1));have EB:=aB (show gK x= !decide (val f n=9223372036854775808) from by
     have h3':=aA L3;rw[aA H5];show gK (-val f n)=_
     by_cases h:val f n=9223372036854775808
     .rw[Xt h,h];decide
     .rw[Xf h,uD (z:= -val f n) Yo];rfl)
    clear k1 k2
    cases hd:decide (val f n=9223372036854775808)
    .have t:((k:Int)==63)=false:=(aA E).trans hd;have HD:=aB hd;clear hd;go_wp2_with fail
     go_ret
     exact⟨by rw[aA EB,aA HD];rfl,rfl⟩
    .have t:((k:Int)==63)=true:=(aA E).trans hd;have HD:=aB hd;clear hd;go_wp2_with fail
     go_ret
     exact⟨by rw[aA EB,aA HD];rfl,rfl⟩
 .have hn0:n≠0:=λh=>absurd (l0 h) Yo
  have l3:=l2 hn0;have E:=aB (show gK x=true from by
   have:=jF (show 65<=L by omega);have e:(2:Int)^65=36893488147419103232:=by decide
   apply BQ;rw[aA H5];unfold R64 cZ
   cases neg
   .rw[if_neg Yc];omega
   .rw[if_pos rfl];omega)
  clear l0 l1 l2 l3 v0 hn0;have t:((L:Int)==64)=false:=by simp;omega
  go_wp2_with fail
  go_ret
  exact⟨by rw[aA E];exact congrArg (λb=>Ending.returned (Value.bool b)) (Xf Yo),rfl⟩
theorem I9(x y:Int)(x0:0<=x)(x1:x<4294967296)(y0:0<=y)(y1:y<4294967296):bits .or .u64 y (x*4294967296)=x*4294967296+y:=by
 rw[<-vN x y x0 x1 y0 y1];rw[u64_or _ _ y0 Yo Yo Yo,u64_or _ _ Yo Yo y0 Yo,Nat.or_comm]
theorem OJ(b:Nat)(x:Int)(w:World)(hx:Num w b x)(rx:R64 x):Calls Tryz.prog 85 #[.pointer (some ⟨b,0,none⟩)] w λe w'=>e=.returned (.int .i64 x)/\w'=w:=by
 obtain⟨neg,v,n,f,h1,h2,h3,h4,h5,h6⟩:=hx;have v0:=(dH h3).1;have habs:val f n<=9223372036854775808/\(neg=false->val f n<=9223372036854775807):=by
  unfold R64 at rx;rw[h5] at rx;unfold cZ at rx
  cases neg
  .rw[if_neg Yc] at rx;exact⟨Yo,λ_=>by omega⟩
  .rw[if_pos rfl] at rx;exact⟨Yo,λh=>by cases h⟩
 have hn:n<=2:=by
  apply mD h3 h4;show val f n<18446744073709551616
  omega
 have c0:=h1.cell0;have c1:=h1.cell1;have H5:=aB h5;rcases (show n=0\/n=1\/n=2 by omega) with rfl|rfl|rfl
 .have hv:x=0:=by rw[h5,h6 rfl];rfl
  have hneg:=h6 rfl;subst hneg;have HV:=aB hv;obtain⟨ao,cap,rfl, -, -, -⟩:=h2.view;clear h1 h2 h3 h4 h5 h6 hv habs v0 rx;go_enter Tryz.func85,Tryz.ntmps85
  go_wp2
  go_ret
  exact⟨by rw[aA HV];rfl,rfl⟩
 .have ev:val f 1=f 0:=by show 0+f 0*4294967296^0=f 0;simp
  rw[ev] at habs;obtain⟨t0,t1⟩:=h3 0 Yo;rcases h2 with ⟨-,h⟩|⟨bv,cap,rfl, -, -, -,hr⟩
  .cases h
  have k0:=hr 0 Yo
  cases neg
  .have HV:=aB (show x=f 0 by rw[h5,ev];rfl);clear h1 h3 h4 h5 h6 habs v0 rx hr ev;go_enter Tryz.func85,Tryz.ntmps85
   go_wp2
   go_ret
   exact⟨by rw[aA HV];rfl,rfl⟩
  .have HV:=aB (show x= -f 0 by rw[h5,ev];rfl);clear h1 h3 h4 h5 h6 habs v0 rx hr ev;go_enter Tryz.func85,Tryz.ntmps85
   go_wp2
   go_ret
   exact⟨by rw[aA HV];rfl,rfl⟩
 .have ev:val f 2=f 0+f 1*4294967296:=by show 0+f 0*4294967296^0+f 1*4294967296^1=_;simp
  rw[ev] at habs;obtain⟨t0,t1⟩:=h3 0 Yo;obtain⟨t2,t3⟩:=h3 1 Yo;rcases h2 with ⟨-,h⟩|⟨bv,cap,rfl, -, -, -,hr⟩
  .cases h
  have k0:=hr 0 Yo;have k1:=hr 1 Yo;have eo:=I9 (f 1) (f 0) t2 t3 t0 t1;obtain⟨u,eu⟩:∃u,f 0+f 1*4294967296=u:=⟨_,rfl⟩;rw[show f 1*4294967296+f 0=u by omega] at eo;rw[eu] at habs;have u0:0<=u:=Yo
  cases neg
  .have HV:=aB (show x=u by rw[h5,ev,eu];rfl);have u1:=habs.2 rfl;clear h1 h3 h4 h5 h6 habs v0 rx hr ev eu;go_enter Tryz.func85,Tryz.ntmps85
   go_wp2
   go_ret
   exact⟨by rw[aA HV];rfl,rfl⟩
  .have HV:=aB (show x=wrap64 (-wrap64 u) by rw[h5,ev,eu];show -u=_;unfold wrap64;have:=habs.1;omega);have u1:=habs.1;clear h1 h3 h4 h5 h6 habs v0 rx hr ev eu;go_enter Tryz.func85,Tryz.ntmps85
   go_wp2
   go_ret
   exact⟨by rw[aA HV];rfl,rfl⟩
theorem TR(b:Nat)(x:Int)(w:World)(hx:Num w b x):Calls Tryz.prog 191 #[.pointer (some ⟨b,0,none⟩)] w λe w'=>e=.returned (.int .i64 (pF x 0))/\w'=w:=by
 obtain⟨neg,v,n,f,h1,h2,h3,h4,h5,h6⟩:=hx;have c0:=h1.cell0;have c1:=h1.cell1;obtain⟨ao,cap,rfl, -, -, -⟩:=h2.view;rcases Nat.eq_zero_or_pos n with h0|h0
 .subst h0;have E:=aB (ZZ (show x=0 by rw[h5,h6 rfl];rfl));clear h1 h2 h3 h4 h5 h6;go_enter Tryz.func191,Tryz.ntmps191
  go_wp2
  go_ret
  exact⟨by rw[aA E];rfl,rfl⟩
 .have t:((n:Int)==0)=false:=by simp;omega
  have hp:=wO h3 h4 Yo
  cases neg
  .have E:=aB (CJ (show 0<x by rw[h5];exact hp));clear h1 h2 h3 h4 h5 h6 hp;go_enter Tryz.func191,Tryz.ntmps191
   go_wp2
   go_ret
   exact⟨by rw[aA E];rfl,rfl⟩
  .have E:=aB (zF (show x<0 by rw[h5];show -val f n<0;omega));clear h1 h2 h3 h4 h5 h6 hp;go_enter Tryz.func191,Tryz.ntmps191
   go_wp2
   go_ret
   exact⟨by rw[aA E];rfl,rfl⟩
theorem rE(b:Nat)(x:Int)(w:World)(hx:Num w b x)(dx:Bd x):Calls Tryz.prog 168 #[.pointer (some ⟨b,0,none⟩)] w λe w'=>e=.returned (.tuple #[.int .i64 (gM x),.bool (gK x)])/\w'=w:=by
 have HX:=aB hx;have DX:=aB dx;clear hx dx;go_enter Tryz.func168,Tryz.ntmps168
 go_wp2_with fail
 refine (YT b x _ (aA HX) (aA DX)).mono ?_;rintro e w1 ⟨rfl,rfl⟩;by_cases h:R64 x
 .rw[sF h];have E:=aB (vE h);have HR:=aB h;have hx1:=h.1;have hx2:=h.2;clear h;go_wp2_with fail
  refine (OJ b x _ (aA HX) (aA HR)).mono ?_;rintro e w2 ⟨rfl,rfl⟩;go_wp2_with fail
  go_ret2
  exact⟨by rw[aA E,sF (aA HR)];rfl,rfl⟩
 .rw[BQ h];have EB:=aB (BQ h);by_cases hp:0<x
  .have E:=aB (vO (show 9223372036854775807<x by unfold R64 at h;omega));have EC:=aB (CJ hp);clear h;go_wp2_with fail
   refine (TR b x _ (aA HX)).mono ?_;rintro e w2 ⟨rfl,rfl⟩;rw[aA EC];go_wp2_with fail
   go_ret2
   exact⟨by rw[aA E,aA EB];rfl,rfl⟩
  .have E:=aB (rD (show x< -9223372036854775808 by unfold R64 at h;omega));have EC:=aB (zF (show x<0 by unfold R64 at h;omega));clear h hp;go_wp2_with fail
   refine (TR b x _ (aA HX)).mono ?_;rintro e w2 ⟨rfl,rfl⟩;rw[aA EC];go_wp2_with fail
   go_ret2
   exact⟨by rw[aA E,aA EB];rfl,rfl⟩
theorem uY(h:absZ x<4294967296^k)(hk:k<=100):Bd x:=by
 unfold Bd;obtain⟨d,hd⟩:∃d,100=k+d:=⟨100-k,Yo⟩;rw[hd,Int.pow_add];have:=Int.mul_le_mul_of_nonneg_left (show 1<=(4294967296:Int)^d from pow_pos d) (Int.le_of_lt (pow_pos k));omega
theorem qY(h:R64 x):Bd x:=uY (k:=2) (by have:=iY h;show _<(18446744073709551616:Int);omega) Yc
theorem Q7(x y:Int):absZ (x+y)<=absZ x+absZ y:=by unfold absZ;split<;>split<;>split<;>omega
theorem UY(x y:Int):absZ (x-y)<=absZ x+absZ y:=by unfold absZ;split<;>split<;>split<;>omega
theorem eB{B:Nat}{a b c:World}(h:Below B a b)(k:Below b.heap.size b c)(hB:B<=b.heap.size):Below B a c:=h.trans (k.mono hB)
theorem jE{w1 w2:World}{z:Nat}(h:Below w.heap.size w w1)(k:Kept z w1 w2)(hz:w.heap.size<=z):Below w.heap.size w w2:=
 ((Kept.of_below (z:=z) h).trans k (Or.inl rfl)).below hz
theorem aBB(a b:Int)(ha:R64 a)(hb:R64 b)(w:World):Calls Tryz.prog 143 #[.int .i64 a,.int .i64 b] w λe w'=>e=.returned (.tuple #[.int .i64 (gM (a+b)),.bool (gK (a+b))])/\Below w.heap.size w w':=by
 have HA:=aB ha;have HB:=aB hb;have D:=aB (show Bd (a+b) from uY (k:=3) (by have h1:=iY ha;have h2:=iY hb;have h3:=Q7 a b;show _<(79228162514264337593543950336:Int);omega) Yc);clear ha hb;go_enter Tryz.func143,Tryz.ntmps143
 go_wp2_with fail
 refine (jI a (aA HA) _).mono ?_;rintro e w1 ⟨b1,rfl,hb1,n1,k1⟩;have N1:=aB n1;have K1:=aB k1;clear n1 k1 hb1;go_wp2_with fail
 refine (jI b (aA HB) _).mono ?_;rintro e w2 ⟨b2,rfl,hb2,n2,k2⟩;have N2:=aB n2;have K2:=aB k2;clear n2 k2 hb2;have HW:=aB (show Below w.heap.size w w2 from by
  have h1:=eB (eO w _) (aA K1) (by simp);exact eB h1 (aA K2) h1.size)
 go_wp2_with fail
 refine (qP w.heap.size b1 b2 a b _ _ _ (((jS w).below (aA K1)).below (aA K2)) ((aA N1).below (aA K2)) (aA N2) (qY (aA HA)) (qY (aA HB))).mono ?_;rintro e w3 ⟨rfl,n3,k3⟩;have N3:=aB n3;have HW3:=aB (jE (aA HW) k3 (Xr _));clear n3 k3;go_wp2_with fail
 refine (rE _ _ _ (aA N3) (aA D)).mono ?_;rintro e w4 ⟨rfl,rfl⟩;go_wp2_with fail
 go_ret2
 exact⟨rfl,aA HW3⟩
theorem aBY(a b:Int)(ha:R64 a)(hb:R64 b)(w:World):Calls Tryz.prog 141 #[.int .i64 a,.int .i64 b] w λe w'=>e=.returned (.tuple #[.int .i64 (gM (a-b)),.bool (gK (a-b))])/\Below w.heap.size w w':=by
 have HA:=aB ha;have HB:=aB hb;have D:=aB (show Bd (a-b) from uY (k:=3) (by have h1:=iY ha;have h2:=iY hb;have h3:=UY a b;show _<(79228162514264337593543950336:Int);omega) Yc);clear ha hb;go_enter Tryz.func141,Tryz.ntmps141
 go_wp2_with fail
 refine (jI a (aA HA) _).mono ?_;rintro e w1 ⟨b1,rfl,hb1,n1,k1⟩;have N1:=aB n1;have K1:=aB k1;clear n1 k1 hb1;go_wp2_with fail
 refine (jI b (aA HB) _).mono ?_;rintro e w2 ⟨b2,rfl,hb2,n2,k2⟩;have N2:=aB n2;have K2:=aB k2;clear n2 k2 hb2;have HW:=aB (show Below w.heap.size w w2 from by
  have h1:=eB (eO w _) (aA K1) (by simp);exact eB h1 (aA K2) h1.size)
 go_wp2_with fail
 refine (IX w.heap.size b1 b2 a b _ _ _ (((jS w).below (aA K1)).below (aA K2)) ((aA N1).below (aA K2)) (aA N2) (qY (aA HA)) (qY (aA HB))).mono ?_;rintro e w3 ⟨rfl,n3,k3⟩;have N3:=aB n3;have HW3:=aB (jE (aA HW) k3 (Xr _));clear n3 k3;go_wp2_with fail
 refine (rE _ _ _ (aA N3) (aA D)).mono ?_;rintro e w4 ⟨rfl,rfl⟩;go_wp2_with fail
 go_ret2
 exact⟨rfl,aA HW3⟩
end Go.Proofs.YthimcecbgpamdaaGreat
