import Derived.Test.YthimcecbgpamdaaGreatNear107
set_option maxHeartbeats 1000000
namespace Go.Proofs.YthimcecbgpamdaaGreat
open Go.RowKit
theorem VS(x y:Int)(s:Nat)(hs:s<=32)(x0:0<=x)(x1:x<2^s)(y0:0<=y)(y1:y<4294967296)(hy:y%2^s=0):bits .or .u32 x y=x+y/\x+y<4294967296:=by
 obtain⟨x,rfl⟩:=Int.eq_ofNat_of_zero_le x0;obtain⟨y,rfl⟩:=Int.eq_ofNat_of_zero_le y0;have c:((2:Int)^s)=((2^s:Nat):Int):=by simp
 rw[c] at x1 hy;have x2:x<2^s:=Yo;have y2:y%2^s=0:=Yo;have h32:2^s*2^(32-s)=4294967296:=by rw[<-Nat.pow_add,show s+(32-s)=32 by omega]
 have hsum:x+y<4294967296:=by
  have e:2^s*(y/2^s)+y%2^s=y:=Nat.div_add_mod y (2^s);have hlt:y/2^s<2^(32-s):=by
   rw[Nat.div_lt_iff_lt_mul (Nat.two_pow_pos s),Nat.mul_comm,h32];omega
  have:=Nat.mul_le_mul_left (2^s) (show y/2^s+1<=2^(32-s) from hlt);rw[h32,Nat.mul_add,Nat.mul_one] at this;omega
 have hle:2^s<=4294967296:=by rw[<-h32];exact Nat.le_mul_of_pos_right _ (Nat.two_pow_pos _)
 have h:=u32_or_nat x y Yo Yo;rw[Nat.or_comm,nat_join s y x y2 x2] at h;refine⟨by rw[h];omega,Yo⟩
theorem aCG {fa g : Nat -> Int} {k ww s : Nat} (hs : s < 32) (hw : ∀ j, 0 <= g j /\ g j < 4294967296) (hc : g (k + ww) < 2 ^ s) (hz : ∀ j, k + ww < j -> g j = 0) (h : val g (k + ww + 1) = val fa k * 2 ^ s * 4294967296 ^ ww) (a0 : 0 <= fa k) (a1 : fa k < 4294967296) : let x := fa k * 2 ^ s
  bits .or .u32 (g (k+ww)) (x%4294967296)=g (k+ww)+x%4294967296/\bits .or .u32 (g (k+ww+1)) (x/4294967296)=x/4294967296/\
  (∀j,0<=upd (upd g (k+ww) (g (k+ww)+x%4294967296)) (k+ww+1) (x/4294967296) j/\upd (upd g (k+ww) (g (k+ww)+x%4294967296)) (k+ww+1) (x/4294967296) j<4294967296)/\
  upd (upd g (k+ww) (g (k+ww)+x%4294967296)) (k+ww+1) (x/4294967296) (k+1+ww)<2^s/\
  (∀j,k+1+ww<j->upd (upd g (k+ww) (g (k+ww)+x%4294967296)) (k+ww+1) (x/4294967296) j=0)/\
  val (upd (upd g (k+ww) (g (k+ww)+x%4294967296)) (k+ww+1) (x/4294967296)) (k+1+ww+1)=val fa (k+1)*2^s*4294967296^ww:=by
 intro x;have hp:=gI s;have x0:0<=x:=Int.mul_nonneg a0 (Int.le_of_lt hp);have h32:(2:Int)^s*2^(32-s)=4294967296:=by rw[<-Int.pow_add,show s+(32-s)=32 by omega];rfl
 have hq:=gI (32-s);have hi1:x/4294967296<2^s:=by
  rw[Int.ediv_lt_iff_lt_mul Yc];have:=Int.mul_lt_mul_of_pos_right a1 hp;rw[Int.mul_comm (2^s)];exact this
 have hi0:0<=x/4294967296:=Yo;have hs32:(2:Int)^s<=4294967296:=by
  have:=Int.mul_le_mul_of_nonneg_left (show 1<=(2:Int)^(32-s) from hq) (Int.le_of_lt hp);omega
 have hlo:x%4294967296%2^s=0:=by
  have hd:(2^s:Int)∣4294967296:=⟨_,h32.symm⟩;rw[Int.emod_emod_of_dvd _ hd];exact Int.mul_emod_left _ _
 obtain⟨j1,j2⟩:=VS (g (k+ww)) (x%4294967296) s Yo (hw _).1 hc Yo Yo hlo;have hz1:g (k+ww+1)=0:=hz _ Yo;have j3:=(VS 0 (x/4294967296) 0 Yo Yo Yc hi0 Yo Yo).1;refine⟨j1,by rw[hz1,j3];omega,?_,?_,?_,?_⟩
 .intro j;unfold upd;split
  .exact⟨hi0,Yo⟩
  .split
   .exact⟨by have:=(hw (k+ww)).1;omega,j2⟩
   .exact hw j
 .rw[show k+1+ww=k+ww+1 by omega,J8];exact hi1
 .intro j hj;rw[iE _ _ Yo,iE _ _ Yo];exact hz j Yo
 .rw[show k+1+ww+1=k+ww+1+1 by omega,mX,mX];have e1:val g (k+ww+1)=val g (k+ww)+g (k+ww)*4294967296^(k+ww):=rfl;have e2:val fa (k+1)=val fa k+fa k*4294967296^k:=rfl;have e3:x%4294967296*4294967296^(k+ww)+x/4294967296*4294967296^(k+ww+1)=x*4294967296^(k+ww):=by
   rw[Int.pow_succ,Int.mul_comm (4294967296^(k+ww)) 4294967296, <-Int.mul_assoc, <-Int.add_mul]
   congr 1;omega
  have e4:fa k*4294967296^k*2^s*4294967296^ww=x*4294967296^(k+ww):=by
   show _=fa k*2^s*4294967296^(k+ww)
   rw[Int.pow_add,Int.mul_right_comm (fa k),Int.mul_assoc]
  have e5:(val fa k+fa k*4294967296^k)*2^s*4294967296^ww=val fa k*2^s*4294967296^ww+fa k*4294967296^k*2^s*4294967296^ww:=by rw[Int.add_mul,Int.add_mul]
  rw[e2,e5, <-h,e1,e4,Int.add_mul];omega
theorem aCU(ao:Option Addr)(n cap ww s:Nat)(fa:Nat->Int)(h0:0<n)(hn:n<=100000)(hww:ww<=100000)(hs:s<32)(w:World)(ha:Has w ao n fa)(wa:Wd n fa):Calls Tryz.prog 193 #[.slice ao n cap,.int .u64 ((32*ww+s:Nat):Int)] w λe w'=>∃(v:Value) (l:Nat) (f:Nat->Int),e=.returned v/\Sl w' v l f/\Wd l f/\Nm l f/\val f l=val fa n*2^s*4294967296^ww/\Below w.heap.size w w':=by
 have hmk:=λwx=>run_make_row' (P:=Tryz.prog) 168 200 (.int .u32 0) 4 Tryz.underlying168 Tryz.infoU32 rfl .i64 .i64 (n+ww+1) Yo Yo wx
 rw[show ((n+ww+1:Nat):Int)=(n:Int)+(ww:Int)+1 by omega] at hmk;obtain⟨p,ep⟩:∃p:Int,((32*ww+s:Nat):Int)=p:=⟨_,rfl⟩;have e1:p/32=(ww:Int):=Yo;have e2:p%32=(s:Int):=Yo;have p0:0<=p:=Yo;have p1:p<4000000:=Yo;rw[ep];have t:((n:Int)==0)=false:=by simp;omega
 have HA:=aB ha;have WA:=aB wa;clear ha wa ep;go_enter Tryz.func193,Tryz.ntmps193
 go_wp2_with fail
 clear hmk e1
 go_loopw [8] (λis wr=>∃(k:Nat) (g:Nat->Int),is=.int .i64 k/\k<=n/\Own wr w.heap.size (n+ww+1) g/\(∀j,0<=g j/\g j<4294967296)/\g (k+ww)<2^s/\(∀j,k+ww<j->g j=0)/\val g (k+ww+1)=val fa k*2^s*4294967296^ww/\Below w.heap.size w wr)
  (λis _=>n-(intOf is).toNat)
 case atStart=>exact⟨0,_,rfl,Xz _,qG w (n+ww+1),λ_=>⟨Int.le_refl _,by decide⟩,gI s,λ_ _=>rfl,by rw[fQ (m:=0) Yo (λ_ _ _=>rfl)];show 0=0*2^s*4294967296^ww;rw[Int.zero_mul,Int.zero_mul],eO w _⟩
 case round=>
  obtain⟨k,g,rfl,hk,hO,hW,hc,hz,hv,hBl⟩:=hrel;have HO:=aB hO;have HW:=aB hW;have HC:=aB hc;have HZ:=aB hz;have HV:=aB hv;have HBl:=aB hBl;clear hO hW hc hz hv hBl;by_cases hkn:k<n
  .obtain⟨ba,rfl,hba,hra⟩:=Has.below' (aA HA) (aA HBl) Yo;have ca:=hra k hkn;obtain⟨a0,a1⟩:=aA WA k hkn;obtain⟨q1,q2,q3,q4,q5,q6⟩:=aCG hs (aA HW) (aA HC) (aA HZ) (aA HV) a0 a1;obtain⟨x,ex⟩:∃x,fa k*2^s=x:=⟨_,rfl⟩;have x0:0<=x:=by rw[<-ex];exact Int.mul_nonneg a0 (Int.le_of_lt (gI s))
   have x1:x<18446744073709551616:=by
    have h1:=Int.mul_lt_mul_of_pos_right a1 (gI s);have h2:=jF (show s<=32 by omega);have e3:(2:Int)^32=4294967296:=by decide
    rw[ex] at h1;omega
   rw[ex] at q1 q2 q3 q4 q5 q6;have g0:=(aA HW (k+ww));obtain⟨y,ey⟩:∃y,g (k+ww)+x%4294967296=y:=⟨_,rfl⟩;rw[ey] at q1 q3 q4 q5 q6;have Q3:=aB q3;have Q4:=aB q4;have Q5:=aB q5;have Q6:=aB q6;have co:=(aA HO).cell (show k+ww<n+ww+1 by omega);have fo:=(aA HO).free (k+ww);have HO2:=aB ((aA HO).set (k+ww) y);have co2:=(aA HO2).cell (show k+ww+1<n+ww+1 by omega);rw[iE _ _ Yo] at co2;have fo2:=(aA HO2).free (k+ww+1);clear hra q3 q4 q5 q6 g0;go_wp2_with fail
   go_roundw
   case rel=>exact⟨k+1,_,by go_num,Yo,(aA HO2).set (k+ww+1) (x/4294967296),aA Q3,aA Q4,aA Q5,aA Q6,((aA HBl).setCell (Xr _) _).setCell (Xr _) _⟩
   case measure=>simp[intOf];omega
  .have hkn2:k=n:=Yo;subst hkn2;have HWD:=aB (show Wd (k+ww+1) g from λi _=>aA HW i);have HOL:=aB (aA HO).lt;go_wp2_with fail
   refine (kT w.heap.size (k+ww+1) (k+ww+1) g (Xr _) Yo _ (aA HO).row).mono ?_;rintro e w1 ⟨l,rfl,hl,hz,hnm,rfl⟩;have F:=aB (show Sl w1 (.slice (some ⟨w.heap.size,0,none⟩) l (k+ww+1)) l g/\Wd l g/\Nm l g/\val g l=val fa k*2^s*4294967296^ww/\Below w.heap.size w w1 from
    ⟨Or.inr ⟨_,_,rfl,hl,Yo,aA HOL,(aA HO).row.less hl⟩,(aA HWD).less hl,hnm,by rw[<-fQ hl hz];exact aA HV,aA HBl⟩)
   clear hz hnm;go_wp2_with fail
   go_ret
   exact⟨_,l,_,rfl,aA F⟩
theorem R3(va:Value)(n p:Nat)(fa:Nat->Int)(hn:n<=100000)(hp:p<=3000000)(w:World)(ha:Sl w va n fa)(wa:Wd n fa):Calls Tryz.prog 193 #[va,.int .u64 (p:Int)] w λe w'=>∃(v:Value) (l:Nat) (f:Nat->Int),e=.returned v/\Sl w' v l f/\Wd l f/\Nm l f/\val f l=val fa n*2^p/\Below w.heap.size w w':=by
 obtain⟨ao,cap,rfl, -, -,ha⟩:=ha.view;rcases Nat.eq_zero_or_pos n with h0|h0
 .subst h0;clear ha wa;go_enter Tryz.func193,Tryz.ntmps193
  go_wp2_with fail
  go_ret
  exact⟨_,0,fa,rfl,Or.inl ⟨rfl,rfl⟩,λi hi=>absurd hi Yo,Or.inl rfl,by show 0=0*2^p;rw[Int.zero_mul],Below.refl _ _⟩
 .have h:=aCU ao n cap (p/32) (p%32) fa h0 hn Yo Yo w ha wa;rw[show 32*(p/32)+p%32=p by omega] at h;refine h.mono ?_;rintro e w' ⟨v,l,f,h1,h2,h3,h4,h5,h6⟩;refine⟨v,l,f,h1,h2,h3,h4,?_,h6⟩;rw[h5,mZ,Int.mul_assoc, <-Int.pow_add,show p%32+32*(p/32)=p by omega]
def One(bx:Nat)(xs xv:Value)(w:World):Prop:=w.cell? ⟨bx,0,none⟩=some xs/\w.cell? ⟨bx,1,none⟩=some xv
variable{w:World}
theorem One.below{bx:Nat}{xs xv:Value}{w':World}(h:One bx xs xv w)(k:Below w.heap.size w w'):One bx xs xv w':=⟨jN h.1 k,jN h.2 k⟩
theorem A8(z bx p:Nat)(x:Int)(hp:p<=3000000)(s0:Bool)(v0:Value)(w:World)(hz:IntAt w z (.bool s0) v0)(hx:Num w bx x)(dx:Bd x):Calls Tryz.prog 171 #[.pointer (some ⟨z,0,none⟩),.pointer (some ⟨bx,0,none⟩),.int .u64 (p:Int)] w λe w'=>e=.returned (.pointer (some ⟨z,0,none⟩))/\Num w' z (x*2^p)/\Kept z w w':=by
 obtain⟨xn,xv,n,fa,hx1,hx2,hx3,hx4,hx5,hx6⟩:=hx;have hn:n<=100:=by
  unfold Bd at dx;rw[hx5,kI (dH hx3).1] at dx;exact mD hx3 hx4 dx
 have c1:=hx1.cell0;have c2:=hx1.cell1;have HX2:=aB hx2;have HX3:=aB hx3;have E:=aB (show cZ xn (val fa n*2^p)=x*2^p by rw[hx5];cases xn;rfl;show -(val fa n*2^p)= -val fa n*2^p;rw[Int.neg_mul]);have HZ:=aB hz;obtain⟨ao,capa,rfl, -, -, -⟩:=hx2.view;clear hx1 hx2 hx3 hx4 hx5 hx6 hz dx;go_enter Tryz.func171,Tryz.ntmps171
 go_wp2_with fail
 refine dF (S:=One bx (.bool xn) (.slice ao n capa))
  [(0,false),(1,false),(2,false),(3,false),(4,false),(5,false),(6,false),(7,false),(8,false),(9,false),(10,true),(11,true),(12,true)] [11,12] Yl Yl ?_
 have hS:One bx (.bool xn) (.slice ao n capa) w.drew:=⟨c1,c2⟩;clear c1 c2;iterate 10
  refine bB (v:=?_) rfl (λ_ _ _ h=>h) (by rfl) hS ?_ ?_
  rotate_left 1
  .intro wx hwx;obtain⟨k1,k2⟩:=hwx;go_simp<;>exact rfl
  go_frame
 refine aZ rfl (λK hK=>?_);go_simp
 refine (R3 _ n p fa Yo hp _ (by exact aA HX2) (aA HX3)).mono ?_;rintro e w1 ⟨v,l,f,rfl,h2,h3,h4,h5,h6⟩;have H2:=aB h2;have H3:=aB h3;have H4:=aB h4;have H5:=aB h5;have H6:=aB h6;obtain⟨vo,cap,rfl, -, -, -⟩:=h2.view;have hS1:=hS.below h6;refine hK _ _ (λ_=>hS1) ?_;clear hS hK K h2 h3 h4 h5 h6 hS1;refine aZ rfl (λK hK=>?_);go_simp
 refine (nI z _ _ _ _ _ _ _ (IntAt.below (w:=w.drew) (aA HZ) (aA H6))).mono ?_;rintro e w2 ⟨rfl,g1,g2⟩;refine hK _ _ (λh=>by cases h) ?_;have F:=aB (show Num w2 z (x*2^p)/\Kept z w w2 from by
  have hsl:=(aA H2).other g2 (IntAt.below (w:=w.drew) (aA HZ) (aA H6));have hnum:=jL g1 hsl (aA H3) (aA H4);rw[aA H5,aA E] at hnum;exact⟨hnum,(Kept.of_below (show Below w.heap.size w w1 from ((Drw.refl w).drew.below _).trans (aA H6))).trans g2 (Or.inl rfl)⟩)
 clear g1 g2 hK K;refine aZ rfl (λK hK=>?_);go_simp
 refine hK _ _ (λh=>by cases h) ?_;clear hK K;refine fA ?_;go_wp2_with fail
 go_ret
 exact⟨rfl,(aA F).1,(aA F).2⟩
theorem OB(p:Nat)(hp:p<=3000000)(w:World):Calls Tryz.prog 170 #[.int .u64 (p:Int)] w λe w'=>∃b:Nat,e=.returned (.pointer (some ⟨b,0,none⟩))/\w.heap.size<=b/\Num w' b (2^p)/\Below w.heap.size w w':=by
 go_enter Tryz.func170,Tryz.ntmps170
 go_wp2_with fail
 refine (F5 1 (by unfold R64;omega) _).mono ?_;rintro e w1 ⟨b1,rfl,hb1,n1,k1⟩;have N1:=aB n1;have K1:=aB k1;clear n1 k1 hb1;go_wp2_with fail
 refine (A8 w.heap.size b1 p 1 hp _ _ _ ((jS w).below (aA K1)) (aA N1) (qY (by unfold R64;omega))).mono ?_;rintro e w2 ⟨rfl,n2,k2⟩;rw[Int.one_mul] at n2;have N2:=aB n2;have HW:=aB (jE (eB (eO w _) (aA K1) (by simp)) k2 (Xr _));clear n2 k2;go_wp2_with fail
 go_ret
 exact⟨_,rfl,Xr _,aA N2,aA HW⟩
theorem aCj{base n:Nat}{v:Value}{f:Nat->Int}{xs:List Value}(h:w.ownsRow base 200 1 v n xs)(hx:∀i,i<n->xs[i]?=some (.int .u32 (f i))):Sl w v n f:=by
 have h0:=h;obtain⟨hl,h1⟩:=h;rcases h1 with ⟨rfl,rfl⟩|⟨g,cap,cur,rfl,hg,hh,hc,hm,hsz,hcur⟩
 .exact Or.inl ⟨rfl,rfl⟩
 .exact Or.inr ⟨g,cap,rfl,hc,hm,lt_of_block hh,λi hi=>by rw[h0.cellAt i Yo];exact hx i hi⟩
theorem MP{w':World}(h:w.grownBy w' none):Below w.heap.size w w':=⟨h.os,h.tape,h.output,h.size,λk hk=>h.block k hk (by simp)⟩
theorem Q0(va:Value)(n:Nat)(f:Nat->Int)(hn:n<=100000)(w:World)(ha:Sl w va n f):Calls Tryz.prog 188 #[va] w λe w'=>∃v:Value,e=.returned v/\Sl w' v n f/\Below w.heap.size w w':=by
 obtain⟨i0,hi,hz0,hz1,hz2⟩:=info_parts Tryz.infoU32;rcases ha with ⟨rfl,rfl⟩|⟨b,cap,rfl,h1,h2,h3,h4⟩
 .go_enter Tryz.func188,Tryz.ntmps188
  go_wp2_with (at_builtin;refine wpList_append_own_none rfl _ _ 168 rfl w.heap.size 200 i0 1 Tryz.underlying168 hi (.slice none 0 0) 0 [] rfl (World.ownsRow_nil _ _ _ _) rfl ?_)
  go_ret
  exact⟨_,rfl,Or.inl ⟨rfl,rfl⟩,Below.refl _ _⟩
 .have HR:=aB h4;have hnews:∀(j:Nat) (u:Value),((List.range n).map (λi=>Value.int .u32 (f i)))[j]?=some u->w.cell? ((⟨b,0,none⟩:Addr).add j)=some u:=by
   intro j u hj;rw[List.getElem?_map] at hj;rcases Nat.lt_or_ge j n with h|h
   .rw[List.getElem?_range h] at hj;have:=h4 j h;simp at hj;subst hj;have e:(⟨b,0,none⟩:Addr).add j=⟨b,j,none⟩:=by unfold Addr.add;by_cases hj0:j=0<;>simp[hj0]
    rw[e];exact this
   .rw[List.getElem?_eq_none (by simpa using h)] at hj
    cases hj
  have h1c:∀u∈(List.range n).map (λi=>Value.int .u32 (f i)),u.oneCell'=true:=by
   intro u hu;obtain⟨i,_,rfl⟩:=List.mem_map.1 hu;rfl
  have hx:∀i,i<n->((List.range n).map (λi=>Value.int .u32 (f i)))[i]?=some (.int .u32 (f i)):=by
   intro i hi;rw[List.getElem?_map,List.getElem?_range hi];rfl
  have HX:=aB hx;have H1C:=aB h1c;have HNW:=aB hnews;have hlen:Hid (((List.range n).map (λi=>Value.int .u32 (f i))).length=n*1):=by show _=_;simp
  clear h4 hnews h1c hx;generalize (List.range n).map (λi=>Value.int .u32 (f i))=news at*;go_enter Tryz.func188,Tryz.ntmps188
  go_wp2_with (at_builtin;refine wpList_append_own _ rfl _ _ 168 rfl w.heap.size 200 i0 (.int .u32 0) 1 4 Tryz.underlying168 hi hz0 hz1 hz2 rfl Yc (.slice none 0 0) 0 [] rfl (World.ownsRow_nil _ _ _ _) ⟨b,0,none⟩ n cap news rfl (aA hlen) (aA HNW) (aA H1C) Ym Yo (Xr _) ?_)
  intro v' w1 hown hgr hnil;have F:=aB (show Sl w1 v' n f/\Below w.heap.size w w1 from by
   exact⟨aCj hown (aA HX),MP hgr⟩)
  clear hown hgr hnil;go_wp2_with fail
  go_ret
  exact⟨_,rfl,aA F⟩
theorem aKb(z bx:Nat)(x:Int)(s0:Bool)(v0:Value)(w:World)(hz:IntAt w z (.bool s0) v0)(hx:Num w bx x)(dx:Bd x):Calls Tryz.prog 165 #[.pointer (some ⟨z,0,none⟩),.pointer (some ⟨bx,0,none⟩)] w λe w'=>e=.returned (.pointer (some ⟨z,0,none⟩))/\Num w' z x/\Kept z w w':=by
 obtain⟨xn,xv,n,fa,hx1,hx2,hx3,hx4,hx5,hx6⟩:=hx;have hn:n<=100:=by
  unfold Bd at dx;rw[hx5,kI (dH hx3).1] at dx;exact mD hx3 hx4 dx
 have c1:=hx1.cell0;have c2:=hx1.cell1;have HX2:=aB hx2;have HX3:=aB hx3;have HX4:=aB hx4;have E:=aB hx5;have HZ:=aB hz;obtain⟨ao,capa,rfl, -, -, -⟩:=hx2.view;clear hx1 hx2 hx3 hx4 hx5 hx6 hz dx;go_enter Tryz.func165,Tryz.ntmps165
 go_wp2_with fail
 refine dF (S:=One bx (.bool xn) (.slice ao n capa))
  [(0,false),(1,false),(2,false),(3,false),(4,false),(5,false),(6,false),(7,false),(8,false),(9,true),(10,true),(11,true)] [10,11] Yl Yl ?_
 have hS:One bx (.bool xn) (.slice ao n capa) w.drew:=⟨c1,c2⟩;clear c1 c2;iterate 9
  refine bB (v:=?_) rfl (λ_ _ _ h=>h) (by rfl) hS ?_ ?_
  rotate_left 1
  .intro wx hwx;obtain⟨k1,k2⟩:=hwx;go_simp<;>exact rfl
  go_frame
 refine aZ rfl (λK hK=>?_);go_simp
 refine (Q0 _ n fa Yo _ (by exact aA HX2)).mono ?_;rintro e w1 ⟨v,rfl,h2,h6⟩;have H2:=aB h2;have H6:=aB h6;obtain⟨vo,cap,rfl, -, -, -⟩:=h2.view;have hS1:=hS.below h6;refine hK _ _ (λ_=>hS1) ?_;clear hS hK K h2 h6 hS1;refine aZ rfl (λK hK=>?_);go_simp
 refine (nI z _ _ _ _ _ _ _ (IntAt.below (w:=w.drew) (aA HZ) (aA H6))).mono ?_;rintro e w2 ⟨rfl,g1,g2⟩;refine hK _ _ (λh=>by cases h) ?_;have F:=aB (show Num w2 z x/\Kept z w w2 from by
  have hsl:=(aA H2).other g2 (IntAt.below (w:=w.drew) (aA HZ) (aA H6));have hnum:=jL g1 hsl (aA HX3) (aA HX4);rw[<-aA E] at hnum;exact⟨hnum,(Kept.of_below (show Below w.heap.size w w1 from ((Drw.refl w).drew.below _).trans (aA H6))).trans g2 (Or.inl rfl)⟩)
 clear g1 g2 hK K;refine aZ rfl (λK hK=>?_);go_simp
 refine hK _ _ (λh=>by cases h) ?_;clear hK K;refine fA ?_;go_wp2_with fail
 go_ret
 exact⟨rfl,(aA F).1,(aA F).2⟩
theorem ZY(z bx:Nat)(x:Int)(s0:Bool)(v0:Value)(w:World)(hz:IntAt w z (.bool s0) v0)(hx:Num w bx x)(dx:Bd x):Calls Tryz.prog 172 #[.pointer (some ⟨z,0,none⟩),.pointer (some ⟨bx,0,none⟩)] w λe w'=>e=.returned (.pointer (some ⟨z,0,none⟩))/\Num w' z (-x)/\Kept z w w':=by
 obtain⟨xn,xv,n,fa,hx1,hx2,hx3,hx4,hx5,hx6⟩:=hx;have hn:n<=100:=by
  unfold Bd at dx;rw[hx5,kI (dH hx3).1] at dx;exact mD hx3 hx4 dx
 have c1:=hx1.cell0;have c2:=hx1.cell1;have HX2:=aB hx2;have HX3:=aB hx3;have HX4:=aB hx4;have E:=aB (show cZ (!xn) (val fa n)= -x by rw[hx5];cases xn<;>simp[cZ]);have HZ:=aB hz;obtain⟨ao,capa,rfl, -, -, -⟩:=hx2.view;clear hx1 hx2 hx3 hx4 hx5 hx6 hz dx;go_enter Tryz.func172,Tryz.ntmps172
 go_wp2_with fail
 refine dF (S:=One bx (.bool xn) (.slice ao n capa))
  [(0,false),(1,false),(2,false),(3,false),(4,false),(5,false),(6,false),(7,false),(8,false),(9,false),(10,true),(11,true),(12,true)] [11,12] Yl Yl ?_
 have hS:One bx (.bool xn) (.slice ao n capa) w.drew:=⟨c1,c2⟩;clear c1 c2;iterate 10
  refine bB (v:=?_) rfl (λ_ _ _ h=>h) (by rfl) hS ?_ ?_
  rotate_left 1
  .intro wx hwx;obtain⟨k1,k2⟩:=hwx;go_simp<;>exact rfl
  go_frame
 refine aZ rfl (λK hK=>?_);go_simp
 refine (Q0 _ n fa Yo _ (by exact aA HX2)).mono ?_;rintro e w1 ⟨v,rfl,h2,h6⟩;have H2:=aB h2;have H6:=aB h6;obtain⟨vo,cap,rfl, -, -, -⟩:=h2.view;have hS1:=hS.below h6;refine hK _ _ (λ_=>hS1) ?_;clear hS hK K h2 h6 hS1;refine aZ rfl (λK hK=>?_);go_simp
 refine (nI z _ _ _ _ _ _ _ (IntAt.below (w:=w.drew) (aA HZ) (aA H6))).mono ?_;rintro e w2 ⟨rfl,g1,g2⟩;refine hK _ _ (λh=>by cases h) ?_;have F:=aB (show Num w2 z (-x)/\Kept z w w2 from by
  have hsl:=(aA H2).other g2 (IntAt.below (w:=w.drew) (aA HZ) (aA H6));have hnum:=jL g1 hsl (aA HX3) (aA HX4);rw[aA E] at hnum;exact⟨hnum,(Kept.of_below (show Below w.heap.size w w1 from ((Drw.refl w).drew.below _).trans (aA H6))).trans g2 (Or.inl rfl)⟩)
 clear g1 g2 hK K;refine aZ rfl (λK hK=>?_);go_simp
 refine hK _ _ (λh=>by cases h) ?_;clear hK K;refine fA ?_;go_wp2_with fail
 go_ret
 exact⟨rfl,(aA F).1,(aA F).2⟩
end Go.Proofs.YthimcecbgpamdaaGreat
