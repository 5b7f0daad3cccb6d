import Derived.Deep.WholeRow
import Derived.Test.YthimcecbgpamdaaGreatNear172
set_option maxHeartbeats 1000000
namespace Go.Proofs.YthimcecbgpamdaaGreat
open Go.RowKit
theorem aKk(r:Nat)(h:r<4294967296):bits .and .u32 (r:Int) 1=((r%2:Nat):Int):=by
 have:=u32_and_nat r 1 h Yo;rw[nat_mask1] at this;exact this
theorem aHt(r:Nat)(h:r<4294967296):bits .xor .u32 (r:Int) 3988292384=((r^^^3988292384:Nat):Int):=u32_xor_nat r 3988292384 h Yo
theorem aFd(r:Nat)(h:r<4294967296)(w:World):Calls Tryz.prog 182 #[.int .u32 (r:Int)] w λe w'=>e=.returned (.int .u32 (cS r:Nat))/\w'=w:=by
 have t:=aKk r h;by_cases h2:r%2=0
 .have e1:Hid (cS r=r/2):=by unfold cS;exact if_pos h2
  rw[h2] at t;go_enter Tryz.func182,Tryz.ntmps182
  go_wp2
  go_ret
  exact⟨by rw[aA e1];go_num,rfl⟩
 .have h3:r%2=1:=Yo;have e1:Hid (cS r=r/2^^^3988292384):=by unfold cS;exact if_neg h2
  have p:=aHt (r/2) Yo;rw[h3] at t;have p2:bits .xor .u32 ((r:Int)/2) 3988292384=((r/2^^^3988292384:Nat):Int):=by rw[<-p];congr 1
  go_enter Tryz.func182,Tryz.ntmps182
  go_wp2
  go_ret
  exact⟨by rw[aA e1];first|exact congrArg (λz=>Exit.returned (Value.int .u32 z)) p2|go_num,rfl⟩
def tabF(j:Nat):Value:=.int .u32 (cN 8 j:Nat)
def AU(i:Nat)(j:Nat):Value:=if j<i then tabF j else .int .u32 0
def MQ:Array Value:=Array.replicate 256 (.int .u32 0)
theorem aCw:(Tryz.prog.info? 206).map (λi=>(i.zero,i.size))=some (some (.agg MQ),256):=Yl
theorem aEB(i:Nat):stW (AU i) i (tabF i)=AU (i+1):=by grind [AU,jP,gW]
theorem ZP(n x:Nat):cN (n+1) x=cS (cN n x):=by rw[aMA];rfl
theorem yQ(P:Program)(g:Nat)(t:TypeId)(old T:Array Value)(w:World)(hg:w.heap[g]?=some (.cells old t (0,0)))(hs:old.size=T.size)(h1:T.all (·.oneCell')=true):(storeCells ⟨g,0,none⟩ T.toList).run P w=.ok () (w.setRow g T):=by
 have:=run_storeCells_from (P:=P) g t T.toList 0 old w hg (by simp;omega) (λv hv=>(Array.all_eq_true_iff_forall_mem.1 h1) v (by simpa using hv))
 simpa using this
set_option maxRecDepth 100000 in
theorem aEt(w:World):Calls Tryz.prog 154 #[] w λe w'=>e=.returned (.agg (rowV tabF 256).toArray)/\Below w.heap.size w w':=by
 obtain⟨z33,s33⟩:=zero_of_info aCw;obtain⟨Z,eZ⟩:∃Z,Z=MQ:=⟨_,rfl⟩;have EZ:=aB eZ;rw[<-eZ] at z33;clear eZ;have S33:=aB s33;clear s33;have hZ:Z.size=256:=by rw[aA EZ];simp[MQ]
 have hB:Below w.heap.size w ((w.alloc (Obj.cells Z 206)).alloc (Obj.cells Z 206)):=((Below.refl _ _).alloc (Xr _) _).alloc (by rw[dJ];omega) _;have h0:((w.alloc (Obj.cells Z 206)).alloc (Obj.cells Z 206)).heap[w.heap.size]?=some (.cells Z 206 (0,0)):=heap_alloc2_old w _ _;have h1:Vh 206 ((w.alloc (Obj.cells Z 206)).alloc (Obj.cells Z 206)) (w.heap.size+1) 256 256 (AU 0):=
  ⟨Z,heap_alloc2_new w _ _,hZ,Xr _,by unfold maxLen;omega,λi hi=>by rw[aA EZ];simp[MQ,AU,hi]⟩
 have B0:=aB hB;have H0:=aB h0;have H1:=aB h1;have HZ:=aB hZ;clear hB h0 h1 hZ;go_enter Tryz.func154,Tryz.ntmps154
 go_wp2_with fail
 go_loopw [4] (λis wr=>∃i:Nat,is=.int .i64 i/\i<=256/\Vh 206 wr (w.heap.size+1) 256 256 (AU i)/\wr.heap[w.heap.size]?=some (.cells Z 206 (0,0))/\Below w.heap.size w wr) (λis _=>256-(intOf is).toNat)
 case atStart=>exact⟨0,rfl,Xz _,aA H1,aA H0,aA B0⟩
 case round=>
  obtain⟨i,rfl,hi,hV,hz,hK⟩:=hrel;clear B0 H0 H1 z33;have V:=aB hV;have HZ0:=aB hz;have KK:=aB hK;clear hV hz hK;by_cases hin:i<256
  .have hin2:(i:Int)<256:=Yo;have ew:IntKind.u32.wrap (i:Int)=((cN 0 i:Nat):Int):=by rw[IntKind.wrap_u32'];show (i:Int)%4294967296=i;omega
   go_wp2_with fail
   try rw[ew]
   go_loop [3,9] (λrs ks=>∃k:Nat,ks=.int .i64 k/\k<=8/\rs=.int .u32 (cN k i:Nat)) (λ_ ks=>8-(intOf ks).toNat)
   case atStart=>exact⟨0,rfl,Xz _,rfl⟩
   case round=>
    obtain⟨k,rfl,hk,rfl⟩:=hrel;have hlt:cN k i<4294967296:=aBV Yo;obtain⟨x,ex⟩:∃x,x=cN k i:=⟨_,rfl⟩;rw[<-ex] at hlt ⊢;have EX:=aB ex;clear ex ew;by_cases hk8:k<8
    .go_wp2_with fail
     refine (aFd x hlt _).mono ?_;rintro e w1 ⟨rfl,rfl⟩;go_wp2_with fail
     go_round
     case rel=>exact⟨k+1,by go_num,Yo,by rw[ZP, <-aA EX]⟩
     case measure=>simp[intOf];omega
    .have e8:k=8:=Yo;subst e8;have f1:=(aA V).free i;have l1:(_:World).cell? ⟨w.heap.size+1,i,none⟩=some (AU i i):=(aA V).cell hin;go_wp2_with fail
     go_roundw
     case rel=>exact⟨i+1,by go_num,Yo,by rw[<-aEB i];have:=(aA V).set i (tabF i);unfold tabF at this ⊢;rw[<-aA EX] at this ⊢;exact this,by rw[heap_setCell_other _ _ _ _ (by show w.heap.size≠w.heap.size+1;omega)];exact aA HZ0,aF (aA KK) (bG _ _ _ _) Yo (aA KK).size⟩
     case measure=>simp[intOf];omega
  .have e6:i=256:=Yo;subst e6;go_wp2_with fail
   obtain⟨T,eT⟩:∃T:Array Value,T=(rowV tabF 256).toArray:=⟨_,rfl⟩;have hT:wr.heap[w.heap.size+1]?=some (.cells T 206 (0,0)):=by
    rw[(aA V).whole,eT];exact congrArg (λl:List Value=>some (Obj.cells l.toArray 206 (0,0))) (gZ (l:=256) (λi hi=>by unfold AU;rw[if_pos hi]))
   have sT:T.size=256:=by rw[eT];simp[gD]
   have oT:T.all (·.oneCell')=true:=by rw[eT];rw[Array.all_eq_true_iff_forall_mem];intro u hu;exact nK tabF 256 (λi _=>rfl) u (by simpa using hu)
   have ET:=aB eT;clear eT;have st:=yQ Tryz.prog w.heap.size 206 Z T wr (aA HZ0) (by rw[aA HZ,sT]) oT;refine wp_load_row 206 (.tmp 1) rfl (w.heap.size+1) rfl 206 T (0,0) _ hT Tryz.underlying206 rfl (by rw[aA S33,sT]) ?_;have HT:=aB hT;clear hT oT;go_wp2_with fail
   have h3:(wr.setRow w.heap.size T).heap[w.heap.size]?=some (.cells T 206 (0,0)):=setRow_heap wr _ _ _ _ _ (aA HZ0);have k3:Below w.heap.size w (wr.setRow w.heap.size T):=(aA KK).trans ⟨rfl,rfl,rfl,by simp,λk hk=>setRow_other _ _ _ _ Yo⟩;have H3:=aB h3;have K3:=aB k3;refine bodyPost_ret (v:=.agg T) ?_ rfl ⟨by rw[aA ET],aA K3⟩;exact results_cell_row Tryz.results154 _ _ w.heap.size 206 T (0,0) _ rfl (aA H3) Tryz.underlying206 rfl (by rw[aA S33,sT])
def bgS(s:Int):Nat:=4294967295-(s%4294967296).toNat
theorem aDy(s:Int):bgS s<4294967296:=by unfold bgS;omega
def moreN(s:Int)(g:Nat->Nat)(n:Nat):Nat:=4294967295-cF (bgS s) g n
theorem VY(s:Int)(g:Nat->Nat)(n:Nat):moreN s g n<4294967296:=by unfold moreN;omega
theorem aIo(x:Nat)(h:x<4294967296):4294967295^^^x=4294967295-x:=by
 have e:BitVec.allOnes 32^^^BitVec.ofNat 32 x= ~~~ BitVec.ofNat 32 x:=BitVec.allOnes_xor;have e2:=congrArg BitVec.toNat e;rw[BitVec.toNat_xor,BitVec.toNat_not,BitVec.toNat_allOnes,BitVec.toNat_ofNat,Nat.mod_eq_of_lt Yo] at e2;exact e2
theorem aAl(x:Nat)(h:x<4294967296):bits .xor .u32 IntKind.u32.max (x:Int)=((4294967295-x:Nat):Int):=by
 have e:IntKind.u32.max=((4294967295:Nat):Int):=by decide
 rw[e,u32_xor_nat 4294967295 x Yo h,aIo x h]
theorem aJg(s:Int):bits .xor .u32 IntKind.u32.max (s%4294967296)=(bgS s:Nat):=by
 have e:s%4294967296=(((s%4294967296).toNat:Nat):Int):=Yo;rw[e,aAl _ Yo];rfl
theorem aLO(x c:Nat)(hc:c<256):bits .xor .u8 (((x%256:Nat):Int)) (c:Int)=((x%256^^^c:Nat):Int):=u8_xor_nat _ _ Yo hc
theorem aMD(x c:Nat)(hc:c<256):x%256^^^c<256:=Nat.xor_lt_two_pow (n:=8) Yo hc
set_option maxRecDepth 100000 in
theorem aFq(s:Int)(ao:Option Addr)(len cap:Nat)(g:Nat->Nat)(w:World)(hg:∀i,g i<256)(hl:len<=9223372036854775807)(hr:Rd w ao len (bF g)):Calls Tryz.prog 126 #[.int .i64 s,.slice ao len cap] w λe w'=>e=.returned (.int .i64 (moreN s g len:Nat))/\Below w.heap.size w w':=by
 obtain⟨z33,s33⟩:=zero_of_info aCw;obtain⟨Z,eZ⟩:∃Z,Z=MQ:=⟨_,rfl⟩;rw[<-eZ] at z33;have hZ:Z.size=256:=by rw[eZ];simp[MQ]
 have HZ:=aB hZ;have HR:=aB hr;have HG:=aB hg;clear eZ hZ hr hg s33;go_enter Tryz.func126,Tryz.ntmps126
 go_wp2_with fail
 refine (aEt w).mono ?_;rintro e w1 ⟨rfl,k1⟩;obtain⟨T,eT⟩:∃T:Array Value,T=(rowV tabF 256).toArray:=⟨_,rfl⟩;rw[<-eT];have sT:T.size=256:=by rw[eT];simp[gD]
 have oT:T.all (·.oneCell')=true:=by rw[eT];rw[Array.all_eq_true_iff_forall_mem];intro u hu;exact nK tabF 256 (λi _=>rfl) u (by simpa using hu)
 have st:=yQ Tryz.prog w1.heap.size 206 Z T (w1.alloc (.cells Z 206)) (heap_alloc_new _ _) (by rw[aA HZ,sT]) oT;rw[World.setRow_alloc_new] at st;have ET:=aB eT;have K1:=aB k1;clear eT k1 oT;go_wp2_with fail
 rw[aJg s];have hT:Vh 206 (w1.alloc (.cells T 206)) w1.heap.size 256 256 tabF:=Vh.of_row tabF 256 Ym (by rw[heap_alloc_new,aA ET];rfl);obtain⟨w2,e2⟩:∃w2,w2=w1.alloc (Obj.cells T 206):=⟨_,rfl⟩;rw[<-e2] at hT ⊢;have k2:Below w.heap.size w w2:=by rw[e2];exact (aA K1).alloc (aA K1).size _
 obtain⟨q,eq⟩:∃q,q=w1.heap.size:=⟨_,rfl⟩;rw[<-eq] at hT ⊢;have HT:=aB hT;have K2:=aB k2;have R2:=aB ((aA HR).below k2);clear hT k2 e2 eq st K1 z33 HR
 go_loop [6,15] (λrs is=>∃i:Nat,is=.int .i64 i/\i<=len/\rs=.int .u32 (cF (bgS s) g i:Nat)) (λ_ is=>len-(intOf is).toNat)
 case atStart=>exact⟨0,rfl,Xz _,rfl⟩
 case round=>
  obtain⟨i,rfl,hi,rfl⟩:=hrel;have hlt:cF (bgS s) g i<4294967296:=aIy (aDy s) (aA HG) i;obtain⟨x,ex⟩:∃x,x=cF (bgS s) g i:=⟨_,rfl⟩;rw[<-ex] at hlt ⊢;have EX:=aB ex;clear ex;by_cases hin:i<len
  .obtain⟨b,o,rfl,hcs⟩:=aA R2 Yo;have hc:w2.cell? ⟨b,o+i,none⟩=some (.int .u8 (g i:Nat)):=hcs i hin;clear hcs;have hb:=aA HG i;obtain⟨c,ec⟩:∃c,c=g i:=⟨_,rfl⟩;rw[<-ec] at hc hb;have EC:=aB ec;clear ec;have m1:bits .xor .u8 ((x:Int)%256) (c:Int)=((x%256^^^c:Nat):Int):=aLO x c hb;have m2:=aMD x c hb;obtain⟨y,ey⟩:∃y,y=x%256^^^c:=⟨_,rfl⟩;rw[<-ey] at m1 m2;have m3:(y:Int)<256:=Yo;have EY:=aB ey;clear ey;have l1:w2.cell? ⟨q,y,none⟩=some (.int .u32 (cN 8 y:Nat)):=(aA HT).cell m2;have m4:bits .xor .u32 (cN 8 y:Nat) ((x:Int)/256)=((cN 8 y^^^x/256:Nat):Int):=u32_xor_nat (cN 8 y) (x/256) (aBV Yo) Yo;go_wp2_with fail
   go_round
   case rel=>exact⟨i+1,by go_num,Yo,by show _=Value.int .u32 ((cN 8 (cF (bgS s) g i^^^g i):Nat):Int);rw[<-aA EX, <-aA EC,aGH, <-aA EY]⟩
   case measure=>simp[intOf];omega
  .have e6:i=len:=Yo;subst e6;have n1:=aAl x hlt;go_wp2_with fail
   go_ret
   exact⟨by unfold moreN;rw[aA EX];rfl,aA K2⟩
theorem VT(ao:Option Addr)(len cap:Nat)(g:Nat->Nat)(w:World)(hg:∀i,g i<256)(hl:len<=9223372036854775807)(hr:Rd w ao len (bF g)):Calls Tryz.prog 98 #[.slice ao len cap] w λe w'=>e=.returned (.int .i64 (moreN 0 g len:Nat))/\Below w.heap.size w w':=by
 go_enter Tryz.func98,Tryz.ntmps98
 go_wp2_with fail
 refine (aFq 0 ao len cap g w hg hl hr).mono ?_;rintro e w1 ⟨rfl,k1⟩;go_wp2_with fail
 go_ret
 exact⟨rfl,k1⟩
def tlF(s:Nat)(i:Nat):Nat:=if i=0 then s%256 else if i=1 then s/256%256 else if i=2 then s/65536%256 else s/16777216%256
theorem aMk(s i:Nat):tlF s i<256:=by unfold tlF;split;omega;split;omega;split;omega;omega
theorem aNI:(Tryz.prog.info? 211).map (·.size)=some 4:=Yl
variable{t:TypeId}{w:World}{b:Nat}
theorem aOd{f:Nat->Value}(h:Vh t w b 4 4 f)(x0 x1 x2 x3:Value)(g:Nat->Value)(e0:x0=g 0)(e1:x1=g 1)(e2:x2=g 2)(e3:x3=g 3):Vh t ((((w.setCell ⟨b,0,none⟩ x0).setCell ⟨b,1,none⟩ x1).setCell ⟨b,2,none⟩ x2).setCell ⟨b,3,none⟩ x3) b 4 4 g:=by
 refine ((((h.set 0 x0).set 1 x1).set 2 x2).set 3 x3).congr (λi hi=>?_);have:i=0\/i=1\/i=2\/i=3:=Yo;rcases this with rfl|rfl|rfl|rfl
 .rw[gW _ _ Yc,gW _ _ Yc,gW _ _ Yc,jP,e0]
 .rw[gW _ _ Yc,gW _ _ Yc,jP,e1]
 .rw[gW _ _ Yc,jP,e2]
 .rw[jP,e3]
theorem JH(ao:Option Addr)(len cap:Nat)(g:Nat->Nat)(w:World)(hg:∀i,g i<256)(hl:len<=9223372036854775807)(hr:Rd w ao len (bF g)):Calls Tryz.prog 159 #[.slice ao len cap] w λe w'=>e=.returned (.agg (rowV (bF (tlF (moreN 0 g len))) 4).toArray)/\Below w.heap.size w w':=by
 have HG:=aB hg;have HR:=aB (hr.below (bU w (.cells #[.int .u8 0,.int .u8 0,.int .u8 0,.int .u8 0] 211)));clear hg hr;go_enter Tryz.func159,Tryz.ntmps159
 go_wp2_with fail
 refine (VT ao len cap g _ (aA HG) hl (aA HR)).mono ?_;rintro e w1 ⟨rfl,k1⟩;have hm:=VY 0 g len;obtain⟨s,es⟩:∃s,s=moreN 0 g len:=⟨_,rfl⟩;rw[<-es] at hm ⊢;have h0:Vh 211 w1 w.heap.size 4 4 (λ_=>.int .u8 0):=(Vh.new w 211 #[.int .u8 0,.int .u8 0,.int .u8 0,.int .u8 0] (λ_=>.int .u8 0) Yc (λi hi=>by
  have:i=0\/i=1\/i=2\/i=3:=by simp at hi;omega
  rcases this with rfl|rfl|rfl|rfl<;>rfl)).below k1
 have kB:Below w.heap.size w w1:=(bU w _).trans (k1.mono (by rw[dJ];omega));have c0:=h0.cell (show 0<4 by omega);have c1:=h0.cell (show 1<4 by omega);have c2:=h0.cell (show 2<4 by omega);have c3:=h0.cell (show 3<4 by omega);have f0:=h0.free 0;have f1:=h0.free 1;have f2:=h0.free 2;have f3:=h0.free 3;have h4:=aOd h0 (.int .u8 ((s:Int)%256)) (.int .u8 ((s:Int)/256%256)) (.int .u8 ((s:Int)/65536%256)) (.int .u8 ((s:Int)/16777216)) (bF (tlF s)) rfl rfl rfl (by show _=Value.int .u8 ((s/16777216%256:Nat):Int);congr 1;omega);have k4:Below w.heap.size w _:=aF (aF (aF (aF kB (bG w1 w.heap.size 0 (.int .u8 ((s:Int)%256))) (Xr _) kB.size) (bG _ w.heap.size 1 (.int .u8 ((s:Int)/256%256))) (Xr _) (by simp[World.setCell];exact kB.size)) (bG _ w.heap.size 2 (.int .u8 ((s:Int)/65536%256))) (Xr _) (by simp[World.setCell];exact kB.size)) (bG _ w.heap.size 3 (.int .u8 ((s:Int)/16777216))) (Xr _) (by simp[World.setCell];exact kB.size);have ES:=aB es;have H4:=aB h4;have K4:=aB k4;clear es k1 h0 kB h4 k4;go_wp2_with fail
 refine bodyPost_ret (v:=.agg (rowV (bF (tlF s)) 4).toArray) ?_ rfl ⟨by rw[aA ES],aA K4⟩;exact results_cell_row Tryz.results159 _ _ w.heap.size 211 _ (0,0) _ rfl (aA H4).whole Tryz.underlying211 rfl (by rw[aNI];rfl)
def vV(g:Nat->Nat)(n i:Nat):Nat:=if i<n then g i else tlF (moreN 0 g n) (i-n)
theorem aCr{g:Nat->Nat}(hg:∀i,g i<256)(n i:Nat):vV g n i<256:=by unfold vV;split;exact hg i;exact aMk _ _
theorem aAa(g:Nat->Nat)(n:Nat):rowV (bF g) n++rowV (bF (tlF (moreN 0 g n))) 4=rowV (bF (vV g n)) (n+4):=by
 rw[kS];exact gZ (λi _=>by unfold bF vV;split<;>rfl)
theorem aFJ(ao:Option Addr)(len cap:Nat)(g:Nat->Nat)(w:World)(hg:∀i,g i<256)(hl:len+4<=140737488355328)(hr:Rd w ao len (bF g)):Calls Tryz.prog 133 #[.slice ao len cap] w λe w'=>∃v,e=.returned v/\w'.ownsRow w.heap.size 5 1 v (len+4) (rowV (bF (vV g len)) (len+4))/\Below w.heap.size w w':=by
 have HG:=aB hg;have HR:=aB hr;clear hg hr;go_enter Tryz.func133,Tryz.ntmps133
 go_wp2_with (at_make;refine wpList_makeC _ rfl _ _ rfl len (len+4) rfl (by go_num) Yo Yo ?_)
 intro w1 z1 v1 k1;have V1:=aB v1;have K1:=aB k1;have Z1:=aB z1;clear v1 k1 z1;go_wp2_with (show wpList _ _ _ ({ dst:=_,op:=Op.call { callee:=Callee.builtin Builtin.copy,args:=_,argTypes:=_ },type:=_,pos:=_,after:=_,guard:=_ }::_) _ _;refine wpList_copyB _ rfl _ _ rfl w.heap.size len (len+4) _ rfl (aA V1) ao cap (bF g) rfl ((aA HR).below (aA K1)) (bF_one g) ?_)
 intro w2 v2 k2;have V2:=aB v2;have K2:=aB (aF (aA K1) k2 (Xr _) (aA K1).size);clear v2 k2 V1;go_wp2_with fail
 refine (JH ao len cap g _ (aA HG) Yo ((aA HR).below (aA K2))).mono ?_;rintro e w3 ⟨rfl,k3⟩;obtain⟨T,eT⟩:∃T:Array Value,T=(rowV (bF (tlF (moreN 0 g len))) 4).toArray:=⟨_,rfl⟩;rw[<-eT];have st:=yQ Tryz.prog w3.heap.size 211 #[.int .u8 0,.int .u8 0,.int .u8 0,.int .u8 0] T (w3.alloc (.cells #[.int .u8 0,.int .u8 0,.int .u8 0,.int .u8 0] 211)) (heap_alloc_new _ _) (by rw[eT];rfl) (by rw[eT,Array.all_eq_true_iff_forall_mem];intro u hu;exact nK _ 4 (λi _=>rfl) u (by simpa using hu));rw[World.setRow_alloc_new] at st;have sT:T.size=4:=by rw[eT];rfl
 have k4:=k3.trans ((bU w3 (.cells T 211)).mono k3.size);have v4:=(aA V2).below k4;have b4:=(aA K2).trans (k4.mono (aA K2).size);have s4:Sr (w3.alloc (.cells T 211)) (some ⟨w3.heap.size,0,none⟩) 4 4 (bF (tlF (moreN 0 g len))):=
  Or.inr ⟨_,rfl,λi hi=>by rw[Addr.add_lit,Nat.zero_add];exact (Vh.of_row (bF (tlF (moreN 0 g len))) 4 Ym (by rw[heap_alloc_new,eT];rfl)).cell hi⟩
 have V4:=aB v4;have B4:=aB b4;have S4:=aB s4;have Z4:=aB b4.size;clear k3 k4 v4 b4 s4 eT;go_wp2_with (at_builtin;refine iO _ rfl _ _ rfl w.heap.size (aA Z4) (.slice (some ⟨w.heap.size,0,none⟩) len (len+4)) len (rowV (bF g) len) rfl ((aA V4).owns (Xr _)) (some ⟨w3.heap.size,0,none⟩) 4 4 (bF (tlF (moreN 0 g len))) rfl (aA S4) (λi _=>rfl) Yo ?_)
 intro v' w5 h5 k5;rw[aAa] at h5;have H5:=aB h5;have K5:=aB ((aA B4).trans k5);clear h5 k5;go_wp2_with fail
 go_ret
 exact⟨_,rfl,aA H5,aA K5⟩
variable{o:Oper}{f:Operand->Value}{off:Nat}
theorem lN(x y:Operand)(ho:o.op=.indexAddr 76 x y){len cap i:Nat}(hx:f x=.slice (some ⟨b,off,none⟩) len cap)(hy:f y=.int .i64 (i:Int))(hi:i<len)(w:World):(execOp f o).run Tryz.prog w=.ok (.value (.pointer (some ⟨b,off+i,none⟩))) w:=by
 have hi2:(i:Int)<(len:Int):=Yo;unfold execOp;rw[ho];dsimp only;rw[hx,hy];go_simp
variable{v:Nat}
theorem nA(x:Operand)(ho:o.op=.load 5 x){a:Addr}(hx:f x=.pointer (some a))(hc:w.cell? a=some (bV v)):(execOp f o).run Tryz.prog w=.ok (.value (bV v)) w:=by
 unfold bV at hc ⊢;unfold execOp;rw[ho];dsimp only;rw[hx];go_simp
theorem aFQ(x y:Operand)(ho:o.op=.binOp .neq 5 x y 5){u:Nat}(hx:f x=bV u)(hy:f y=bV v)(h:u≠v)(w:World):(execOp f o).run Tryz.prog w=.ok (.value (.bool true)) w:=by
 have h2:¬((u:Int)=(v:Int)):=Yo;unfold bV at hx hy;unfold execOp;rw[ho];dsimp only;rw[hx,hy];clear h;go_simp
theorem aHS(x y:Operand)(ho:o.op=.binOp .neq 5 x y 5){u:Nat}(hx:f x=bV u)(hy:f y=bV v)(h:u=v)(w:World):(execOp f o).run Tryz.prog w=.ok (.value (.bool false)) w:=by
 subst h;unfold bV at hx hy;unfold execOp;rw[ho];dsimp only;rw[hx,hy];go_simp
variable{ao:Option Addr}
theorem M8(x:Operand)(ho:o.op=.call { callee:=.builtin .len,args:=#[x],argTypes:=#[76] }){n c:Nat}(hx:f x=.slice ao n c)(w:World):(execOp f o).run Tryz.prog w=.ok (.value (.int .i64 (n:Nat))) w:=by
 unfold execOp;rw[ho];dsimp only;go_simp
theorem aFK(x y:Operand)(ho:o.op=.slice 76 x (some y) none none){n c m:Nat}(hx:f x=.slice (some ⟨b,off,none⟩) n c)(hy:f y=.int .i64 (m:Nat))(h1:m<=n)(h3:m<c)(w:World):(execOp f o).run Tryz.prog w=.ok (.value (.slice (some ⟨b,off+m,none⟩) (n-m) (c-m))) w:=by
 unfold execOp;rw[ho];dsimp only;rw[hx];go_simp
 intro h;omega
theorem aFz(x y:Operand)(ho:o.op=.slice 76 x none (some y) none){n c m:Nat}(hx:f x=.slice (some ⟨b,off,none⟩) n c)(hy:f y=.int .i64 (m:Nat))(h1:m<=n)(h2:n<=c)(w:World):(execOp f o).run Tryz.prog w=.ok (.value (.slice (some ⟨b,off,none⟩) m c)) w:=by
 unfold execOp;rw[ho];dsimp only;rw[hx];go_simp
 intro h;omega
theorem aCy(x:Operand)(ho:o.op=.slice 211 x none none none)(hx:f x=.pointer (some ⟨b,0,none⟩))(w:World):(execOp f o).run Tryz.prog w=.ok (.value (.slice (some ⟨b,0,none⟩) 4 4)) w:=Yg
theorem YH(v u:Value)(w:World):(callFunc 204 #[v,u]).run Tryz.prog w=.ok (.enter 204 #[v,u]) w:=Yh
theorem Vh.cellz{N cap:Nat}{g:Nat->Value}(h:Vh t w b N cap g){i:Nat}(hi:i<N):w.cell? ⟨b,0+i,none⟩=some (g i):=by rw[Nat.zero_add];exact h.cell hi
end Go.Proofs.YthimcecbgpamdaaGreat
