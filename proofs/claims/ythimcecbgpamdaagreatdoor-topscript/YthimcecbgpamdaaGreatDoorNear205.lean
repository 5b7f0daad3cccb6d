import Derived.Deep.WholeRow
import Derived.Test.YthimcecbgpamdaaGreatDoorNear203
set_option maxHeartbeats 1000000
namespace Go.Proofs.YthimcecbgpamdaaGreatDoor
open Go.RowKit
theorem aJj(r:Nat)(h:r<4294967296):bits .and .u32 (r:Int) 1=((r%2:Nat):Int):=by
 have:=u32_and_nat r 1 h Yo;rw[nat_mask1] at this;exact this
theorem aFN(r:Nat)(h:r<4294967296):bits .xor .u32 (r:Int) 3988292384=((r^^^3988292384:Nat):Int):=u32_xor_nat r 3988292384 h Yo
theorem ZK(r:Nat)(h:r<4294967296)(w:World):Calls Tryz.prog 279 #[.int .u32 (r:Int)] w λe w'=>e=.returned (.int .u32 (cS r:Nat))/\w'=w:=by
 have t:=aJj r h;by_cases h2:r%2=0
 .have e1:Hid (cS r=r/2):=by unfold cS;exact if_pos h2
  rw[h2] at t;go_enter Tryz.func279,Tryz.ntmps279
  go_wp2
  go_ret
  exact⟨by rw[aA e1];go_num,rfl⟩
 .have h3:r%2=1:=Yo;have e1:Hid (cS r=r/2^^^3988292384):=by unfold cS;exact if_neg h2
  have p:=aFN (r/2) Yo;rw[h3] at t;have p2:bits .xor .u32 ((r:Int)/2) 3988292384=((r/2^^^3988292384:Nat):Int):=by rw[<-p];congr 1
  go_enter Tryz.func279,Tryz.ntmps279
  go_wp2
  go_ret
  exact⟨by rw[aA e1];first|exact congrArg (λz=>Exit.returned (Value.int .u32 z)) p2|go_num,rfl⟩
def tabF(j:Nat):Value:=.int .u32 (cN 8 j:Nat)
def R9(i:Nat)(j:Nat):Value:=if j<i then tabF j else .int .u32 0
def II:Array Value:=Array.replicate 256 (.int .u32 0)
theorem aAx:(Tryz.prog.info? 284).map (λi=>(i.zero,i.size))=some (some (.agg II),256):=Yl
theorem aCl(i:Nat):eQ (R9 i) i (tabF i)=R9 (i+1):=by grind [R9,kS,gP]
theorem aGS(n x:Nat):cN (n+1) x=cS (cN n x):=by rw[aKb];rfl
theorem xO(P:Program)(g:Nat)(t:TypeId)(old T:Array Value)(w:World)(hg:w.heap[g]?=some (.cells old t (0,0)))(hs:old.size=T.size)(h1:T.all (·.oneCell')=true):(storeCells ⟨g,0,none⟩ T.toList).run P w=.ok () (w.setRow g T):=by
 have:=run_storeCells_from (P:=P) g t T.toList 0 old w hg (by simp;omega) (λv hv=>(Array.all_eq_true_iff_forall_mem.1 h1) v (by simpa using hv))
 simpa using this
set_option maxRecDepth 100000 in
theorem aCk(w:World):Calls Tryz.prog 251 #[] w λe w'=>e=.returned (.agg (rowV tabF 256).toArray)/\Below w.heap.size w w':=by
 obtain⟨z33,s33⟩:=zero_of_info aAx;obtain⟨Z,eZ⟩:∃Z,Z=II:=⟨_,rfl⟩;have EZ:=aB eZ;rw[<-eZ] at z33;clear eZ;have S33:=aB s33;clear s33;have hZ:Z.size=256:=by rw[aA EZ];simp[II]
 have hB:Below w.heap.size w ((w.alloc (Obj.cells Z 284)).alloc (Obj.cells Z 284)):=((Below.refl _ _).alloc (Xr _) _).alloc (by rw[dG];omega) _;have h0:((w.alloc (Obj.cells Z 284)).alloc (Obj.cells Z 284)).heap[w.heap.size]?=some (.cells Z 284 (0,0)):=heap_alloc2_old w _ _;have h1:Vh 284 ((w.alloc (Obj.cells Z 284)).alloc (Obj.cells Z 284)) (w.heap.size+1) 256 256 (R9 0):=
  ⟨Z,heap_alloc2_new w _ _,hZ,Xr _,by unfold maxLen;omega,λi hi=>by rw[aA EZ];simp[II,R9,hi]⟩
 have B0:=aB hB;have H0:=aB h0;have H1:=aB h1;have HZ:=aB hZ;clear hB h0 h1 hZ;go_enter Tryz.func251,Tryz.ntmps251
 go_wp2_with fail
 go_loopw [4] (λis wr=>∃i:Nat,is=.int .i64 i/\i<=256/\Vh 284 wr (w.heap.size+1) 256 256 (R9 i)/\wr.heap[w.heap.size]?=some (.cells Z 284 (0,0))/\Below w.heap.size w wr) (λis _=>256-(intOf is).toNat)
 case atStart=>exact⟨0,rfl,Xz _,aA H1,aA H0,aA B0⟩
 case round=>
  obtain⟨i,rfl,hi,hV,hz,hK⟩:=hrel;clear B0 H0 H1 z33;have V:=aB hV;have HZ0:=aB hz;have KK:=aB hK;clear hV hz hK;by_cases hin:i<256
  .have hin2:(i:Int)<256:=Yo;have ew:IntKind.u32.wrap (i:Int)=((cN 0 i:Nat):Int):=by rw[IntKind.wrap_u32'];show (i:Int)%4294967296=i;omega
   go_wp2_with fail
   try rw[ew]
   go_loop [3,9] (λrs ks=>∃k:Nat,ks=.int .i64 k/\k<=8/\rs=.int .u32 (cN k i:Nat)) (λ_ ks=>8-(intOf ks).toNat)
   case atStart=>exact⟨0,rfl,Xz _,rfl⟩
   case round=>
    obtain⟨k,rfl,hk,rfl⟩:=hrel;have hlt:cN k i<4294967296:=WA Yo;obtain⟨x,ex⟩:∃x,x=cN k i:=⟨_,rfl⟩;rw[<-ex] at hlt ⊢;have EX:=aB ex;clear ex ew;by_cases hk8:k<8
    .go_wp2_with fail
     refine (ZK x hlt _).mono ?_;rintro e w1 ⟨rfl,rfl⟩;go_wp2_with fail
     go_round
     case rel=>exact⟨k+1,by go_num,Yo,by rw[aGS, <-aA EX]⟩
     case measure=>simp[intOf];omega
    .have e8:k=8:=Yo;subst e8;have f1:=(aA V).free i;have l1:(_:World).cell? ⟨w.heap.size+1,i,none⟩=some (R9 i i):=(aA V).cell hin;go_wp2_with fail
     go_roundw
     case rel=>exact⟨i+1,by go_num,Yo,by rw[<-aCl i];have:=(aA V).set i (tabF i);unfold tabF at this ⊢;rw[<-aA EX] at this ⊢;exact this,by rw[heap_setCell_other _ _ _ _ (by show w.heap.size≠w.heap.size+1;omega)];exact aA HZ0,aF (aA KK) (bI _ _ _ _) Yo (aA KK).size⟩
     case measure=>simp[intOf];omega
  .have e6:i=256:=Yo;subst e6;go_wp2_with fail
   obtain⟨T,eT⟩:∃T:Array Value,T=(rowV tabF 256).toArray:=⟨_,rfl⟩;have hT:wr.heap[w.heap.size+1]?=some (.cells T 284 (0,0)):=by
    rw[(aA V).whole,eT];exact congrArg (λl:List Value=>some (Obj.cells l.toArray 284 (0,0))) (jF (l:=256) (λi hi=>by unfold R9;rw[if_pos hi]))
   have sT:T.size=256:=by rw[eT];simp[gY]
   have oT:T.all (·.oneCell')=true:=by rw[eT];rw[Array.all_eq_true_iff_forall_mem];intro u hu;exact mV tabF 256 (λi _=>rfl) u (by simpa using hu)
   have ET:=aB eT;clear eT;have st:=xO Tryz.prog w.heap.size 284 Z T wr (aA HZ0) (by rw[aA HZ,sT]) oT;refine wp_load_row 284 (.tmp 1) rfl (w.heap.size+1) rfl 284 T (0,0) _ hT Tryz.underlying284 rfl (by rw[aA S33,sT]) ?_;have HT:=aB hT;clear hT oT;go_wp2_with fail
   have h3:(wr.setRow w.heap.size T).heap[w.heap.size]?=some (.cells T 284 (0,0)):=setRow_heap wr _ _ _ _ _ (aA HZ0);have k3:Below w.heap.size w (wr.setRow w.heap.size T):=(aA KK).trans ⟨rfl,rfl,rfl,by simp,λk hk=>setRow_other _ _ _ _ Yo⟩;have H3:=aB h3;have K3:=aB k3;refine bodyPost_ret (v:=.agg T) ?_ rfl ⟨by rw[aA ET],aA K3⟩;exact results_cell_row Tryz.results251 _ _ w.heap.size 284 T (0,0) _ rfl (aA H3) Tryz.underlying284 rfl (by rw[aA S33,sT])
def bgS(s:Int):Nat:=4294967295-(s%4294967296).toNat
theorem aJY(s:Int):bgS s<4294967296:=by unfold bgS;omega
def moreN(s:Int)(g:Nat->Nat)(n:Nat):Nat:=4294967295-cF (bgS s) g n
theorem aDQ(s:Int)(g:Nat->Nat)(n:Nat):moreN s g n<4294967296:=by unfold moreN;omega
theorem aMN(x:Nat)(h:x<4294967296):4294967295^^^x=4294967295-x:=by
 have e:BitVec.allOnes 32^^^BitVec.ofNat 32 x= ~~~ BitVec.ofNat 32 x:=BitVec.allOnes_xor;have e2:=congrArg BitVec.toNat e;rw[BitVec.toNat_xor,BitVec.toNat_not,BitVec.toNat_allOnes,BitVec.toNat_ofNat,Nat.mod_eq_of_lt Yo] at e2;exact e2
theorem VL(x:Nat)(h:x<4294967296):bits .xor .u32 IntKind.u32.max (x:Int)=((4294967295-x:Nat):Int):=by
 have e:IntKind.u32.max=((4294967295:Nat):Int):=by decide
 rw[e,u32_xor_nat 4294967295 x Yo h,aMN x h]
theorem aGR(s:Int):bits .xor .u32 IntKind.u32.max (s%4294967296)=(bgS s:Nat):=by
 have e:s%4294967296=(((s%4294967296).toNat:Nat):Int):=Yo;rw[e,VL _ Yo];rfl
theorem aLT(x c:Nat)(hc:c<256):bits .xor .u8 (((x%256:Nat):Int)) (c:Int)=((x%256^^^c:Nat):Int):=u8_xor_nat _ _ Yo hc
theorem aLf(x c:Nat)(hc:c<256):x%256^^^c<256:=Nat.xor_lt_two_pow (n:=8) Yo hc
set_option maxRecDepth 100000 in
theorem aDR(s:Int)(ao:Option Addr)(len cap:Nat)(g:Nat->Nat)(w:World)(hg:∀i,g i<256)(hl:len<=9223372036854775807)(hr:Rd w ao len (bF g)):Calls Tryz.prog 223 #[.int .i64 s,.slice ao len cap] w λe w'=>e=.returned (.int .i64 (moreN s g len:Nat))/\Below w.heap.size w w':=by
 obtain⟨z33,s33⟩:=zero_of_info aAx;obtain⟨Z,eZ⟩:∃Z,Z=II:=⟨_,rfl⟩;rw[<-eZ] at z33;have hZ:Z.size=256:=by rw[eZ];simp[II]
 have HZ:=aB hZ;have HR:=aB hr;have HG:=aB hg;clear eZ hZ hr hg s33;go_enter Tryz.func223,Tryz.ntmps223
 go_wp2_with fail
 refine (aCk w).mono ?_;rintro e w1 ⟨rfl,k1⟩;obtain⟨T,eT⟩:∃T:Array Value,T=(rowV tabF 256).toArray:=⟨_,rfl⟩;rw[<-eT];have sT:T.size=256:=by rw[eT];simp[gY]
 have oT:T.all (·.oneCell')=true:=by rw[eT];rw[Array.all_eq_true_iff_forall_mem];intro u hu;exact mV tabF 256 (λi _=>rfl) u (by simpa using hu)
 have st:=xO Tryz.prog w1.heap.size 284 Z T (w1.alloc (.cells Z 284)) (heap_alloc_new _ _) (by rw[aA HZ,sT]) oT;rw[World.setRow_alloc_new] at st;have ET:=aB eT;have K1:=aB k1;clear eT k1 oT;go_wp2_with fail
 rw[aGR s];have hT:Vh 284 (w1.alloc (.cells T 284)) w1.heap.size 256 256 tabF:=Vh.of_row tabF 256 Ym (by rw[heap_alloc_new,aA ET];rfl);obtain⟨w2,e2⟩:∃w2,w2=w1.alloc (Obj.cells T 284):=⟨_,rfl⟩;rw[<-e2] at hT ⊢;have k2:Below w.heap.size w w2:=by rw[e2];exact (aA K1).alloc (aA K1).size _
 obtain⟨q,eq⟩:∃q,q=w1.heap.size:=⟨_,rfl⟩;rw[<-eq] at hT ⊢;have HT:=aB hT;have K2:=aB k2;have R2:=aB ((aA HR).below k2);clear hT k2 e2 eq st K1 z33 HR
 go_loop [6,15] (λrs is=>∃i:Nat,is=.int .i64 i/\i<=len/\rs=.int .u32 (cF (bgS s) g i:Nat)) (λ_ is=>len-(intOf is).toNat)
 case atStart=>exact⟨0,rfl,Xz _,rfl⟩
 case round=>
  obtain⟨i,rfl,hi,rfl⟩:=hrel;have hlt:cF (bgS s) g i<4294967296:=aMp (aJY s) (aA HG) i;obtain⟨x,ex⟩:∃x,x=cF (bgS s) g i:=⟨_,rfl⟩;rw[<-ex] at hlt ⊢;have EX:=aB ex;clear ex;by_cases hin:i<len
  .obtain⟨b,o,rfl,hcs⟩:=aA R2 Yo;have hc:w2.cell? ⟨b,o+i,none⟩=some (.int .u8 (g i:Nat)):=hcs i hin;clear hcs;have hb:=aA HG i;obtain⟨c,ec⟩:∃c,c=g i:=⟨_,rfl⟩;rw[<-ec] at hc hb;have EC:=aB ec;clear ec;have m1:bits .xor .u8 ((x:Int)%256) (c:Int)=((x%256^^^c:Nat):Int):=aLT x c hb;have m2:=aLf x c hb;obtain⟨y,ey⟩:∃y,y=x%256^^^c:=⟨_,rfl⟩;rw[<-ey] at m1 m2;have m3:(y:Int)<256:=Yo;have EY:=aB ey;clear ey;have l1:w2.cell? ⟨q,y,none⟩=some (.int .u32 (cN 8 y:Nat)):=(aA HT).cell m2;have m4:bits .xor .u32 (cN 8 y:Nat) ((x:Int)/256)=((cN 8 y^^^x/256:Nat):Int):=u32_xor_nat (cN 8 y) (x/256) (WA Yo) Yo;go_wp2_with fail
   go_round
   case rel=>exact⟨i+1,by go_num,Yo,by show _=Value.int .u32 ((cN 8 (cF (bgS s) g i^^^g i):Nat):Int);rw[<-aA EX, <-aA EC,aCT, <-aA EY]⟩
   case measure=>simp[intOf];omega
  .have e6:i=len:=Yo;subst e6;have n1:=VL x hlt;go_wp2_with fail
   go_ret
   exact⟨by unfold moreN;rw[aA EX];rfl,aA K2⟩
theorem MP(ao:Option Addr)(len cap:Nat)(g:Nat->Nat)(w:World)(hg:∀i,g i<256)(hl:len<=9223372036854775807)(hr:Rd w ao len (bF g)):Calls Tryz.prog 183 #[.slice ao len cap] w λe w'=>e=.returned (.int .i64 (moreN 0 g len:Nat))/\Below w.heap.size w w':=by
 go_enter Tryz.func183,Tryz.ntmps183
 go_wp2_with fail
 refine (aDR 0 ao len cap g w hg hl hr).mono ?_;rintro e w1 ⟨rfl,k1⟩;go_wp2_with fail
 go_ret
 exact⟨rfl,k1⟩
def tlF(s:Nat)(i:Nat):Nat:=if i=0 then s%256 else if i=1 then s/256%256 else if i=2 then s/65536%256 else s/16777216%256
theorem aLR(s i:Nat):tlF s i<256:=by unfold tlF;split;omega;split;omega;split;omega;omega
theorem aMz:(Tryz.prog.info? 243).map (·.size)=some 4:=Yl
variable{b:Nat}{w:World}
theorem aNC{f:Nat->Value}{t:TypeId}(h:Vh t w b 4 4 f)(x0 x1 x2 x3:Value)(g:Nat->Value)(e0:x0=g 0)(e1:x1=g 1)(e2:x2=g 2)(e3:x3=g 3):Vh t ((((w.setCell ⟨b,0,none⟩ x0).setCell ⟨b,1,none⟩ x1).setCell ⟨b,2,none⟩ x2).setCell ⟨b,3,none⟩ x3) b 4 4 g:=by
 refine ((((h.set 0 x0).set 1 x1).set 2 x2).set 3 x3).congr (λi hi=>?_);have:i=0\/i=1\/i=2\/i=3:=Yo;rcases this with rfl|rfl|rfl|rfl
 .rw[gP _ _ Yc,gP _ _ Yc,gP _ _ Yc,kS,e0]
 .rw[gP _ _ Yc,gP _ _ Yc,kS,e1]
 .rw[gP _ _ Yc,kS,e2]
 .rw[kS,e3]
theorem EO(ao:Option Addr)(len cap:Nat)(g:Nat->Nat)(w:World)(hg:∀i,g i<256)(hl:len<=9223372036854775807)(hr:Rd w ao len (bF g)):Calls Tryz.prog 206 #[.slice ao len cap] w λe w'=>e=.returned (.agg (rowV (bF (tlF (moreN 0 g len))) 4).toArray)/\Below w.heap.size w w':=by
 have HG:=aB hg;have HR:=aB (hr.below (bK w (.cells #[.int .u8 0,.int .u8 0,.int .u8 0,.int .u8 0] 243)));clear hg hr;go_enter Tryz.func206,Tryz.ntmps206
 go_wp2_with fail
 refine (MP ao len cap g _ (aA HG) hl (aA HR)).mono ?_;rintro e w1 ⟨rfl,k1⟩;have hm:=aDQ 0 g len;obtain⟨s,es⟩:∃s,s=moreN 0 g len:=⟨_,rfl⟩;rw[<-es] at hm ⊢;have h0:Vh 243 w1 w.heap.size 4 4 (λ_=>.int .u8 0):=(Vh.new w 243 #[.int .u8 0,.int .u8 0,.int .u8 0,.int .u8 0] (λ_=>.int .u8 0) Yc (λi hi=>by
  have:i=0\/i=1\/i=2\/i=3:=by simp at hi;omega
  rcases this with rfl|rfl|rfl|rfl<;>rfl)).below k1
 have kB:Below w.heap.size w w1:=(bK w _).trans (k1.mono (by rw[dG];omega));have c0:=h0.cell (show 0<4 by omega);have c1:=h0.cell (show 1<4 by omega);have c2:=h0.cell (show 2<4 by omega);have c3:=h0.cell (show 3<4 by omega);have f0:=h0.free 0;have f1:=h0.free 1;have f2:=h0.free 2;have f3:=h0.free 3;have h4:=aNC h0 (.int .u8 ((s:Int)%256)) (.int .u8 ((s:Int)/256%256)) (.int .u8 ((s:Int)/65536%256)) (.int .u8 ((s:Int)/16777216)) (bF (tlF s)) rfl rfl rfl (by show _=Value.int .u8 ((s/16777216%256:Nat):Int);congr 1;omega);have k4:Below w.heap.size w _:=aF (aF (aF (aF kB (bI w1 w.heap.size 0 (.int .u8 ((s:Int)%256))) (Xr _) kB.size) (bI _ w.heap.size 1 (.int .u8 ((s:Int)/256%256))) (Xr _) (by simp[World.setCell];exact kB.size)) (bI _ w.heap.size 2 (.int .u8 ((s:Int)/65536%256))) (Xr _) (by simp[World.setCell];exact kB.size)) (bI _ w.heap.size 3 (.int .u8 ((s:Int)/16777216))) (Xr _) (by simp[World.setCell];exact kB.size);have ES:=aB es;have H4:=aB h4;have K4:=aB k4;clear es k1 h0 kB h4 k4;go_wp2_with fail
 refine bodyPost_ret (v:=.agg (rowV (bF (tlF s)) 4).toArray) ?_ rfl ⟨by rw[aA ES],aA K4⟩;exact results_cell_row Tryz.results206 _ _ w.heap.size 243 _ (0,0) _ rfl (aA H4).whole Tryz.underlying243 rfl (by rw[aMz];rfl)
def EG(g:Nat->Nat)(n i:Nat):Nat:=if i<n then g i else tlF (moreN 0 g n) (i-n)
theorem aLL{g:Nat->Nat}(hg:∀i,g i<256)(n i:Nat):EG g n i<256:=by unfold EG;split;exact hg i;exact aLR _ _
theorem aJa(g:Nat->Nat)(n:Nat):rowV (bF g) n++rowV (bF (tlF (moreN 0 g n))) 4=rowV (bF (EG g n)) (n+4):=by
 rw[nH];exact jF (λi _=>by unfold bF EG;split<;>rfl)
theorem aFs(ao:Option Addr)(len cap:Nat)(g:Nat->Nat)(w:World)(hg:∀i,g i<256)(hl:len+4<=140737488355328)(hr:Rd w ao len (bF g)):Calls Tryz.prog 144 #[.slice ao len cap] w λe w'=>∃v,e=.returned v/\w'.ownsRow w.heap.size 5 1 v (len+4) (rowV (bF (EG g len)) (len+4))/\Below w.heap.size w w':=by
 have HG:=aB hg;have HR:=aB hr;clear hg hr;go_enter Tryz.func144,Tryz.ntmps144
 go_wp2_with (at_make;refine wpList_makeC _ rfl _ _ rfl len (len+4) rfl (by go_num) Yo Yo ?_)
 intro w1 z1 v1 k1;have V1:=aB v1;have K1:=aB k1;have Z1:=aB z1;clear v1 k1 z1;go_wp2_with (show wpList _ _ _ ({ dst:=_,op:=Op.call { callee:=Callee.builtin Builtin.copy,args:=_,argTypes:=_ },type:=_,pos:=_,after:=_,guard:=_ }::_) _ _;refine wpList_copyB _ rfl _ _ rfl w.heap.size len (len+4) _ rfl (aA V1) ao cap (bF g) rfl ((aA HR).below (aA K1)) (bF_one g) ?_)
 intro w2 v2 k2;have V2:=aB v2;have K2:=aB (aF (aA K1) k2 (Xr _) (aA K1).size);clear v2 k2 V1;go_wp2_with fail
 refine (EO ao len cap g _ (aA HG) Yo ((aA HR).below (aA K2))).mono ?_;rintro e w3 ⟨rfl,k3⟩;obtain⟨T,eT⟩:∃T:Array Value,T=(rowV (bF (tlF (moreN 0 g len))) 4).toArray:=⟨_,rfl⟩;rw[<-eT];have st:=xO Tryz.prog w3.heap.size 243 #[.int .u8 0,.int .u8 0,.int .u8 0,.int .u8 0] T (w3.alloc (.cells #[.int .u8 0,.int .u8 0,.int .u8 0,.int .u8 0] 243)) (heap_alloc_new _ _) (by rw[eT];rfl) (by rw[eT,Array.all_eq_true_iff_forall_mem];intro u hu;exact mV _ 4 (λi _=>rfl) u (by simpa using hu));rw[World.setRow_alloc_new] at st;have sT:T.size=4:=by rw[eT];rfl
 have k4:=k3.trans ((bK w3 (.cells T 243)).mono k3.size);have v4:=(aA V2).below k4;have b4:=(aA K2).trans (k4.mono (aA K2).size);have s4:Sr (w3.alloc (.cells T 243)) (some ⟨w3.heap.size,0,none⟩) 4 4 (bF (tlF (moreN 0 g len))):=
  Or.inr ⟨_,rfl,λi hi=>by rw[Addr.add_lit,Nat.zero_add];exact (Vh.of_row (bF (tlF (moreN 0 g len))) 4 Ym (by rw[heap_alloc_new,eT];rfl)).cell hi⟩
 have V4:=aB v4;have B4:=aB b4;have S4:=aB s4;have Z4:=aB b4.size;clear k3 k4 v4 b4 s4 eT;go_wp2_with (at_builtin;refine sK _ rfl _ _ rfl w.heap.size (aA Z4) (.slice (some ⟨w.heap.size,0,none⟩) len (len+4)) len (rowV (bF g) len) rfl ((aA V4).owns (Xr _)) (some ⟨w3.heap.size,0,none⟩) 4 4 (bF (tlF (moreN 0 g len))) rfl (aA S4) (λi _=>rfl) Yo ?_)
 intro v' w5 h5 k5;rw[aJa] at h5;have H5:=aB h5;have K5:=aB ((aA B4).trans k5);clear h5 k5;go_wp2_with fail
 go_ret
 exact⟨_,rfl,aA H5,aA K5⟩
variable{f:Operand->Value}{o:Oper}
theorem oG(x y:Operand)(ho:o.op=.indexAddr 65 x y){off len cap i:Nat}(hx:f x=.slice (some ⟨b,off,none⟩) len cap)(hy:f y=.int .i64 (i:Int))(hi:i<len)(w:World):(execOp f o).run Tryz.prog w=.ok (.value (.pointer (some ⟨b,off+i,none⟩))) w:=by
 have hi2:(i:Int)<(len:Int):=Yo;unfold execOp;rw[ho];dsimp only;rw[hx,hy];go_simp
variable{v:Nat}
theorem qD(x:Operand)(ho:o.op=.load 5 x){a:Addr}(hx:f x=.pointer (some a))(hc:w.cell? a=some (bV v)):(execOp f o).run Tryz.prog w=.ok (.value (bV v)) w:=by
 unfold bV at hc ⊢;unfold execOp;rw[ho];dsimp only;rw[hx];go_simp
theorem aFh(x y:Operand)(ho:o.op=.binOp .neq 5 x y 5){u:Nat}(hx:f x=bV u)(hy:f y=bV v)(h:u≠v)(w:World):(execOp f o).run Tryz.prog w=.ok (.value (.bool true)) w:=by
 have h2:¬((u:Int)=(v:Int)):=Yo;unfold bV at hx hy;unfold execOp;rw[ho];dsimp only;rw[hx,hy];clear h;go_simp
theorem aFg(x y:Operand)(ho:o.op=.binOp .neq 5 x y 5){u:Nat}(hx:f x=bV u)(hy:f y=bV v)(h:u=v)(w:World):(execOp f o).run Tryz.prog w=.ok (.value (.bool false)) w:=by
 subst h;unfold bV at hx hy;unfold execOp;rw[ho];dsimp only;rw[hx,hy];go_simp
variable{ao:Option Addr}
theorem aEV(x:Operand)(ho:o.op=.call { callee:=.builtin .len,args:=#[x],argTypes:=#[65] }){n c:Nat}(hx:f x=.slice ao n c)(w:World):(execOp f o).run Tryz.prog w=.ok (.value (.int .i64 (n:Nat))) w:=by
 unfold execOp;rw[ho];dsimp only;go_simp
theorem aFb(x y:Operand)(ho:o.op=.slice 65 x (some y) none none){off n c m:Nat}(hx:f x=.slice (some ⟨b,off,none⟩) n c)(hy:f y=.int .i64 (m:Nat))(h1:m<=n)(h3:m<c)(w:World):(execOp f o).run Tryz.prog w=.ok (.value (.slice (some ⟨b,off+m,none⟩) (n-m) (c-m))) w:=by
 unfold execOp;rw[ho];dsimp only;rw[hx];go_simp
 intro h;omega
theorem aBF(x:Operand)(ho:o.op=.slice 243 x none none none)(hx:f x=.pointer (some ⟨b,0,none⟩))(w:World):(execOp f o).run Tryz.prog w=.ok (.value (.slice (some ⟨b,0,none⟩) 4 4)) w:=Yg
theorem RN(v u:Value)(w:World):(callFunc 298 #[v,u]).run Tryz.prog w=.ok (.enter 298 #[v,u]) w:=Yh
end Go.Proofs.YthimcecbgpamdaaGreatDoor
