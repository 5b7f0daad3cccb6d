import Derived.Test.YthimcecbgpamdaaGreatSumStep
import Derived.Test.YthimcecbgpamdaaGreatNear171
set_option maxHeartbeats 1000000
namespace Go.Proofs.YthimcecbgpamdaaGreat
open Go.RowKit
def bgS(s:Int):Nat:=4294967295-(s%4294967296).toNat
theorem aEG(s:Int):bgS s<4294967296:=by unfold bgS;omega
def moreN(s:Int)(g:Nat->Nat)(n:Nat):Nat:=4294967295-cF (bgS s) g n
theorem QU(s:Int)(g:Nat->Nat)(n:Nat):moreN s g n<4294967296:=by unfold moreN;omega
theorem aIm(x:Nat)(h:x<4294967296):4294967295^^^x=4294967295-x:=by
 have e:BitVec.allOnes 32^^^BitVec.ofNat 32 x= ~~~ BitVec.ofNat 32 x:=BitVec.allOnes_xor;have e2:=congrArg BitVec.toNat e;rw[BitVec.toNat_xor,BitVec.toNat_not,BitVec.toNat_allOnes,BitVec.toNat_ofNat,Nat.mod_eq_of_lt Yo] at e2;exact e2
theorem aAd(x:Nat)(h:x<4294967296):bits .xor .u32 IntKind.u32.max (x:Int)=((4294967295-x:Nat):Int):=by
 have e:IntKind.u32.max=((4294967295:Nat):Int):=by decide
 rw[e,u32_xor_nat 4294967295 x Yo h,aIm x h]
theorem aKE(s:Int):bits .xor .u32 IntKind.u32.max (s%4294967296)=(bgS s:Nat):=by
 have e:s%4294967296=(((s%4294967296).toNat:Nat):Int):=Yo;rw[e,aAd _ Yo];rfl
theorem aLS(x c:Nat)(hc:c<256):bits .xor .u8 (((x%256:Nat):Int)) (c:Int)=((x%256^^^c:Nat):Int):=u8_xor_nat _ _ Yo hc
theorem aLY(x c:Nat)(hc:c<256):x%256^^^c<256:=Nat.xor_lt_two_pow (n:=8) Yo hc
set_option maxRecDepth 100000 in
theorem aFZ(s:Int)(ao:Option Addr)(len cap:Nat)(g:Nat->Nat)(w:World)(hg:∀i,g i<256)(hl:len<=9223372036854775807)(hr:Rd w ao len (bF g)):Calls Tryz.prog 126 #[.int .i64 s,.slice ao len cap] w λe w'=>e=.returned (.int .i64 (moreN s g len:Nat))/\Below w.heap.size w w':=by
 obtain⟨z33,s33⟩:=zero_of_info aDM;obtain⟨Z,eZ⟩:∃Z,Z=LK:=⟨_,rfl⟩;rw[<-eZ] at z33;have hZ:Z.size=256:=by rw[eZ];simp[LK]
 have HZ:=aB hZ;have HR:=aB hr;have HG:=aB hg;clear eZ hZ hr hg s33;go_enter Tryz.func126,Tryz.ntmps126
 go_wp2_with fail
 refine (aDa w).mono ?_;rintro e w1 ⟨rfl,k1⟩;obtain⟨T,eT⟩:∃T:Array Value,T=(rowV tabF 256).toArray:=⟨_,rfl⟩;rw[<-eT];have sT:T.size=256:=by rw[eT];simp[gF]
 have oT:T.all (·.oneCell')=true:=by rw[eT];rw[Array.all_eq_true_iff_forall_mem];intro u hu;exact nK tabF 256 (λi _=>rfl) u (by simpa using hu)
 have st:=yR Tryz.prog w1.heap.size 206 Z T (w1.alloc (.cells Z 206)) (heap_alloc_new _ _) (by rw[aA HZ,sT]) oT;rw[World.setRow_alloc_new] at st;have ET:=aB eT;have K1:=aB k1;clear eT k1 oT;go_wp2_with fail
 rw[aKE s];have hT:Vh 206 (w1.alloc (.cells T 206)) w1.heap.size 256 256 tabF:=Vh.of_row tabF 256 Ym (by rw[heap_alloc_new,aA ET];rfl);obtain⟨w2,e2⟩:∃w2,w2=w1.alloc (Obj.cells T 206):=⟨_,rfl⟩;rw[<-e2] at hT ⊢;have k2:Below w.heap.size w w2:=by rw[e2];exact (aA K1).alloc (aA K1).size _
 obtain⟨q,eq⟩:∃q,q=w1.heap.size:=⟨_,rfl⟩;rw[<-eq] at hT ⊢;have HT:=aB hT;have K2:=aB k2;have R2:=aB ((aA HR).below k2);clear hT k2 e2 eq st K1 z33 HR
 go_loop [6,15] (λrs is=>∃i:Nat,is=.int .i64 i/\i<=len/\rs=.int .u32 (cF (bgS s) g i:Nat)) (λ_ is=>len-(intOf is).toNat)
 case atStart=>exact⟨0,rfl,Xz _,rfl⟩
 case round=>
  obtain⟨i,rfl,hi,rfl⟩:=hrel;have hlt:cF (bgS s) g i<4294967296:=aIl (aEG s) (aA HG) i;obtain⟨x,ex⟩:∃x,x=cF (bgS s) g i:=⟨_,rfl⟩;rw[<-ex] at hlt ⊢;have EX:=aB ex;clear ex;by_cases hin:i<len
  .obtain⟨b,o,rfl,hcs⟩:=aA R2 Yo;have hc:w2.cell? ⟨b,o+i,none⟩=some (.int .u8 (g i:Nat)):=hcs i hin;clear hcs;have hb:=aA HG i;obtain⟨c,ec⟩:∃c,c=g i:=⟨_,rfl⟩;rw[<-ec] at hc hb;have EC:=aB ec;clear ec;have m1:bits .xor .u8 ((x:Int)%256) (c:Int)=((x%256^^^c:Nat):Int):=aLS x c hb;have m2:=aLY x c hb;obtain⟨y,ey⟩:∃y,y=x%256^^^c:=⟨_,rfl⟩;rw[<-ey] at m1 m2;have m3:(y:Int)<256:=Yo;have EY:=aB ey;clear ey;have l1:w2.cell? ⟨q,y,none⟩=some (.int .u32 (cN 8 y:Nat)):=(aA HT).cell m2;have m4:bits .xor .u32 (cN 8 y:Nat) ((x:Int)/256)=((cN 8 y^^^x/256:Nat):Int):=u32_xor_nat (cN 8 y) (x/256) (aBy Yo) Yo;go_wp2_with fail
   go_round
   case rel=>exact⟨i+1,by go_num,Yo,by show _=Value.int .u32 ((cN 8 (cF (bgS s) g i^^^g i):Nat):Int);rw[<-aA EX, <-aA EC,aGf, <-aA EY]⟩
   case measure=>simp[intOf];omega
  .have e6:i=len:=Yo;subst e6;have n1:=aAd x hlt;go_wp2_with fail
   go_ret
   exact⟨by unfold moreN;rw[aA EX];rfl,aA K2⟩
theorem RF(ao:Option Addr)(len cap:Nat)(g:Nat->Nat)(w:World)(hg:∀i,g i<256)(hl:len<=9223372036854775807)(hr:Rd w ao len (bF g)):Calls Tryz.prog 98 #[.slice ao len cap] w λe w'=>e=.returned (.int .i64 (moreN 0 g len:Nat))/\Below w.heap.size w w':=by
 go_enter Tryz.func98,Tryz.ntmps98
 go_wp2_with fail
 refine (aFZ 0 ao len cap g w hg hl hr).mono ?_;rintro e w1 ⟨rfl,k1⟩;go_wp2_with fail
 go_ret
 exact⟨rfl,k1⟩
def tlF(s:Nat)(i:Nat):Nat:=if i=0 then s%256 else if i=1 then s/256%256 else if i=2 then s/65536%256 else s/16777216%256
theorem aLU(s i:Nat):tlF s i<256:=by unfold tlF;split;omega;split;omega;split;omega;omega
theorem aNz:(Tryz.prog.info? 211).map (·.size)=some 4:=Yl
variable{b:Nat}{t:TypeId}{w:World}
theorem aNY{f:Nat->Value}(h:Vh t w b 4 4 f)(x0 x1 x2 x3:Value)(g:Nat->Value)(e0:x0=g 0)(e1:x1=g 1)(e2:x2=g 2)(e3:x3=g 3):Vh t ((((w.setCell ⟨b,0,none⟩ x0).setCell ⟨b,1,none⟩ x1).setCell ⟨b,2,none⟩ x2).setCell ⟨b,3,none⟩ x3) b 4 4 g:=by
 refine ((((h.set 0 x0).set 1 x1).set 2 x2).set 3 x3).congr (λi hi=>?_);have:i=0\/i=1\/i=2\/i=3:=Yo;rcases this with rfl|rfl|rfl|rfl
 .rw[iA _ _ Yc,iA _ _ Yc,iA _ _ Yc,jV,e0]
 .rw[iA _ _ Yc,iA _ _ Yc,jV,e1]
 .rw[iA _ _ Yc,jV,e2]
 .rw[jV,e3]
theorem IG(ao:Option Addr)(len cap:Nat)(g:Nat->Nat)(w:World)(hg:∀i,g i<256)(hl:len<=9223372036854775807)(hr:Rd w ao len (bF g)):Calls Tryz.prog 159 #[.slice ao len cap] w λe w'=>e=.returned (.agg (rowV (bF (tlF (moreN 0 g len))) 4).toArray)/\Below w.heap.size w w':=by
 have HG:=aB hg;have HR:=aB (hr.below (bU w (.cells #[.int .u8 0,.int .u8 0,.int .u8 0,.int .u8 0] 211)));clear hg hr;go_enter Tryz.func159,Tryz.ntmps159
 go_wp2_with fail
 refine (RF ao len cap g _ (aA HG) hl (aA HR)).mono ?_;rintro e w1 ⟨rfl,k1⟩;have hm:=QU 0 g len;obtain⟨s,es⟩:∃s,s=moreN 0 g len:=⟨_,rfl⟩;rw[<-es] at hm ⊢;have h0:Vh 211 w1 w.heap.size 4 4 (λ_=>.int .u8 0):=(Vh.new w 211 #[.int .u8 0,.int .u8 0,.int .u8 0,.int .u8 0] (λ_=>.int .u8 0) Yc (λi hi=>by
  have:i=0\/i=1\/i=2\/i=3:=by simp at hi;omega
  rcases this with rfl|rfl|rfl|rfl<;>rfl)).below k1
 have kB:Below w.heap.size w w1:=(bU w _).trans (k1.mono (by rw[dK];omega));have c0:=h0.cell (show 0<4 by omega);have c1:=h0.cell (show 1<4 by omega);have c2:=h0.cell (show 2<4 by omega);have c3:=h0.cell (show 3<4 by omega);have f0:=h0.free 0;have f1:=h0.free 1;have f2:=h0.free 2;have f3:=h0.free 3;have h4:=aNY h0 (.int .u8 ((s:Int)%256)) (.int .u8 ((s:Int)/256%256)) (.int .u8 ((s:Int)/65536%256)) (.int .u8 ((s:Int)/16777216)) (bF (tlF s)) rfl rfl rfl (by show _=Value.int .u8 ((s/16777216%256:Nat):Int);congr 1;omega);have k4:Below w.heap.size w _:=aF (aF (aF (aF kB (bJ w1 w.heap.size 0 (.int .u8 ((s:Int)%256))) (Xr _) kB.size) (bJ _ w.heap.size 1 (.int .u8 ((s:Int)/256%256))) (Xr _) (by simp[World.setCell];exact kB.size)) (bJ _ w.heap.size 2 (.int .u8 ((s:Int)/65536%256))) (Xr _) (by simp[World.setCell];exact kB.size)) (bJ _ w.heap.size 3 (.int .u8 ((s:Int)/16777216))) (Xr _) (by simp[World.setCell];exact kB.size);have ES:=aB es;have H4:=aB h4;have K4:=aB k4;clear es k1 h0 kB h4 k4;go_wp2_with fail
 refine bodyPost_ret (v:=.agg (rowV (bF (tlF s)) 4).toArray) ?_ rfl ⟨by rw[aA ES],aA K4⟩;exact results_cell_row Tryz.results159 _ _ w.heap.size 211 _ (0,0) _ rfl (aA H4).whole Tryz.underlying211 rfl (by rw[aNz];rfl)
def wF(g:Nat->Nat)(n i:Nat):Nat:=if i<n then g i else tlF (moreN 0 g n) (i-n)
theorem aCI{g:Nat->Nat}(hg:∀i,g i<256)(n i:Nat):wF g n i<256:=by unfold wF;split;exact hg i;exact aLU _ _
theorem aAU(g:Nat->Nat)(n:Nat):rowV (bF g) n++rowV (bF (tlF (moreN 0 g n))) 4=rowV (bF (wF g n)) (n+4):=by
 rw[kZ];exact iC (λi _=>by unfold bF wF;split<;>rfl)
theorem aFs(ao:Option Addr)(len cap:Nat)(g:Nat->Nat)(w:World)(hg:∀i,g i<256)(hl:len+4<=140737488355328)(hr:Rd w ao len (bF g)):Calls Tryz.prog 133 #[.slice ao len cap] w λe w'=>∃v,e=.returned v/\w'.ownsRow w.heap.size 5 1 v (len+4) (rowV (bF (wF g len)) (len+4))/\Below w.heap.size w w':=by
 have HG:=aB hg;have HR:=aB hr;clear hg hr;go_enter Tryz.func133,Tryz.ntmps133
 go_wp2_with (at_make;refine wpList_makeC _ rfl _ _ rfl len (len+4) rfl (by go_num) Yo Yo ?_)
 intro w1 z1 v1 k1;have V1:=aB v1;have K1:=aB k1;have Z1:=aB z1;clear v1 k1 z1;go_wp2_with (show wpList _ _ _ ({ dst:=_,op:=Op.call { callee:=Callee.builtin Builtin.copy,args:=_,argTypes:=_ },type:=_,pos:=_,after:=_,guard:=_ }::_) _ _;refine wpList_copyB _ rfl _ _ rfl w.heap.size len (len+4) _ rfl (aA V1) ao cap (bF g) rfl ((aA HR).below (aA K1)) (bF_one g) ?_)
 intro w2 v2 k2;have V2:=aB v2;have K2:=aB (aF (aA K1) k2 (Xr _) (aA K1).size);clear v2 k2 V1;go_wp2_with fail
 refine (IG ao len cap g _ (aA HG) Yo ((aA HR).below (aA K2))).mono ?_;rintro e w3 ⟨rfl,k3⟩;obtain⟨T,eT⟩:∃T:Array Value,T=(rowV (bF (tlF (moreN 0 g len))) 4).toArray:=⟨_,rfl⟩;rw[<-eT];have st:=yR Tryz.prog w3.heap.size 211 #[.int .u8 0,.int .u8 0,.int .u8 0,.int .u8 0] T (w3.alloc (.cells #[.int .u8 0,.int .u8 0,.int .u8 0,.int .u8 0] 211)) (heap_alloc_new _ _) (by rw[eT];rfl) (by rw[eT,Array.all_eq_true_iff_forall_mem];intro u hu;exact nK _ 4 (λi _=>rfl) u (by simpa using hu));rw[World.setRow_alloc_new] at st;have sT:T.size=4:=by rw[eT];rfl
 have k4:=k3.trans ((bU w3 (.cells T 211)).mono k3.size);have v4:=(aA V2).below k4;have b4:=(aA K2).trans (k4.mono (aA K2).size);have s4:Sr (w3.alloc (.cells T 211)) (some ⟨w3.heap.size,0,none⟩) 4 4 (bF (tlF (moreN 0 g len))):=
  Or.inr ⟨_,rfl,λi hi=>by rw[Addr.add_lit,Nat.zero_add];exact (Vh.of_row (bF (tlF (moreN 0 g len))) 4 Ym (by rw[heap_alloc_new,eT];rfl)).cell hi⟩
 have V4:=aB v4;have B4:=aB b4;have S4:=aB s4;have Z4:=aB b4.size;clear k3 k4 v4 b4 s4 eT;go_wp2_with (at_builtin;refine iU _ rfl _ _ rfl w.heap.size (aA Z4) (.slice (some ⟨w.heap.size,0,none⟩) len (len+4)) len (rowV (bF g) len) rfl ((aA V4).owns (Xr _)) (some ⟨w3.heap.size,0,none⟩) 4 4 (bF (tlF (moreN 0 g len))) rfl (aA S4) (λi _=>rfl) Yo ?_)
 intro v' w5 h5 k5;rw[aAU] at h5;have H5:=aB h5;have K5:=aB ((aA B4).trans k5);clear h5 k5;go_wp2_with fail
 go_ret
 exact⟨_,rfl,aA H5,aA K5⟩
variable{off:Nat}{f:Operand->Value}{o:Oper}
theorem lW(x y:Operand)(ho:o.op=.indexAddr 76 x y){len cap i:Nat}(hx:f x=.slice (some ⟨b,off,none⟩) len cap)(hy:f y=.int .i64 (i:Int))(hi:i<len)(w:World):(execOp f o).run Tryz.prog w=.ok (.value (.pointer (some ⟨b,off+i,none⟩))) w:=by
 have hi2:(i:Int)<(len:Int):=Yo;unfold execOp;rw[ho];dsimp only;rw[hx,hy];go_simp
variable{v:Nat}
theorem nG(x:Operand)(ho:o.op=.load 5 x){a:Addr}(hx:f x=.pointer (some a))(hc:w.cell? a=some (bV v)):(execOp f o).run Tryz.prog w=.ok (.value (bV v)) w:=by
 unfold bV at hc ⊢;unfold execOp;rw[ho];dsimp only;rw[hx];go_simp
theorem aHZ(x y:Operand)(ho:o.op=.binOp .neq 5 x y 5){u:Nat}(hx:f x=bV u)(hy:f y=bV v)(h:u≠v)(w:World):(execOp f o).run Tryz.prog w=.ok (.value (.bool true)) w:=by
 have h2:¬((u:Int)=(v:Int)):=Yo;unfold bV at hx hy;unfold execOp;rw[ho];dsimp only;rw[hx,hy];clear h;go_simp
theorem aHJ(x y:Operand)(ho:o.op=.binOp .neq 5 x y 5){u:Nat}(hx:f x=bV u)(hy:f y=bV v)(h:u=v)(w:World):(execOp f o).run Tryz.prog w=.ok (.value (.bool false)) w:=by
 subst h;unfold bV at hx hy;unfold execOp;rw[ho];dsimp only;rw[hx,hy];go_simp
variable{ao:Option Addr}
theorem M0(x:Operand)(ho:o.op=.call { callee:=.builtin .len,args:=#[x],argTypes:=#[76] }){n c:Nat}(hx:f x=.slice ao n c)(w:World):(execOp f o).run Tryz.prog w=.ok (.value (.int .i64 (n:Nat))) w:=by
 unfold execOp;rw[ho];dsimp only;go_simp
theorem aFh(x y:Operand)(ho:o.op=.slice 76 x (some y) none none){n c m:Nat}(hx:f x=.slice (some ⟨b,off,none⟩) n c)(hy:f y=.int .i64 (m:Nat))(h1:m<=n)(h3:m<c)(w:World):(execOp f o).run Tryz.prog w=.ok (.value (.slice (some ⟨b,off+m,none⟩) (n-m) (c-m))) w:=by
 unfold execOp;rw[ho];dsimp only;rw[hx];go_simp
 intro h;omega
theorem aFv(x y:Operand)(ho:o.op=.slice 76 x none (some y) none){n c m:Nat}(hx:f x=.slice (some ⟨b,off,none⟩) n c)(hy:f y=.int .i64 (m:Nat))(h1:m<=n)(h2:n<=c)(w:World):(execOp f o).run Tryz.prog w=.ok (.value (.slice (some ⟨b,off,none⟩) m c)) w:=by
 unfold execOp;rw[ho];dsimp only;rw[hx];go_simp
 intro h;omega
theorem aEt(x:Operand)(ho:o.op=.slice 211 x none none none)(hx:f x=.pointer (some ⟨b,0,none⟩))(w:World):(execOp f o).run Tryz.prog w=.ok (.value (.slice (some ⟨b,0,none⟩) 4 4)) w:=Yg
theorem YM(v u:Value)(w:World):(callFunc 204 #[v,u]).run Tryz.prog w=.ok (.enter 204 #[v,u]) w:=Yh
theorem Vh.cellz{N cap:Nat}{g:Nat->Value}(h:Vh t w b N cap g){i:Nat}(hi:i<N):w.cell? ⟨b,0+i,none⟩=some (g i):=by rw[Nat.zero_add];exact h.cell hi
end Go.Proofs.YthimcecbgpamdaaGreat
