import Derived.Test.YtdhblehhgpdpdacGreatSumStep
namespace Go.Proofs.YtdhblehhgpdpdacGreat
open Go.RowKit
def bgS(s:Int):Nat:=4294967295-(s%4294967296).toNat
theorem aJR(s:Int):bgS s<4294967296:=by unfold bgS;omega
def moreN(s:Int)(g:Nat→Nat)(n:Nat):Nat:=4294967295-cF (bgS s) g n
theorem aEG(s:Int)(g:Nat→Nat)(n:Nat):moreN s g n<4294967296:=by unfold moreN;omega
theorem aNM(x:Nat)(h:x<4294967296):4294967295^^^x=4294967295-x:=by
 have e:BitVec.allOnes 32^^^BitVec.ofNat 32 x= ~~~ BitVec.ofNat 32 x:=BitVec.allOnes_xor
 have e2:=congrArg BitVec.toNat e
 rw[BitVec.toNat_xor,BitVec.toNat_not,BitVec.toNat_allOnes,BitVec.toNat_ofNat,Nat.mod_eq_of_lt Yo] at e2
 exact e2
theorem aGt(x:Nat)(h:x<4294967296):bits .xor .u32 IntKind.u32.max (x:Int)=((4294967295-x:Nat):Int):=by
 have e:IntKind.u32.max=((4294967295:Nat):Int):=by decide
 rw[e,u32_xor_nat 4294967295 x Yo h,aNM x h]
theorem aOj(s:Int):bits .xor .u32 IntKind.u32.max (s%4294967296)=(bgS s:Nat):=by
 have e:s%4294967296=(((s%4294967296).toNat:Nat):Int):=Yo
 rw[e,aGt _ Yo]
 rfl
theorem aRQ(x c:Nat)(hc:c<256):bits .xor .u8 (((x%256:Nat):Int)) (c:Int)=((x%256^^^c:Nat):Int):=u8_xor_nat _ _ Yo hc
theorem aRZ(x c:Nat)(hc:c<256):x%256^^^c<256:=Nat.xor_lt_two_pow (n:=8) Yo hc
set_option maxRecDepth 100000 in
set_option maxHeartbeats 1000000 in
theorem aKu (s : Int) (ao : Option Addr) (len cap : Nat) (g : Nat → Nat) (w : World) (hg : ∀ i, g i < 256) (hl : len ≤ 9223372036854775807) (hr : Rd w ao len (bF g)) :
  Calls Tryz.prog 87 #[.int .i64 s,.slice ao len cap] w λe w'=>e=.returned (.int .i64 (moreN s g len:Nat))∧Below w.heap.size w w':=by
 obtain⟨z33,s33⟩:=zero_of_info aJz
 obtain⟨Z,eZ⟩:∃Z,Z=aCz:=⟨_,rfl⟩
 rw[←eZ] at z33
 have hZ:Z.size=256:=by rw[eZ];simp[aCz]
 have HZ:=aA hZ;have HR:=aA hr;have HG:=aA hg
 clear eZ hZ hr hg s33
 go_enter Tryz.func87,Tryz.ntmps87
 go_wp2_with fail
 refine (aJn w).mono ?_
 rintro e w1 ⟨rfl,k1⟩
 obtain⟨T,eT⟩:∃T:Array Value,T=(rowV tabF 256).toArray:=⟨_,rfl⟩
 rw[←eT]
 have sT:T.size=256:=by rw[eT];simp[gY]
 have oT:T.all (·.oneCell')=true:=by rw[eT];rw[Array.all_eq_true_iff_forall_mem];intro u hu;exact mU tabF 256 (λi _=>rfl) u (by simpa using hu)
 have st:=wU Tryz.prog w1.heap.size 186 Z T (w1.alloc (.cells Z 186)) (heap_alloc_new _ _) (by rw[unhide HZ,sT]) oT
 rw[World.setRow_alloc_new] at st
 have ET:=aA eT;have K1:=aA k1
 clear eT k1 oT
 go_wp2_with fail
 rw[aOj s]
 have hT:Vh 186 (w1.alloc (.cells T 186)) w1.heap.size 256 256 tabF:=Vh.of_row tabF 256 (by unfold maxLen;omega) (by rw[heap_alloc_new,unhide ET];rfl)
 obtain⟨w2,e2⟩:∃w2,w2=w1.alloc (Obj.cells T 186):=⟨_,rfl⟩
 rw[←e2] at hT ⊢
 have k2:Below w.heap.size w w2:=by rw[e2];exact (unhide K1).alloc (unhide K1).size _
 obtain⟨q,eq⟩:∃q,q=w1.heap.size:=⟨_,rfl⟩
 rw[←eq] at hT ⊢
 have HT:=aA hT;have K2:=aA k2;have R2:=aA ((unhide HR).below k2)
 clear hT k2 e2 eq st K1 z33 HR
 go_loop [6,15] (λrs is=>∃i:Nat,is=.int .i64 i∧i≤len∧rs=.int .u32 (cF (bgS s) g i:Nat)) (λ_ is=>len-(intOf is).toNat)
 case atStart=>exact⟨0,rfl,Nat.zero_le _,rfl⟩
 case round=>
  obtain⟨i,rfl,hi,rfl⟩:=hrel
  have hlt:cF (bgS s) g i<4294967296:=aNF (aJR s) (unhide HG) i
  obtain⟨x,ex⟩:∃x,x=cF (bgS s) g i:=⟨_,rfl⟩
  rw[←ex] at hlt ⊢
  have EX:=aA ex
  clear ex
  by_cases hin:i<len
  ·obtain⟨b,o,rfl,hcs⟩:=unhide R2 Yo
   have hc:w2.cell? ⟨b,o+i,none⟩=some (.int .u8 (g i:Nat)):=hcs i hin
   clear hcs
   have hb:=unhide HG i
   obtain⟨c,ec⟩:∃c,c=g i:=⟨_,rfl⟩
   rw[←ec] at hc hb
   have EC:=aA ec
   clear ec
   have m1:bits .xor .u8 ((x:Int)%256) (c:Int)=((x%256^^^c:Nat):Int):=aRQ x c hb
   have m2:=aRZ x c hb
   obtain⟨y,ey⟩:∃y,y=x%256^^^c:=⟨_,rfl⟩
   rw[←ey] at m1 m2
   have m3:(y:Int)<256:=Yo
   have EY:=aA ey
   clear ey
   have l1:w2.cell? ⟨q,y,none⟩=some (.int .u32 (cN 8 y:Nat)):=(unhide HT).cell m2
   have m4:bits .xor .u32 (cN 8 y:Nat) ((x:Int)/256)=((cN 8 y^^^x/256:Nat):Int):=u32_xor_nat (cN 8 y) (x/256) (aHk Yo) Yo
   go_wp2_with fail
   go_round
   case rel=>exact⟨i+1,by go_num,Yo,by show _=Value.int .u32 ((cN 8 (cF (bgS s) g i^^^g i):Nat):Int);rw[←unhide EX, ←unhide EC,aMj, ←unhide EY]⟩
   case measure=>simp[intOf];omega
  ·have e6:i=len:=Yo
   subst e6
   have n1:=aGt x hlt
   go_wp2_with fail
   go_ret
   exact⟨by unfold moreN;rw[unhide EX];rfl,unhide K2⟩
theorem aFo (ao : Option Addr) (len cap : Nat) (g : Nat → Nat) (w : World) (hg : ∀ i, g i < 256) (hl : len ≤ 9223372036854775807) (hr : Rd w ao len (bF g)) :
  Calls Tryz.prog 64 #[.slice ao len cap] w λe w'=>e=.returned (.int .i64 (moreN 0 g len:Nat))∧Below w.heap.size w w':=by
 go_enter Tryz.func64,Tryz.ntmps64
 go_wp2_with fail
 refine (aKu 0 ao len cap g w hg hl hr).mono ?_
 rintro e w1 ⟨rfl,k1⟩
 go_wp2_with fail
 go_ret
 exact⟨rfl,k1⟩
def tlF(s:Nat)(i:Nat):Nat:=if i=0 then s%256 else if i=1 then s/256%256 else if i=2 then s/65536%256 else s/16777216%256
theorem aIy(s i:Nat):tlF s i<256:=by unfold tlF;split;omega;split;omega;split;omega;omega
theorem aSR:(Tryz.prog.info? 118).map (·.size)=some 4:=by kernel_rfl
theorem aTB {w : World} {b : Nat} {f : Nat → Value} {t : TypeId} (h : Vh t w b 4 4 f) (x0 x1 x2 x3 : Value) (g : Nat → Value) (e0 : x0 = g 0) (e1 : x1 = g 1) (e2 : x2 = g 2) (e3 : x3 = g 3) :
  Vh t ((((w.setCell ⟨b,0,none⟩ x0).setCell ⟨b,1,none⟩ x1).setCell ⟨b,2,none⟩ x2).setCell ⟨b,3,none⟩ x3) b 4 4 g:=by
 refine ((((h.set 0 x0).set 1 x1).set 2 x2).set 3 x3).congr (λi hi=>?_)
 have:i=0∨i=1∨i=2∨i=3:=Yo
 rcases this with rfl|rfl|rfl|rfl
 ·rw[gT _ _ Yc,gT _ _ Yc,gT _ _ Yc,kF,e0]
 ·rw[gT _ _ Yc,gT _ _ Yc,kF,e1]
 ·rw[gT _ _ Yc,kF,e2]
 ·rw[kF,e3]
set_option maxHeartbeats 1000000 in
theorem aCb (ao : Option Addr) (len cap : Nat) (g : Nat → Nat) (w : World) (hg : ∀ i, g i < 256) (hl : len ≤ 9223372036854775807) (hr : Rd w ao len (bF g)) :
  Calls Tryz.prog 43 #[.slice ao len cap] w λe w'=>e=.returned (.agg (rowV (bF (tlF (moreN 0 g len))) 4).toArray)∧Below w.heap.size w w':=by
 have HG:=aA hg;have HR:=aA (hr.below (bR w (.cells #[.int .u8 0,.int .u8 0,.int .u8 0,.int .u8 0] 118)))
 clear hg hr
 go_enter Tryz.func43,Tryz.ntmps43
 go_wp2_with fail
 refine (aFo ao len cap g _ (unhide HG) hl (unhide HR)).mono ?_
 rintro e w1 ⟨rfl,k1⟩
 have hm:=aEG 0 g len
 obtain⟨s,es⟩:∃s,s=moreN 0 g len:=⟨_,rfl⟩
 rw[←es] at hm ⊢
 have h0:Vh 118 w1 w.heap.size 4 4 (λ_=>.int .u8 0):=(Vh.new w 118 #[.int .u8 0,.int .u8 0,.int .u8 0,.int .u8 0] (λ_=>.int .u8 0) Yc (λi hi=>by
  have:i=0∨i=1∨i=2∨i=3:=by simp at hi;omega
  rcases this with rfl|rfl|rfl|rfl<;>rfl)).below k1
 have kB:Below w.heap.size w w1:=(bR w _).trans (k1.mono (by rw[dC];omega))
 have c0:=h0.cell (show 0<4 by omega);have c1:=h0.cell (show 1<4 by omega);have c2:=h0.cell (show 2<4 by omega);have c3:=h0.cell (show 3<4 by omega)
 have f0:=h0.free 0;have f1:=h0.free 1;have f2:=h0.free 2;have f3:=h0.free 3
 have h4:=aTB h0 (.int .u8 ((s:Int)%256)) (.int .u8 ((s:Int)/256%256)) (.int .u8 ((s:Int)/65536%256)) (.int .u8 ((s:Int)/16777216)) (bF (tlF s)) rfl rfl rfl (by show _=Value.int .u8 ((s/16777216%256:Nat):Int);congr 1;omega)
 have k4:Below w.heap.size w _:=aC (aC (aC (aC kB (kept_set w1 w.heap.size 0 (.int .u8 ((s:Int)%256))) (Nat.le_refl _) kB.size) (kept_set _ w.heap.size 1 (.int .u8 ((s:Int)/256%256))) (Nat.le_refl _) (by simp[World.setCell];exact kB.size)) (kept_set _ w.heap.size 2 (.int .u8 ((s:Int)/65536%256))) (Nat.le_refl _) (by simp[World.setCell];exact kB.size)) (kept_set _ w.heap.size 3 (.int .u8 ((s:Int)/16777216))) (Nat.le_refl _) (by simp[World.setCell];exact kB.size)
 have ES:=aA es;have H4:=aA h4;have K4:=aA k4
 clear es k1 h0 kB h4 k4
 go_wp2_with fail
 refine bodyPost_ret (v:=.agg (rowV (bF (tlF s)) 4).toArray) ?_ rfl ⟨by rw[unhide ES],unhide K4⟩
 exact results_cell_row Tryz.results43 _ _ w.heap.size 118 _ (0,0) _ rfl (unhide H4).whole Tryz.underlying118 rfl (by rw[aSR];rfl)
def vN(g:Nat→Nat)(n i:Nat):Nat:=if i<n then g i else tlF (moreN 0 g n) (i-n)
theorem aIr{g:Nat→Nat}(hg:∀i,g i<256)(n i:Nat):vN g n i<256:=by unfold vN;split;exact hg i;exact aIy _ _
theorem aPx(g:Nat→Nat)(n:Nat):rowV (bF g) n++rowV (bF (tlF (moreN 0 g n))) 4=rowV (bF (vN g n)) (n+4):=by
 rw[lM]
 exact iB (λi _=>by unfold bF vN;split<;>rfl)
set_option maxHeartbeats 1000000 in
theorem aMp (ao : Option Addr) (len cap : Nat) (g : Nat → Nat) (w : World) (hg : ∀ i, g i < 256) (hl : len + 4 ≤ 140737488355328) (hr : Rd w ao len (bF g)) :
  Calls Tryz.prog 25 #[.slice ao len cap] w λe w'=>∃v,e=.returned v∧w'.ownsRow w.heap.size 5 1 v (len+4) (rowV (bF (vN g len)) (len+4))∧Below w.heap.size w w':=by
 have HG:=aA hg;have HR:=aA hr
 clear hg hr
 go_enter Tryz.func25,Tryz.ntmps25
 go_wp2_with (at_make;refine wpList_makeC _ rfl _ _ rfl len (len+4) rfl (by go_num) Yo Yo ?_)
 intro w1 z1 v1 k1
 have V1:=aA v1;have K1:=aA k1;have Z1:=aA z1
 clear v1 k1 z1
 go_wp2_with (show wpList _ _ _ ({ dst:=_,op:=Op.call { callee:=Callee.builtin Builtin.copy,args:=_,argTypes:=_ },type:=_,pos:=_,after:=_,guard:=_ }::_) _ _;refine wpList_copyB _ rfl _ _ rfl w.heap.size len (len+4) _ rfl (unhide V1) ao cap (bF g) rfl ((unhide HR).below (unhide K1)) (bF_one g) ?_)
 intro w2 v2 k2
 have V2:=aA v2;have K2:=aA (aC (unhide K1) k2 (Nat.le_refl _) (unhide K1).size)
 clear v2 k2 V1
 go_wp2_with fail
 refine (aCb ao len cap g _ (unhide HG) Yo ((unhide HR).below (unhide K2))).mono ?_
 rintro e w3 ⟨rfl,k3⟩
 obtain⟨T,eT⟩:∃T:Array Value,T=(rowV (bF (tlF (moreN 0 g len))) 4).toArray:=⟨_,rfl⟩
 rw[←eT]
 have st:=wU Tryz.prog w3.heap.size 118 #[.int .u8 0,.int .u8 0,.int .u8 0,.int .u8 0] T (w3.alloc (.cells #[.int .u8 0,.int .u8 0,.int .u8 0,.int .u8 0] 118)) (heap_alloc_new _ _) (by rw[eT];rfl) (by rw[eT,Array.all_eq_true_iff_forall_mem];intro u hu;exact mU _ 4 (λi _=>rfl) u (by simpa using hu))
 rw[World.setRow_alloc_new] at st
 have sT:T.size=4:=by rw[eT];rfl
 have k4:=k3.trans ((bR w3 (.cells T 118)).mono k3.size)
 have v4:=(unhide V2).below k4
 have b4:=(unhide K2).trans (k4.mono (unhide K2).size)
 have s4:Sr (w3.alloc (.cells T 118)) (some ⟨w3.heap.size,0,none⟩) 4 4 (bF (tlF (moreN 0 g len))):=
  Or.inr ⟨_,rfl,λi hi=>by rw[Addr.add_lit,Nat.zero_add];exact (Vh.of_row (bF (tlF (moreN 0 g len))) 4 (by unfold maxLen;omega) (by rw[heap_alloc_new,eT];rfl)).cell hi⟩
 have V4:=aA v4;have B4:=aA b4;have S4:=aA s4;have Z4:=aA b4.size
 clear k3 k4 v4 b4 s4 eT
 go_wp2_with (at_builtin;refine wpList_join _ rfl _ _ rfl w.heap.size (unhide Z4) (.slice (some ⟨w.heap.size,0,none⟩) len (len+4)) len (rowV (bF g) len) rfl ((unhide V4).owns (Nat.le_refl _)) (some ⟨w3.heap.size,0,none⟩) 4 4 (bF (tlF (moreN 0 g len))) rfl (unhide S4) (λi _=>rfl) Yo ?_)
 intro v' w5 h5 k5
 rw[aPx] at h5
 have H5:=aA h5;have K5:=aA ((unhide B4).trans k5)
 clear h5 k5
 go_wp2_with fail
 go_ret
 exact⟨_,rfl,unhide H5,unhide K5⟩
end Go.Proofs.YtdhblehhgpdpdacGreat
namespace Go.Proofs.YtdhblehhgpdpdacGreat
theorem aLU(a b p:Nat):(a^^^b)*2^p=a*2^p^^^b*2^p:=by
 apply Nat.eq_of_testBit_eq
 intro i
 rw[Nat.testBit_xor,Nat.mul_comm,Nat.mul_comm a,Nat.mul_comm b,Nat.testBit_two_pow_mul,Nat.testBit_two_pow_mul,Nat.testBit_two_pow_mul,Nat.testBit_xor]
 by_cases h:p≤i<;>simp[h]
theorem aCd{h:Nat→Nat}(hh:∀i,h i<256)(n:Nat)(e:∀i,i<4→h (n+i)=tlF (moreN 0 h n) i):cF (bgS 0) h (n+4)=cN 32 4294967295:=by
 rw[aRg,aBq _ 4 e,aNg _ (aIy _)]
 have hR:=aNF (aJR 0) hh n
 have hs:=aEG 0 h n
 have e1:cV (tlF (moreN 0 h n)) 4=moreN 0 h n:=by
  show 0+tlF _ 0*2^(8*0)+tlF _ 1*2^(8*1)+tlF _ 2*2^(8*2)+tlF _ 3*2^(8*3)=_
  unfold tlF
  simp
  omega
 have e2:cF (bgS 0) h n^^^moreN 0 h n=4294967295:=by
  unfold moreN
  rw[←aNM _ hR,Nat.xor_comm,Nat.xor_assoc,Nat.xor_self,Nat.xor_zero]
 rw[e1,e2]
theorem aKy(g:Nat→Nat)(n:Nat):moreN 0 (vN g n) n=moreN 0 g n:=by
 unfold moreN
 rw[aBq (bgS 0) n (λi hi=>show vN g n i=g i by unfold vN;rw[if_pos hi])]
theorem aHU(g:Nat→Nat)(n:Nat):∀i,i<4→vN g n (n+i)=tlF (moreN 0 (vN g n) n) i:=by
 intro i _
 rw[aKy]
 unfold vN
 rw[if_neg Yo,Nat.add_sub_cancel_left]
end Go.Proofs.YtdhblehhgpdpdacGreat
