import Derived.Deep.WholeRow
import Derived.Test.YthimcecbgpamdaaGreatDoorNear213
set_option maxHeartbeats 1000000
set_option maxRecDepth 100000
open Go.Proofs.YthimcecbgpamdaaGreatDoor renaming aA->A,hide->B,Yo->E,bF->I,cN->K,rowV->L,wZ->R,Xr->S,Yc->U,bV->X,iR->Y,Vh->d
open Go.Value renaming int->C,slice->M,int->ε,pointer->ζ
open _root_ renaming rfl->D,Int->F,Array->γ,congrArg->δ
open Option renaming some->G,none->H
open Go.Proofs.Tryz renaming prog->J
open Go.Obj renaming cells->O
open Go renaming bits->Q,execOp->W,Calls->p,bodyPost_ret->η
open Go.Ending renaming returned->β
namespace Go.Proofs.YthimcecbgpamdaaGreatDoor
open Go.RowKit
theorem aPZ(r:Nat)(h:r<4294967296):Q .and .u32 r 1=((r%2:Nat)):=by have:=u32_and_nat r 1 h E;grind
theorem aMk(r:Nat)(h:r<4294967296):Q .xor .u32 r 3988292384=((r^^^3988292384:Nat)):=u32_xor_nat r 3988292384 h E
theorem aGA(r:Nat)(h:r<4294967296)(w):p J 279 #[C .u32 (r)] w λe w'=>e=β (C .u32 (cS r))/\w'=w:=by
 have t:=aPZ r h;by_cases h2:r%2=0
 .have e1:Hid (cS r=r/2):=by unfold cS;exact if_pos h2
  go_in;go_wp2;go_ret;exact⟨by rw[A e1];go_num,rfl⟩
 have e1:Hid (cS r=r/2^^^3988292384):=by unfold cS;exact if_neg h2
 have p2:Q .xor .u32 ((r:F)/2) 3988292384=((r/2^^^3988292384:Nat):F):=by rw[<-(aMk (r/2) E)];congr 1
 go_in;go_wp2;go_ret;exact⟨by rw[A e1];first|exact δ (λz=>Exit.returned (ε .u32 z)) p2|go_num,rfl⟩
def tabF(j:Nat):Value:=C .u32 (K 8 j)
def JS(i:Nat)(j:Nat):Value:=if j<i then tabF j else C .u32 0
def VU:γ Value:=Array.replicate 256 (C .u32 0)
theorem aHp:(Tryz.prog.info? 284).map (λi=>(i.zero,i.size))=G (G (.agg VU),256):=Yl
theorem aIV(i):stW (JS i) i (tabF i)=JS (i+1):=by grind [JS,lL,Y]
theorem aDK(n x):K (n+1) x=cS (K n x):=by rw[aRb];rfl
theorem Y0(P)(g)(t)(old T)(w)(hg:w.heap[g]?=G (O old t (0,0)))(hs:old.size=T.size)(h1:T.all (·.oneCell')=true):(storeCells ⟨g,0,H⟩ T.toList).run P w=.ok () (w.setRow g T):=by have:=run_storeCells_from (P:=P) g t T.toList 0 old w hg Mm (λv hv=>(Array.all_eq_true_iff_forall_mem.1 h1) v (by simpa using hv));simp_all
theorem aIU(w):p J 251 #[] w λe w'=>e=β (.agg (L tabF 256).toArray)/\Below w.heap.size w w':=by
 obtain⟨z33,s33⟩:=zero_of_info aHp;obtain⟨Z,eZ⟩:=R VU;have EZ:=B eZ;rw[<-eZ] at z33;clear eZ;have S33:=B s33;clear s33;have hZ:Z.size=256:=by rw[A EZ];simp[VU]
 have hB:nS w ((w.alloc (Obj.cells Z 284)).alloc (Obj.cells Z 284)):=((Af _ _).alloc (S _) _).alloc (by rw[fA];omega) _;have h0:((w.alloc (Obj.cells Z 284)).alloc (Obj.cells Z 284)).heap[w.heap.size]?=G (O Z 284 (0,0)):=heap_alloc2_old w _ _;have h1:d 284 ((w.alloc (Obj.cells Z 284)).alloc (Obj.cells Z 284)) (w.heap.size+1) 256 256 (JS 0):=
  ⟨Z,heap_alloc2_new w _ _,hZ,S _,Ym,λi hi=>by rw[A EZ];simp[VU,JS,hi]⟩
 have B0:=B hB;have H0:=B h0;have H1:=B h1;have HZ:=B hZ;clear hB h0 h1 hZ;go_in;go_wp2_with fail;go_loopw [4] (λis wr=>∃i:Nat,is=iY i/\i<=256/\d 284 wr (w.heap.size+1) 256 256 (JS i)/\wr.heap[w.heap.size]?=G (O Z 284 (0,0))/\nS w wr) (λis _=>256-(intOf is).toNat);case atStart=>exact⟨0,rfl,Xz _,A H1,A H0,A B0⟩
 case round=>
  obtain⟨i,rfl,hi,hV,hz,hK⟩:=hrel;clear B0 H0 H1 z33;have V:=B hV;have HZ0:=B hz;have KK:=B hK;clear hV hz hK;by_cases hin:i<256
  .have hin2:(i:F)<256:=E;have ew:IntKind.u32.wrap (i:F)=((K 0 i:Nat):F):=by rw[IntKind.wrap_u32'];show (i:F)%4294967296=i;omega
   go_wp2_with fail;try rw[ew]
   go_loop [3,9] (λrs ks=>∃k:Nat,ks=iY k/\k<=8/\rs=C .u32 (K k i:Nat)) (λ_ ks=>8-(intOf ks).toNat);case atStart=>exact⟨0,rfl,Xz _,rfl⟩
   case round=>
    obtain⟨k,rfl,hk,rfl⟩:=hrel;have hlt:K k i<4294967296:=aEU E;obtain⟨x,ex⟩:=R (K k i);rw[<-ex] at hlt ⊢;have EX:=B ex;clear ex ew;by_cases hk8:k<8
    .go_wp2_with fail;refine (aGA x hlt _).mono ?_;rintro e w1 ⟨rfl,rfl⟩;go_wp2_with fail;go_round;case rel=>exact⟨k+1,Je,E,by rw[aDK, <-A EX]⟩
     case measure=>simp[intOf];omega
    .have e8:k=8:=E;subst e8;have f1:=(A V).free i;have l1:(_:World).cell? ⟨w.heap.size+1,i,H⟩=G (JS i i):=(A V).cell hin;go_wp2_with fail;go_roundw;case rel=>exact⟨i+1,Je,E,by rw[<-aIV i];have:=(A V).set i (tabF i);unfold tabF at this ⊢;rw[<-A EX] at this ⊢;exact this,by rw[heap_setCell_other _ _ _ _ (by show w.heap.size≠w.heap.size+1;omega)];exact A HZ0,aF (A KK) (bN _ _ _ _) E (A KK).size⟩
     case measure=>simp[intOf];omega
  .have e6:i=256:=E;subst e6;go_wp2_with fail;obtain⟨T,eT⟩:∃T:γ Value,T=(L tabF 256).toArray:=⟨_,rfl⟩;have hT:wr.heap[w.heap.size+1]?=G (O T 284 (0,0)):=by rw[(A V).whole,eT];exact δ (λl:List Value=>G (Obj.cells l.toArray 284 (0,0))) (iW (l:=256) (λi hi=>by unfold JS;rw[if_pos hi]))
   have sT:T.size=256:=by rw[eT];simp[iA]
   have oT:T.all (·.oneCell')=true:=Oc;have ET:=B eT;clear eT;have st:=Y0 uC w.heap.size 284 Z T wr (A HZ0) (by rw[A HZ,sT]) oT;refine wp_load_row 284 (.tmp 1) D (w.heap.size+1) D 284 T (0,0) _ hT Tryz.underlying284 D (by rw[A S33,sT]) ?_;have HT:=B hT;clear hT oT;go_wp2_with fail;have h3:(wr.setRow w.heap.size T).heap[w.heap.size]?=G (O T 284 (0,0)):=setRow_heap wr _ _ _ _ _ (A HZ0);have k3:nS w (wr.setRow w.heap.size T):=(A KK).trans ⟨D,D,D,Mt,λk hk=>setRow_other _ _ _ _ E⟩;have H3:=B h3;have K3:=B k3;refine η (v:=.agg T) ?_ D ⟨by rw[A ET],A K3⟩;exact results_cell_row Tryz.results251 _ _ w.heap.size 284 T (0,0) _ D (A H3) Tryz.underlying284 D (by rw[A S33,sT])
def bgS(s:F):Nat:=4294967295-(s%4294967296).toNat
theorem aGq(s):bgS s<4294967296:=by unfold bgS;omega
def moreN(s:F)(g:Nat->Nat)(n:Nat):Nat:=4294967295-cF (bgS s) g n
theorem aBb(s)g(n):moreN s g n<4294967296:=by unfold moreN;omega
theorem aNi(x)(h:x<4294967296):4294967295^^^x=4294967295-x:=by have e:BitVec.allOnes 32^^^BitVec.ofNat 32 x= ~~~ BitVec.ofNat 32 x:=BitVec.allOnes_xor;have e2:=δ BitVec.toNat e;grind
theorem aEH(x:Nat)(h:x<4294967296):Q .xor .u32 IntKind.u32.max x=((4294967295-x:Nat)):=by have e:IntKind.u32.max=((4294967295:Nat):F):=U;rw[e,u32_xor_nat 4294967295 x E h,aNi x h]
theorem aNL(s):Q .xor .u32 IntKind.u32.max (s%4294967296)=(bgS s):=by have e:s%4294967296=(((s%4294967296).toNat:Nat):F):=E;rw[e,aEH _ E];rfl
theorem aSH(x c:Nat)(hc:c<256):Q .xor .u8 (((x%256:Nat))) c=((x%256^^^c)):=u8_xor_nat _ _ E hc
theorem aRW(x c)(hc:c<256):x%256^^^c<256:=wE (n:=8) E hc
theorem aKv(s)(ao)(len cap)g(w)(hg:∀i,g i<256)(hl:len<=9223372036854775807)(hr:Rd w ao len (I g)):p J 223 #[C .i64 s,M ao len cap] w λe w'=>e=β (C .i64 (moreN s g len))/\Below w.heap.size w w':=by
 obtain⟨z33,s33⟩:=zero_of_info aHp;obtain⟨Z,eZ⟩:=R VU;rw[<-eZ] at z33;have hZ:Z.size=256:=by rw[eZ];simp[VU]
 have HZ:=B hZ;have HR:=B hr;have HG:=B hg;clear eZ hZ hr hg s33;go_in;go_wp2_with fail;refine (aIU w).mono ?_;rintro e w1 ⟨rfl,k1⟩;obtain⟨T,eT⟩:∃T:γ Value,T=(L tabF 256).toArray:=⟨_,rfl⟩;rw[<-eT];have sT:T.size=256:=by rw[eT];simp[iA]
 have oT:T.all (·.oneCell')=true:=Oc;have st:=Y0 uC w1.heap.size 284 Z T (w1.alloc (O Z 284)) (Hu _ _) (by rw[A HZ,sT]) oT;rw[World.setRow_alloc_new] at st;have ET:=B eT;have K1:=B k1;clear eT k1 oT;go_wp2_with fail;rw[aNL s];have hT:d 284 (w1.alloc (O T 284)) w1.heap.size 256 256 tabF:=Cf tabF 256 Ym (by rw[Hu,A ET];rfl);obtain⟨w2,e2⟩:=R (w1.alloc (Obj.cells T 284));rw[<-e2] at hT ⊢;have k2:nS w w2:=by rw[e2];exact (A K1).alloc (A K1).size _
 obtain⟨q,eq⟩:=R w1.heap.size;rw[<-eq] at hT ⊢;have HT:=B hT;have K2:=B k2;have R2:=B ((A HR).below k2);clear hT k2 e2 eq st K1 z33 HR;go_loop [6,15] (λrs is=>∃i:Nat,is=iY i/\i<=len/\rs=C .u32 (cF (bgS s) g i:Nat)) (λ_ is=>len-(intOf is).toNat);case atStart=>exact⟨0,rfl,Xz _,rfl⟩
 case round=>
  obtain⟨i,rfl,hi,rfl⟩:=hrel;have hlt:=aMS (aGq s) (A HG) i;obtain⟨x,ex⟩:=R (cF (bgS s) g i);rw[<-ex] at hlt ⊢;have EX:=B ex;clear ex;by_cases hin:i<len
  .obtain⟨b,o,rfl,hcs⟩:=A R2 E;have hc:w2.cell? ⟨b,o+i,H⟩=G (C .u8 (g i:Nat)):=hcs i hin;clear hcs;have hb:=A HG i;obtain⟨c,ec⟩:=R (g i);rw[<-ec] at hc hb;have EC:=B ec;clear ec;have m1:Q .xor .u8 ((x:F)%256) (c:F)=((x%256^^^c:Nat):F):=aSH x c hb;have m2:=aRW x c hb;obtain⟨y,ey⟩:=R (x%256^^^c);rw[<-ey] at m1 m2;have EY:=B ey;clear ey;have l1:w2.cell? ⟨q,y,H⟩=G (C .u32 (K 8 y:Nat)):=(A HT).cell m2;have m4:Q .xor .u32 (K 8 y:Nat) ((x:F)/256)=((K 8 y^^^x/256:Nat):F):=u32_xor_nat (K 8 y) (x/256) (aEU E) E;go_wp2_with fail;go_round;case rel=>exact⟨i+1,Je,E,by show _=ε .u32 ((K 8 (cF (bgS s) g i^^^g i):Nat):F);rw[<-A EX, <-A EC,aJH, <-A EY]⟩
   case measure=>simp[intOf];omega
  have e6:i=len:=E;subst e6;have n1:=aEH x hlt;go_wp2_with fail;go_ret;exact⟨by unfold moreN;rw[A EX];rfl,A K2⟩
theorem aAg(ao)(len cap)g(w)(hg:∀i,g i<256)(hl:len<=9223372036854775807)(hr:Rd w ao len (I g)):p J 183 #[M ao len cap] w λe w'=>e=β (C .i64 (moreN 0 g len))/\Below w.heap.size w w':=by go_in;go_wp2_with fail;refine (aKv 0 ao len cap g w hg hl hr).mono ?_;rintro e w1 ⟨rfl,k1⟩;go_wp2_with fail;go_ret;exact⟨D,k1⟩
def tlF(s:Nat)(i:Nat):Nat:=if i=0 then s%256 else if i=1 then s/256%256 else if i=2 then s/65536%256 else s/16777216%256
theorem aSF(s i):tlF s i<256:=by unfold tlF;grind
theorem aTc:(Tryz.prog.info? 243).map (·.size)=G 4:=Yl
variable{b:Nat}{t:TypeId}{w:World}
theorem aTM{f:Nat->Value}(h:d t w b 4 4 f)(x0 x1 x2 x3)g(e0:x0=g 0)(e1:x1=g 1)(e2:x2=g 2)(e3:x3=g 3):d t ((((w.setCell ⟨b,0,H⟩ x0).setCell ⟨b,1,H⟩ x1).setCell ⟨b,2,H⟩ x2).setCell ⟨b,3,H⟩ x3) b 4 4 g:=by
 refine ((((h.set 0 x0).set 1 x1).set 2 x2).set 3 x3).congr (λi hi=>?_);have:i=0\/i=1\/i=2\/i=3:=E;rcases this with rfl|rfl|rfl|rfl
 .rw[Y _ _ U,Y _ _ U,Y _ _ U,lL,e0]
 .rw[Y _ _ U,Y _ _ U,lL,e1]
 .rw[Y _ _ U,lL,e2]
 rw[lL,e3]
theorem TL(ao)(len cap)g(w)(hg:∀i,g i<256)(hl:len<=9223372036854775807)(hr:Rd w ao len (I g)):p J 206 #[M ao len cap] w λe w'=>e=β (.agg (L (I (tlF (moreN 0 g len))) 4).toArray)/\Below w.heap.size w w':=by
 go_in;go_wp2_with fail;refine (aAg ao len cap g _ (A (B hg)) hl (A (B (hr.below (bU w (O #[C .u8 0,C .u8 0,C .u8 0,C .u8 0] 243)))))).mono ?_;rintro e w1 ⟨rfl,k1⟩;have hm:=aBb 0 g len;obtain⟨s,es⟩:∃s,s=moreN 0 g len:=⟨_,rfl⟩;rw[<-es] at hm ⊢;have h0:d 243 w1 w.heap.size 4 4 (λ_=>C .u8 0):=(Vh.new w 243 #[C .u8 0,C .u8 0,C .u8 0,C .u8 0] (λ_=>C .u8 0) U (λi hi=>by have:i=0\/i=1\/i=2\/i=3:=Nq;rcases this with rfl|rfl|rfl|rfl<;>rfl)).below k1;have kB:=(bU w _).trans (k1.mono (by rw[fA];omega));have c0:=h0.cell (show 0<4 by omega);have c1:=h0.cell (show 1<4 by omega);have c2:=h0.cell (show 2<4 by omega);have c3:=h0.cell (show 3<4 by omega);have f0:=h0.free 0;have f1:=h0.free 1;have f2:=h0.free 2;have f3:=h0.free 3;have h4:=aTM h0 (C .u8 ((s:F)%256)) (C .u8 ((s:F)/256%256)) (C .u8 ((s:F)/65536%256)) (C .u8 ((s:F)/16777216)) (I (tlF s)) D D D (by show _=ε .u8 ((s/16777216%256:Nat):F);congr 1;omega);have k4:=aF (aF (aF (aF kB (bN w1 w.heap.size 0 (C .u8 ((s:F)%256))) (S _) kB.size) (bN _ w.heap.size 1 (C .u8 ((s:F)/256%256))) (S _) FN) (bN _ w.heap.size 2 (C .u8 ((s:F)/65536%256))) (S _) FN) (bN _ w.heap.size 3 (C .u8 ((s:F)/16777216))) (S _) FN;have ES:=B es;have H4:=B h4;have K4:=B k4;clear es k1 h0 kB h4 k4;go_wp2_with fail;refine η (v:=.agg (L (I (tlF s)) 4).toArray) ?_ D ⟨by rw[A ES],A K4⟩;exact results_cell_row Tryz.results206 _ _ w.heap.size 243 _ (0,0) _ D (A H4).whole Tryz.underlying243 D (by rw[aTc];rfl)
def zG(g:Nat->Nat)(n i:Nat):Nat:=if i<n then g i else tlF (moreN 0 g n) (i-n)
theorem aIQ{g:Nat->Nat}(hg:∀i,g i<256)(n i):zG g n i<256:=by unfold zG;split;exact hg i;exact aSF _ _
theorem aEC(g:Nat->Nat)(n):L (I g) n++L (I (tlF (moreN 0 g n))) 4=L (I (zG g n)) (n+4):=by rw[mH];exact iW (λi _=>by unfold I zG;split<;>rfl)
theorem aLP(ao)(len cap)g(w)(hg:∀i,g i<256)(hl:len+4<=140737488355328)(hr:Rd w ao len (I g)):p J 144 #[M ao len cap] w λe w'=>∃v,e=β v/\w'.ownsRow w.heap.size 5 1 v (len+4) (L (I (zG g len)) (len+4))/\Below w.heap.size w w':=by
 have HR:=B hr;go_in;go_wp2_with (at_make;refine wpList_makeC _ D _ _ D len (len+4) D Je E E ?_);intro w1 z1 v1 k1;have K1:=B k1;go_wp2_with (show wpList _ _ _ ({ dst:=_,op:=Op.call { callee:=Callee.builtin Builtin.copy,args:=_,argTypes:=_ },type:=_,pos:=_,after:=_,guard:=_ }::_) _ _;refine wpList_copyB _ D _ _ D w.heap.size len (len+4) _ D (A (B v1)) ao cap (I g) D ((A HR).below (A K1)) (bF_one g) ?_);intro w2 v2 k2;have K2:=B (aF (A K1) k2 (S _) (A K1).size);go_wp2_with fail;refine (TL ao len cap g _ (A (B hg)) E ((A HR).below (A K2))).mono ?_;rintro e w3 ⟨rfl,k3⟩;obtain⟨T,eT⟩:∃T:γ Value,T=(L (I (tlF (moreN 0 g len))) 4).toArray:=⟨_,rfl⟩;rw[<-eT];have st:=Y0 uC w3.heap.size 243 #[C .u8 0,C .u8 0,C .u8 0,C .u8 0] T (w3.alloc (O #[C .u8 0,C .u8 0,C .u8 0,C .u8 0] 243)) (Hu _ _) (by rw[eT];rfl) Oh;rw[World.setRow_alloc_new] at st;have sT:T.size=4:=by rw[eT];rfl
 have k4:=k3.trans ((bU w3 (O T 243)).mono k3.size);have v4:=(A (B v2)).below k4;have b4:=(A K2).trans (k4.mono (A K2).size);have s4:Sr (w3.alloc (O T 243)) (G ⟨w3.heap.size,0,H⟩) 4 4 (I (tlF (moreN 0 g len))):=
  Ab ⟨_,rfl,λi hi=>by rw[Dq,Ah];exact (Cf (I (tlF (moreN 0 g len))) 4 Ym (by rw[Hu,eT];rfl)).cell hi⟩
 have V4:=B v4;have B4:=B b4;have S4:=B s4;have Z4:=B b4.size;clear k3 k4 v4 b4 s4 eT;go_wp2_with (at_builtin;refine kK _ D _ _ D w.heap.size (A Z4) (AZ w.heap.size len (len+4)) len (L (I g) len) D ((A V4).owns (S _)) (G ⟨w3.heap.size,0,H⟩) 4 4 (I (tlF (moreN 0 g len))) D (A S4) (λi _=>rfl) E ?_);intro v' w5 h5 k5;rw[aEC] at h5;go_wp2_with fail;go_ret;exact⟨_,D,A (B h5),A (B ((A B4).trans k5))⟩
variable{f:Operand->Value}{o:Oper}{off:Nat}
theorem nM(x y)(ho:o.op=.indexAddr 65 x y){len cap i:Nat}(hx:f x=M (G ⟨b,off,H⟩) len cap)(hy:f y=C .i64 i)(hi:i<len)(w):(W f o).run J w=.ok (.value (ζ (G ⟨b,off+i,H⟩))) w:=by go_simp
variable{v:Nat}
theorem pO(x)(ho:o.op=.load 5 x){a}(hx:f x=ζ (G a))(hc:w.cell? a=G (X v)):(W f o).run J w=.ok (.value (X v)) w:=by go_simp
theorem aLF(x y)(ho:o.op=.binOp .neq 5 x y 5){u}(hx:f x=X u)(hy:f y=X v)(h:u≠v)(w):(W f o).run J w=.ok (.value (.bool true)) w:=by have h2:¬((u:F)=(v:F)):=E;unfold X at hx hy;go_simp
theorem aLE(x y)(ho:o.op=.binOp .neq 5 x y 5){u}(hx:f x=X u)(hy:f y=X v)(h:u=v)(w):(W f o).run J w=.ok (.value (.bool false)) w:=by unfold X at hx hy;go_simp
variable{ao:Option Addr}
theorem DZ(x)(ho:o.op=.call { callee:=.builtin .len,args:=#[x],argTypes:=#[65] }){n c}(hx:f x=M ao n c)(w):(W f o).run J w=.ok (.value (C .i64 n)) w:=by go_simp
theorem aLw(x y)(ho:o.op=.slice 65 x (G y) H H){n c m:Nat}(hx:f x=M (G ⟨b,off,H⟩) n c)(hy:f y=C .i64 m)(h1:m<=n)(h3:m<c)(w):(W f o).run J w=.ok (.value (M (G ⟨b,off+m,H⟩) (n-m) (c-m))) w:=by go_simp;intro h;omega
theorem aLL(x y)(ho:o.op=.slice 65 x H (G y) H){n c m:Nat}(hx:f x=M (G ⟨b,off,H⟩) n c)(hy:f y=C .i64 m)(h1:m<=n)(h2:n<=c)(w):(W f o).run J w=.ok (.value (M (G ⟨b,off,H⟩) m c)) w:=by go_simp;intro h;omega
theorem aIB(x)(ho:o.op=.slice 243 x H H H)(hx:f x=ζ (G ⟨b,0,H⟩))(w):(W f o).run J w=.ok (.value (M (G ⟨b,0,H⟩) 4 4)) w:=Yg
theorem aCJ(v u)(w):(callFunc 298 #[v,u]).run J w=.ok (.enter 298 #[v,u]) w:=Yh
theorem Vh.cellz{N cap}{g:Nat->Value}(h:d t w b N cap g){i}(hi:i<N):w.cell? ⟨b,0+i,H⟩=G (g i):=by rw[Ah];exact h.cell hi
end Go.Proofs.YthimcecbgpamdaaGreatDoor
