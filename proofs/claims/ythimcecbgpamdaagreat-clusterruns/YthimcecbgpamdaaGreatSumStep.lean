import Derived.Test.YthimcecbgpamdaaGreatNear149
import Derived.Deep.WholeRow
namespace Go.Proofs.YthimcecbgpamdaaGreat
open Go.RowKit
theorem aKq(r:Nat)(h:r<4294967296):bits .and .u32 (r:Int) 1=((r%2:Nat):Int):=by
 have:=u32_and_nat r 1 h Yo;rw[nat_mask1] at this;exact this
theorem aFd(r:Nat)(h:r<4294967296):bits .xor .u32 (r:Int) 3988292384=((r^^^3988292384:Nat):Int):=u32_xor_nat r 3988292384 h Yo
theorem aEF(r:Nat)(h:r<4294967296)(w:World):Calls Tryz.prog 182 #[.int .u32 (r:Int)] w λe w'=>e=.returned (.int .u32 (cS r:Nat))/\w'=w:=by
 have t:=aKq r h;by_cases h2:r%2=0
 .have e1:Hid (cS r=r/2):=by unfold cS;exact if_pos h2
  rw[h2] at t;go_enter Tryz.func182,Tryz.ntmps182
  go_wp2
  go_ret
  exact⟨by rw[aA e1];go_num,rfl⟩
 .have h3:r%2=1:=Yo;have e1:Hid (cS r=r/2^^^3988292384):=by unfold cS;exact if_neg h2
  have p:=aFd (r/2) Yo;rw[h3] at t;have p2:bits .xor .u32 ((r:Int)/2) 3988292384=((r/2^^^3988292384:Nat):Int):=by rw[<-p];congr 1
  go_enter Tryz.func182,Tryz.ntmps182
  go_wp2
  go_ret
  exact⟨by rw[aA e1];first|exact congrArg (λz=>Exit.returned (Value.int .u32 z)) p2|go_num,rfl⟩
def tabF(j:Nat):Value:=.int .u32 (cN 8 j:Nat)
def BM(i:Nat)(j:Nat):Value:=if j<i then tabF j else .int .u32 0
def LK:Array Value:=Array.replicate 256 (.int .u32 0)
theorem aDM:(Tryz.prog.info? 206).map (λi=>(i.zero,i.size))=some (some (.agg LK),256):=Yl
theorem aEK(i:Nat):stW (BM i) i (tabF i)=BM (i+1):=by grind [BM,jV,iA]
theorem aAB(n x:Nat):cN (n+1) x=cS (cN n x):=by rw[aLx];rfl
theorem yR(P:Program)(g:Nat)(t:TypeId)(old T:Array Value)(w:World)(hg:w.heap[g]?=some (.cells old t (0,0)))(hs:old.size=T.size)(h1:T.all (·.oneCell')=true):(storeCells ⟨g,0,none⟩ T.toList).run P w=.ok () (w.setRow g T):=by
 have:=run_storeCells_from (P:=P) g t T.toList 0 old w hg (by simp;omega) (λv hv=>(Array.all_eq_true_iff_forall_mem.1 h1) v (by simpa using hv))
 simpa using this
set_option maxRecDepth 100000 in
set_option maxHeartbeats 1000000 in
theorem aDa(w:World):Calls Tryz.prog 154 #[] w λe w'=>e=.returned (.agg (rowV tabF 256).toArray)/\Below w.heap.size w w':=by
 obtain⟨z33,s33⟩:=zero_of_info aDM;obtain⟨Z,eZ⟩:∃Z,Z=LK:=⟨_,rfl⟩;have EZ:=aB eZ;rw[<-eZ] at z33;clear eZ;have S33:=aB s33;clear s33;have hZ:Z.size=256:=by rw[aA EZ];simp[LK]
 have hB:Below w.heap.size w ((w.alloc (Obj.cells Z 206)).alloc (Obj.cells Z 206)):=((Below.refl _ _).alloc (Xr _) _).alloc (by rw[dK];omega) _;have h0:((w.alloc (Obj.cells Z 206)).alloc (Obj.cells Z 206)).heap[w.heap.size]?=some (.cells Z 206 (0,0)):=heap_alloc2_old w _ _;have h1:Vh 206 ((w.alloc (Obj.cells Z 206)).alloc (Obj.cells Z 206)) (w.heap.size+1) 256 256 (BM 0):=
  ⟨Z,heap_alloc2_new w _ _,hZ,Xr _,by unfold maxLen;omega,λi hi=>by rw[aA EZ];simp[LK,BM,hi]⟩
 have B0:=aB hB;have H0:=aB h0;have H1:=aB h1;have HZ:=aB hZ;clear hB h0 h1 hZ;go_enter Tryz.func154,Tryz.ntmps154
 go_wp2_with fail
 go_loopw [4] (λis wr=>∃i:Nat,is=.int .i64 i/\i<=256/\Vh 206 wr (w.heap.size+1) 256 256 (BM i)/\wr.heap[w.heap.size]?=some (.cells Z 206 (0,0))/\Below w.heap.size w wr) (λis _=>256-(intOf is).toNat)
 case atStart=>exact⟨0,rfl,Xz _,aA H1,aA H0,aA B0⟩
 case round=>
  obtain⟨i,rfl,hi,hV,hz,hK⟩:=hrel;clear B0 H0 H1 z33;have V:=aB hV;have HZ0:=aB hz;have KK:=aB hK;clear hV hz hK;by_cases hin:i<256
  .have hin2:(i:Int)<256:=Yo;have ew:IntKind.u32.wrap (i:Int)=((cN 0 i:Nat):Int):=by rw[IntKind.wrap_u32'];show (i:Int)%4294967296=i;omega
   go_wp2_with fail
   try rw[ew]
   go_loop [3,9] (λrs ks=>∃k:Nat,ks=.int .i64 k/\k<=8/\rs=.int .u32 (cN k i:Nat)) (λ_ ks=>8-(intOf ks).toNat)
   case atStart=>exact⟨0,rfl,Xz _,rfl⟩
   case round=>
    obtain⟨k,rfl,hk,rfl⟩:=hrel;have hlt:cN k i<4294967296:=aBy Yo;obtain⟨x,ex⟩:∃x,x=cN k i:=⟨_,rfl⟩;rw[<-ex] at hlt ⊢;have EX:=aB ex;clear ex ew;by_cases hk8:k<8
    .go_wp2_with fail
     refine (aEF x hlt _).mono ?_;rintro e w1 ⟨rfl,rfl⟩;go_wp2_with fail
     go_round
     case rel=>exact⟨k+1,by go_num,Yo,by rw[aAB, <-aA EX]⟩
     case measure=>simp[intOf];omega
    .have e8:k=8:=Yo;subst e8;have f1:=(aA V).free i;have l1:(_:World).cell? ⟨w.heap.size+1,i,none⟩=some (BM i i):=(aA V).cell hin;go_wp2_with fail
     go_roundw
     case rel=>exact⟨i+1,by go_num,Yo,by rw[<-aEK i];have:=(aA V).set i (tabF i);unfold tabF at this ⊢;rw[<-aA EX] at this ⊢;exact this,by rw[heap_setCell_other _ _ _ _ (by show w.heap.size≠w.heap.size+1;omega)];exact aA HZ0,aF (aA KK) (bJ _ _ _ _) Yo (aA KK).size⟩
     case measure=>simp[intOf];omega
  .have e6:i=256:=Yo;subst e6;go_wp2_with fail
   obtain⟨T,eT⟩:∃T:Array Value,T=(rowV tabF 256).toArray:=⟨_,rfl⟩;have hT:wr.heap[w.heap.size+1]?=some (.cells T 206 (0,0)):=by
    rw[(aA V).whole,eT];exact congrArg (λl:List Value=>some (Obj.cells l.toArray 206 (0,0))) (iC (l:=256) (λi hi=>by unfold BM;rw[if_pos hi]))
   have sT:T.size=256:=by rw[eT];simp[gF]
   have oT:T.all (·.oneCell')=true:=by rw[eT];rw[Array.all_eq_true_iff_forall_mem];intro u hu;exact nK tabF 256 (λi _=>rfl) u (by simpa using hu)
   have ET:=aB eT;clear eT;have st:=yR Tryz.prog w.heap.size 206 Z T wr (aA HZ0) (by rw[aA HZ,sT]) oT;refine wp_load_row 206 (.tmp 1) rfl (w.heap.size+1) rfl 206 T (0,0) _ hT Tryz.underlying206 rfl (by rw[aA S33,sT]) ?_;have HT:=aB hT;clear hT oT;go_wp2_with fail
   have h3:(wr.setRow w.heap.size T).heap[w.heap.size]?=some (.cells T 206 (0,0)):=setRow_heap wr _ _ _ _ _ (aA HZ0);have k3:Below w.heap.size w (wr.setRow w.heap.size T):=(aA KK).trans ⟨rfl,rfl,rfl,by simp,λk hk=>setRow_other _ _ _ _ Yo⟩;have H3:=aB h3;have K3:=aB k3;refine bodyPost_ret (v:=.agg T) ?_ rfl ⟨by rw[aA ET],aA K3⟩;exact results_cell_row Tryz.results154 _ _ w.heap.size 206 T (0,0) _ rfl (aA H3) Tryz.underlying206 rfl (by rw[aA S33,sT])
end Go.Proofs.YthimcecbgpamdaaGreat
