import Derived.RangeFuncNested
import Derived.RangeFuncBound
import Derived.OwnWalkIn
import Derived.Test.YthimcecbgpamdaaGreatDoorNear208
import Derived.Shelf.RegionOpen
import Derived.LoopNIn
import Derived.LoopIn
set_option maxHeartbeats 1000000
namespace Go.Proofs.YthimcecbgpamdaaGreatDoor
open Go Go.RowKit
section
variable {P:Program} {ops:Array Oper} {Q:Exit->Act->World->Prop} {n l:Nat}
variable{K:Act->World->Prop}{a:Act}{o:Oper}{w:World}
theorem WU(hd:∀c,o.op≠.defer c)(h:Oper.wp P o a w K Q):o.wpIn (Fence.wide.inRound l) n P a w K Q:=by
 refine⟨λ_ _=>trivial,?_⟩;rw[Oper.semAt_plain (Fence.wide.inRound l) a.eval o hd];unfold Oper.wp at h;generalize (execOp a.eval o).run P w=r at h ⊢
 cases r with
 |ok x w'=>
  cases x with
  |value v=>exact h
  |skip=>exact h
  |defer d=>exact h
  |enter f args=>exact⟨λe=>by (cases e),CallsIn.inRound l (callsIn_wide.2 h)⟩
  |row row args=>exact⟨λe=>by (cases e),λc cs _=>let ⟨v,w',r,s⟩:=h c cs;⟨v,w',r,stepsIn_wide.2 s⟩⟩
  |_=>exact h.elim
 |halt x w'=>cases x<;>exact h
def V5(ops:Array Oper):Bool:=ops.toList.all λo=>match o.op with|.defer _=>false|_=>true
variable{i:Nat}
theorem OI(h:V5 ops=true)(ho:ops[i]?=some o):∀c,o.op≠.defer c:=by
 intro c e;have hm:o∈ops.toList:=by
  rw[Array.mem_toList_iff];exact Array.mem_of_getElem? ho
 have:=List.all_eq_true.1 h o hm;rw[e] at this
 cases this
theorem aDZ(hd:V5 ops=true)(hQ:¬LetsOut Q)(h:wpOp P ops Q i K a w):wpOpIn (Fence.wide.inRound l) n P ops Q i K a w:=by
 unfold wpOp at h;unfold wpOpIn
 cases ho:ops[i]? with
 |none=>rw[ho] at h;exact h
 |some o=>
  rw[ho] at h;simp only at h ⊢;split
  .rename_i hw;rw[if_pos hw] at h;rcases h with h|⟨_,h⟩
   .exact WU (OI hd ho) h
   .exact absurd h hQ
  .rename_i hw;rw[if_neg hw] at h;exact⟨λ_ _=>trivial,h⟩
variable{md:Region.Mode}
theorem IP(hd:V5 ops=true)(hQ:¬LetsOut Q):∀(fuel:Nat) (listed:Array Bool) (a:Act) (w:World),wpAny P md ops Q fuel listed a w->wpAnyIn (Fence.wide.inRound l) n P md ops Q fuel listed a w
 |0,_,_,_,h=>h
 |fuel+1,_,_,_,h=>⟨h.1,λi hi=>aDZ hd hQ (wpOp_mono (λa' w' k=>IP hd hQ fuel _ a' w' k) (h.2 i hi))⟩
theorem aEw{S:World->Prop}{id:Nat}(p:Plan)(lt:List Nat)(hm:P.follows .mixedOrders=true)(hd:V5 ops=true)(hQ:¬LetsOut Q)(hb:(Region.noSelect ops&&lt.all (λj=>decide (j<ops.size))&&decide (p.len=ops.size)&&lW .any ops (jR lt) p (Array.replicate ops.size false))=true)(h:SeqI P ops Q S (jR lt) p a w.drew):(Code.region id ops true).wpIn (Fence.wide.inRound l) n P Q a w:=by
 simp only[Bool.and_eq_true,decide_eq_true_eq] at hb;obtain⟨⟨⟨h1,h2⟩,h3⟩,h4⟩:=hb;have h5:=iJ (P:=P) (Q:=Q) (S:=S) h1 (λj hj=>by
  have:=List.all_eq_true.1 h2 j (by simpa [jR] using hj)
  simpa using this) p _ a w.drew h4 (oH ops.size) h.out
 rw[h3] at h5;exact wpIn_region_any hm (IP hd hQ _ _ _ _ (sH _ _ _ _ h5))
theorem TK{F:Fence}{c:Code}(R:Act->Act->World->Prop)(h:∀a0,a0=a->c.wpIn F n P (λe a' w'=>e=.normal/\R a0 a' w') a0 w)(k:∀a' w',R a a' w'->Q .normal a' w'):c.wpIn F n P Q a w:=
 wpIn_mono (h a rfl) (λe a' w' ⟨he,hr⟩=>by rw[he];exact k a' w' hr)
theorem aDV{R:Act->World->Prop}:¬LetsOut (λe a' w'=>e=Exit.normal/\R a' w'):=λ⟨_,_,h,_⟩=>nomatch h
end
end Go.Proofs.YthimcecbgpamdaaGreatDoor
namespace Go.Proofs.YthimcecbgpamdaaGreatDoor
open Go.RowKit Go.Shelf
attribute [local go_sem] Oper.semAt_some
def JO(b p c k:Nat):Value:=.slice (some ⟨b,p+8*k,none⟩) 8 (c-8*k)
def BxAt(W:World)(X:Nat)(v:Value):Prop:=W.heap[X]?=some (.cells #[v] 65 (0,0))
variable{W:World}{X:Nat}{v:Value}
theorem BxAt.cell(h:BxAt W X v):W.cell? ⟨X,0,none⟩=some v:=by unfold BxAt at h;unfold World.cell?;rw[h];rfl
theorem BxAt.lt(h:BxAt W X v):X<W.heap.size:=lt_of_block h
theorem aBL{b p len c:Nat}(k:Nat)(h:8*k+8<=len)(hc:len<=c)(w:World):(Instr.slice 65 (.slice (some ⟨b,p,none⟩) len c) (some (.int .i64 (8*(k:Int)))) (some (.int .i64 (8*(k:Int)+8))) none).run Tryz.prog w=.ok (JO b p c k) w:=by
 unfold JO;go_simp
 rw[if_pos Yo,if_pos Yo,if_neg Yo,show (8*(k:Int)).toNat=8*k by omega,show (8*(k:Int)+8).toNat-8*k=8 by omega]
theorem aFC{n k:Nat}(hk:k<n):(List.finRange n).take (k+1)=(List.finRange n).take k++[⟨k,hk⟩]:=by
 rw[List.take_succ_eq_append_getElem (by simpa using hk)];simp
set_option maxRecDepth 100000 in
theorem WX(m l X b p n c:Nat)(hm:1<=m)(hn:n<=24)(hc:8*n<=c)(J Jx:List (Fin n)->World->Prop)(hY:∀pre x W,J pre W->pre.length<n->YieldAt Fence.wide (m-1) Tryz.prog l #[JO b p c x.1] W λe W'=>(e=.returned (.bool true)/\J (pre++[x]) W'/\W'.heap[X]?=W.heap[X]?)\/(e=.returned (.bool false)/\Jx (pre++[x]) W'))(W:World)(hX:BxAt W X (.slice (some ⟨b,p,none⟩) (8*n) c))(h0:J [] W):CallsIn Fence.wide m Tryz.prog 299 #[.func (.yield l) #[] #[],.pointer (some ⟨X,0,none⟩)] W λe W'=>(∃v,e=.returned v)/\((∃ys,ys=List.finRange n/\J ys W')\/(∃pre,True/\Jx pre W')):=by
 refine callsIn_of_wp Tryz.func299 rfl trivial ?_ rfl;simp only[Tryz.ntmps299,List.size_toArray,List.length_cons,List.length_nil,Nat.reduceAdd,Nat.reduceSub,Array.replicate_succ,Array.replicate_zero,List.push_toArray,List.append_toArray,List.nil_append,List.cons_append]
 gi_wp2
 gi_loopw [3] (λq wr=>∃k:Nat,k<=n/\q=.int .i64 (8*(k:Int))/\J ((List.finRange n).take k) wr/\wr.heap[X]?=W.heap[X]?)
  (λq _=>8*n-(intOf q).toNat)
 case atStart=>exact⟨0,Xz _,rfl,by simpa using h0,rfl⟩
 case round=>
  obtain⟨k,hk,rfl,hJs,hx⟩:=hrel
  rename World=>wr
  have cx:wr.cell? ⟨X,0,none⟩=some (.slice (some ⟨b,p,none⟩) (8*n) c):=BxAt.cell (hx.trans hX);by_cases hlt:k<n
  .obtain⟨fn,tmps,assign,body,hy,hR⟩:=hY _ ⟨k,hlt⟩ wr hJs (by simp;omega);have rp:=aBL (b:=b) (p:=p) (len:=8*n) (c:=c) k Yo hc
   gi_wp2
   refine hR.mono ?_;rintro e W3 (⟨rfl,hJ3,hk3⟩|⟨rfl,hJx3⟩)
   .gi_wp2
    go_roundw
    case rel=>exact⟨k+1,Yo,by go_num,by rw[aFC hlt];exact hJ3,hk3.trans hx⟩
    case measure=>simp[intOf];omega
   .gi_wp2
    refine bodyPost_ret (results_none rfl _ _ _) rfl ?_;exact⟨⟨_,rfl⟩,.inr ⟨_,trivial,hJx3⟩⟩
  .obtain rfl:k=n:=Yo
   gi_wp2
   go_end0
   exact⟨⟨_,rfl⟩,.inl ⟨_,rfl,by simpa [List.take_of_length_le] using hJs⟩⟩
theorem WY(ao:Option Addr)(len c:Nat)(w:World):Calls Tryz.prog 284 #[.slice ao len c] w λe w'=>e=.returned (.func (.func 299) #[] #[.pointer (some ⟨w.heap.size,0,none⟩)])/\BxAt w' w.heap.size (.slice ao len c)/\Below w.heap.size w w'/\w'.heap.size=w.heap.size+1:=by
 have h1:=World.alloc_heap_new w (.cells #[.slice ao len c] 65);have h2:=bK w (.cells #[.slice ao len c] 65);have h3:=dG w (.cells #[.slice ao len c] 65);obtain⟨w1,e1⟩:∃w1,w1=w.alloc (.cells #[.slice ao len c] 65):=⟨_,rfl⟩;rw[<-e1] at h1 h2 h3;have H:=aB (⟨h1,h2,h3⟩:_/\_/\_);have E1:=aB e1;clear h1 h2 h3 e1;go_enter Tryz.func284,Tryz.ntmps284
 go_wp2_with fail
 rw[<-aA E1];go_ret
 exact⟨rfl,aA H⟩
def KpX(X:Nat)(W W':World):Prop:=W'.heap[X]?=W.heap[X]?
theorem PE(m X b p n c:Nat)(hm:1<=m)(hn:n<=24)(hc:8*n<=c)(w:World)(hX:BxAt w X (.slice (some ⟨b,p,none⟩) (8*n) c)):SeqStopsK Fence.wide m Tryz.prog 299 #[.pointer (some ⟨X,0,none⟩)] (λx:Fin n=>#[JO b p c x.1]) (KpX X) (λys=>ys=List.finRange n) (λ_=>True) n w:=λl J Jx W hW _ _ hY h0=>
 WX m l X b p n c hm hn hc J Jx hY W ((hW.block X hX.lt).trans hX) h0
end Go.Proofs.YthimcecbgpamdaaGreatDoor
namespace Go.Proofs.YthimcecbgpamdaaGreatDoor
open Go.RowKit
theorem aIj(x c:Nat)(hx:x*256<18446744073709551616)(hc:c<256):bits .or .u64 ((x:Int)*256) (c:Int)=((x*256+c:Nat):Int):=by
 have h:=u64_or_nat (x*256) c Yo Yo;rw[nat_join 8 (x*256) c Yo Yo] at h;have e:(x:Int)*256=((x*256:Nat):Int):=Yo;rw[e,h]
theorem aEc{x c:Nat}(h:x*256+c<18446744073709551616)(hc:c<256):bits .or .u64 ((x:Int)*256) (c:Int)=((x*256+c:Nat):Int)/\(x:Int)*256<18446744073709551616:=by
 have h2:x*256<18446744073709551616:=Nat.lt_of_le_of_lt (Nat.le_add_right _ _) h;exact⟨aIj x c h2 hc,Yo⟩
theorem aJV{v:Nat}(h:v<18446744073709551616):wrap64 (v:Int)=sg v:=by
 unfold sg;split
 .unfold wrap64;omega
 .unfold wrap64;omega
theorem zO(ao:Option Addr)(len cap:Nat)(g:Nat->Nat)(w:World)(hg:∀i,g i<256)(hl:len<=8)(hr:Rd w ao len (bF g)):Calls Tryz.prog 283 #[.slice ao len cap] w λe w'=>e=.returned (.int .i64 (sg (vn g len)))/\w'=w:=by
 have HG:=aB hg;have HR:=aB hr;clear hg hr;go_enter Tryz.func283,Tryz.ntmps283
 go_wp2_with fail
 go_loopw [3,5,8] (λns _ is wr=>∃k:Nat,k<=len/\ns=.int .u64 (vn g k:Nat)/\is=.int .i64 (k:Nat)/\wr=w)
  (λ_ _ is _=>len-(intOf is).toNat)
 case atStart=>exact⟨0,Xz _,rfl,rfl,rfl⟩
 case round=>
  obtain⟨k,hk,rfl,rfl,rfl⟩:=hrel;have hv:=LU (aA HG) k;by_cases hin:k<len
  .obtain⟨b,o,rfl,hc⟩:=aA HR Yo;have ck:=hc k hin;clear hc;unfold bF bV at ck;have hs:vn g (k+1)=vn g k*256+g k:=rfl;have hv1:=LU (aA HG) (k+1);have hx:=aA HG k;have hp:256^(k+1)<=18446744073709551616:=by
    have:(256:Nat)^(k+1)<=256^8:=Nat.pow_le_pow_right Yc Yo;exact Nat.le_trans this Yc
   have HY:=aB hs;obtain⟨c,ec⟩:∃c,c=g k:=⟨_,rfl⟩;obtain⟨x,ex⟩:∃x,x=vn g k:=⟨_,rfl⟩;rw[<-ec] at ck hx;rw[hs, <-ec, <-ex] at hv1;rw[<-ex];have x0:x*256+c<18446744073709551616:=Nat.lt_of_lt_of_le hv1 hp;have Y:=aB (show vn g (k+1)=x*256+c by rw[hs,ex,ec]);clear hs hv hv1 ec ex hp HY;obtain⟨jn,x1⟩:=aEc x0 hx;clear x0;go_wp2_with fail
   go_roundw
   case rel=>exact⟨k+1,Yo,by rw[aA Y];go_num,by go_num,trivial⟩
   case measure=>simp[intOf]<;>omega
  .have:k=len:=Yo;subst this;have hv2:vn g k<18446744073709551616:=by
    have:(256:Nat)^k<=256^8:=Nat.pow_le_pow_right Yc Yo;exact Nat.lt_of_lt_of_le hv (Nat.le_trans this Yc)
   obtain⟨x,ex⟩:∃x,x=vn g k:=⟨_,rfl⟩;rw[<-ex] at hv2 ⊢;have EX:=aB ex;have SX:=aB (aJV hv2);clear hv ex;go_wp2_with fail
   go_ret
   exact⟨by rw[<-aA EX, <-aA SX];rfl,rfl⟩
end Go.Proofs.YthimcecbgpamdaaGreatDoor
