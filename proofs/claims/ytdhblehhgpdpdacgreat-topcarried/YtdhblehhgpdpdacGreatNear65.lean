import Derived.Test.YtdhblehhgpdpdacGreatRowPlain
import Derived.Test.YtdhblehhgpdpdacGreatByteMem
namespace Go.Proofs.YtdhblehhgpdpdacGreat
open Go.RowKit
def iF(f:Nat→Int)(i:Nat):Value:=.int .i64 (f i)
theorem zJ{t:TypeId}{B C:Nat}{w:World}{v:Value}{n:Nat}{xs:List Value}(h:w.ownsRow B t 1 v n xs)(e:C≤B):w.ownsRow C t 1 v n xs:=by
 refine⟨h.1,?_⟩
 rcases h.2 with hn|⟨g,cap,cur,rfl,hb,rest⟩
 ·exact .inl hn
 ·exact .inr ⟨g,cap,cur,rfl,Nat.le_trans e hb,rest⟩
theorem wW{t:TypeId}{B z:Nat}{w w':World}{v:Value}{n:Nat}{xs:List Value}(h:w.ownsRow B t 1 v n xs)(k:Kept z w w')(hz:z<B):w'.ownsRow B t 1 v n xs:=by
 refine⟨h.1,?_⟩
 rcases h.2 with hn|⟨g,cap,cur,rfl,hb,hgg,rest⟩
 ·exact .inl hn
 ·exact .inr ⟨g,cap,cur,rfl,hb,(k.block g (lt_of_block hgg) Yo).trans hgg,rest⟩
theorem qA (w : World) {o : Oper} {a : Act} {K : Act → World → Prop} {Q : Exit → Act → World → Prop} (s x : Operand)
  (ho:o.op=.call { callee:=.builtin .append,args:=#[s,x],argTypes:=#[67,67] }) (B:Nat) (hB:B≤w.heap.size)
  (v:Value) (n:Nat) (xs:List Value) (hs:a.eval s=v) (hown:w.ownsRow B 3 1 v n xs)
  (vo:Option Addr) (lv cv:Nat) (f:Nat→Value) (hx:a.eval x=.slice vo lv cv) (har:Sr w vo lv cv f) (h1:∀i,i<lv→(f i).oneCell'=true) (hl:(n+lv)*8≤140737488355328)
  (h:∀v' w',w'.ownsRow B 3 1 v' (n+lv) (xs++rowV f lv)→Below B w w'→K (a.put o.dst v') w'):o.wp Tryz.prog a w K Q:=by
 obtain⟨i0,hi,hz0,hz1,hz2⟩:=info_parts aCN
 rcases har with ⟨rfl,rfl,rfl⟩|⟨y,rfl,hc⟩
 ·have hrun:=run_append_owned_none (P:=Tryz.prog) (w:=w) B 67 o.type 3 i0 1 Tryz.underlying67 hi v n xs hown
  have hh:=h v w (by simpa [rowV] using hown) (Below.refl _ _)
  unfold Oper.wp execOp
  simp only[ho,resolve,invoke,builtin,Sem.run_bind,Sem.run_pure,Result.andThen_ok,List.map_toArray,List.map_cons,List.map_nil,hs,hx,hrun]
  exact hh
 ·refine wp_append_own (P:=Tryz.prog) w s x 67 ho B 3 i0 (.int .i64 0) 1 8 Tryz.underlying67 hi hz0 hz1 hz2 rfl Yc v n xs hs hown y lv cv (rowV f lv) hx (vV f lv) ?_ (mU f lv h1) (by unfold maxLen;omega) Yo hB ?_
  ·intro j u hj
   rcases Nat.lt_or_ge j lv with h2|h2
   ·rw[gU f h2] at hj;cases hj
    exact hc j h2
   ·rw[iU f h2] at hj;cases hj
  ·intro v' w2 ho2 hgr hnil
   exact h v' w2 ho2 (aAm hown hgr (Below.refl _ _) hB)
end Go.Proofs.YtdhblehhgpdpdacGreat
namespace Go.Proofs.YtdhblehhgpdpdacGreat
def bt(v:Int)(n i:Nat):Nat:=(v/256^(n-1-i)%256).toNat
theorem aJO(v:Int)(n i:Nat):(bt v n i:Int)=v/256^(n-1-i)%256:=by unfold bt;omega
theorem aNw(v:Int)(n i:Nat):bt v n i<256:=by unfold bt;omega
theorem aBT(k:Nat):(0:Int)<256^k:=Int.pow_pos Yc
theorem aLT(v:Int)(k:Nat):v/256^k/256=v/256^(k+1):=by
 rw[Int.ediv_ediv_of_nonneg (Int.le_of_lt (aBT k)),Int.pow_succ]
def vn(g:Nat→Nat):Nat→Nat
 |0=>0
 |k+1=>vn g k*256+g k
theorem aDC{g:Nat→Nat}(hg:∀i,g i<256)(k:Nat):vn g k<256^k:=by
 induction k with
 |zero=>show 0<1;omega
 |succ k ih=>have:=hg k;show vn g k*256+g k<256^(k+1);rw[Nat.pow_succ];omega
theorem aEZ{g f:Nat→Nat}{k:Nat}(h:∀i,i<k→g i=f i):vn g k=vn f k:=by
 induction k with
 |zero=>rfl
 |succ k ih=>show vn g k*256+g k=vn f k*256+f k;rw[ih (λi hi=>h i Yo),h k Yo]
theorem aHF(u m:Int)(hm:0<m):u%(m*256)=u/256%m*256+u%256:=by
 have h1:u=256*(u/256)+u%256:=(Int.mul_ediv_add_emod u 256).symm
 have h2:=Int.mul_ediv_add_emod (u/256) m
 have h3:=Int.emod_nonneg (u/256) (Int.ne_of_gt hm)
 have h4:=Int.emod_lt_of_pos (u/256) hm
 obtain⟨q,hq⟩:∃q,q=u/256/m:=⟨_,rfl⟩
 obtain⟨r,hr⟩:∃r,r=u/256%m:=⟨_,rfl⟩
 obtain⟨s,hs⟩:∃s,s=u%256:=⟨_,rfl⟩
 rw[←hq, ←hr] at h2
 rw[←hr] at h3 h4 ⊢
 rw[←hs] at h1 ⊢
 have e:u=(r*256+s)+m*256*q:=by
  rw[h1, ←h2,Int.mul_add,Int.mul_comm m 256,Int.mul_assoc];omega
 rw[e,Int.add_mul_emod_self_left]
 apply Int.emod_eq_of_lt
 ·omega
 ·omega
theorem aSX(v:Int)(n k:Nat)(hk:k≤n):(vn (bt v n) k:Int)=v/256^(n-k)%256^k:=by
 induction k with
 |zero=>simp[vn,Int.emod_one]
 |succ k ih=>
  have h:=ih Yo
  show ((vn (bt v n) k*256+bt v n k:Nat):Int)=_
  rw[Int.natCast_add,Int.natCast_mul,h,aJO,show n-1-k=n-(k+1) by omega,Int.pow_succ,aHF _ _ (aBT k),aLT,show n-(k+1)+1=n-k by omega]
  rfl
theorem aDa(v:Int)(n:Nat):(vn (bt v n) n:Int)=v%256^n:=by
 rw[aSX v n n (Nat.le_refl _),Nat.sub_self,Int.pow_zero,Int.ediv_one]
def sg(v:Nat):Int:=if v<9223372036854775808 then (v:Int) else (v:Int)-18446744073709551616
theorem aSt{v:Nat}(h:v<18446744073709551616):R64 (sg v):=by unfold sg R64;split<;>omega
theorem aTd{v:Int}(h:R64 v):sg (vn (bt v 8) 8)=v:=by
 have e:=aDa v 8
 have e8:(256:Int)^8=18446744073709551616:=by decide
 rw[e8] at e
 unfold R64 at h
 unfold sg
 split<;>omega
def dD(K F R:Int)(n:Nat):Int:=
 if K<1∨5<K then 4 else if F<0∨3<F∨R<0∨2147483647<R then 3 else if 24<n then 6 else 0
theorem nV{K F R:Int}{n:Nat}(h:dD K F R n=0):1≤K∧K≤5∧0≤F∧F≤3∧0≤R∧R≤2147483647∧n≤24:=by
 unfold dD at h
 split at h
 ·omega
 ·split at h
  ·omega
  ·split at h
   ·omega
   ·omega
def enF(K F R:Int)(n:Nat)(f:Nat→Int)(i:Nat):Nat:=
 if i=0 then 87 else if i=1 then (K%256).toNat else if i=2 then (F%256).toNat else if i<7 then bt R 4 (i-3) else if i=7 then n%256 else bt (f ((i-8)/8)) 8 ((i-8)%8)
theorem aEz(K F R:Int)(n:Nat)(f:Nat→Int)(i:Nat):enF K F R n f i<256:=by
 unfold enF
 split
 ·omega
 ·split
  ·omega
  ·split
   ·omega
   ·split
    ·exact aNw _ _ _
    ·split
     ·omega
     ·exact aNw _ _ _
theorem aGn(K F R:Int)(n:Nat)(f:Nat→Int)(j k:Nat)(hk:k<8):enF K F R n f (8+8*j+k)=bt (f j) 8 k:=by
 unfold enF
 rw[if_neg Yo,if_neg Yo,if_neg Yo,if_neg Yo,if_neg Yo,show (8+8*j+k-8)/8=j by omega,show (8+8*j+k-8)%8=k by omega]
def dR(g:Nat→Nat):Nat:=vn (λi=>g (3+i)) 4
def dV(g:Nat→Nat)(i:Nat):Int:=sg (vn (λk=>g (8+8*i+k)) 8)
theorem aSH{g:Nat→Nat}(hg:∀i,g i<256)(i:Nat):R64 (dV g i):=aSt (Nat.lt_of_lt_of_eq (aDC (λk=>hg _) 8) Yc)
theorem aNq{g:Nat→Nat}(hg:∀i,g i<256):dR g<4294967296:=Nat.lt_of_lt_of_eq (aDC (λk=>hg _) 4) Yc
theorem aIv{g:Nat→Nat}{K F R:Int}{n:Nat}{f:Nat→Int}(h0:0≤R)(h1:R≤2147483647)(h:∀i,i<8+8*n→g i=enF K F R n f i):(dR g:Int)=R:=by
 have e:dR g=vn (bt R 4) 4:=aEZ (λi hi=>by
  show g (3+i)=_
  rw[h (3+i) Yo]
  unfold enF
  rw[if_neg Yo,if_neg Yo,if_neg Yo,if_pos Yo,show 3+i-3=i by omega])
 rw[e,aDa R 4,show (256:Int)^4=4294967296 by decide]
 omega
theorem aRD{g:Nat→Nat}{K F R:Int}{n:Nat}{f:Nat→Int}(hf:∀i,R64 (f i))(h:∀i,i<8+8*n→g i=enF K F R n f i){j:Nat}(hj:j<n):dV g j=f j:=by
 have e:vn (λk=>g (8+8*j+k)) 8=vn (bt (f j) 8) 8:=aEZ (λk hk=>by
  show g (8+8*j+k)=_
  rw[h (8+8*j+k) Yo,aGn K F R n f j k hk])
 unfold dV
 rw[e,aTd (hf j)]
end Go.Proofs.YtdhblehhgpdpdacGreat
namespace Go.Proofs.YtdhblehhgpdpdacGreat
open Go.RowKit
def kX(K F R:Int)(v:Value):Value:=.agg #[.int .i64 K,.int .i64 F,.int .i64 R,v]
def MgAt(w:World)(b:Nat)(K F R:Int)(v:Value):Prop:=w.heap[b]?=some (.cells #[.int .i64 K,.int .i64 F,.int .i64 R,v] 69 (0,0))
section
variable {w w':World} {b:Nat} {K F R:Int} {v:Value}
theorem MgAt.cell0(h:MgAt w b K F R v):w.cell? ⟨b,0,none⟩=some (.int .i64 K):=by unfold MgAt at h;unfold World.cell?;rw[h];rfl
theorem MgAt.cell1(h:MgAt w b K F R v):w.cell? ⟨b,1,none⟩=some (.int .i64 F):=by unfold MgAt at h;unfold World.cell?;rw[h];rfl
theorem MgAt.cell2(h:MgAt w b K F R v):w.cell? ⟨b,2,none⟩=some (.int .i64 R):=by unfold MgAt at h;unfold World.cell?;rw[h];rfl
theorem MgAt.cell3(h:MgAt w b K F R v):w.cell? ⟨b,3,none⟩=some v:=by unfold MgAt at h;unfold World.cell?;rw[h];rfl
theorem MgAt.free(h:MgAt w b K F R v)(i:Nat):w.frozen? ⟨b,i,none⟩=false:=by unfold MgAt at h;simp[World.frozen?,h]
theorem MgAt.lt(h:MgAt w b K F R v):b<w.heap.size:=lt_of_block h
theorem MgAt.same(h:MgAt w b K F R v)(e:w'.heap[b]?=w.heap[b]?):MgAt w' b K F R v:=e.trans h
theorem MgAt.below(h:MgAt w b K F R v)(k:Below w.heap.size w w'):MgAt w' b K F R v:=h.same (k.block b h.lt)
theorem MgAt.under{B:Nat}(h:MgAt w b K F R v)(k:Below B w w')(hb:b<B):MgAt w' b K F R v:=h.same (k.block b hb)
theorem MgAt.kept{z:Nat}(h:MgAt w b K F R v)(k:Kept z w w')(hz:b≠z):MgAt w' b K F R v:=h.same (k.block b h.lt hz)
theorem MgAt.new(w:World)(K F R:Int)(v:Value):MgAt (w.alloc (.cells #[.int .i64 K,.int .i64 F,.int .i64 R,v] 69)) w.heap.size K F R v:=by
 unfold MgAt
 show (w.heap.push _)[w.heap.size]?=_
 rw[Array.getElem?_push_size]
theorem MgAt.put (h : MgAt w b K F R v) (K' F' R' : Int) (u : Value) :
  ∃w',w'=(((w.setCell ⟨b,0,none⟩ (.int .i64 K')).setCell ⟨b,1,none⟩ (.int .i64 F')).setCell ⟨b,2,none⟩ (.int .i64 R')).setCell ⟨b,3,none⟩ u∧MgAt w' b K' F' R' u∧Kept b w w':=by
 refine⟨_,rfl,?_,(((kept_set w b 0 _).trans (kept_set _ b 1 _) (Or.inl rfl)).trans (kept_set _ b 2 _) (Or.inl rfl)).trans (kept_set _ b 3 _) (Or.inl rfl)⟩
 unfold MgAt at h ⊢
 have h1:=heap_setCell_same w b 0 _ _ (.int .i64 K') h
 have h2:=heap_setCell_same _ b 1 _ _ (.int .i64 F') h1
 have h3:=heap_setCell_same _ b 2 _ _ (.int .i64 R') h2
 exact heap_setCell_same _ b 3 _ _ u h3
theorem MgAt.put2(h:MgAt w b K F R v)(R':Int):∃w',w'=w.setCell ⟨b,2,none⟩ (.int .i64 R')∧MgAt w' b K F R' v∧Kept b w w':=by
 refine⟨_,rfl,?_,kept_set w b 2 _⟩
 unfold MgAt at h ⊢
 exact heap_setCell_same w b 2 _ _ (.int .i64 R') h
theorem MgAt.put3(h:MgAt w b K F R v)(u:Value):∃w',w'=w.setCell ⟨b,3,none⟩ u∧MgAt w' b K F R u∧Kept b w w':=by
 refine⟨_,rfl,?_,kept_set w b 3 _⟩
 unfold MgAt at h ⊢
 exact heap_setCell_same w b 3 _ _ u h
end
theorem sH(w:World)(K F R:Int)(v:Value):∃w1,w1=w.alloc (.cells #[.int .i64 K,.int .i64 F,.int .i64 R,v] 69)∧MgAt w1 w.heap.size K F R v∧Below w.heap.size w w1∧w1.heap.size=w.heap.size+1:=
 ⟨_,rfl,MgAt.new w K F R v,bR w _,dC w _⟩
end Go.Proofs.YtdhblehhgpdpdacGreat
