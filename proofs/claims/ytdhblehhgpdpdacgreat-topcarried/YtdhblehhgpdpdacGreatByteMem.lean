import Derived.Test.YtdhblehhgpdpdacGreatRowBase
import Derived.Laws.CopyOwn
namespace Go.Proofs.YtdhblehhgpdpdacGreat
open Go.RowKit
def bV(x:Nat):Value:=.int .u8 (x:Nat)
def bF(g:Nat→Nat)(i:Nat):Value:=bV (g i)
theorem aDY:(Tryz.prog.info? 5).map (λi=>(i.zero,i.size,i.bytes))=some (some (.int .u8 0),1,1):=by kernel_rfl
def Sr(w:World)(ao:Option Addr)(len cap:Nat)(f:Nat→Value):Prop:=
 (ao=none∧len=0∧cap=0)∨∃x,ao=some x∧∀i,i<len→w.cell? (x.add i)=some (f i)
section
variable {w w':World} {ao:Option Addr} {len cap:Nat} {f:Nat→Value}
theorem Sr.rd(h:Sr w ao len cap f):Rd w ao len f:=by
 intro hl
 rcases h with ⟨_,h0,_⟩|⟨x,rfl,hc⟩
 ·omega
 ·obtain⟨b,o,spot⟩:=x
  have hs:spot=none:=by simpa [Addr.add] using World.cell?_spot (hc 0 hl)
  subst hs
  exact⟨b,o,rfl,λi hi=>by have:=hc i hi;rw[Addr.add_lit] at this;exact this⟩
theorem Sr.below(h:Sr w ao len cap f)(k:Below w.heap.size w w'):Sr w' ao len cap f:=by
 rcases h with h|⟨x,rfl,hc⟩
 ·exact Or.inl h
 ·exact Or.inr ⟨x,rfl,λi hi=>bE (hc i hi) k⟩
theorem Sr.less{k:Nat}(h:Sr w ao len cap f)(hk:k≤len):Sr w ao k cap f:=by
 rcases h with ⟨h1,h2,h3⟩|⟨x,rfl,hc⟩
 ·exact Or.inl ⟨h1,Yo,h3⟩
 ·exact Or.inr ⟨x,rfl,λi hi=>hc i Yo⟩
theorem Sr.congr{g:Nat→Value}(h:Sr w ao len cap f)(e:∀i,i<len→f i=g i):Sr w ao len cap g:=by
 rcases h with h|⟨x,rfl,hc⟩
 ·exact Or.inl h
 ·exact Or.inr ⟨x,rfl,λi hi=>by rw[←e i hi];exact hc i hi⟩
theorem kN{t:TypeId}{base n:Nat}{v:Value}{g:Nat→Value}(h:w.ownsRow base t 1 v n (rowV g n)):∃ao cap,v=.slice ao n cap∧Sr w ao n cap g∧n≤cap:=by
 have hh:=h
 rcases h.2 with ⟨rfl,rfl⟩|⟨r,c,cur,rfl,_,_,hc,_⟩
 ·exact⟨none,0,rfl,Or.inl ⟨rfl,rfl,rfl⟩,Nat.le_refl _⟩
 ·refine⟨_,c,rfl,Or.inr ⟨_,rfl,λi hi=>?_⟩,hc⟩
  exact hh.cells (g:=r) rfl i (g i) (gU g hi)
end
theorem aAm{t:TypeId}{B:Nat}{w w':World}{v:Value}{n:Nat}{xs:List Value}(h:w.ownsRow B t 1 v n xs)(hg:w.grownBy w' v.ownBlock){w0:World}(k:Below B w0 w)(hB:B≤w.heap.size):Below B w0 w':=
 k.trans ⟨hg.os,hg.tape,hg.output,hg.size,λj hj=>hg.block j Yo (λe=>by have:=(h.lt j e.symm).1;omega)⟩
theorem vJ{t:TypeId}{B:Nat}{w w':World}{v:Value}{n:Nat}{xs:List Value}(h:w.ownsRow B t 1 v n xs)(k:Below w.heap.size w w'):w'.ownsRow B t 1 v n xs:=by
 refine⟨h.1,?_⟩
 rcases h.2 with hn|⟨g,cap,cur,rfl,hb,hgg,rest⟩
 ·exact .inl hn
 ·exact .inr ⟨g,cap,cur,rfl,hb,(k.block g (lt_of_block hgg)).trans hgg,rest⟩
theorem aGm (w : World) {o : Oper} {a : Act} {K : Act → World → Prop} {Q : Exit → Act → World → Prop} (s x : Operand)
  (ho:o.op=.call { callee:=.builtin .append,args:=#[s,x],argTypes:=#[33,33] }) (B:Nat) (hB:B≤w.heap.size)
  (v:Value) (n:Nat) (xs:List Value) (hs:a.eval s=v) (hown:w.ownsRow B 5 1 v n xs)
  (vo:Option Addr) (lv cv:Nat) (f:Nat→Value) (hx:a.eval x=.slice vo lv cv) (har:Sr w vo lv cv f) (h1:∀i,i<lv→(f i).oneCell'=true) (hl:n+lv≤140737488355328)
  (h:∀v' w',w'.ownsRow B 5 1 v' (n+lv) (xs++rowV f lv)→Below B w w'→K (a.put o.dst v') w'):o.wp Tryz.prog a w K Q:=by
 obtain⟨i0,hi,hz0,hz1,hz2⟩:=info_parts aDY
 rcases har with ⟨rfl,rfl,rfl⟩|⟨y,rfl,hc⟩
 ·have hrun:=run_append_owned_none (P:=Tryz.prog) (w:=w) B 33 o.type 5 i0 1 Tryz.underlying33 hi v n xs hown
  have hh:=h v w (by simpa [rowV] using hown) (Below.refl _ _)
  unfold Oper.wp execOp
  simp only[ho,resolve,invoke,builtin,Sem.run_bind,Sem.run_pure,Result.andThen_ok,List.map_toArray,List.map_cons,List.map_nil,hs,hx,hrun]
  exact hh
 ·refine wp_append_own (P:=Tryz.prog) w s x 33 ho B 5 i0 (.int .u8 0) 1 1 Tryz.underlying33 hi hz0 hz1 hz2 rfl Yc v n xs hs hown y lv cv (rowV f lv) hx (vV f lv) ?_ (mU f lv h1) (by unfold maxLen;omega) Yo hB ?_
  ·intro j u hj
   rcases Nat.lt_or_ge j lv with h2|h2
   ·rw[gU f h2] at hj;cases hj
    exact hc j h2
   ·rw[iU f h2] at hj;cases hj
  ·intro v' w2 ho2 hgr hnil
   exact h v' w2 ho2 (aAm hown hgr (Below.refl _ _) hB)
theorem wpList_join (w : World) {ops : Array Oper} {rest : List Oper} {o : Oper} {a : Act} {Q : Exit → Act → World → Prop} (hgd : o.guard = none) (s x : Operand)
  (ho:o.op=.call { callee:=.builtin .append,args:=#[s,x],argTypes:=#[33,33] }) (B:Nat) (hB:B≤w.heap.size)
  (v:Value) (n:Nat) (xs:List Value) (hs:a.eval s=v) (hown:w.ownsRow B 5 1 v n xs)
  (vo:Option Addr) (lv cv:Nat) (f:Nat→Value) (hx:a.eval x=.slice vo lv cv) (har:Sr w vo lv cv f) (h1:∀i,i<lv→(f i).oneCell'=true) (hl:n+lv≤140737488355328)
  (h:∀v' w',w'.ownsRow B 5 1 v' (n+lv) (xs++rowV f lv)→Below B w w'→wpList Tryz.prog ops Q rest (a.put o.dst v') w'):wpList Tryz.prog ops Q (o::rest) a w:=
 wpList_plain hgd λ_ hK=>aGm w s x ho B hB v n xs hs hown vo lv cv f hx har h1 hl λv' w' h2 h3=>hK _ _ (h v' w' h2 h3)
theorem aNi (w : World) {o : Oper} {a : Act} {K : Act → World → Prop} {Q : Exit → Act → World → Prop} (l c : Operand) (ho : o.op = .makeSlice 33 l c) (n m : Nat) (hl : a.eval l = .int .i64 (n : Int)) (hc : a.eval c = .int .i64 (m : Int)) (hnm : n ≤ m) (hn : m ≤ 281474976710656)
  (h:∀w',w'.heap.size=w.heap.size+1→Vh 5 w' w.heap.size n m (bF (λ_=>0))→Below w.heap.size w w'→K (a.put o.dst (.slice (some ⟨w.heap.size,0,none⟩) n m)) w'):o.wp Tryz.prog a w K Q:=by
 obtain⟨i0,hi,hz0,hz1,hz2⟩:=info_parts aDY
 have hrun:=run_make (P:=Tryz.prog) w 33 5 i0 (.int .u8 0) Tryz.underlying33 hi hz0 .i64 .i64 n m Yo Yo (by rw[hz2];omega) Yo
 rw[hz1] at hrun
 simp only[Int.toNat_natCast,Nat.mul_one] at hrun
 have hh:=h _ (dC _ _) ((Vh.made w 5 (.int .u8 0) m (by unfold maxLen;omega)).less hnm) (bR _ _)
 unfold Oper.wp execOp
 simp only[ho,hl,hc,hrun,Sem.run_bind,Sem.run_pure,Result.andThen_ok]
 exact hh
theorem wpList_makeC (w : World) {ops : Array Oper} {rest : List Oper} {o : Oper} {a : Act} {Q : Exit → Act → World → Prop} (hgd : o.guard = none) (l c : Operand) (ho : o.op = .makeSlice 33 l c) (n m : Nat) (hl : a.eval l = .int .i64 (n : Int)) (hc : a.eval c = .int .i64 (m : Int)) (hnm : n ≤ m) (hn : m ≤ 281474976710656)
  (h:∀w',w'.heap.size=w.heap.size+1→Vh 5 w' w.heap.size n m (bF (λ_=>0))→Below w.heap.size w w'→wpList Tryz.prog ops Q rest (a.put o.dst (.slice (some ⟨w.heap.size,0,none⟩) n m)) w'):wpList Tryz.prog ops Q (o::rest) a w:=
 wpList_plain hgd λ_ hK=>aNi w l c ho n m hl hc hnm hn λw' h1 h2 h3=>hK _ _ (h w' h1 h2 h3)
theorem aLm (w : World) {o : Oper} {a : Act} {K : Act → World → Prop} {Q : Exit → Act → World → Prop} (d s : Operand)
  (ho:o.op=.call { callee:=.builtin .copy,args:=#[d,s],argTypes:=#[33,33] }) (b n cap:Nat) (f:Nat→Value) (hd:a.eval d=.slice (some ⟨b,0,none⟩) n cap) (hv:Vh 5 w b n cap f)
  (vo:Option Addr) (cv:Nat) (g:Nat→Value) (hs:a.eval s=.slice vo n cv) (hr:Rd w vo n g) (h1:∀i,(g i).oneCell'=true)
  (h:∀w',Vh 5 w' b n cap g→Kept b w w'→K (a.put o.dst (goInt n)) w'):o.wp Tryz.prog a w K Q:=by
 have hsz:(Tryz.prog.info? 5).map (·.size)=some 1:=by kernel_rfl
 rcases Nat.eq_zero_or_pos n with h0|h0
 ·subst h0
  have hrun:=run_copy_none (P:=Tryz.prog) w 33 33 o.type 5 (some ⟨b,0,none⟩) vo 0 cap 0 cv Tryz.underlying33 hsz (by rfl)
  have hh:=h w (hv.congr (λi hi=>absurd hi Yo)) (aDn _ _)
  unfold Oper.wp execOp
  simp only[ho,resolve,invoke,builtin,Sem.run_bind,Sem.run_pure,Result.andThen_ok,List.map_toArray,List.map_cons,List.map_nil,hd,hs,hrun]
  exact hh
 ·obtain⟨ad,rfl,hsrc⟩:=hr.list h0
  obtain⟨cur,hb,hn,hfit,hmax,_⟩:=hv
  have hrun:=run_copy_row (P:=Tryz.prog) w 33 33 o.type 5 b 0 n cap ad n cv cur 5 (rowV g n) Tryz.underlying33 hsz hb (by rw[gY];exact (Nat.min_self n).symm) hsrc (by rw[gY];omega) (mU g n (λi _=>h1 i))
  rw[gY] at hrun
  have hh:=h (w.setRow b (cur.toList.take 0++rowV g n++cur.toList.drop (0+n)).toArray)
   ⟨_,setRow_heap w b cur _ 5 (0,0) hb,by simp[gY];omega,hfit,hmax,λi hi=>by
    simp only[List.take_zero,List.nil_append,List.getElem?_toArray]
    rw[List.getElem?_append_left (by rw[gY];exact hi),gU g hi]⟩
   ⟨rfl,rfl,rfl,by simp,λk _ hk=>setRow_other w b k _ hk⟩
  unfold Oper.wp execOp
  simp only[ho,resolve,invoke,builtin,Sem.run_bind,Sem.run_pure,Result.andThen_ok,List.map_toArray,List.map_cons,List.map_nil,hd,hs,hrun]
  exact hh
theorem wpList_copyB (w : World) {ops : Array Oper} {rest : List Oper} {o : Oper} {a : Act} {Q : Exit → Act → World → Prop} (hgd : o.guard = none) (d s : Operand)
  (ho:o.op=.call { callee:=.builtin .copy,args:=#[d,s],argTypes:=#[33,33] }) (b n cap:Nat) (f:Nat→Value) (hd:a.eval d=.slice (some ⟨b,0,none⟩) n cap) (hv:Vh 5 w b n cap f)
  (vo:Option Addr) (cv:Nat) (g:Nat→Value) (hs:a.eval s=.slice vo n cv) (hr:Rd w vo n g) (h1:∀i,(g i).oneCell'=true)
  (h:∀w',Vh 5 w' b n cap g→Kept b w w'→wpList Tryz.prog ops Q rest (a.put o.dst (goInt n)) w'):wpList Tryz.prog ops Q (o::rest) a w:=
 wpList_plain hgd λ_ hK=>aLm w d s ho b n cap f hd hv vo cv g hs hr h1 λw' h2 h3=>hK _ _ (h w' h2 h3)
theorem bF_one(g:Nat→Nat)(i:Nat):(bF g i).oneCell'=true:=rfl
end Go.Proofs.YtdhblehhgpdpdacGreat
