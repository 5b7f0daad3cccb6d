import Derived.Test.YthimcecbgpamdaaGreatDoorNear193
import Derived.Test.YthimcecbgpamdaaGreatDoorNear138
set_option maxHeartbeats 4000000
namespace Go.Proofs.YthimcecbgpamdaaGreatDoor
open Go.RowKit Go.Shelf
attribute [local go_sem] Oper.semAt_some
theorem vC(v:Value)(w:World):(callFunc 283 #[v]).run Tryz.prog w=.ok (.enter 283 #[v]) w:=Yh
variable{b n:Nat}{f:Operand->Value}{o:Oper}
theorem aFd(x y z:Operand)(ho:o.op=.slice 65 x (some y) (some z) none){off c l m:Nat}(hx:f x=.slice (some ⟨b,off,none⟩) n c)(hy:f y=.int .i64 (l:Nat))(hz:f z=.int .i64 (m:Nat))(h1:l<m)(h2:m<=c)(w:World):(execOp f o).run Tryz.prog w=.ok (.value (.slice (some ⟨b,off+l,none⟩) (m-l) (c-l))) w:=by
 unfold execOp;rw[ho];dsimp only;simp only[Option.map_some,Option.map_none];rw[hx,hy,hz];go_simp
 rw[if_pos Yo,if_neg Yo]
theorem Z0(x y z:Operand)(ho:o.op=.build 79 #[(0,x),(1,y),(2,z)]){u v t:Int}(hx:f x=.int .i64 u)(hy:f y=.int .i64 v)(hz:f z=.int .i64 t)(w:World):(execOp f o).run Tryz.prog w=.ok (.value (nC u v t (.slice none 0 0))) w:=by
 unfold execOp;rw[ho];go_simp
 rfl
variable{K:Act->World->Prop}{Q:Exit->Act->World->Prop}{a:Act}
theorem aJR(w:World)(x:Operand)(ho:o.op=.buildSlice 72 1 #[(0,x)]){v:Int}(hx:a.eval x=.int .i64 v)(h:K (a.put o.dst (.slice (some ⟨w.heap.size,0,none⟩) 1 1)) (w.alloc (.cells #[.int .i64 v] 3))):WpI Tryz.prog o a w K Q:=by
 have e:(execOp a.eval o).run Tryz.prog w=.ok (.value (.slice (some ⟨w.heap.size,0,none⟩) 1 1)) (w.alloc (.cells #[.int .i64 v] 3)):=by
  generalize a.eval=f at hx;unfold execOp;rw[ho];simp only[List.map_toArray,List.map_cons,List.map_nil];rw[hx];go_simp
 refine⟨?_⟩;unfold Oper.wp;rw[e];exact h
theorem aFW(w:World)(s x:Operand)(ho:o.op=.call { callee:=.builtin .append,args:=#[s,x],argTypes:=#[72,72] })(B:Nat)(hB:B<=w.heap.size)(v:Value)(n:Nat)(xs:List Value)(hs:a.eval s=v)(hown:w.ownsRow B 3 1 v n xs)(y:Addr)(u:Int)(hx:a.eval x=.slice (some y) 1 1)(hc:w.cell? y=some (.int .i64 u))(hl:(n+1)*8<=140737488355328)(h:∀v' w',w'.ownsRow B 3 1 v' (n+1) (xs++[.int .i64 u])->w.grownBy w' v.ownBlock->K (a.put o.dst v') w'):WpI Tryz.prog o a w K Q:=by
 obtain⟨i0,hi,hz0,hz1,hz2⟩:=info_parts GD;refine⟨wp_append_own (P:=Tryz.prog) w s x 72 ho B 3 i0 (.int .i64 0) 1 8 Tryz.underlying72 hi hz0 hz1 hz2 rfl Yc v n xs hs hown y 1 1 [.int .i64 u] hx rfl ?_ (by simp[Value.oneCell']) Ym Yo hB (λv' w2 ho2 hgr _=>h v' w2 ho2 hgr)⟩;intro j t hj;have:j=0:=by
  rcases Nat.eq_zero_or_pos j with e|e
  .exact e
  .rw[List.getElem?_eq_none (by simp;omega)] at hj;cases hj
 subst this
 cases hj
 simpa [Addr.add] using hc
variable{vo:Option Addr}
theorem aCz(w:World)(x y:Operand)(ho:o.op=.store 72 x y){ad:Addr}{vn vc:Nat}(hx:a.eval x=.pointer (some ad))(hy:a.eval y=.slice vo vn vc){u:Value}(hc:w.cell? ad=some u)(hf:w.frozen? ad=false)(hd:o.dst=none)(h:K a (w.setCell ad (.slice vo vn vc))):WpI Tryz.prog o a w K Q:=by
 refine⟨?_⟩;unfold Oper.wp execOp;rw[ho];dsimp only;rw[hx,hy];go_simp
 exact h
theorem FD(w:World)(x y:Operand)(ho:o.op=.store 79 x y){k1 f1 r1 k f r:Int}{v1:Value}{vn vc:Nat}(hx:a.eval x=.pointer (some ⟨b,0,none⟩))(hy:a.eval y=nC k f r (.slice vo vn vc))(hm:MgAt w b k1 f1 r1 v1)(hd:o.dst=none)(h:∀w',MgAt w' b k f r (.slice vo vn vc)->Kept b w w'->w'.heap.size=w.heap.size->K a w'):WpI Tryz.prog o a w K Q:=by
 refine⟨?_⟩;have c0:=hm.cell0;have c1:=hm.cell1;have c2:=hm.cell2;have c3:=hm.cell3;have f0:=hm.free 0;have f1:=hm.free 1;have f2:=hm.free 2;have f3:=hm.free 3;obtain⟨w',e,m,kp⟩:=hm.put k f r (.slice vo vn vc);have hh:=h w' m kp (by rw[e];simp[World.setCell]);rw[e] at hh;clear hm m kp h e;unfold nC at hy;unfold Oper.wp execOp;rw[ho];dsimp only;rw[hx,hy];go_simp
 exact hh
theorem aFa{o p len cap:Nat}(ep:p=if cap=8 then o else o+8)(hl:len=8+8*n)(hc:len<=cap)(wx:World):(Instr.slice 65 (.slice (some ⟨b,o,none⟩) len cap) (some (.int .i64 8)) none none).run Tryz.prog wx=.ok (.slice (some ⟨b,p,none⟩) (8*n) (cap-8)) wx:=by
 subst hl;rw[ep];have h8:(8:Int)<=8+8*(n:Int):=Yo;go_simp
 split<;>rfl
theorem aHq(g:Nat->Nat)(n:Nat):(List.finRange n).map (λk=>Value.int .i64 (dV g k.1))=rowV (iF (dV g)) n:=by
 apply List.ext_getElem?;intro i;by_cases h:i<n
 .rw[iE _ h];simp[h];rfl
 .rw[iP _ Yo];simp[h]
def RdI(w:World)(K F R:Int)(g:Nat->Nat)(n:Nat)(pre:List (Fin n))(W:World):Prop:=
 ∃(ao:Option Addr) (c:Nat),MgAt W (w.heap.size+1) K F R (.slice ao pre.length c)/\W.ownsRow (w.heap.size+3) 3 1 (.slice ao pre.length c) pre.length (pre.map λk=>.int .i64 (dV g k.1))/\
  MgAt W w.heap.size 0 0 0 (.slice none 0 0)/\Below w.heap.size w W/\w.heap.size+3<=W.heap.size
variable{g:Nat->Nat}{w:World}
theorem aIx{K F R:Int}{B:Nat}(hB:B=w.heap.size+3):OwnFrom B (RdI w K F R g n):=by
 subst hB;rintro pre X Y row ⟨ao,c,h1,h2,h3,h4,h5⟩ hg hrow;have hlow:∀j,j<w.heap.size+3->some j≠row:=λj hj e=>by have:=(hrow j e.symm).1;omega
 refine⟨ao,c,h1.same (hg.block _ h1.lt (hlow _ Yo)),h2.kept hg ?_,h3.same (hg.block _ h3.lt (hlow _ Yo)),h4.trans ⟨hg.os,hg.tape,hg.output,hg.size,λj hj=>hg.block j Yo (hlow j Yo)⟩,Nat.le_trans h5 hg.size⟩;rcases h2.2 with ⟨e,_⟩|⟨b,cap,cur,e,_,hgb,_⟩
 .exact .inl (by rw[e];rfl)
 .rw[e];refine .inr λe'=>?_
  obtain⟨_,o,ho,hc⟩:=hrow b (by simpa [Value.ownBlock] using e'.symm);rw[hgb] at ho;cases ho;cases hc
theorem aMW(hg:∀i,g i<256):sg (vn (λi=>g (3+i)) 4)=((dR g:Nat):Int):=by
 have h:=aGh hg;unfold dR at h ⊢;unfold sg;rw[if_pos Yo]
variable{ao:Option Addr}
theorem aEo{W w3:World}{K F R:Int}{pre:List (Fin n)}{x:Fin n}{ac g' cap':Nat}{y:Int}(B0:Nat)(h1:MgAt W (w.heap.size+1) K F R (.slice ao pre.length ac))(h2:W.ownsRow (w.heap.size+3) 3 1 (.slice ao pre.length ac) pre.length (pre.map λk=>.int .i64 (dV g k.1)))(h3:MgAt W w.heap.size 0 0 0 (.slice none 0 0))(h4:Below w.heap.size w W)(h5:w.heap.size+3<=W.heap.size)(ho:w3.ownsRow (w.heap.size+3) 3 1 (.slice (some ⟨g',0,none⟩) (pre.length+1) cap') (pre.length+1) ((pre.map λk=>.int .i64 (dV g k.1))++[.int .i64 y]))(hg:(W.drew.alloc (.cells #[.int .i64 y] 3)).grownBy w3 (Value.slice ao pre.length ac).ownBlock)(hy:y=dV g x.1):MgAt w3 (w.heap.size+1) K F R (.slice ao pre.length ac)/\KeepsFrom B0 W (w3.setCell ⟨w.heap.size+1,3,none⟩ (.slice (some ⟨g',0,none⟩) (pre.length+1) cap'))/\KpX (w.heap.size+2) W (w3.setCell ⟨w.heap.size+1,3,none⟩ (.slice (some ⟨g',0,none⟩) (pre.length+1) cap'))/\RdI w K F R g n (pre++[x]) (w3.setCell ⟨w.heap.size+1,3,none⟩ (.slice (some ⟨g',0,none⟩) (pre.length+1) cap')):=by
 have sz:(W.drew.alloc (.cells #[.int .i64 y] 3)).heap.size=W.heap.size+1:=dG _ _;have hlow:∀j,j<w.heap.size+3->some j≠(Value.slice ao pre.length ac).ownBlock:=by
  intro j hj e;rcases h2.2 with ⟨e2,_⟩|⟨b,cap,cur,e2,hb,_⟩
  .rw[e2] at e;simp[Value.ownBlock] at e
  .rw[e2] at e;simp[Value.ownBlock] at e;omega
 have hblk:∀j,j<w.heap.size+3->w3.heap[j]?=W.heap[j]?:=λj hj=>(hg.block j (by rw[sz];omega) (hlow j hj)).trans ((bK W.drew (.cells #[.int .i64 y] 3)).block j (show j<W.heap.size by omega))
 have s3:=hg.size;rw[sz] at s3;have m3:=h1.same (hblk _ Yo);obtain⟨w4,e4,m4,k4⟩:=m3.put3 (.slice (some ⟨g',0,none⟩) (pre.length+1) cap');refine⟨m3,?_,?_,?_⟩
 .refine (((KeepsOthers.drew W).trans (KeepsOthers.alloc W.drew (.cells #[.int .i64 y] 3))).trans ((KeepsOthers.of_grownBy hg λj o ej hj=>?_).trans (KeepsOthers.setCell _ _ _))).from _
  have h2':W.drew.ownsRow (w.heap.size+3) 3 1 (.slice ao pre.length ac) pre.length (pre.map λk=>.int .i64 (dV g k.1)):=h2;rcases (h2'.alloc (.cells #[.int .i64 y] 3)).2 with ⟨e2,_⟩|⟨b,cap,cur,e2,_,hgb,_⟩
  .rw[e2] at ej;simp[Value.ownBlock] at ej
  .rw[e2] at ej;obtain rfl:b=j:=by simpa [Value.ownBlock] using ej
   rw[hgb] at hj;cases hj;rfl
 .show (w3.setCell _ _).heap[w.heap.size+2]?=_
  rw[<-e4];exact (k4.block _ Yo Yo).trans (hblk _ Yo)
 .rw[<-e4];refine⟨some ⟨g',0,none⟩,cap',?_,?_,?_,?_,?_⟩
  .simpa using m4
  .have:=xJ ho k4 Yo;rw[hy] at this
   simpa using this
  .exact h3.same ((k4.block _ Yo Yo).trans (hblk _ Yo))
  .exact h4.trans ⟨by rw[k4.os];exact hg.os,by rw[k4.tape];exact hg.tape,by rw[k4.output];exact hg.output,by have:=k4.size;omega,λj hj=>(k4.block j Yo Yo).trans (hblk j Yo)⟩
  .have:=k4.size;omega
set_option maxRecDepth 100000 in
theorem aEt(b o n len cap:Nat)(g:Nat->Nat)(w:World)(hg:∀i,g i<256)(hn:n<=24)(hlen:len=8+8*n)(hcap:len<=cap)(hc:∀i,i<len->w.cell? ⟨b,o+i,none⟩=some (bF g i)):Calls Tryz.prog 255 #[.slice (some ⟨b,o,none⟩) len cap] w λe w'=>∃v,e=.returned (nC (g 1:Nat) (g 2:Nat) (dR g:Nat) v)/\w'.ownsRow w.heap.size 3 1 v n (rowV (iF (dV g)) n)/\Below w.heap.size w w':=by
 obtain⟨x1,ex1⟩:∃x,g 1=x:=⟨_,rfl⟩;obtain⟨x2,ex2⟩:∃x,g 2=x:=⟨_,rfl⟩;obtain⟨R,eR⟩:∃x,dR g=x:=⟨_,rfl⟩;rw[ex1,ex2,eR];have ER:=aB (show sg (vn (λi=>g (3+i)) 4)=((R:Nat):Int) by rw[<-eR];exact aMW hg);have Y1:=aB (show x1<256 by rw[<-ex1];exact hg 1);have Y2:=aB (show x2<256 by rw[<-ex2];exact hg 2);obtain⟨w1,e1,m1,k1,s1⟩:=rO w 0 0 0 (.slice none 0 0);have hS0:Cb2 b (o+1) (o+2) x1 x2 w1.drew:=by
  refine⟨aU (w':=w1.drew) ?_ (aY k1),aU (w':=w1.drew) ?_ (aY k1)⟩
  .rw[<-ex1];exact hc 1 Yo
  .rw[<-ex2];exact hc 2 Yo
 have HS:=aB hS0;have E1:=aB e1;have MA:=aB m1;have K1:=aB k1;have S1:=aB s1;have HG:=aB hg;have HC:=aB hc;have HL:=aB hlen;have l8:8<=len:=Yo;have hb:b<w.heap.size:=World.block_lt_of_cell? w ⟨b,o+0,none⟩ (hc 0 Yo);clear hS0 e1 m1 k1 s1 hg hc hlen ex1 ex2 eR;refine (callsIn_wide (n:=3)).1 ?_;refine callsIn_of_wp_marks Tryz.func255 rfl trivial ?_ rfl;refine wpIn_wide.2 ?_;simp only[Tryz.ntmps255,List.size_toArray,List.length_cons,List.length_nil,Nat.reduceAdd,Nat.reduceSub,Array.replicate_succ,Array.replicate_zero,List.push_toArray,List.append_toArray,List.nil_append,List.cons_append];go_wp2_with fail
 rw[<-aA E1];refine wp_leaves (λa0 a' w'=>(MgAt w' (w.heap.size+1) (x1:Nat) (x2:Nat) (R:Nat) (.slice none 0 0)/\MgAt w' w.heap.size 0 0 0 (.slice none 0 0)/\Below w.heap.size w w'/\w'.heap.size=w.heap.size+2)/\a'=(((((((((((((a0.put (some 5) (.slice (some ⟨b,o,none⟩) len cap)).put (some 6) (.pointer (some ⟨b,o+1,none⟩))).put (some 7) (bV x1)).put (some 8) (.int .i64 (x1:Nat))).put (some 9) (.slice (some ⟨b,o,none⟩) len cap)).put (some 10) (.pointer (some ⟨b,o+2,none⟩))).put (some 11) (bV x2)).put (some 12) (.int .i64 (x2:Nat))).put (some 13) (.slice (some ⟨b,o,none⟩) len cap)).put (some 14) (.slice (some ⟨b,o+3,none⟩) 4 (cap-3))).put (some 15) (.int .i64 (R:Nat))).put (some 16) (nC (x1:Nat) (x2:Nat) (R:Nat) (.slice none 0 0))).put (some 3) (.pointer (some ⟨w.heap.size+1,0,none⟩)))) ?reg ?rest
 case reg=>
  intro A eA;have b0:A.eval (.tmp 0)=.slice (some ⟨b,o,none⟩) len cap:=by rw[eA];rfl
  have hs:29<=A.tmps.size:=by rw[eA];exact Xu rfl
  have hS:=aA HS;have PC3:∀i,i<4->w1.drew.cell? ⟨b,o+3+i,none⟩=some (bF (λi=>g (3+i)) i):=λi hi=>by
   have:=aU (w':=w1.drew) (aA HC (3+i) Yo) (aY (aA K1));rw[<-Nat.add_assoc] at this;exact this
  clear eA;refine vV (S:=Cb2 b (o+1) (o+2) x1 x2) (.rd 0 (.rd 1 (.rd 2 (.rd 3 (.rd 4 (.rd 5 (.rd 6 (.rd 7 (.rd 8 (.rd 9 (.two 10 12 (.rd 11 (.go 12 (.go 13 .fin))) (.go 10 (.rd 11 (.go 13 .fin)))))))))))))) [13] Yl Yl ?_;refine bP (v:=(.slice (some ⟨b,o,none⟩) len cap)) rfl Yn Yw hS (λwx _=>eG (.tmp 0) rfl b0 wx) ?_;show SeqI _ _ _ _ _ _ (Act.put _ (some 5) _) _
  refine bP (v:=(.pointer (some ⟨b,o+1,none⟩))) rfl Yn Yw hS (λwx _=>oG (i:=1) (.tmp 5) (.const (.int .i64 1)) rfl Et rfl Yo wx) ?_;show SeqI _ _ _ _ _ _ (Act.put _ (some 6) _) _
  refine bP (v:=(bV x1)) rfl Yn Yw hS (λwx hx=>qD (.tmp 6) rfl Es hx.1) ?_;show SeqI _ _ _ _ _ _ (Act.put _ (some 7) _) _
  refine bP (v:=(.int .i64 (x1:Nat))) rfl Yn Yw hS (λwx _=>Z5 (.tmp 7) rfl Es (aA Y1) wx) ?_;show SeqI _ _ _ _ _ _ (Act.put _ (some 8) _) _
  refine bP (v:=(.slice (some ⟨b,o,none⟩) len cap)) rfl Yn Yw hS (λwx _=>eG (.tmp 0) rfl (Ex (Ex (Ex (Ex b0)))) wx) ?_;show SeqI _ _ _ _ _ _ (Act.put _ (some 9) _) _
  refine bP (v:=(.pointer (some ⟨b,o+2,none⟩))) rfl Yn Yw hS (λwx _=>oG (i:=2) (.tmp 9) (.const (.int .i64 2)) rfl Es rfl Yo wx) ?_;show SeqI _ _ _ _ _ _ (Act.put _ (some 10) _) _
  refine bP (v:=(bV x2)) rfl Yn Yw hS (λwx hx=>qD (.tmp 10) rfl Es hx.2) ?_;show SeqI _ _ _ _ _ _ (Act.put _ (some 11) _) _
  refine bP (v:=(.int .i64 (x2:Nat))) rfl Yn Yw hS (λwx _=>Z5 (.tmp 11) rfl Es (aA Y2) wx) ?_;show SeqI _ _ _ _ _ _ (Act.put _ (some 12) _) _
  refine bP (v:=(.slice (some ⟨b,o,none⟩) len cap)) rfl Yn Yw hS (λwx _=>eG (.tmp 0) rfl (Ex (Ex (Ex (Ex (Ex (Ex (Ex (Ex b0)))))))) wx) ?_;show SeqI _ _ _ _ _ _ (Act.put _ (some 13) _) _
  refine bP (v:=(.slice (some ⟨b,o+3,none⟩) 4 (cap-3))) rfl Yn Yw hS (λwx _=>aFd (l:=3) (m:=7) (.tmp 13) (.const (.int .i64 3)) (.const (.int .i64 7)) rfl Es rfl rfl Yo Yo wx) ?_;show SeqI _ _ _ _ _ _ (Act.put _ (some 14) _) _
  refine aLI rfl rfl Yw Yw (λK hK=>?_) (λK hK=>?_)
  .refine aX _ 283 (.tmp 14) #[65] rfl Es (vC _ _) (zO (some ⟨b,o+3,none⟩) 4 (cap-3) (λi=>g (3+i)) _ (λi=>aA HG _) Yo (λ_=>⟨b,o+3,rfl,λi hi=>PC3 i hi⟩)) ?_;rintro e wA ⟨rfl,rfl⟩;rw[aA ER];refine⟨_,rfl,hK _ _ (λ_=>hS) ?_⟩;clear hK K;show SeqI _ _ _ _ _ _ (Act.put _ (some 15) _) _
   refine bP (v:=(nC (x1:Nat) (x2:Nat) (R:Nat) (.slice none 0 0))) rfl Yn Yw hS (λwx _=>Z0 (.tmp 8) (.tmp 12) (.tmp 15) rfl (Ex (Ex (Ex (Ex (Ex (Ex (Ex Es))))))) (Ex (Ex (Ex Es))) Es wx) ?_;show SeqI _ _ _ _ _ _ (Act.put _ (some 16) _) _
   refine uN rfl Yw (λK hK=>?_);refine KH _ rfl ?_;intro w2 m2 k2 s2;have hS2:=hS.below k2;refine hK _ _ (λ_=>hS2) ?_;clear hK K;show SeqI _ _ _ _ _ _ (Act.put _ (some 3) _) _
   refine uN rfl Yw (λK hK=>?_);refine FD _ (.tmp 3) (.tmp 16) rfl Es (Ex Es) m2 rfl ?_;intro w3 m3 k3 s3;refine hK _ _ (λh=>absurd h Yc) ?_;clear hK K;refine wF ⟨rfl,?_⟩;have e1:w1.drew.heap.size=w.heap.size+1:=aA S1;rw[e1] at m3 k3 s2 k2;refine⟨⟨m3,(aA MA).same ((k3.block _ Yo Yo).trans (k2.block w.heap.size Yo)),aF ((aA K1).trans ((aY (Below.refl _ _)).trans (k2.mono Yo))) k3 Yo Yo,Yo⟩,?_⟩;rw[e1]
  .refine KH _ rfl ?_;intro w2 m2 k2 s2;have hS2:=hS.below k2;refine hK _ _ (λ_=>hS2) ?_;clear hK K;show SeqI _ _ _ _ _ _ (Act.put _ (some 3) _) _
   refine uN rfl Yw (λK hK=>?_);refine aX _ 283 (.tmp 14) #[65] rfl (Ex Es) (vC _ _) (zO (some ⟨b,o+3,none⟩) 4 (cap-3) (λi=>g (3+i)) _ (λi=>aA HG _) Yo (λ_=>⟨b,o+3,rfl,λi hi=>aU (PC3 i hi) k2⟩)) ?_;rintro e wB ⟨rfl,rfl⟩;rw[aA ER];refine⟨_,rfl,hK _ _ (λ_=>hS2) ?_⟩;clear hK K;show SeqI _ _ _ _ _ _ (Act.put _ (some 15) _) _
   refine bP (v:=(nC (x1:Nat) (x2:Nat) (R:Nat) (.slice none 0 0))) rfl Yn Yw hS2 (λwx _=>Z0 (.tmp 8) (.tmp 12) (.tmp 15) rfl (Ex (Ex (Ex (Ex (Ex (Ex (Ex (Ex Es)))))))) (Ex (Ex (Ex (Ex Es)))) Es wx) ?_;show SeqI _ _ _ _ _ _ (Act.put _ (some 16) _) _
   refine uN rfl Yw (λK hK=>?_);refine FD _ (.tmp 3) (.tmp 16) rfl (Ex (Ex Es)) Es m2 rfl ?_;intro w3 m3 k3 s3;refine hK _ _ (λh=>absurd h Yc) ?_;clear hK K;refine wF ⟨rfl,?_⟩;have e1:w1.drew.heap.size=w.heap.size+1:=aA S1;rw[e1] at m3 k3 s2 k2;refine⟨⟨m3,(aA MA).same ((k3.block _ Yo Yo).trans (k2.block w.heap.size Yo)),aF ((aA K1).trans ((aY (Below.refl _ _)).trans (k2.mono Yo))) k3 Yo Yo,Yo⟩,?_⟩;rw[e1,PI _ 16 3 _ _ Yc,PI _ 15 3 _ _ Yc]
 case rest=>
  rintro a' w2 ⟨⟨m2,a2,k2,s2⟩,rfl⟩;obtain⟨p,ep⟩:∃p,p=if cap=8 then o else o+8:=⟨_,rfl⟩;have rl:∀wx,(Instr.slice 65 (.slice (some ⟨b,o,none⟩) len cap) (some (.int .i64 8)) none none).run Tryz.prog wx=.ok (.slice (some ⟨b,p,none⟩) (8*n) (cap-8)) wx:=aFa ep (aA HL) hcap;have M2:=aB m2;have A2:=aB a2;have K2:=aB k2;have S2:=aB s2;have EP:=aB ep;clear m2 a2 k2 s2 ep HS
  go_frame
  go_wp2_with fail
  refine (WY (some ⟨b,p,none⟩) (8*n) (cap-8) _).mono ?_;rintro e W0 ⟨rfl,bx,k3,s3⟩;rw[aA S2] at bx k3 s3 ⊢;have M3:=aB ((aA M2).same (k3.block _ Yo));have A3:=aB ((aA A2).same (k3.block _ Yo));have K3:=aB ((aA K2).trans (k3.mono Yo));have BX:=aB bx;clear bx k3;go_wp2_with fail
  refine (wpIn_wide (n:=3)).1 ?_;refine wpIn_rangeFunc_ownG rfl Yo (gf:=299) (lb:=#[.pointer (some ⟨w.heap.size+2,0,none⟩)]) rfl trivial (enters_of Tryz.func299 Yl rfl)
   (PE 2 (w.heap.size+2) b p n (cap-8) Yo hn (by have:=aA HL;omega) W0 (aA BX)) (λh k=>k.trans h) (λW l o o' hl h _ _=>World.putObj_heap_other Yo) (Below.refl _ _) (λ_=>rfl)
   (RdI w (x1:Nat) (x2:Nat) (R:Nat) g n) (λ_ _ _=>False) (aIx s3) (λ_ _ _ _ _ hs _ _=>hs)
   ⟨none,0,aA M3,World.ownsRow_nil _ _ _ _,aA A3,aA K3,Yo⟩
   (λx=>{ tmps:=#[.slice (some ⟨b,o,none⟩) len cap,undef,.pointer (some ⟨w.heap.size,0,none⟩),.pointer (some ⟨w.heap.size+1,0,none⟩),JO b p (cap-8) x.1,.slice (some ⟨b,o,none⟩) len cap,.pointer (some ⟨b,o+1,none⟩),bV x1,.int .i64 (x1:Nat),.slice (some ⟨b,o,none⟩) len cap,.pointer (some ⟨b,o+2,none⟩),bV x2,.int .i64 (x2:Nat),.slice (some ⟨b,o,none⟩) len cap,.slice (some ⟨b,o+3,none⟩) 4 (cap-3),.int .i64 (R:Nat),nC (x1:Nat) (x2:Nat) (R:Nat) (.slice none 0 0),.slice (some ⟨b,o,none⟩) len cap,.slice (some ⟨b,p,none⟩) (8*n) (cap-8),.func (.func 299) #[] #[.pointer (some ⟨w.heap.size+2,0,none⟩)],JO b p (cap-8) x.1,undef,undef,undef,undef,undef,undef,undef,undef],defers:=[] }) ?assign ?body ?done ?stop
  case assign=>
   intro l x W K hK
   gi_wp2
   exact hK
  case body=>
   rintro l pre x W ⟨ao,ac,h1,h2,h3,h4,h5⟩ hlt
   gi_wp2
   refine TK (λ_ _ W'=>KeepsFrom W0.heap.size W W'/\KpX (w.heap.size+2) W W'/\RdI w (x1:Nat) (x2:Nat) (R:Nat) g n (pre++[x]) W') ?reg4 ?rest4
   case reg4=>
    intro A eA;have b3:A.eval (.tmp 3)=.pointer (some ⟨w.heap.size+1,0,none⟩):=by rw[eA];rfl
    have b4:A.eval (.tmp 4)=JO b p (cap-8) x.1:=by rw[eA];rfl
    have hs:29<=A.tmps.size:=by rw[eA];exact Xu rfl
    clear eA;have h2d:W.drew.ownsRow (w.heap.size+3) 3 1 (.slice ao pre.length ac) pre.length (pre.map λk=>.int .i64 (dV g k.1)):=h2;have hS:W.drew.cell? ⟨w.heap.size+1,3,none⟩=some (.slice ao pre.length ac):=h1.cell3;have PC:∀i,i<8->W.drew.cell? ⟨b,p+8*x.1+i,none⟩=some (bF (λi=>g (8+8*x.1+i)) i):=λi hi=>by
     have hx:=x.2;have:=aU (w':=W.drew) (aA HC (8+8*x.1+i) (by have:=aA HL;omega)) (aY h4);rw[show o+(8+8*x.1+i)=p+8*x.1+i by have:=aA EP;rw[if_neg (by have:=aA HL;omega)] at this;omega] at this;exact this
    refine aEw (S:=λu=>u.cell? ⟨w.heap.size+1,3,none⟩=some (.slice ao pre.length ac)) (.rd 0 (.rd 1 (.rd 2 (.go 3 (.go 4 (.go 5 (.rd 6 (.go 7 .fin)))))))) [7] Yl Yl aDV Yl ?_;refine bP (v:=(.pointer (some ⟨w.heap.size+1,3,none⟩))) rfl Yn Yw hS (λwx _=>JU (.tmp 3) 3 rfl b3 Yo wx) ?_;show SeqI _ _ _ _ _ _ (Act.put _ (some 21) _) _
    refine bP (v:=(.slice ao pre.length ac)) rfl Yn Yw hS (λwx hx=>aBI (.tmp 21) rfl Et hx) ?_;show SeqI _ _ _ _ _ _ (Act.put _ (some 22) _) _
    refine bP (v:=(JO b p (cap-8) x.1)) rfl Yn Yw hS (λwx _=>eG (.tmp 4) rfl (Ex (Ex b4)) wx) ?_;show SeqI _ _ _ _ _ _ (Act.put _ (some 23) _) _
    refine uN rfl Yw (λK hK=>?_);refine aX _ 283 (.tmp 23) #[65] rfl Es (vC _ _) (zO _ 8 _ (λi=>g (8+8*x.1+i)) _ (λi=>aA HG _) (Xr _) (λ_=>⟨b,p+8*x.1,rfl,λi hi=>PC i hi⟩)) ?_;rintro e w2 ⟨rfl,rfl⟩;refine⟨_,rfl,hK _ _ (λ_=>hS) ?_⟩;clear hK K;show SeqI _ _ _ _ _ _ (Act.put _ (some 24) _) _
    refine uN rfl Yw (λK hK=>?_);refine aJR _ (.tmp 24) rfl Es ?_;have hS2:=aU hS (bK W.drew (.cells #[.int .i64 (sg (vn (λi=>g (8+8*x.1+i)) 8))] 3));refine hK _ _ (λ_=>hS2) ?_;clear hK K;show SeqI _ _ _ _ _ _ (Act.put _ (some 25) _) _
    refine uN rfl Yw (λK hK=>?_);refine aFW _ (.tmp 22) (.tmp 25) rfl (w.heap.size+3) (by rw[dG];show w.heap.size+3<=W.heap.size+1;omega) _ _ _ (Ex (Ex (Ex Es))) (h2d.alloc _) ⟨W.heap.size,0,none⟩ (sg (vn (λi=>g (8+8*x.1+i)) 8)) Es (Boxed.new W.drew 3 (.int .i64 (sg (vn (λi=>g (8+8*x.1+i)) 8)))).cell Yo ?_;intro v' w3 hown3 hgr3;obtain⟨g',cap',rfl⟩:=ownsRow_succ hown3;obtain⟨m3,kf,kx,ki⟩:=aEo (x:=x) W0.heap.size h1 h2 h3 h4 h5 hown3 hgr3 rfl;have hS3:=m3.cell3;refine hK _ _ (λ_=>hS3) ?_;clear hK K;show SeqI _ _ _ _ _ _ (Act.put _ (some 26) _) _
    refine bP (v:=(.pointer (some ⟨w.heap.size+1,3,none⟩))) rfl Yn Yw hS3 (λwx _=>JU (.tmp 3) 3 rfl (Ex (Ex (Ex (Ex (Ex (Ex b3)))))) Yo wx) ?_;show SeqI _ _ _ _ _ _ (Act.put _ (some 27) _) _
    refine uN rfl Yw (λK hK=>?_);refine aCz _ (.tmp 27) (.tmp 26) rfl Es (Ex Es) m3.cell3 (m3.free 3) rfl ?_;refine hK _ _ (λh=>absurd h Yc) ?_;clear hK K;refine wF ⟨rfl,kf,kx,ki⟩
   case rest4=>
    rintro a' W' ⟨kf,kx,ki⟩;exact⟨kf,kx,ki⟩
  case done=>
   rintro D ys W hD rfl ⟨ao,ac,h1,h2,h3,h4,h5⟩ hK;rw[List.length_finRange] at h1 h2;have c0:=h1.cell0;have c1:=h1.cell1;have c2:=h1.cell2;have c3:=h1.cell3;have a0:=h3.cell0;have a1:=h3.cell1;have a2:=h3.cell2;have a3:=h3.cell3;have f0:=h3.free 0;have f1:=h3.free 1;have f2:=h3.free 2;have f3:=h3.free 3;obtain⟨w4,e4,m4,k4⟩:=h3.put (x1:Nat) (x2:Nat) (R:Nat) (.slice ao n ac);have hK4:w4.heap[D]?=some (.deferred (some [])):=(k4.block D (Array.getElem?_eq_some_iff.1 hK).1 Yo).trans hK;have o4:=xJ h2 k4 Yo;have b4:=aF h4 k4 (Xr _) h4.size;have E4:=aB e4;have H:=aB (⟨h1,h2,h3,h4,h5⟩:_/\_/\_/\_/\_);have M4:=aB m4;have O4:=aB o4;have B4:=aB b4;have HK4:=aB hK4;clear h1 h2 h3 h4 h5 e4 m4 k4 hK o4 b4 hK4;go_wp2_with fail
   rw[<-aA E4];have m5:MgAt (w4.putObj D (.deferred none)) w.heap.size (x1:Nat) (x2:Nat) (R:Nat) (.slice ao n ac):=(aA M4).same (World.putObj_heap_other Yo);have p0:=m5.cell0;have p1:=m5.cell1;have p2:=m5.cell2;have p3:=m5.cell3;have o5:=ownsRow_putObj (aA O4) (.deferred none) (aA HK4) rfl;have b5:=(aA B4).trans (belowK_b (w:=w) (Xr _) w4 D _ (.deferred none) Yo (aA HK4) rfl rfl);rw[aHq] at o5;refine⟨by simp,.inl ⟨_,_,rfl,run_takeDeferred (aA HK4),?_⟩⟩;exact⟨nC (x1:Nat) (x2:Nat) (R:Nat) (.slice ao n ac),by simp[results,Tryz.results255,go_sem,nC,p0,p1,p2,p3],⟨_,rfl,zQ o5 Yo,b5⟩⟩
  case stop=>
   rintro D c pre W _ _ h _;exact h.elim
end Go.Proofs.YthimcecbgpamdaaGreatDoor
namespace Go.Proofs.YthimcecbgpamdaaGreatDoor
open Go.RowKit
def opE(g:Nat->Nat)(len:Nat)(e:Int):Prop:=
 (220<len/\e=1)\/(len<=220/\(len<12\/g 0≠87)/\e=2)\/(len<=220/\12<=len/\g 0=87/\
  ((¬xH g len/\e=5)\/(xH g len/\((24<g 7/\e=6)\/(g 7<=24/\((len≠12+8*g 7/\e=2)\/(len=12+8*g 7/\e=0)))))))
theorem YL(ao:Option Addr)(len cap:Nat)(w:World)(h1:220<len):Calls Tryz.prog 254 #[.slice ao len cap] w λe w'=>e=.returned (.tuple #[.slice none 0 0,.int .i64 1])/\Below w.heap.size w w':=by
 have h1':(220:Int)<(len:Int):=Yo;go_enter Tryz.func254,Tryz.ntmps254
 go_wp2_with fail
 go_ret2
 exact⟨rfl,Below.refl _ _⟩
theorem TJ(ao:Option Addr)(len cap:Nat)(w:World)(h1:len<12):Calls Tryz.prog 254 #[.slice ao len cap] w λe w'=>e=.returned (.tuple #[.slice none 0 0,.int .i64 2])/\Below w.heap.size w w':=by
 have h1':(len:Int)<12:=Yo;go_enter Tryz.func254,Tryz.ntmps254
 go_wp2_with fail
 go_ret2
 exact⟨rfl,Below.refl _ _⟩
theorem YJ(ao:Option Addr)(len cap:Nat)(g:Nat->Nat)(w:World)(h1:len<=220)(h2:12<=len)(hr:Rd w ao len (bF g))(h3:g 0≠87):Calls Tryz.prog 254 #[.slice ao len cap] w λe w'=>e=.returned (.tuple #[.slice none 0 0,.int .i64 2])/\Below w.heap.size w w':=by
 obtain⟨b,o,rfl,hc⟩:=hr Yo;have c0:w.cell? ⟨b,o,none⟩=some (.int .u8 (g 0:Nat)):=hc 0 Yo;have t3:(((g 0:Nat):Int)!=87)=true:=by simp;omega
 clear hc hr;generalize g 0=x at*;go_enter Tryz.func254,Tryz.ntmps254
 go_wp2_with fail
 go_ret2
 exact⟨rfl,Below.refl _ _⟩
theorem aCx(ao:Option Addr)(len cap:Nat)(g:Nat->Nat)(w:World)(hg:∀i,g i<256)(hcap:len<=cap)(h1:len<=220)(h2:12<=len)(hr:Rd w ao len (bF g))(h3:g 0=87)(h4:¬xH g len):Calls Tryz.prog 254 #[.slice ao len cap] w λe w'=>e=.returned (.tuple #[.slice none 0 0,.int .i64 5])/\Below w.heap.size w w':=by
 obtain⟨b,o,rfl,hc⟩:=hr Yo;have c0:w.cell? ⟨b,o,none⟩=some (.int .u8 87):=by have:=hc 0 Yo;rw[show bF g 0=.int .u8 87 by unfold bF bV;rw[h3];rfl] at this;exact this
 have HR:=aB hr;have HG:=aB hg;clear hc hr hg;go_enter Tryz.func254,Tryz.ntmps254
 go_wp2_with fail
 clear c0;refine (BC (some ⟨b,o,none⟩) len cap g _ (aA HG) Yo hcap (aA HR)).mono ?_;rintro e w2 ⟨v2,ok,rfl,iff2,_,hv2,k2⟩;have hok:ok=false:=by cases ok;rfl;exact absurd (iff2.1 rfl) h4
 subst hok;have K2:=aB k2;clear k2 iff2 hv2;go_wp2_with fail
 go_ret2
 exact⟨rfl,aA K2⟩
theorem YK(ao:Option Addr)(len cap:Nat)(g:Nat->Nat)(w:World)(hg:∀i,g i<256)(hcap:len<=cap)(h1:len<=220)(h2:12<=len)(hr:Rd w ao len (bF g))(h3:g 0=87)(h4:xH g len)(h5:24<g 7):Calls Tryz.prog 254 #[.slice ao len cap] w λe w'=>e=.returned (.tuple #[.slice none 0 0,.int .i64 6])/\Below w.heap.size w w':=by
 obtain⟨b,o,rfl,hc⟩:=hr Yo;have c0:w.cell? ⟨b,o,none⟩=some (.int .u8 87):=by have:=hc 0 Yo;rw[show bF g 0=.int .u8 87 by unfold bF bV;rw[h3];rfl] at this;exact this
 have HR:=aB hr;have HG:=aB hg;clear hc hr hg;go_enter Tryz.func254,Tryz.ntmps254
 go_wp2_with fail
 clear c0;refine (BC (some ⟨b,o,none⟩) len cap g _ (aA HG) Yo hcap (aA HR)).mono ?_;rintro e w2 ⟨v2,ok,rfl,iff2,ho2,_,k2⟩;have hok:ok=true:=iff2.2 h4;subst hok;have o2:=ho2 rfl;obtain⟨a2,l2,rfl⟩:=lH o2;obtain⟨b2,p2,rfl,r2⟩:=W9 o2 Yo;have c7:w2.cell? ⟨b2,p2+7,none⟩=some (.int .u8 (g 7:Nat)):=r2 7 Yo;have K2:=aB k2;have hx7:g 7<256:=aA HG 7;have h5':(24:Int)<((g 7:Nat):Int):=Yo;have hl7:(7:Int)<((len-4:Nat):Int):=Yo;clear k2 iff2 ho2 o2 r2 HG HR h4 h3;generalize g 7=x at*;generalize len-4=m at*;go_wp2_with fail
 go_ret2
 exact⟨rfl,aA K2⟩
theorem TI(ao:Option Addr)(len cap:Nat)(g:Nat->Nat)(w:World)(hg:∀i,g i<256)(hcap:len<=cap)(h1:len<=220)(h2:12<=len)(hr:Rd w ao len (bF g))(h3:g 0=87)(h4:xH g len)(h5:g 7<=24):Calls Tryz.prog 254 #[.slice ao len cap] w λe w'=>∃v E,e=.returned (.tuple #[v,.int .i64 E])/\((len≠12+8*g 7/\E=2/\v=.slice none 0 0)\/(len=12+8*g 7/\E=0/\w'.ownsRow w.heap.size 5 1 v (len-4) (rowV (bF g) (len-4))))/\Below w.heap.size w w':=by
 obtain⟨b,o,rfl,hc⟩:=hr Yo;have c0:w.cell? ⟨b,o,none⟩=some (.int .u8 87):=by have:=hc 0 Yo;rw[show bF g 0=.int .u8 87 by unfold bF bV;rw[h3];rfl] at this;exact this
 obtain⟨x,ex⟩:∃x,g 7=x:=⟨_,rfl⟩;obtain⟨m,em⟩:∃m,len-4=m:=⟨_,rfl⟩;have hx7:x<256:=by rw[<-ex];exact hg 7
 have HR:=aB hr;have HG:=aB hg;have H4:=aB h4;have EX:=aB ex;have EM:=aB em;rw[ex] at h5;rw[ex,em];clear hc hr hg h4 ex em h3;go_enter Tryz.func254,Tryz.ntmps254
 go_wp2_with fail
 clear c0;refine (BC (some ⟨b,o,none⟩) len cap g _ (aA HG) Yo hcap (aA HR)).mono ?_;rintro e w2 ⟨v2,ok,rfl,iff2,ho2,_,k2⟩;have hok:ok=true:=iff2.2 (aA H4);subst hok;have o2:=ho2 rfl;rw[aA EM] at o2;obtain⟨a2,l2,rfl⟩:=lH o2;obtain⟨b2,p2,rfl,r2⟩:=W9 o2 (by have:=aA EM;omega);have c7:w2.cell? ⟨b2,p2+7,none⟩=some (.int .u8 (g 7:Nat)):=r2 7 (by have:=aA EM;omega);rw[aA EX] at c7;have K2:=aB k2;have O2:=aB o2;have hl7:(7:Int)<(m:Int):=by have:=aA EM;omega
 clear k2 iff2 ho2 o2 r2 HG HR H4 EX;go_wp2_with fail
 refine (EE x _ Yo).mono ?_;rintro e w3 ⟨rfl,rfl⟩;by_cases h6:m=8+8*x
 .have t6:(((m:Nat):Int)!=((8+8*x:Nat):Int))=false:=by rw[h6];simp
  have T:=aB (show len=12+8*x by have:=aA EM;omega);clear h6 c7;generalize ((8+8*x:Nat):Int)=y at*;go_wp2_with fail
  go_ret2
  exact⟨_,_,rfl,Or.inr ⟨aA T,rfl,aA O2⟩,aA K2⟩
 .have t6:(((m:Nat):Int)!=((8+8*x:Nat):Int))=true:=by simp;omega
  have T:=aB (show len≠12+8*x by have:=aA EM;omega);clear h6 c7;generalize ((8+8*x:Nat):Int)=y at*;go_wp2_with fail
  go_ret2
  exact⟨_,_,rfl,Or.inl ⟨aA T,rfl,rfl⟩,aA K2⟩
theorem aCw(ao:Option Addr)(len cap:Nat)(g:Nat->Nat)(w:World)(hg:∀i,g i<256)(hcap:len<=cap)(hr:Rd w ao len (bF g)):Calls Tryz.prog 254 #[.slice ao len cap] w λe w'=>∃v E,e=.returned (.tuple #[v,.int .i64 E])/\opE g len E/\(E=0->w'.ownsRow w.heap.size 5 1 v (len-4) (rowV (bF g) (len-4)))/\Below w.heap.size w w':=by
 by_cases h1:220<len
 .exact (YL ao len cap w h1).mono (λe w' ⟨h,k⟩=>⟨_,_,h,Or.inl ⟨h1,rfl⟩,λh=>absurd h Yc,k⟩)
 by_cases h2:len<12
 .exact (TJ ao len cap w h2).mono (λe w' ⟨h,k⟩=>⟨_,_,h,Or.inr (Or.inl ⟨Yo,Or.inl h2,rfl⟩),λh=>absurd h Yc,k⟩)
 by_cases h3:g 0=87
 .by_cases h4:xH g len
  .by_cases h5:24<g 7
   .exact (YK ao len cap g w hg hcap Yo Yo hr h3 h4 h5).mono (λe w' ⟨h,k⟩=>⟨_,_,h,Or.inr (Or.inr ⟨Yo,Yo,h3,Or.inr ⟨h4,Or.inl ⟨h5,rfl⟩⟩⟩),λh=>absurd h Yc,k⟩)
   .refine (TI ao len cap g w hg hcap Yo Yo hr h3 h4 Yo).mono ?_;rintro e w' ⟨v,E,rfl,⟨h6,rfl,rfl⟩|⟨h6,rfl,ho⟩,k⟩
    .exact⟨_,_,rfl,Or.inr (Or.inr ⟨Yo,Yo,h3,Or.inr ⟨h4,Or.inr ⟨Yo,Or.inl ⟨h6,rfl⟩⟩⟩⟩),λh=>absurd h Yc,k⟩
    .exact⟨_,_,rfl,Or.inr (Or.inr ⟨Yo,Yo,h3,Or.inr ⟨h4,Or.inr ⟨Yo,Or.inr ⟨h6,rfl⟩⟩⟩⟩),λ_=>ho,k⟩
  .exact (aCx ao len cap g w hg hcap Yo Yo hr h3 h4).mono (λe w' ⟨h,k⟩=>⟨_,_,h,Or.inr (Or.inr ⟨Yo,Yo,h3,Or.inl ⟨h4,rfl⟩⟩),λh=>absurd h Yc,k⟩)
 .exact (YJ ao len cap g w Yo Yo hr h3).mono (λe w' ⟨h,k⟩=>⟨_,_,h,Or.inr (Or.inl ⟨Yo,Or.inr h3,rfl⟩),λh=>absurd h Yc,k⟩)
theorem LB:aNf 226:=by
 intro ao len cap g w hg hl hc hs;obtain⟨w1,e1,m1,k1,s1⟩:=rO w 0 0 0 (.slice none 0 0);have E1:=aB e1;have M1:=aB m1;have K1:=aB k1;have S1:=aB s1;have HS:=aB (hs.below k1).rd;have HG:=aB hg;clear e1 m1 k1 s1 hs hg;go_enter Tryz.func226,Tryz.ntmps226
 go_wp2_with fail
 rw[<-aA E1];refine (aCw ao len cap g _ (aA HG) hc (aA HS)).mono ?_;rintro e w2 ⟨v2,E,rfl,hE,ho,k2⟩;have K2:=aB (show Below w.heap.size w w2 from (aA K1).trans (k2.mono (aA K1).size));have m2:=(aA M1).below k2;have Z2:=aB (show w.heap.size+1<=w2.heap.size by have:=aA S1;have:=k2.size;omega);have Z1:=aB (show w.heap.size<=w1.heap.size by have:=aA S1;omega);have a0:=m2.cell0;have a1:=m2.cell1;have a2:=m2.cell2;have a3:=m2.cell3;have f0:=m2.free 0;have f1:=m2.free 1;have f2:=m2.free 2;have f3:=m2.free 3;by_cases h0:E=0
 .
  subst h0;have o2:=ho rfl;have hE2:12<=len/\len<=220/\g 0=87/\xH g len/\g 7<=24/\len=12+8*g 7:=by
   unfold opE at hE;rcases hE with ⟨h,e⟩|⟨_,_,e⟩|⟨h1,h2,h3,⟨_,e⟩|⟨h4,⟨_,e⟩|⟨h5,⟨_,e⟩|⟨h6,_⟩⟩⟩⟩
   .cases e
   .cases e
   .cases e
   .cases e
   .cases e
   .exact⟨h2,h1,h3,h4,h5,h6⟩
  obtain⟨h2,h1,h3,h4,h5,h6⟩:=hE2;obtain⟨a2',l2,rfl,r2,c2⟩:=kK o2;obtain⟨b2,p2,rfl,q2⟩:=r2.rd Yo;have hl4:len-4=8+8*g 7:=Yo;have R2:=aB q2;have M2:=aB m2;have H:=aB (⟨h1,h2,h3,h4,h5,h6⟩:_/\_/\_/\_/\_/\_);have HL:=aB hl4;obtain⟨m,em⟩:∃m,m=len-4:=⟨_,rfl⟩;rw[<-em] at R2 HL c2 ⊢;clear ho hE o2 k2 r2 q2 m2 h1 h2 h3 h4 h6 hl4 em a0 a1 a2 a3 f0 f1 f2 f3;go_wp2_with fail
  refine (aEt b2 p2 (g 7) m l2 g _ (aA HG) h5 (aA HL) c2 (aA R2)).mono ?_;rintro e w3 ⟨v3,rfl,o3,k3⟩;obtain⟨a3,c3,rfl⟩:=lH o3;have z2:=aA Z2;have m3:=(aA M2).below k3;have K3:=(aA K2).trans (k3.mono (aA K2).size);obtain⟨w4,e4,m4,k4,s4⟩:=rO w3 (g 1:Nat) (g 2:Nat) (dR g:Nat) (.slice a3 (g 7) c3);have c0:=m4.cell0;have c1:=m4.cell1;have c2':=m4.cell2;have c3':=m4.cell3;have E4:=aB e4;have M4:=aB m4;have A4:=aB (m3.below k4);have K4:=aB (K3.trans (k4.mono K3.size));have O4:=aB (vQ o3 k4);have Z4:=aB (show w3.heap.size+1=w4.heap.size by omega);have Z3:=aB (show w2.heap.size<=w3.heap.size from k3.size);clear o3 k3 m3 K3 e4 m4 k4 s4 z2;have hh:=aA H;have EQ:∀T:Int,T=wrongM (g 1:Nat) (g 2:Nat) (dR g:Nat) (g 7)->F8 g len T:=λT hT=>Or.inr (Or.inr ⟨hh.1,hh.2.1,hh.2.2.1,Or.inr ⟨hh.2.2.2.1,Or.inr ⟨hh.2.2.2.2.1,Or.inr ⟨hh.2.2.2.2.2,hT⟩⟩⟩⟩)
  have EQH:=aB EQ;clear hh EQ;unfold nC;go_wp2_with fail
  rw[<-aA E4];go_wp2_with fail
  refine (J9 (g 1:Nat) (g 2:Nat) (dR g:Nat) a3 (g 7) c3 _).mono ?_;rintro e w5 ⟨rfl,k5⟩;clear c0 c1 c2' c3';have m5:=(aA M4).below k5;have n5:=(aA A4).below k5;have c0:=m5.cell0;have c1:=m5.cell1;have c2':=m5.cell2;have c3':=m5.cell3;have a0:=n5.cell0;have a1:=n5.cell1;have a2:=n5.cell2;have a3':=n5.cell3;have f0:=n5.free 0;have f1:=n5.free 1;have f2:=n5.free 2;have f3:=n5.free 3;have K5:=(aA K4).trans (k5.mono (aA K4).size);have o5:=vQ (aA O4) k5;obtain⟨T,eT⟩:∃T,T=wrongM (g 1:Nat) (g 2:Nat) (dR g:Nat) (g 7):=⟨_,rfl⟩;rw[<-eT];have DE:=aB (aA EQH T eT);have z2:=aA Z2;have z3:=aA Z3;by_cases hT:T=0
  .subst hT;obtain⟨w6,e6,m6,k6⟩:=n5.put (g 1:Nat) (g 2:Nat) (dR g:Nat) (.slice a3 (g 7) c3);have p0:=m6.cell0;have p1:=m6.cell1;have p2':=m6.cell2;have p3:=m6.cell3;have E6:=aB e6;have K6:=aB (aF K5 k6 (Xr _) K5.size);have O6:=aB (zQ (xJ o5 k6 Yo) (show w.heap.size<=w2.heap.size by omega));clear e6 m6 k6 K5 o5 k5 m5 n5 eT z2 z3;go_wp2_with fail
   rw[<-aA E6];refine bodyPost_ret (v:=.tuple #[nC (g 1:Nat) (g 2:Nat) (dR g:Nat) (.slice a3 (g 7) c3),.int .i64 0]) (by simp[results,Tryz.results226,go_sem,nC,p0,p1,p2',p3]) rfl ⟨0,_,aA DE,rfl,aA O6,aA K6⟩
  .have tw:(T !=0)=true:=by simp[hT]
   obtain⟨w6,e6,m6,k6⟩:=n5.put 0 0 0 (.slice none 0 0);have p0:=m6.cell0;have p1:=m6.cell1;have p2':=m6.cell2;have p3:=m6.cell3;have E6:=aB e6;have K6:=aB (aF K5 k6 (Xr _) K5.size);have HT:=aB hT;clear e6 m6 k6 K5 o5 k5 m5 n5 eT z2 z3 hT;go_wp2_with fail
   rw[<-aA E6];refine bodyPost_ret (v:=.tuple #[nC 0 0 0 (.slice none 0 0),.int .i64 T]) (by simp[results,Tryz.results226,go_sem,nC,p0,p1,p2',p3]) rfl ⟨T,.slice none 0 0,aA DE,?_,?_,aA K6⟩
   .have d:∀x,dN T x=0:=λx=>if_neg (aA HT)
    rw[d,d,d];rfl
   .have d:dN T (g 7)=0:=if_neg (aA HT);rw[d];exact World.ownsRow_nil _ _ _ _
 .have tw:(E !=0)=true:=by simp[h0]
  have dE:F8 g len E:=by
   unfold opE at hE;unfold F8;rcases hE with h|h|⟨h1,h2,h3,h|⟨h4,h|⟨h5,h|⟨h6,e⟩⟩⟩⟩
   .exact Or.inl h
   .exact Or.inr (Or.inl h)
   .exact Or.inr (Or.inr ⟨h1,h2,h3,Or.inl h⟩)
   .exact Or.inr (Or.inr ⟨h1,h2,h3,Or.inr ⟨h4,Or.inl h⟩⟩)
   .exact Or.inr (Or.inr ⟨h1,h2,h3,Or.inr ⟨h4,Or.inr ⟨h5,Or.inl h⟩⟩⟩)
   .exact absurd e h0
  obtain⟨w6,e6,m6,k6⟩:=m2.put 0 0 0 (.slice none 0 0);have p0:=m6.cell0;have p1:=m6.cell1;have p2:=m6.cell2;have p3:=m6.cell3;have E6:=aB e6;have K6:=aB (aF (aA K2) k6 (Xr _) (aA K2).size);have HT:=aB h0;have DE:=aB dE;clear e6 m6 k6 k2 m2 ho hE dE h0;go_wp2_with fail
  rw[<-aA E6];refine bodyPost_ret (v:=.tuple #[nC 0 0 0 (.slice none 0 0),.int .i64 E]) (by simp[results,Tryz.results226,go_sem,nC,p0,p1,p2,p3]) rfl ⟨E,.slice none 0 0,aA DE,?_,?_,aA K6⟩
  .have d:∀x,dN E x=0:=λx=>if_neg (aA HT)
   rw[d,d,d];rfl
  .have d:dN E (g 7)=0:=if_neg (aA HT);rw[d];exact World.ownsRow_nil _ _ _ _
end Go.Proofs.YthimcecbgpamdaaGreatDoor
