import Derived.Test.YthimcecbgpamdaaGreatDoorNear202
import Derived.Deep.OwnRows
import Derived.Laws.Cover3
import Derived.Laws.AppendOwnNone
namespace Go.Proofs.YthimcecbgpamdaaGreatDoor
open Go.RowKit
theorem dG(w:World)(o:Obj):(w.alloc o).heap.size=w.heap.size+1:=by show (w.heap.push _).size=_;rw[Array.size_push]
variable{z:Nat}
theorem TP(w:World)(o:Obj):Kept z w (w.alloc o):=Kept.of_below ((Below.refl _ _).alloc (Xr _) _)
theorem bK(w:World)(o:Obj):Below w.heap.size w (w.alloc o):=(Below.refl _ _).alloc (Xr _) _
variable{a:Addr}{v:Value}{w w':World}
theorem yE(h:w.cell? a=some v)(k:Kept z w w')(hz:a.block≠z):w'.cell? a=some v:=
 (World.cell?_of_block (w:=w) (a:=a) (k.block a.block (World.block_lt_of_cell? w a h) hz)).trans h
theorem aU(h:w.cell? a=some v)(k:Below w.heap.size w w'):w'.cell? a=some v:=
 (World.cell?_of_block (w:=w) (a:=a) (k.block a.block (World.block_lt_of_cell? w a h))).trans h
structure Kp2 (y z:Nat) (w w':World):Prop where
 os:w'.os=w.os
 tape:w'.tape=w.tape
 output:w'.output=w.output
 size:w.heap.size<=w'.heap.size
 block:∀k,k<w.heap.size->k≠y->k≠z->w'.heap[k]?=w.heap[k]?
theorem Kp2.refl(y z:Nat)(w:World):Kp2 y z w w:=⟨rfl,rfl,rfl,Xr _,λ_ _ _ _=>rfl⟩
variable{y:Nat}
theorem Kp2.trans{a b c:World}(h:Kp2 y z a b)(k:Kp2 y z b c):Kp2 y z a c:=
 ⟨k.os.trans h.os,k.tape.trans h.tape,k.output.trans h.output,Nat.le_trans h.size k.size,λi hi h1 h2=>(k.block i (Nat.lt_of_lt_of_le hi h.size) h1 h2).trans (h.block i hi h1 h2)⟩
theorem Kp2.of_below(h:Below w.heap.size w w'):Kp2 y z w w':=⟨h.os,h.tape,h.output,h.size,λk hk _ _=>h.block k hk⟩
theorem Kp2.one{w0:World}(h:Kept y w0 w)(k:Kp2 y z w w')(hz:w0.heap.size<=z):Kept y w0 w':=
 ⟨k.os.trans h.os,k.tape.trans h.tape,k.output.trans h.output,Nat.le_trans h.size k.size,λi hi h1=>(k.block i (Nat.lt_of_lt_of_le hi h.size) h1 Yo).trans (h.block i hi h1)⟩
theorem Kp2.below{B:Nat}{w0:World}(h:Below B w0 w)(k:Kp2 y z w w')(hy:B<=y)(hz:B<=z)(hB:B<=w.heap.size):Below B w0 w':=
 h.trans ⟨k.os,k.tape,k.output,k.size,λi hi=>k.block i Yo Yo Yo⟩
theorem gJ(w:World)(k:Nat):Kept z w (w.drewN k):=⟨rfl,rfl,rfl,Xr _,λ_ _ _=>rfl⟩
def eQ(g:Nat->Value)(k:Nat)(x:Value):Nat->Value:=λj=>if j=k then x else g j
theorem kS(g:Nat->Value)(k:Nat)(x:Value):eQ g k x k=x:=if_pos rfl
variable{k:Nat}
theorem gP(g:Nat->Value){j:Nat}(x:Value)(h:j≠k):eQ g k x j=g j:=if_neg h
def Vh(t:TypeId)(w:World)(b N cap:Nat)(g:Nat->Value):Prop:=
 ∃cur:Array Value,w.heap[b]?=some (.cells cur t (0,0))/\cur.size=cap/\N<=cap/\cap<=maxLen/\∀i,i<N->cur[i]?=some (g i)
section
variable {t:TypeId} {w w':World} {b N cap:Nat} {g:Nat->Value}
theorem Vh.cell(h:Vh t w b N cap g){i:Nat}(hi:i<N):w.cell? ⟨b,i,none⟩=some (g i):=by
 obtain⟨c,hb,_,_,_,hc⟩:=h;simp[World.cell?,hb,hc i hi]
theorem Vh.free(h:Vh t w b N cap g)(i:Nat):w.frozen? ⟨b,i,none⟩=false:=by
 obtain⟨c,hb,_⟩:=h;simp[World.frozen?,hb]
theorem Vh.lt(h:Vh t w b N cap g):b<w.heap.size:=by
 obtain⟨c,hb,_⟩:=h;exact lt_of_block hb
theorem Vh.same(h:Vh t w b N cap g)(e:w'.heap[b]?=w.heap[b]?):Vh t w' b N cap g:=by
 obtain⟨c,hb,hr⟩:=h;exact⟨c,e.trans hb,hr⟩
theorem Vh.congr{f:Nat->Value}(h:Vh t w b N cap g)(e:∀i,i<N->g i=f i):Vh t w b N cap f:=by
 obtain⟨c,hb,h1,h2,h3,h4⟩:=h;exact⟨c,hb,h1,h2,h3,λi hi=>by rw[h4 i hi,e i hi]⟩
theorem Vh.less{M:Nat}(h:Vh t w b N cap g)(e:M<=N):Vh t w b M cap g:=by
 obtain⟨c,hb,h1,h2,h3,h4⟩:=h;exact⟨c,hb,h1,Yo,h3,λi hi=>h4 i Yo⟩
theorem Vh.kept(h:Vh t w b N cap g)(k:Kept z w w')(hz:b≠z):Vh t w' b N cap g:=h.same (k.block b h.lt hz)
theorem Vh.below(h:Vh t w b N cap g)(k:Below w.heap.size w w'):Vh t w' b N cap g:=h.same (k.block b h.lt)
theorem Vh.set(h:Vh t w b N cap g)(i:Nat)(x:Value):Vh t (w.setCell ⟨b,i,none⟩ x) b N cap (eQ g i x):=by
 obtain⟨c,hb,hn,h2,h3,hc⟩:=h;refine⟨c.setIfInBounds i x,?_,by simpa using hn,h2,h3,λj hj=>?_⟩
 .simp[World.setCell,Array.getElem?_modify,hb]
 .rw[Array.getElem?_setIfInBounds];by_cases e:j=i
  .subst e;rw[kS];simp[hn];omega
  .rw[if_neg (λh=>e h.symm),gP g x e];exact hc j hj
theorem Vh.new(w:World)(t:TypeId)(c:Array Value)(g:Nat->Value)(hn:c.size<=maxLen)(h:∀i,i<c.size->c[i]?=some (g i)):Vh t (w.alloc (.cells c t)) w.heap.size c.size c.size g:=
 ⟨c,by show (w.heap.push _)[w.heap.size]?=_;rw[Array.getElem?_push_size],rfl,Xr _,hn,h⟩
theorem Vh.made(w:World)(t:TypeId)(z:Value)(n:Nat)(hn:n<=maxLen):Vh t (w.alloc (.cells (madeCells #[z] n) t)) w.heap.size n n (λ_=>z):=by
 obtain⟨c,h1,h2,h3⟩:=World.rowIs_made w z n t;exact⟨c,h1,h2,Xr _,hn,h3⟩
theorem Vh.whole(h:Vh t w b N N g):w.heap[b]?=some (.cells ((List.range N).map g).toArray t (0,0)):=by
 obtain⟨c,hb,hn,_,_,hc⟩:=h;rw[hb]
 congr 2
 apply Array.ext_getElem?;intro i;have e:((List.range N).map g).toArray[i]?=((List.range N).map g)[i]?:=by simp
 rw[e,List.getElem?_map];by_cases hi:i<N
 .rw[hc i hi,List.getElem?_range hi];rfl
 .rw[Array.getElem?_eq_none Yo,List.getElem?_eq_none (by simpa using hi)];rfl
theorem Vh.of_row(g:Nat->Value)(N:Nat)(hN:N<=maxLen)(h:w.heap[b]?=some (.cells ((List.range N).map g).toArray t (0,0))):Vh t w b N N g:=by
 refine⟨_,h,by simp,Xr _,hN,λi hi=>?_⟩;have e:((List.range N).map g).toArray[i]?=((List.range N).map g)[i]?:=by simp
 rw[e,List.getElem?_map,List.getElem?_range hi];rfl
end
def rowV(g:Nat->Value)(l:Nat):List Value:=(List.range l).map g
theorem vY(g:Nat->Value)(l:Nat):(rowV g l).length=l*1:=by simp[rowV]
theorem gY(g:Nat->Value)(l:Nat):(rowV g l).length=l:=by simp[rowV]
variable{i l:Nat}
theorem iE(g:Nat->Value)(hi:i<l):(rowV g l)[i]?=some (g i):=by
 unfold rowV;rw[List.getElem?_map,List.getElem?_range hi];rfl
theorem iP(g:Nat->Value)(hi:l<=i):(rowV g l)[i]?=none:=by
 rw[List.getElem?_eq_none];rw[gY];exact hi
theorem mV(g:Nat->Value)(l:Nat)(h:∀i,i<l->(g i).oneCell'=true):∀u∈rowV g l,u.oneCell'=true:=by
 intro u hu;obtain⟨i,hi,rfl⟩:=List.mem_map.1 hu;exact h i (by simpa using hi)
variable{f:Nat->Value}
theorem jF{g:Nat->Value}(h:∀i,i<l->g i=f i):rowV g l=rowV f l:=by
 apply List.ext_getElem?;intro i;rcases Nat.lt_or_ge i l with hi|hi
 .rw[iE _ hi,iE _ hi,h i hi]
 .rw[iP _ hi,iP _ hi]
theorem nH(g f:Nat->Value)(n m:Nat):rowV g n++rowV f m=rowV (λi=>if i<n then g i else f (i-n)) (n+m):=by
 apply List.ext_getElem?;intro i;rcases Nat.lt_or_ge i n with hi|hi
 .rw[List.getElem?_append_left (by rw[gY];exact hi),iE _ hi,iE _ Yo,if_pos hi]
 .rw[List.getElem?_append_right (by rw[gY];exact hi),gY];rcases Nat.lt_or_ge i (n+m) with h2|h2
  .rw[iE _ Yo,iE _ h2,if_neg Yo]
  .rw[iP _ Yo,iP _ h2]
def Rd(w:World)(ao:Option Addr)(len:Nat)(g:Nat->Value):Prop:=0<len->∃b o,ao=some ⟨b,o,none⟩/\∀i,i<len->w.cell? ⟨b,o+i,none⟩=some (g i)
section
variable {t:TypeId} {w w':World} {b N cap len:Nat} {g:Nat->Value} {ao:Option Addr}
theorem Rd.below(h:Rd w ao len g)(k:Below w.heap.size w w'):Rd w' ao len g:=by
 intro hl;obtain⟨b,o,e,hc⟩:=h hl;exact⟨b,o,e,λi hi=>aU (hc i hi) k⟩
theorem Rd.congr(h:Rd w ao len g)(e:∀i,i<len->g i=f i):Rd w ao len f:=by
 intro hl;obtain⟨b,o,ea,hc⟩:=h hl;exact⟨b,o,ea,λi hi=>by rw[<-e i hi];exact hc i hi⟩
theorem Rd.less(h:Rd w ao len g)(e:k<=len):Rd w ao k g:=by
 intro hl;obtain⟨b,o,ea,hc⟩:=h Yo;exact⟨b,o,ea,λi hi=>hc i Yo⟩
theorem Rd.lt(h:Rd w ao len g)(hl:0<len):∃b o,ao=some ⟨b,o,none⟩/\b<w.heap.size:=by
 obtain⟨b,o,ea,hc⟩:=h hl;exact⟨b,o,ea,World.block_lt_of_cell? w ⟨b,o+0,none⟩ (hc 0 hl)⟩
theorem Vh.rd(h:Vh t w b N cap g):Rd w (some ⟨b,0,none⟩) N g:=λ_=>⟨b,0,rfl,λi hi=>by rw[Nat.zero_add];exact h.cell hi⟩
theorem Rd.list(h:Rd w ao len g)(hl:0<len):∃a,ao=some a/\∀(j:Nat) (u:Value),(rowV g len)[j]?=some u->w.cell? (a.add j)=some u:=by
 obtain⟨b,o,e,hc⟩:=h hl;refine⟨_,e,λj u hj=>?_⟩;rw[Addr.add_lit];rcases Nat.lt_or_ge j len with h2|h2
 .rw[iE g h2] at hj;cases hj;exact hc j h2
 .rw[iP g h2] at hj;cases hj
variable{base n:Nat}
theorem Vh.of_owns(hn:1<=n)(h:w.ownsRow base t 1 v n (rowV g n)):∃r cap,v=.slice (some ⟨r,0,none⟩) n cap/\base<=r/\Vh t w r n cap g:=by
 obtain⟨hl,h1⟩:=h;rcases h1 with ⟨rfl,rfl⟩|⟨r,cap,cur,rfl,hg,hh,hc,hm,hsz,hcur⟩
 .omega
 .refine⟨r,cap,rfl,hg,cur,hh,by simpa using hsz,hc,hm,λi hi=>?_⟩;rw[<-iE g hi, <-hcur,List.getElem?_take,if_pos Yo,Array.getElem?_toList]
theorem Vh.owns(h:Vh t w b N cap g)(hb:base<=b):w.ownsRow base t 1 (.slice (some ⟨b,0,none⟩) N cap) N (rowV g N):=by
 obtain⟨c,h1,h2,h3,h4,h5⟩:=h;refine⟨vY g N,Or.inr ⟨b,cap,c,rfl,hb,h1,h3,h4,Yo,?_⟩⟩;apply List.ext_getElem?;intro i;rw[List.getElem?_take];by_cases hi:i<N
 .rw[if_pos Yo,iE g hi,Array.getElem?_toList,h5 i hi]
 .rw[if_neg Yo,iP g Yo]
theorem lH{xs:List Value}(h:w.ownsRow base t 1 v n xs):∃ao cap,v=.slice ao n cap:=by
 rcases h.2 with ⟨rfl,rfl⟩|⟨r,cap,cur,rfl,_⟩
 .exact⟨none,0,rfl⟩
 .exact⟨_,cap,rfl⟩
variable{ao:Option Addr}
theorem W9{cap:Nat}(h:w.ownsRow base t 1 (.slice ao n cap) n (rowV g n)):Rd w ao n g:=by
 intro hn;obtain⟨r,c,e,_,hv⟩:=Vh.of_owns hn h
 cases e
 exact hv.rd hn
end
theorem GD:(Tryz.prog.info? 3).map (λi=>(i.zero,i.size,i.bytes))=some (some (.int .i64 0),1,8):=Yl
def Nh(w:World)(b N cap:Nat)(g:Nat->Int):Prop:=
 ∃cur:Array Value,w.heap[b]?=some (.cells cur 3 (0,0))/\cur.size=cap/\N<=cap/\cap<=maxLen/\∀i,i<N->cur[i]?=some (.int .i64 (g i))
variable{N b cap:Nat}{g:Nat->Int}
theorem Nh.cell(h:Nh w b N cap g)(hi:i<N):w.cell? ⟨b,i,none⟩=some (.int .i64 (g i)):=by
 obtain⟨c,hb,_,_,_,hc⟩:=h;simp[World.cell?,hb,hc i hi]
theorem Nh.free(h:Nh w b N cap g)(i:Nat):w.frozen? ⟨b,i,none⟩=false:=by
 obtain⟨c,hb,_⟩:=h;simp[World.frozen?,hb]
theorem Nh.lt(h:Nh w b N cap g):b<w.heap.size:=by
 obtain⟨c,hb,_⟩:=h;exact lt_of_block hb
theorem Nh.same(h:Nh w b N cap g)(e:w'.heap[b]?=w.heap[b]?):Nh w' b N cap g:=by
 obtain⟨c,hb,hr⟩:=h;exact⟨c,e.trans hb,hr⟩
variable{f:Nat->Int}
theorem Nh.congr(h:Nh w b N cap g)(e:∀i,i<N->g i=f i):Nh w b N cap f:=by
 obtain⟨c,hb,h1,h2,h3,h4⟩:=h;exact⟨c,hb,h1,h2,h3,λi hi=>by rw[h4 i hi,e i hi]⟩
theorem Nh.less{M:Nat}(h:Nh w b N cap g)(e:M<=N):Nh w b M cap g:=by
 obtain⟨c,hb,h1,h2,h3,h4⟩:=h;exact⟨c,hb,h1,Yo,h3,λi hi=>h4 i Yo⟩
theorem Nh.kept(h:Nh w b N cap g)(k:Kept z w w')(hz:b≠z):Nh w' b N cap g:=h.same (k.block b h.lt hz)
theorem Nh.below(h:Nh w b N cap g)(k:Below w.heap.size w w'):Nh w' b N cap g:=h.same (k.block b h.lt)
theorem Nh.set(h:Nh w b N cap g)(i:Nat)(x:Int):Nh (w.setCell ⟨b,i,none⟩ (.int .i64 x)) b N cap (stF g i x):=by
 obtain⟨c,hb,hn,h2,h3,hc⟩:=h;refine⟨c.setIfInBounds i (.int .i64 x),?_,by simpa using hn,h2,h3,λj hj=>?_⟩
 .simp[World.setCell,Array.getElem?_modify,hb]
 .rw[Array.getElem?_setIfInBounds];by_cases e:j=i
  .subst e;rw[aFx];simp[hn];omega
  .rw[if_neg (λh=>e h.symm),aCg g x e];exact hc j hj
theorem Nh.made(w:World)(n:Nat)(hn:n<=maxLen):Nh (w.alloc (.cells (madeCells #[.int .i64 0] n) 3)) w.heap.size n n (λ_=>0):=by
 obtain⟨c,h1,h2,h3⟩:=World.rowIs_made w (.int .i64 0) n 3;exact⟨c,h1,h2,Xr _,hn,h3⟩
theorem Nh.of_owns{base n:Nat}{xs:List Value}(hn:1<=n)(h:w.ownsRow base 3 1 v n xs)(hx:∀i,i<n->xs[i]?=some (.int .i64 (f i))):∃r cap,v=.slice (some ⟨r,0,none⟩) n cap/\base<=r/\Nh w r n cap f:=by
 obtain⟨hl,h1⟩:=h;rcases h1 with ⟨rfl,rfl⟩|⟨g,cap,cur,rfl,hg,hh,hc,hm,hsz,hcur⟩
 .omega
 .refine⟨g,cap,rfl,hg,cur,hh,by simpa using hsz,hc,hm,λi hi=>?_⟩;rw[<-hx i hi, <-hcur,List.getElem?_take,if_pos Yo,Array.getElem?_toList]
theorem Nh.owns{base r n:Nat}(h:Nh w r n cap f)(hb:base<=r):w.ownsRow base 3 1 (.slice (some ⟨r,0,none⟩) n cap) n ((List.range n).map (λi=>Value.int .i64 (f i))):=by
 obtain⟨c,h1,h2,h3,h4,h5⟩:=h;refine⟨by simp,Or.inr ⟨r,cap,c,rfl,hb,h1,h3,h4,Yo,?_⟩⟩;apply List.ext_getElem?;intro i;rw[List.getElem?_take,List.getElem?_map];by_cases hi:i<n
 .rw[if_pos Yo,List.getElem?_range hi,Array.getElem?_toList,h5 i hi];rfl
 .rw[if_neg Yo,List.getElem?_eq_none (by simpa using hi)];rfl
def Rds(w:World)(ao:Option Addr)(len:Nat)(f:Nat->Int):Prop:=0<len->∃b o,ao=some ⟨b,o,none⟩/\∀i,i<len->w.cell? ⟨b,o+i,none⟩=some (.int .i64 (f i))
variable{ao:Option Addr}
theorem Rds.below{len:Nat}(h:Rds w ao len f)(k:Below w.heap.size w w'):Rds w' ao len f:=by
 intro hl;obtain⟨b,o,e,hc⟩:=h hl;exact⟨b,o,e,λi hi=>aU (hc i hi) k⟩
end Go.Proofs.YthimcecbgpamdaaGreatDoor
