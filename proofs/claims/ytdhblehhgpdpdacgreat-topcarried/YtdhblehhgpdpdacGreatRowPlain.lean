import Derived.Test.YtdhblehhgpdpdacGreatNear55
import Derived.Test.YtdhblehhgpdpdacGreatRowBase
namespace Go.Proofs.YtdhblehhgpdpdacGreat
open Go.RowKit
theorem aCN:(Tryz.prog.info? 3).map (λi=>(i.zero,i.size,i.bytes))=some (some (.int .i64 0),1,8):=by kernel_rfl
def Nh(w:World)(b N cap:Nat)(g:Nat→Int):Prop:=
 ∃cur:Array Value,w.heap[b]?=some (.cells cur 3 (0,0))∧cur.size=cap∧N≤cap∧cap≤maxLen∧∀i,i<N→cur[i]?=some (.int .i64 (g i))
theorem Nh.cell{w:World}{b N cap:Nat}{g:Nat→Int}(h:Nh w b N cap g){i:Nat}(hi:i<N):w.cell? ⟨b,i,none⟩=some (.int .i64 (g i)):=by
 obtain⟨c,hb,_,_,_,hc⟩:=h
 simp[World.cell?,hb,hc i hi]
theorem Nh.free{w:World}{b N cap:Nat}{g:Nat→Int}(h:Nh w b N cap g)(i:Nat):w.frozen? ⟨b,i,none⟩=false:=by
 obtain⟨c,hb,_⟩:=h
 simp[World.frozen?,hb]
theorem Nh.lt{w:World}{b N cap:Nat}{g:Nat→Int}(h:Nh w b N cap g):b<w.heap.size:=by
 obtain⟨c,hb,_⟩:=h
 exact lt_of_block hb
theorem Nh.same{w w':World}{b N cap:Nat}{g:Nat→Int}(h:Nh w b N cap g)(e:w'.heap[b]?=w.heap[b]?):Nh w' b N cap g:=by
 obtain⟨c,hb,hr⟩:=h
 exact⟨c,e.trans hb,hr⟩
theorem Nh.congr{w:World}{b N cap:Nat}{g f:Nat→Int}(h:Nh w b N cap g)(e:∀i,i<N→g i=f i):Nh w b N cap f:=by
 obtain⟨c,hb,h1,h2,h3,h4⟩:=h
 exact⟨c,hb,h1,h2,h3,λi hi=>by rw[h4 i hi,e i hi]⟩
theorem Nh.less{w:World}{b N M cap:Nat}{g:Nat→Int}(h:Nh w b N cap g)(e:M≤N):Nh w b M cap g:=by
 obtain⟨c,hb,h1,h2,h3,h4⟩:=h
 exact⟨c,hb,h1,Yo,h3,λi hi=>h4 i Yo⟩
theorem Nh.kept{z:Nat}{w w':World}{b N cap:Nat}{g:Nat→Int}(h:Nh w b N cap g)(k:Kept z w w')(hz:b≠z):Nh w' b N cap g:=h.same (k.block b h.lt hz)
theorem Nh.below{w w':World}{b N cap:Nat}{g:Nat→Int}(h:Nh w b N cap g)(k:Below w.heap.size w w'):Nh w' b N cap g:=h.same (k.block b h.lt)
theorem Nh.set{w:World}{b N cap:Nat}{g:Nat→Int}(h:Nh w b N cap g)(i:Nat)(x:Int):Nh (w.setCell ⟨b,i,none⟩ (.int .i64 x)) b N cap (stF g i x):=by
 obtain⟨c,hb,hn,h2,h3,hc⟩:=h
 refine⟨c.setIfInBounds i (.int .i64 x),?_,by simpa using hn,h2,h3,λj hj=>?_⟩
 ·simp[World.setCell,Array.getElem?_modify,hb]
 ·rw[Array.getElem?_setIfInBounds]
  by_cases e:j=i
  ·subst e
   rw[aKK]
   simp[hn];omega
  ·rw[if_neg (λh=>e h.symm),aIi g x e]
   exact hc j hj
theorem Nh.made(w:World)(n:Nat)(hn:n≤maxLen):Nh (w.alloc (.cells (madeCells #[.int .i64 0] n) 3)) w.heap.size n n (λ_=>0):=by
 obtain⟨c,h1,h2,h3⟩:=World.rowIs_made w (.int .i64 0) n 3
 exact⟨c,h1,h2,Nat.le_refl _,hn,h3⟩
theorem Nh.of_owns {w : World} {base n : Nat} {v : Value} {f : Nat → Int} {xs : List Value} (hn : 1 ≤ n) (h : w.ownsRow base 3 1 v n xs) (hx : ∀ i, i < n → xs[i]? = some (.int .i64 (f i))) :
  ∃r cap,v=.slice (some ⟨r,0,none⟩) n cap∧base≤r∧Nh w r n cap f:=by
 obtain⟨hl,h1⟩:=h
 rcases h1 with ⟨rfl,rfl⟩|⟨g,cap,cur,rfl,hg,hh,hc,hm,hsz,hcur⟩
 ·omega
 ·refine⟨g,cap,rfl,hg,cur,hh,by simpa using hsz,hc,hm,λi hi=>?_⟩
  rw[←hx i hi, ←hcur,List.getElem?_take,if_pos Yo,Array.getElem?_toList]
theorem Nh.owns{w:World}{base r n cap:Nat}{f:Nat→Int}(h:Nh w r n cap f)(hb:base≤r):w.ownsRow base 3 1 (.slice (some ⟨r,0,none⟩) n cap) n ((List.range n).map (λi=>Value.int .i64 (f i))):=by
 obtain⟨c,h1,h2,h3,h4,h5⟩:=h
 refine⟨by simp,Or.inr ⟨r,cap,c,rfl,hb,h1,h3,h4,Yo,?_⟩⟩
 apply List.ext_getElem?
 intro i
 rw[List.getElem?_take,List.getElem?_map]
 by_cases hi:i<n
 ·rw[if_pos Yo,List.getElem?_range hi,Array.getElem?_toList,h5 i hi];rfl
 ·rw[if_neg Yo,List.getElem?_eq_none (by simpa using hi)];rfl
def Rds(w:World)(ao:Option Addr)(len:Nat)(f:Nat→Int):Prop:=0<len→∃b o,ao=some ⟨b,o,none⟩∧∀i,i<len→w.cell? ⟨b,o+i,none⟩=some (.int .i64 (f i))
theorem Rds.below{w w':World}{ao:Option Addr}{len:Nat}{f:Nat→Int}(h:Rds w ao len f)(k:Below w.heap.size w w'):Rds w' ao len f:=by
 intro hl
 obtain⟨b,o,e,hc⟩:=h hl
 exact⟨b,o,e,λi hi=>bE (hc i hi) k⟩
end Go.Proofs.YtdhblehhgpdpdacGreat
