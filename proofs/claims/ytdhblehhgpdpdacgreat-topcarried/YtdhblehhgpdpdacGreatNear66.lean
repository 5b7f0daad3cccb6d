import Derived.Test.YtdhblehhgpdpdacGreatWireOK
import Derived.Test.YtdhblehhgpdpdacGreatBusOK
namespace Go.Proofs.YtdhblehhgpdpdacGreat
def yB(g:Nat→Nat)(q M j:Nat):Nat:=if j=q then g j^^^M else g j
theorem aEg{g:Nat→Nat}(hg:∀i,g i<256)(q:Nat){M:Nat}(hM:M<256)(j:Nat):yB g q M j<256:=by
 unfold yB
 split
 ·exact Nat.xor_lt_two_pow (n:=8) (hg j) hM
 ·exact hg j
theorem aQn{g h:Nat→Nat}{n:Nat}(e:∀i,i<n→g i=h i):cV g n=cV h n:=by
 induction n with
 |zero=>rfl
 |succ n ih=>show cV g n+g n*_=cV h n+h n*_;rw[ih (λi hi=>e i Yo),e n Yo]
theorem aSU{g:Nat→Nat}(hg:∀i,g i<256){q M:Nat}(hM:M<256){n:Nat}(hq:q<n):cV (yB g q M) n=cV g n^^^M*2^(8*q):=by
 induction n with
 |zero=>omega
 |succ n ih=>
  rw[aMc (aEg hg q hM),aMc hg]
  by_cases c:q=n
  ·subst c
   rw[aQn (g:=yB g q M) (h:=g) (λi hi=>by unfold yB;rw[if_neg Yo]),show yB g q M q=g q^^^M by unfold yB;rw[if_pos rfl],aLU,Nat.xor_assoc]
  ·rw[ih Yo,show yB g q M n=g n by unfold yB;rw[if_neg Yo],Nat.xor_assoc,Nat.xor_assoc,Nat.xor_comm (M*_)]
set_option maxRecDepth 20000 in
theorem aLQ:∀M:Fin 256,0<M.val→∃t:Fin 8,M.val/2^t.val%2=1∧M.val/2^t.val*2^t.val=M.val:=by decide
theorem aIT{K F R:Int}{n:Nat}{f:Nat→Int}{q M:Nat}(hq:q<12+8*n)(h0:0<M)(hM:M<256):¬vE (yB (enS K F R n f) q M) (12+8*n):=by
 intro ho
 obtain⟨t,h1,h2⟩:=aLQ ⟨M,hM⟩ h0
 dsimp only at h1 h2
 have hh:=aEg (yJ K F R n f) q hM
 have e:12+8*n=(8+8*n)+4:=Yo
 have k1:=ho.2
 rw[show 12+8*n-4=8+8*n by omega] at k1
 have k2:=aCd hh (8+8*n) k1
 have k3:=aCd (aIr (aEz K F R n f) (8+8*n)) (8+8*n) (aHU (enF K F R n f) (8+8*n))
 have v:=aSU (yJ K F R n f) hM (n:=8+8*n+4) (q:=q) Yo
 have ht:=t.isLt
 refine aMU (bgS 0) (yJ K F R n f) hh (8+8*n+4) (8*q+t.val) (M/2^t.val) Yo h1 (Nat.lt_of_le_of_lt (Nat.div_le_self ..) Yo) ?_ (k2.trans k3.symm)
 rw[v,Nat.pow_add,Nat.mul_comm (2^(8*q)), ←Nat.mul_assoc,h2]
def liB(g:Nat→Nat)(n:Nat):List Nat:=(List.range n).map g
theorem aGB(g:Nat→Nat)(n:Nat):(liB g n).length=n:=by unfold liB;simp
theorem aBH{g:Nat→Nat}{n i:Nat}(h:i<n):gF (liB g n) i=g i:=by unfold gF liB;simp[h]
theorem aSJ{g:Nat→Nat}(hg:∀i,g i<256)(n:Nat):∀x,x∈liB g n→x<256:=by
 intro x hx
 unfold liB at hx
 obtain⟨i,_,rfl⟩:=List.mem_map.1 hx
 exact hg i
theorem aQM{g:Nat→Nat}{n q M:Nat}{p:Pc}(hp:p.ds=liB g n)(hq:q<n){i:Nat}(h:i<n):gF (nS q M p).ds i=yB g q M i:=by
 show gF (p.ds.set q (gF p.ds q^^^M)) i=_
 rw[hp,aBH hq]
 unfold yB
 by_cases c:i=q
 ·subst c
  unfold gF
  rw[if_pos rfl,List.getD_eq_getElem?_getD,List.getElem?_set_self (by rw[aGB];exact h)]
  rfl
 ·rw[if_neg c, ←aBH (g:=g) h]
  unfold gF
  rw[List.getD_eq_getElem?_getD,List.getElem?_set_ne Yo,List.getD_eq_getElem?_getD]
end Go.Proofs.YtdhblehhgpdpdacGreat
namespace Go.Proofs.YtdhblehhgpdpdacGreat
open Go.RowKit
section
variable {t:TypeId} {B s n z:Nat} {w w':World} {v:Value} {xs:List Value} {r:Option Nat}
theorem mO(h:w.ownsRow B t s v n xs)(k:Below w.heap.size w w'):w'.ownsRow B t s v n xs:=by
 refine⟨h.1,?_⟩
 rcases h.2 with hn|⟨g,cap,cur,rfl,hb,hgg,rest⟩
 ·exact .inl hn
 ·exact .inr ⟨g,cap,cur,rfl,hb,(k.block g (lt_of_block hgg)).trans hgg,rest⟩
theorem fJ(h:w.ownsRow B t s v n xs)(k:Kept z w w')(hz:v.ownBlock≠some z):w'.ownsRow B t s v n xs:=by
 refine⟨h.1,?_⟩
 rcases h.2 with hn|⟨g,cap,cur,rfl,hb,hgg,rest⟩
 ·exact .inl hn
 ·exact .inr ⟨g,cap,cur,rfl,hb,(k.block g (lt_of_block hgg) (λe=>hz (by rw[←e];rfl))).trans hgg,rest⟩
theorem qW(h:w.ownsRow B t s v n xs)(k:w.grownBy w' r)(hr:∀b,v.ownBlock=some b→r≠some b):w'.ownsRow B t s v n xs:=by
 refine⟨h.1,?_⟩
 rcases h.2 with hn|⟨g,cap,cur,rfl,hb,hgg,rest⟩
 ·exact .inl hn
 ·exact .inr ⟨g,cap,cur,rfl,hb,(k.block g (lt_of_block hgg) (λe=>hr g rfl e.symm)).trans hgg,rest⟩
theorem lG{C:Nat}(h:w.ownsRow B t s v n xs)(e:C≤B):w.ownsRow C t s v n xs:=by
 refine⟨h.1,?_⟩
 rcases h.2 with hn|⟨g,cap,cur,rfl,hb,rest⟩
 ·exact .inl hn
 ·exact .inr ⟨g,cap,cur,rfl,Nat.le_trans e hb,rest⟩
theorem qM(h:w.ownsRow B t s v n xs):∃ao cap,v=.slice ao n cap∧n≤cap:=by
 rcases h.2 with ⟨rfl,h0⟩|⟨g,cap,cur,rfl,_,_,hc,_⟩
 ·exact⟨none,0,by rw[h0],Yo⟩
 ·exact⟨_,cap,rfl,hc⟩
theorem wZ{ao:Option Addr}{cap:Nat}(h:w.ownsRow B t s (.slice ao n cap) n xs):Room w B t s ao cap:=by
 rcases h.2 with ⟨e,h0⟩|⟨g,c,cur,e,hb,hg,_,_,hs,_⟩
 ·cases e;exact Or.inl rfl
 ·cases e;exact Or.inr ⟨g,0,cur,rfl,hb,hg,Yo⟩
theorem gP{b:Nat}(h:w.ownsRow B t s v n xs)(e:v.ownBlock=some b):∃cur,w.heap[b]?=some (.cells cur t (0,0)):=by
 rcases h.2 with ⟨rfl,h0⟩|⟨g,c,cur,rfl,hb,hg,_⟩
 ·cases e
 ·cases e;exact⟨cur,hg⟩
end
def OwnB(w:World)(B:Nat)(c:Lp):Prop:=w.ownsRow B 5 1 (iG c) c.p.ds.length (rowV (bF (gF c.p.ds)) c.p.ds.length)
def aAI(L:List Lp):Prop:=L.Pairwise (λc d=>∀g,(iG c).ownBlock=some g→(iG d).ownBlock≠some g)
def OwnQ(w:World)(B:Nat)(v:Value)(L:List Lp):Prop:=w.ownsRow B 82 5 v L.length (lpL L)∧(∀c,c∈L→OwnB w B c)∧aAI L
section
variable {w w':World} {B z:Nat} {v:Value} {L:List Lp} {c:Lp}
theorem OwnB.rd(h:OwnB w B c):PRd w c:=by
 obtain⟨ao,cap,e,hs,hl⟩:=kN h
 unfold iG at e
 cases e
 exact⟨hs,hl⟩
theorem OwnB.below(h:OwnB w B c)(k:Below w.heap.size w w'):OwnB w' B c:=mO h k
theorem OwnQ.below(h:OwnQ w B v L)(k:Below w.heap.size w w'):OwnQ w' B v L:=⟨mO h.1 k,λc hc=>(h.2.1 c hc).below k,h.2.2⟩
theorem OwnQ.kept(h:OwnQ w B v L)(k:Kept z w w')(hz:z<B):OwnQ w' B v L:=
 ⟨fJ h.1 k (λe=>by have:=(h.1.lt z e).1;omega),λc hc=>fJ (h.2.1 c hc) k (λe=>by have:=((h.2.1 c hc).lt z e).1;omega),h.2.2⟩
theorem OwnQ.keptT{t:TypeId}{cur:Array Value}(h:OwnQ w B v L)(k:Kept z w w')(hz:w.heap[z]?=some (.cells cur t (0,0)))(h1:t≠82)(h2:t≠5):OwnQ w' B v L:=
 ⟨fJ h.1 k (λe=>by obtain⟨u,hu⟩:=gP h.1 e;rw[hu] at hz;cases hz;exact h1 rfl),λc hc=>fJ (h.2.1 c hc) k (λe=>by obtain⟨u,hu⟩:=gP (h.2.1 c hc) e;rw[hu] at hz;cases hz;exact h2 rfl),h.2.2⟩
theorem OwnQ.base{C:Nat}(h:OwnQ w B v L)(e:C≤B):OwnQ w C v L:=⟨lG h.1 e,λc hc=>lG (h.2.1 c hc) e,h.2.2⟩
theorem OwnQ.nil(w:World)(B:Nat):OwnQ w B (.slice none 0 0) []:=⟨World.ownsRow_nil _ _ _ _,λ_ h=>absurd h (by simp),List.Pairwise.nil⟩
theorem OwnQ.slice(h:OwnQ w B v L):∃ao cap,v=.slice ao L.length cap∧L.length≤cap:=qM h.1
theorem OwnQ.rd{n cap:Nat}{ao:Option Addr}(h:OwnQ w B (.slice ao n cap) L):QRd w ao L:=λhl=>by
 have h1:=h.1
 rcases h1.2 with ⟨_,h0⟩|⟨g,c2,cur,e,hb,rest⟩
 ·omega
 ·cases e
  refine⟨g,0,rfl,λi c hi=>PcAt.of (λk hk u hu=>?_)⟩
  have c1:=h1.cells (g:=g) rfl (i*5+k) u (by rw[aAC hi hk];exact hu)
  rw[Addr.add_lit, ←Nat.add_assoc] at c1
  exact c1
theorem OwnQ.new{cap:Nat}{ao:Option Addr}(h:OwnQ w B (.slice ao L.length cap) L):BNew B w ao cap L:=by
 obtain⟨ao',cap',e,hl⟩:=h.slice
 cases e
 exact⟨⟨h.rd,hl,λc hc=>(h.2.1 c hc).rd⟩,wZ h.1,λc hc=>wZ (h.2.1 c hc)⟩
end
theorem aEt:(Tryz.prog.info? 82).map (λi=>(i.zero,i.size,i.bytes))=some (some (.agg #[.int .i64 0,.int .i64 0,.int .i64 0,.int .i64 0,.slice none 0 0]),5,56):=by kernel_rfl
theorem aBC (w : World) {o : Oper} {a : Act} {K : Act → World → Prop} {Q : Exit → Act → World → Prop} (s x : Operand)
  (ho:o.op=.call { callee:=.builtin .append,args:=#[s,x],argTypes:=#[72,72] }) (B:Nat) (hB:B≤w.heap.size)
  (v:Value) (L:List Lp) (hs:a.eval s=v) (hown:OwnQ w B v L) (b:Nat) (c:Lp) (hx:a.eval x=.slice (some ⟨b,0,none⟩) 1 1) (hc:PcAt w b 0 c.p (iG c)) (hcB:OwnB w B c)
  (hap:∀d,d∈L→∀g,(iG d).ownBlock=some g→(iG c).ownBlock≠some g) (hl:L.length≤2513169434843)
  (h:∀v' w',OwnQ w' B v' (L++[c])→Below B w w'→w.grownBy w' v.ownBlock→K (a.put o.dst v') w'):o.wp Tryz.prog a w K Q:=by
 obtain⟨i0,hi,hz0,hz1,hz2⟩:=info_parts aEt
 refine wp_append_own (P:=Tryz.prog) w s x 72 ho B 82 i0 (.agg #[.int .i64 0,.int .i64 0,.int .i64 0,.int .i64 0,.slice none 0 0]) 5 56 Tryz.underlying72 hi hz0 hz1 hz2 rfl Yc v L.length (lpL L) hs hown.1 ⟨b,0,none⟩ 1 1 (lpL [c]) hx rfl ?_ yA (by unfold maxLen;omega) Yo hB ?_
 ·intro j u hj
  rw[Addr.add_lit,Nat.zero_add]
  obtain⟨p0,p1,p2,p3,p4⟩:=hc
  match j with
  |0=>simp[lpL,lpC] at hj;subst hj;exact p0
  |1=>simp[lpL,lpC] at hj;subst hj;exact p1
  |2=>simp[lpL,lpC] at hj;subst hj;exact p2
  |3=>simp[lpL,lpC] at hj;subst hj;exact p3
  |4=>simp[lpL,lpC] at hj;subst hj;exact p4
  |j+5=>simp[lpL,lpC] at hj
 ·intro v' w2 ho2 hgr _
  have apart:∀d,OwnB w B d→∀g,(iG d).ownBlock=some g→v.ownBlock≠some g:=λd hd g hg e=>by
   obtain⟨u1,hu1⟩:=gP hd hg
   obtain⟨u2,hu2⟩:=gP hown.1 e
   rw[hu1] at hu2
   cases hu2
  refine h v' w2 ⟨?_,?_,?_⟩ ?_ hgr
  ·rw[List.length_append,zW];exact ho2
  ·intro d hd
   rcases List.mem_append.1 hd with hd|hd
   ·exact qW (hown.2.1 d hd) hgr (apart d (hown.2.1 d hd))
   ·simp at hd;subst hd
    exact qW hcB hgr (apart d hcB)
  ·refine List.pairwise_append.2 ⟨hown.2.2,List.pairwise_singleton ..,λd hd e he g hg=>?_⟩
   simp at he;subst he
   exact hap d hd g hg
  ·refine⟨hgr.os,hgr.tape,hgr.output,hgr.size,λk hk=>hgr.block k Yo (λe=>?_)⟩
   have:=(hown.1.lt k e.symm).1
   omega
theorem wpList_joinP (w : World) {ops : Array Oper} {rest : List Oper} {o : Oper} {a : Act} {Q : Exit → Act → World → Prop} (hgd : o.guard = none) (s x : Operand)
  (ho:o.op=.call { callee:=.builtin .append,args:=#[s,x],argTypes:=#[72,72] }) (B:Nat) (hB:B≤w.heap.size)
  (v:Value) (L:List Lp) (hs:a.eval s=v) (hown:OwnQ w B v L) (b:Nat) (c:Lp) (hx:a.eval x=.slice (some ⟨b,0,none⟩) 1 1) (hc:PcAt w b 0 c.p (iG c)) (hcB:OwnB w B c)
  (hap:∀d,d∈L→∀g,(iG d).ownBlock=some g→(iG c).ownBlock≠some g) (hl:L.length≤2513169434843)
  (h:∀v' w',OwnQ w' B v' (L++[c])→Below B w w'→w.grownBy w' v.ownBlock→wpList Tryz.prog ops Q rest (a.put o.dst v') w'):wpList Tryz.prog ops Q (o::rest) a w:=
 wpList_plain hgd λ_ hK=>aBC w s x ho B hB v L hs hown b c hx hc hcB hap hl λv' w' h1 h2 h3=>hK _ _ (h v' w' h1 h2 h3)
def BuAt(w:World)(b:Nat)(N S:Int)(v:Value):Prop:=w.heap[b]?=some (.cells #[.int .i64 N,.int .i64 S,v] 74 (0,0))
def PvAt(w:World)(b:Nat)(p:Pc)(v:Value):Prop:=w.heap[b]?=some (.cells #[.int .i64 p.fr,.int .i64 p.to,.int .i64 p.du,.int .i64 p.se,v] 82 (0,0))
section
variable {w w':World} {b:Nat} {N S:Int} {r:Value} {p:Pc}
theorem BuAt.cell0(h:BuAt w b N S r):w.cell? ⟨b,0,none⟩=some (.int .i64 N):=by unfold BuAt at h;unfold World.cell?;rw[h];rfl
theorem BuAt.cell1(h:BuAt w b N S r):w.cell? ⟨b,1,none⟩=some (.int .i64 S):=by unfold BuAt at h;unfold World.cell?;rw[h];rfl
theorem BuAt.cell2(h:BuAt w b N S r):w.cell? ⟨b,2,none⟩=some r:=by unfold BuAt at h;unfold World.cell?;rw[h];rfl
theorem BuAt.free(h:BuAt w b N S r)(i:Nat):w.frozen? ⟨b,i,none⟩=false:=by unfold BuAt at h;simp[World.frozen?,h]
theorem BuAt.lt(h:BuAt w b N S r):b<w.heap.size:=lt_of_block h
theorem BuAt.same(h:BuAt w b N S r)(e:w'.heap[b]?=w.heap[b]?):BuAt w' b N S r:=e.trans h
theorem BuAt.below(h:BuAt w b N S r)(k:Below w.heap.size w w'):BuAt w' b N S r:=h.same (k.block b h.lt)
theorem BuAt.under{B:Nat}(h:BuAt w b N S r)(k:Below B w w')(hb:b<B):BuAt w' b N S r:=h.same (k.block b hb)
theorem BuAt.kept{z:Nat}(h:BuAt w b N S r)(k:Kept z w w')(hz:b≠z):BuAt w' b N S r:=h.same (k.block b h.lt hz)
theorem BuAt.new(w:World)(N S:Int)(r:Value):BuAt (w.alloc (.cells #[.int .i64 N,.int .i64 S,r] 74)) w.heap.size N S r:=by
 unfold BuAt
 show (w.heap.push _)[w.heap.size]?=_
 rw[Array.getElem?_push_size]
theorem BuAt.put(h:BuAt w b N S r)(N' S':Int)(u:Value):∃w',w'=((w.setCell ⟨b,0,none⟩ (.int .i64 N')).setCell ⟨b,1,none⟩ (.int .i64 S')).setCell ⟨b,2,none⟩ u∧BuAt w' b N' S' u∧Kept b w w'∧w'.heap.size=w.heap.size:=by
 refine⟨_,rfl,?_,((kept_set w b 0 _).trans (kept_set _ b 1 _) (Or.inl rfl)).trans (kept_set _ b 2 _) (Or.inl rfl),by simp⟩
 unfold BuAt at h ⊢
 have h1:=heap_setCell_same w b 0 _ _ (.int .i64 N') h
 have h2:=heap_setCell_same _ b 1 _ _ (.int .i64 S') h1
 exact heap_setCell_same _ b 2 _ _ u h2
theorem BuAt.put0(h:BuAt w b N S r)(N':Int):∃w',w'=w.setCell ⟨b,0,none⟩ (.int .i64 N')∧BuAt w' b N' S r∧Kept b w w'∧w'.heap.size=w.heap.size:=by
 refine⟨_,rfl,?_,kept_set w b 0 _,by simp⟩
 unfold BuAt at h ⊢
 exact heap_setCell_same w b 0 _ _ _ h
theorem BuAt.put1(h:BuAt w b N S r)(S':Int):∃w',w'=w.setCell ⟨b,1,none⟩ (.int .i64 S')∧BuAt w' b N S' r∧Kept b w w'∧w'.heap.size=w.heap.size:=by
 refine⟨_,rfl,?_,kept_set w b 1 _,by simp⟩
 unfold BuAt at h ⊢
 exact heap_setCell_same w b 1 _ _ _ h
theorem BuAt.put2(h:BuAt w b N S r)(u:Value):∃w',w'=w.setCell ⟨b,2,none⟩ u∧BuAt w' b N S u∧Kept b w w'∧w'.heap.size=w.heap.size:=by
 refine⟨_,rfl,?_,kept_set w b 2 _,by simp⟩
 unfold BuAt at h ⊢
 exact heap_setCell_same w b 2 _ _ u h
theorem PvAt.pc(h:PvAt w b p r):PcAt w b 0 p r:=by unfold PvAt at h;unfold PcAt World.cell?;simp[h]
theorem PvAt.free(h:PvAt w b p r)(i:Nat):w.frozen? ⟨b,i,none⟩=false:=by unfold PvAt at h;simp[World.frozen?,h]
theorem PvAt.lt(h:PvAt w b p r):b<w.heap.size:=lt_of_block h
theorem PvAt.same(h:PvAt w b p r)(e:w'.heap[b]?=w.heap[b]?):PvAt w' b p r:=e.trans h
theorem PvAt.below(h:PvAt w b p r)(k:Below w.heap.size w w'):PvAt w' b p r:=h.same (k.block b h.lt)
theorem PvAt.kept{z:Nat}(h:PvAt w b p r)(k:Kept z w w')(hz:b≠z):PvAt w' b p r:=h.same (k.block b h.lt hz)
theorem PvAt.new(w:World)(p:Pc)(r:Value):PvAt (w.alloc (.cells #[.int .i64 p.fr,.int .i64 p.to,.int .i64 p.du,.int .i64 p.se,r] 82)) w.heap.size p r:=by
 unfold PvAt
 show (w.heap.push _)[w.heap.size]?=_
 rw[Array.getElem?_push_size]
theorem PvAt.put4(h:PvAt w b p r)(u:Value):∃w',w'=w.setCell ⟨b,4,none⟩ u∧PvAt w' b p u∧Kept b w w'∧w'.heap.size=w.heap.size:=by
 refine⟨_,rfl,?_,kept_set w b 4 _,by simp⟩
 unfold PvAt at h ⊢
 exact heap_setCell_same w b 4 _ _ u h
end
theorem aEL(w:World)(N S:Int)(r:Value):∃w1,w1=w.alloc (.cells #[.int .i64 N,.int .i64 S,r] 74)∧BuAt w1 w.heap.size N S r∧Below w.heap.size w w1∧w1.heap.size=w.heap.size+1:=
 ⟨_,rfl,BuAt.new w N S r,bR w _,dC w _⟩
theorem pW(w:World)(p:Pc)(r:Value):∃w1,w1=w.alloc (.cells #[.int .i64 p.fr,.int .i64 p.to,.int .i64 p.du,.int .i64 p.se,r] 82)∧PvAt w1 w.heap.size p r∧Below w.heap.size w w1∧w1.heap.size=w.heap.size+1:=
 ⟨_,rfl,PvAt.new w p r,bR w _,dC w _⟩
end Go.Proofs.YtdhblehhgpdpdacGreat
