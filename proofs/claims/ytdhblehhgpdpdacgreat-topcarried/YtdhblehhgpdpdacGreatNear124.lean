import Derived.Test.YtdhblehhgpdpdacGreatNear153
namespace Go.Proofs.YtdhblehhgpdpdacGreat
open Go.RowKit
instance:FldK Tryz.prog 82 4 4:=⟨λho hx w=>by
 unfold execOp
 rw[ho]
 dsimp only
 rw[hx]
 go_simp⟩
instance:ManyK Tryz.prog 74 3:=⟨Many.of _ Tryz.underlying74 rfl (by kernel_rfl)⟩
instance:SizK Tryz.prog 82 5:=⟨λw=>by go_simp⟩
instance:SlcK Tryz.prog 72 82:=⟨Tryz.underlying72⟩
instance:LenK Tryz.prog 72:=⟨λho hx w=>by
 unfold execOp
 rw[ho]
 dsimp only
 go_simp⟩
def oO(N S:Int)(v:Value)(j:Nat):Value:=if j=0 then iV N else if j=1 then iV S else v
theorem aAQ(N S:Int)(ao:Option Addr)(n c:Nat):∀j,j<3→(oO N S (.slice ao n c) j).oneCell'=true:=λj hj=>by
 match j,hj with
 |0,_=>rfl
 |1,_=>rfl
 |2,_=>rfl
instance:ZerK Tryz.prog 74 3 (oO 0 0 (.slice none 0 0)):=⟨λw=>by kernel_rfl⟩
theorem aLf{f:Operand→Value}{o:Oper}(ho:o.op=.build 74 #[])(w:World):(execOp f o).run Tryz.prog w=.ok (.value (aV (oO 0 0 (.slice none 0 0)) 0 3)) w:=by
 unfold execOp
 rw[ho]
 kernel_rfl
theorem aKS{f:Operand→Value}{o:Oper}(x y:Operand)(ho:o.op=.binOp .rem 3 x y 3){u:Int}(hx:f x=.int .i64 u)(hy:f y=.int .i64 4)(h0:0≤u)(w:World):(execOp f o).run Tryz.prog w=.ok (.value (.int .i64 (u%4))) w:=by
 have e:u.tmod 4=u%4:=Int.tmod_eq_emod_of_nonneg h0
 unfold execOp
 rw[ho]
 dsimp only
 rw[hx,hy]
 go_simp
theorem zV{f:Operand→Value}{o:Oper}(x y:Operand)(ho:o.op=.binOp .neq 3 x y 3){u:Int}(hx:f x=.int .i64 u)(hy:f y=.int .i64 u)(w:World):(execOp f o).run Tryz.prog w=.ok (.value (.bool false)) w:=eQ x y ho hx hy (by simp) w
theorem rW{f:Operand→Value}{o:Oper}(x y:Operand)(ho:o.op=.binOp .neq 64 x y 64)(hx:f x=.int .i64 0)(hy:f y=.int .i64 0)(w:World):(execOp f o).run Tryz.prog w=.ok (.value (.bool false)) w:=zT x y ho hx hy rfl w
section
variable {P:Program} {ops:Array Oper} {Q:Exit→Act→World→Prop} {A:Act} {L:List (Nat×Value)} {w:World} {o:Oper} {d:Nat} {rest:List Oper}
theorem aTO {n : Nat} {x y z q s : Operand} {T : Array TypeId} [E : EntK P n] {u u2 u3 u4 u5 : Value} {R : Ending → World → Prop} (hc : Calls P n #[u, u2, u3, u4, u5] w R)
  (h:∀e w',R e w'→∃r,e=.returned r∧LstI P ops Q rest (aM A ((d,r)::L)) w') (ho:o.op=.call { callee:=.value (.func n),args:=#[x,y,z,q,s],argTypes:=T }:=by rfl) (hx:(aM A L).eval x=u:=by exact Qv) (hy:(aM A L).eval y=u2:=by exact Qv) (hz:(aM A L).eval z=u3:=by exact Qv) (hq:(aM A L).eval q=u4:=by exact Qv) (hs:(aM A L).eval s=u5:=by exact Qv) (hd:o.dst=some d:=by rfl) (hw:Region.wanted o (yielded ops (aM A L).tmps)=true:=by exact cO rfl):LstI P ops Q (o::rest) (aM A L) w:=
 aS hd hw (λ_ hK=>aBt w n x y z q s T ho hx hy hz hq hs (E.out _ _) hc (λe w' hr=>by obtain⟨r,h1,h2⟩:=h e w' hr;exact⟨r,h1,hK _ _ h2⟩))
end
theorem aNE{B j:Nat}{W w:World}(h:∀j,B≤j→j<W.heap.size→w.heap[j]?=W.heap[j]?)(h1:B≤j)(h2:j<W.heap.size):j<w.heap.size:=by
 have e:=h j h1 h2
 rw[Array.getElem?_eq_getElem h2] at e
 exact (Array.getElem?_eq_some_iff.1 e).1
def sgI(B:Nat)(W:World):It:=⟨λw=>∀j,B≤j→j<W.heap.size→w.heap[j]?=W.heap[j]?,λj=>B≤j∧j<W.heap.size,
 λh e j h1 h2=>(e j (aNE h h1 h2) ⟨h1,h2⟩).trans (h j h1 h2),λh k=>aNE h k.1 k.2⟩
def noI:It:=⟨λ_=>True,λ_=>False,λ_ _=>trivial,λ_ h=>h.elim⟩
theorem Cx.seg{w0 w w':World}{l:List It}(H:Cx w0 w l)(k:Below w.heap.size w w'):Cx w0 w' (sgI w.heap.size w'::l):=H.add k (sgI w.heap.size w') (λ_ _ _=>rfl) (λ_ h=>h.1)
section
variable {w w':World} {B cap n size:Nat} {t:TypeId} {ao:Option Addr} {L:List Lp}
theorem Room.seg(h:Room w B t size ao cap)(e:∀j,B≤j→j<w.heap.size→w'.heap[j]?=w.heap[j]?):Room w' B t size ao cap:=by
 rcases h with h|⟨b,o,cur,ea,hb,hg,hc⟩
 ·exact Or.inl h
 ·exact Or.inr ⟨b,o,cur,ea,hb,(e b hb (lt_of_block hg)).trans hg,hc⟩
theorem Sr.seg{f:Nat→Value}(h:Sr w ao n cap f)(r:Room w B t size ao cap)(hn:n≤cap)(e:∀j,B≤j→j<w.heap.size→w'.heap[j]?=w.heap[j]?):Sr w' ao n cap f:=by
 rcases h with h|⟨x,rfl,hc⟩
 ·exact Or.inl h
 ·refine Or.inr ⟨x,rfl,λi hi=>?_⟩
  rcases r with r|⟨b,o,cur,ea,hb,hg,_⟩
  ·omega
  ·cases ea
   have:=hc i hi
   rw[Addr.add_lit] at this ⊢
   unfold World.cell? at this ⊢
   rw[show w'.heap[(⟨b,o+i,none⟩:Addr).block]?=w.heap[(⟨b,o+i,none⟩:Addr).block]? from e b hb (lt_of_block hg)]
   exact this
theorem QRd.seg(h:QRd w ao L)(r:Room w B t size ao cap)(hn:L.length≤cap)(e:∀j,B≤j→j<w.heap.size→w'.heap[j]?=w.heap[j]?):QRd w' ao L:=λhl=>by
 obtain⟨b,o,ea,hc⟩:=h hl
 refine⟨b,o,ea,λi c hi=>?_⟩
 rcases r with r|⟨b2,o2,cur,e2,hb,_⟩
 ·omega
 ·rw[ea] at e2;cases e2
  exact (hc i c hi).same (e b hb (hc i c hi).lt)
theorem BNew.seg(h:BNew B w ao cap L)(e:∀j,B≤j→j<w.heap.size→w'.heap[j]?=w.heap[j]?):BNew B w' ao cap L:=
 ⟨⟨h.1.1.seg h.2.1 h.1.2.1 e,h.1.2.1,λc hc=>⟨(h.1.2.2 c hc).1.seg (h.2.2 c hc) (h.1.2.2 c hc).2 e,(h.1.2.2 c hc).2⟩⟩,h.2.1.seg e,λc hc=>(h.2.2 c hc).seg e⟩
end
theorem RowP.seg{w w':World}{B:Nat}{v:Value}{L:List Lp}(h:RowP w B v L)(e:∀j,B≤j→j<w.heap.size→w'.heap[j]?=w.heap[j]?):RowP w' B v L:=yC h (λk hk=>e k (h.lt k hk).1 (h.lt k hk).2)
theorem aKc (w : World) {o : Oper} {a : Act} {K : Act → World → Prop} {Q : Exit → Act → World → Prop} (s x : Operand)
  (ho:o.op=.call { callee:=.builtin .append,args:=#[s,x],argTypes:=#[72,72] }) (B:Nat) (hB:B≤w.heap.size)
  (v:Value) (L:List Lp) (hs:a.eval s=v) (hown:RowP w B v L) (u:Value) (C:Nat) (M:List Lp) (hx:a.eval x=u) (hM:RowP w C u M) (hl:L.length+M.length≤1000)
  (h:∀v' w',RowP w' B v' (L++M)→w.grownBy w' v.ownBlock→K (a.put o.dst v') w'):WpI Tryz.prog o a w K Q:=by
 refine⟨?_⟩
 obtain⟨i0,hi,hz0,hz1,hz2⟩:=info_parts aEt
 have hm:=hM
 rcases hm.2 with ⟨rfl,e0⟩|⟨g,cap,cur,rfl,hb,hg,rest⟩
 ·have eM:M=[]:=List.eq_nil_of_length_eq_zero e0
  subst eM
  have hrun:=run_append_owned_none (P:=Tryz.prog) (w:=w) B 72 o.type 82 i0 5 Tryz.underlying72 hi v L.length (lpL L) hown
  have hh:=h v w (by rw[List.append_nil];exact hown) ⟨rfl,rfl,rfl,Nat.le_refl _,λ_ _ _=>rfl⟩
  unfold Oper.wp execOp
  simp only[ho,resolve,invoke,builtin,Sem.run_bind,Sem.run_pure,Result.andThen_ok,List.map_toArray,List.map_cons,List.map_nil,hs,hx,hrun]
  exact hh
 ·refine wp_append_own (P:=Tryz.prog) w s x 72 ho B 82 i0 (.agg #[.int .i64 0,.int .i64 0,.int .i64 0,.int .i64 0,.slice none 0 0]) 5 56 Tryz.underlying72 hi hz0 hz1 hz2 rfl Yc v L.length (lpL L) hs hown ⟨g,0,none⟩ M.length cap (lpL M) hx (yE M) (λj u hj=>hM.cells (g:=g) rfl j u hj) yA (by unfold maxLen;omega) Yo hB ?_
  intro v' w2 ho2 hgr _
  exact h v' w2 (by unfold RowP;rw[List.length_append,zW];exact ho2) hgr
theorem PRd.grown{w w':World}{c:Lp}{B C:Nat}{v:Value}{L:List Lp}(h:PRd w c)(r:Room w C 5 1 c.ao c.cap)(hv:RowP w B v L)(g:w.grownBy w' v.ownBlock):PRd w' c:=by
 refine⟨?_,h.2⟩
 rcases h.1 with hn|⟨x,ex,hc⟩
 ·exact Or.inl hn
 ·refine Or.inr ⟨x,ex,λi hi=>?_⟩
  rcases r with r|⟨b,o,cur,ea,hb,hg,_⟩
  ·have:=h.2;omega
  ·rw[ex] at ea
   cases ea
   have:=hc i hi
   rw[Addr.add_lit] at this ⊢
   unfold World.cell? at this ⊢
   rw[show w'.heap[(⟨b,o+i,none⟩:Addr).block]?=w.heap[(⟨b,o+i,none⟩:Addr).block]? from g.block b (lt_of_block hg) (λe=>by
    obtain⟨u2,h2⟩:=gP hv e.symm
    rw[hg] at h2
    cases h2)]
   exact this
theorem These.one{L:List Lp}{p:Pc}(h:These L [p]):∃c,L=[c]∧c.p=p:=by
 unfold These at h
 match L,h with
 |[c],h=>exact⟨c,rfl,by simpa using h⟩
theorem wD{P:Program}{f:Operand→Value}{o:Oper}{ty:TypeId}{x:Operand}(T:OneC P ty){b off:Nat}{v:Value}{w:World}(hc:w.cell? ⟨b,off,none⟩=some v)(ho:o.op=.load ty x)(hx:f x=.pointer (some ⟨b,off,none⟩)):(execOp f o).run P w=.ok (.value v) w:=by
 unfold execOp
 simp only[ho,hx,Instr.loadAt,Instr.sureAddr,loadVar,Sem.run_bind,Sem.run_pure,Result.andThen_ok,T.agg]
 go_simp
instance:ZerK Tryz.prog 53 3 (aFq 0 false (.slice none 0 0)):=⟨λw=>by kernel_rfl⟩
theorem aMN{f:Operand→Value}{o:Oper}(x y:Operand)(ho:o.op=.call { callee:=.builtin .max,args:=#[x,y],argTypes:=#[3,3] }){u v:Int}(hx:f x=.int .i64 u)(hy:f y=.int .i64 v)(w:World):(execOp f o).run Tryz.prog w=.ok (.value (.int .i64 (max u v))) w:=by
 have e:(if v>u then v else u)=max u v:=by split<;>omega
 rw[←e]
 clear e
 unfold execOp
 rw[ho]
 dsimp only
 go_simp
 split<;>omega
instance:ZerK Tryz.prog 61 14 (xC fD):=⟨λw=>by kernel_rfl⟩
theorem aRe{P:Program}{Q:Exit→Act→World→Prop}{a:Act}{w:World}{x y:Code}(T:Act→World→Prop)(hx:(∀A W,T A W→CodI P y Q A W)→CodI P (.seq x y) Q a w)(hy:∀A W,T A W→CodI P y Q A W):CodI P (.seq x y) Q a w:=hx hy
theorem aBX{P:Program}{Q:Exit→Act→World→Prop}{a:Act}{w:World}{y:Code}(T:Act→World→Prop)(h0:T a w)(h:∀A W,T A W→CodI P y Q A W):CodI P y Q a w:=h _ _ h0
theorem aPg{K F R:Int}{u v:Value}:∀j,j<4→iJ (kK K F R u) 3 v j=kK K F R v j:=λj hj=>by
 match j,hj with
 |0,_=>rfl
 |1,_=>rfl
 |2,_=>rfl
 |3,_=>rfl
theorem aMv {P : Program} {f : Operand → Value} {o : Oper} (s e : TypeId) (x y : Operand) (ho : o.op = .indexAddr s x y) (hu : P.underlying s = some (.slice e)) (hs : ∀ w, (sizeOf e).run P w = .ok 1 w) {ad : Addr} {i len cap : Nat} {z : Int} (hx : f x = .slice (some ad) len cap) (hy : f y = .int .i64 z) (hz : z = (i : Int)) (hi : i < len) (w : World) :
  (execOp f o).run P w=.ok (.value (.pointer (some (ad.add i)))) w:=by
 subst hz
 have h2:(i:Int)<(len:Int):=Yo
 unfold execOp
 simp only[ho,hx,hy,Instr.indexAt,asIntOf,Instr.sureAddr,Sem.run_bind,Sem.run_pure,Result.andThen_ok,run_underlying hu]
 simp[h2,hs]
theorem aMG{P:Program}{f:Operand→Value}{o:Oper}{ty:TypeId}{x:Operand}(T:OneC P ty){ad:Addr}{v:Value}{w:World}(hc:w.cell? ad=some v)(ho:o.op=.load ty x)(hx:f x=.pointer (some ad)):(execOp f o).run P w=.ok (.value v) w:=by
 unfold execOp
 simp only[ho,hx,Instr.loadAt,Instr.sureAddr,loadVar,Sem.run_bind,Sem.run_pure,Result.andThen_ok,T.agg]
 go_simp
theorem aOb{N s t:Int}{q:List Pc}(h:N≤t)(ht:t≤1000):(jB ⟨N,s,q⟩ t).now=t:=by
 unfold jB
 rw[if_pos (qG q h ht)]
set_option maxRecDepth 10000 in
set_option maxHeartbeats 4000000 in
theorem aBG {w : World} (K F R : Int) (ao : Option Addr) (n cap : Nat) (f : Nat → Int) (d m a : Int) (rK : R64 K) (rF : R64 F) (rR : R64 R) (ar : ArgS w ao n cap f) (_rc : n ≤ cap) (_rd : R64 d) (_rm : R64 m) (_ra : R64 a) :
  Calls Tryz.prog 7 #[kX K F R (.slice ao n cap),.int .i64 d,.int .i64 m,.int .i64 a] w λe w'=>e=.returned (.bool true)∧Below w.heap.size w w':=by
 obtain⟨hs0,hl,hf⟩:=ar
 have har:Sr w ao n cap (iF f):=hs0
 clear hs0
 refine bX Tryz.func7 rfl 193 rfl Yd (λA hs hd hb=>?_)
 have b0:A.eval (.tmp 0)=aV (kK K F R (.slice ao n cap)) 0 4:=hb 0 _ rfl
 have b1:A.eval (.tmp 1)=.int .i64 d:=hb 1 _ rfl
 have b2:A.eval (.tmp 2)=.int .i64 m:=hb 2 _ rfl
 have b3:A.eval (.tmp 3)=.int .i64 a:=hb 3 _ rfl
 clear hb
 have H:=Cx.start w
 refine aD (aJ ?_)
 refine oF H ?_
 clear H
 intro w1 H z1
 refine qa ?_
 refine aF ?_
 refine aD ?_
 refine qa ?_
 refine lY H ?_
 clear H
 intro w2 H z2
 refine mR H dO (gB _ _ _ _ _ _) ?_
 clear H
 intro w3 H z3
 refine aF ?_
 refine aD ?_
 iterate 2 refine qa ?_
 refine aS rfl Yw (λK0 hK=>⟨?_⟩)
 refine qA _ _ _ rfl w3.heap.size (Nat.le_refl _) (.slice none 0 0) 0 [] rfl (World.ownsRow_nil _ _ _ _) ao n cap (iF f) Qv (har.below H.bel) (λi _=>rfl) Yo ?_
 intro v4 w4 o4 k4
 refine hK _ _ ?_
 clear hK K0
 rw[Nat.zero_add,List.nil_append] at o4
 obtain⟨a4,c4,rfl,hc4⟩:=gG o4
 replace H:=H.add k4 (oU _ _ _ _ _ _) o4 (λj e=>(o4.lt j e).1)
 refine qa ?_
 refine aTq H aPg ?_
 clear H
 intro w5 H z5
 refine aF ?_
 refine aD ?_
 refine qa ?_
 have hrow:World.ownsRow _ _ _ _ _ _ _:=H.o0
 obtain⟨x1,x2,ex,s4,_⟩:=kN hrow
 cases ex
 refine xU (show Calls _ _ #[aV (kK K F R (.slice a4 n c4)) 0 4] _ _ from aAk K F R a4 n c4 f _ rK rF rR hf hl hc4 s4) ?_
 rintro e w6 ⟨v6,rfl,o6,k6⟩
 obtain⟨a6,c6,rfl,hc6⟩:=gG o6
 refine⟨_,rfl,?_⟩
 replace H:=H.tl.tl.add k6 (oU _ _ _ _ _ _) o6 (λj e=>(o6.lt j e).1)
 repeat refine qa ?_
 refine aF ?_
 refine aK ?_
 refine aD ?_
 refine aRR (aDh w6) ?_
 rintro e w7 ⟨rfl,k7⟩
 refine⟨_,rfl,?_⟩
 replace H:=H.call k7
 iterate 4 refine qa ?_
 refine qg (bI _ _ _ rfl Qv Qv _) ?_
 refine aF ?_
 refine lK (λh=>?_) (λh=>?_)
 ·refine aD ?_
  refine aRR (aDh w7) ?_
  rintro e w8 ⟨rfl,k8⟩
  refine⟨_,rfl,?_⟩
  replace H:=H.call k8
  refine qa ?_
  refine aF ?_
  exact bD (uT (bB ((aO _ _).trans hd) (dW rfl Qv) ⟨rfl,H.bel⟩))
 ·have hE:dD K F R n=0:=by simpa using h
  have eL:enL K F R n=12+8*n:=by unfold enL;rw[if_pos hE]
  obtain⟨q1,q2,q3,q4,q5,q6,q7⟩:=nV hE
  rw[eL] at H
  refine bL ?_
  refine aD ?_
  refine qa ?_
  refine uB (qH d 1001 Yo Yo _) ?_
  rintro e w8 ⟨j,hj,rfl,rfl⟩
  refine⟨_,rfl,?_⟩
  refine qa ?_
  refine aF ?_
  refine aBX (λA W=>A.tmps.size=193∧A.defers=[]∧A.eval (.tmp 1)=.int .i64 (j:Int)∧A.eval (.tmp 2)=.int .i64 m∧A.eval (.tmp 3)=.int .i64 a∧A.eval (.tmp 4)=.pointer (some ⟨w.heap.size,0,none⟩)∧A.eval (.tmp 10)=.slice a6 (12+8*n) c6∧Cx w W [oU w5.heap.size 5 1 (.slice a6 (12+8*n) c6) (12+8*n) (rowV (bF (enS K F R n f)) (12+8*n)),bJ 69 w.heap.size 4 4 (kK K F R (.slice ao n cap))])
   ⟨(bZ _ _).trans hs,(aO _ _).trans hd,Qv,Qv,Qv,Qv,Eq.trans Qv (by rw[eL]),H⟩ ?_
  clear b0 b1 b2 b3 hs hd H k6 k7 o6 hrow s4 k4 o4 z1 z2 z3 z5 h
  rintro A W ⟨hs,hd,b1,b2,b3,b4,b10,H⟩
  have hgl:=yJ K F R n f
  have hrow:World.ownsRow _ _ _ _ _ _ _:=H.o0
  obtain⟨x1,x2,ex,s6,_⟩:=kN hrow
  cases ex
  obtain⟨ds,eds⟩:∃ds,ds=liB (enS K F R n f) (12+8*n):=⟨_,rfl⟩
  have dl:ds.length=12+8*n:=by rw[eds,aGB]
  have dx:∀x,x∈ds→x<256:=by rw[eds];exact aSJ hgl _
  have sd:Sr W a6 ds.length c6 (bF (gF ds)):=by
   rw[dl]
   exact s6.congr (λi hi=>by unfold bF;rw[eds,aBH hi])
  obtain⟨e1,e2⟩:=aKw (f:=F) (d:=(j:Int)) (ds:=ds) ⟨q3,q4⟩ Yo Yo
  have hS:=aHE jG none 0 [] F ((F+1)%4) (j:Int) a6 c6 ds W xA rfl (BRd.nil _ _ _) rF (by unfold R64;omega) (by unfold R64;omega) sd Yo dx Yo
  have hX:=aNa (b:=jG) (f:=F) (t:=(F+1)%4) (d:=(j:Int)) xA dx
  rw[e1,e2,dl] at hS
  rw[e2] at hX
  obtain⟨p,ep⟩:∃p:Pc,p=⟨F,(F+1)%4,(j:Int),0,ds⟩:=⟨_,rfl⟩
  rw[←ep] at hS hX
  refine aD (aJ ?_)
  refine qg (aLf rfl _) ?_
  iterate 5 refine qa ?_
  refine qg (aKS _ _ rfl Qv Qv Yo _) ?_
  iterate 2 refine qa ?_
  refine aTO (show Calls _ _ #[aV (oO 0 0 (.slice none 0 0)) 0 3,.int .i64 F,.int .i64 ((F+1)%4),.slice a6 (12+8*n) c6,.int .i64 (j:Int)] _ _ from hS) ?_
  rintro e W1 ⟨xo,xc,LX,rfl,tX,nX,k1⟩
  obtain⟨c0,rfl,_⟩:=These.one tX
  refine⟨.tuple #[aV (oO 0 1 (.slice xo 1 xc)) 0 3,.int .i64 0],rfl,?_⟩
  replace H:=H.tl.seg k1
  iterate 3 refine qa ?_
  refine lY H ?_
  clear H
  intro W2 H z2
  refine mR H dO (aAQ _ _ _ _ _) ?_
  clear H
  intro W3 H z3
  refine qa ?_
  refine aF ?_
  have hxr:BNew W.heap.size W3 xo xc [c0]:=nX.seg H.o1
  obtain⟨t1,et1⟩:∃t1,t1=max ((j:Int)-1) 0:=⟨_,rfl⟩
  have ht1:0≤t1∧t1≤1000∧t1≤j:=Yo
  have hP:=xS ⟨0,1,[p]⟩ xo xc [c0] t1 W3 hX tX hxr.1 (by unfold R64;omega)
  refine aD ?_
  iterate 3 refine qa ?_
  refine qg (aMN _ _ rfl Qv Qv _) ?_
  rw[←et1]
  refine uB (show Calls _ _ #[aV (oO 0 1 (.slice xo 1 xc)) 0 3,.int .i64 t1] _ _ from hP) ?_
  rintro e W4 ⟨yo,yc,LY,no,nc,LN,rfl,tY,nY,tN,nN,rN,k4⟩
  have eY:=aOb (N:=0) (s:=1) (q:=[p]) (t:=t1) Yo Yo
  have eE:=qG (N:=0) (s:=1) [p] (t:=t1) Yo Yo
  have hY:=aKn (t:=t1) hX (by unfold R64;omega)
  have hc1:=aJD (s:=1) (p:=p) (d:=(j:Int)) Yo (by rw[ep])
  rw[←et1] at hc1
  obtain⟨Y,hYe⟩:∃Y,Y=jB ⟨0,1,[p]⟩ t1:=⟨_,rfl⟩
  rw[←hYe] at eY hY hc1 tY ⊢
  refine⟨.tuple #[aV (oO t1 Y.ser (.slice yo LY.length yc)) 0 3,.slice no LN.length nc,.int .i64 0],by rw[eE,eY];rfl,?_⟩
  replace H:=H.seg k4
  refine qa ?_
  refine qg (kZ _ rfl Qv _) ?_
  refine qg (kV _ rfl Qv _) ?_
  refine qg (kY _ rfl Qv _) ?_
  refine lY H ?_
  clear H
  intro W5 H z5
  refine mR H dO (aAQ _ _ _ _ _) ?_
  clear H
  intro W6 H z6
  iterate 2 refine qa ?_
  refine aF ?_
  have hyr:BNew W3.heap.size W6 yo yc LY:=nY.seg H.o1
  have hP2:=xS Y yo yc LY (j:Int) W6 hY tY hyr.1 (by unfold R64;omega)
  rw[eY] at hP2
  refine aD ?_
  iterate 2 refine qa ?_
  refine uB (show Calls _ _ #[aV (oO t1 Y.ser (.slice yo LY.length yc)) 0 3,.int .i64 (j:Int)] _ _ from hP2) ?_
  rintro e W7 ⟨zo,zc,LZ,co,cc,LC,rfl,_,_,tC,nC,rC,k7⟩
  have eE2:nI Y.now (j:Int)=0:=by rw[eY];unfold nI;rw[if_neg Yo]
  refine⟨.tuple #[aV (oO (jB Y j).now (jB Y j).ser (.slice zo LZ.length zc)) 0 3,.slice co LC.length cc,.int .i64 0],by rw[eE2];rfl,?_⟩
  replace H:=H.seg k7
  refine qa ?_
  refine qg (kZ _ rfl Qv _) ?_
  refine qg (kV _ rfl Qv _) ?_
  refine qg (kY _ rfl Qv _) ?_
  refine lY H ?_
  clear H
  intro W8 H z8
  refine mR H dO (aAQ _ _ _ _ _) ?_
  clear H
  intro W9 H z9
  iterate 2 refine qa ?_
  refine aF ?_
  have hm:These (LN++LC) [p]:=(List.map_append).trans (by rw[show LN.map Lp.p=_ from tN,show LC.map Lp.p=_ from tC];exact hc1)
  obtain⟨c,hcc,hcp⟩:=hm.one
  have hlen:LN.length+LC.length=1:=by rw[←List.length_append,hcc];rfl
  have hsz3:W3.heap.size≤W9.heap.size:=by
   have:=k4.size;have:=k7.size
   omega
  refine aBX (λA W' => A.tmps.size = 193 ∧ A.defers = [] ∧ A.eval (.tmp 1) = .int .i64 (j : Int) ∧ A.eval (.tmp 2) = .int .i64 m ∧ A.eval (.tmp 3) = .int .i64 a ∧ A.eval (.tmp 4) = .pointer (some ⟨w.heap.size, 0, none⟩) ∧ A.eval (.tmp 10) = .slice a6 (12 + 8 * n) c6 ∧ A.eval (.tmp 12) = .pointer (some ⟨W1.heap.size, 0, none⟩) ∧ A.eval (.tmp 13) = .int .i64 0 ∧ A.eval (.tmp 15) = .slice no LN.length nc ∧ A.eval (.tmp 16) = .int .i64 0 ∧ A.eval (.tmp 18) = .slice co LC.length cc ∧ A.eval (.tmp 19) = .int .i64 0 ∧ W3.heap.size ≤ W'.heap.size ∧
    Cx w W' [sgI W3.heap.size W4,sgI W6.heap.size W7,bJ 74 W1.heap.size 3 3 (oO 0 1 (.slice xo 1 xc)),sgI W.heap.size W1,bJ 69 w.heap.size 4 4 (kK K F R (.slice ao n cap))])
   ⟨(bZ _ _).trans hs,(aO _ _).trans hd,Qv,Qv,Qv,Qv,Qv,Qv,Qv,Qv,Qv,Qv,Qv,hsz3,H.tl.f1.tl.f1⟩ ?_
  clear b1 b2 b3 b4 b10 hs hd H hsz3
  rintro A V ⟨hs,hd,b1,b2,b3,b4,b10,b12,b13,b15,b16,b18,b19,hsz,H⟩
  refine aK ?_
  refine aD (aJ ?_)
  refine qa ?_
  refine qg (rW _ _ rfl Qv Qv _) ?_
  iterate 2 refine qa ?_
  refine qg (rW _ _ rfl Qv Qv _) ?_
  refine qg (bI _ _ _ rfl Qv Qv _) ?_
  iterate 2 refine qa ?_
  refine qg (rW _ _ rfl Qv Qv _) ?_
  refine qg (bI _ _ _ rfl Qv Qv _) ?_
  iterate 7 refine qa ?_
  refine qg (bI _ _ _ rfl Qv Qv _) ?_
  refine aF ?_
  refine lK (λh=>?_) (λ_=>?_)
  ·exact absurd (of_decide_eq_true h) Yo
  refine bL ?_
  refine aD ?_
  iterate 2 refine qa ?_
  have rN2:RowP V W3.heap.size (.slice no LN.length nc) LN:=rN.seg H.o0
  have rC2:RowP V W6.heap.size (.slice co LC.length cc) LC:=rC.seg H.o1
  have pc:PRd V c∧∃C,Room V C 5 1 c.ao c.cap:=by
   have hin:c∈LN++LC:=by rw[hcc];exact List.mem_singleton.2 rfl
   rcases List.mem_append.1 hin with h|h
   ·have:=nN.seg H.o0
    exact⟨this.1.2.2 c h,_,this.2.2 c h⟩
   ·have:=nC.seg H.o1
    exact⟨this.1.2.2 c h,_,this.2.2 c h⟩
  refine aS rfl Yw (λK0 hK=>?_)
  refine aKc _ _ _ rfl W3.heap.size hsz _ LN Qv rN2 _ _ LC Qv rC2 Yo ?_
  intro v10 V2 r10 g10
  refine hK _ _ ?_
  clear hK K0
  obtain⟨C,rmc⟩:=pc.2
  have p10:=pc.1.grown rmc rN2 g10
  replace H:=Cx.p0 H g10.os g10.tape g10.output g10.size (λk h1 h2=>g10.block k h1 (λe=>h2 (rN.lt k e.symm))) noI trivial (λ_ h=>h.elim)
  rw[hcc] at r10
  have hds:c.p.ds=ds:=by rw[hcp,ep]
  unfold PRd at p10
  rw[hds,dl] at p10
  have r10':=r10
  rcases r10'.2 with ⟨_,e0⟩|⟨g,cap9,cur,rfl,_⟩
  ·cases e0
  have hcl:V2.cell? ⟨g,0+0*5+4,none⟩=some (.slice c.ao (12+8*n) c.cap):=by
   have:=(RowP.at (i:=0) (c:=c) r10 rfl).2.2.2.2
   unfold iG at this
   rw[hds,dl] at this
   exact this
  have s10:Sr V2 c.ao (12+8*n) c.cap (bF (enS K F R n f)):=p10.1.congr (λi hi=>by unfold bF;rw[eds,aBH hi])
  refine qa ?_
  refine aF ?_
  refine aD ?_
  refine qa ?_
  refine qg (nL _ _ _ _ rfl SlcK.out SizK.out Qv Qv rfl (show 0<[c].length from Nat.one_pos) _) ?_
  refine qa ?_
  refine qg (wD OneK.out hcl rfl Qv) ?_
  refine xU (aTb tZ hE hf c.ao c.cap V2 p10.2 s10) ?_
  rintro e V3 ⟨bo,bc,rfl,o11,k11⟩
  refine⟨.tuple #[aV (kK K F R (.slice bo n bc)) 0 4,.int .i64 0],rfl,?_⟩
  replace H:=H.tl.tl.add k11 (oU _ _ _ _ _ _) o11 (λj e=>(o11.lt j e).1)
  iterate 3 refine qa ?_
  refine lY H ?_
  clear H
  intro V4 H z4
  refine mR H dO (gB _ _ _ _ _ _) ?_
  clear H
  intro V5 H z5
  refine qa ?_
  refine aF ?_
  refine aBX (λA W' => A.tmps.size = 193 ∧ A.defers = [] ∧ A.eval (.tmp 1) = .int .i64 (j : Int) ∧ A.eval (.tmp 2) = .int .i64 m ∧ A.eval (.tmp 3) = .int .i64 a ∧ A.eval (.tmp 4) = .pointer (some ⟨w.heap.size, 0, none⟩) ∧ A.eval (.tmp 10) = .slice a6 (12 + 8 * n) c6 ∧ A.eval (.tmp 12) = .pointer (some ⟨W1.heap.size, 0, none⟩) ∧ A.eval (.tmp 21) = .pointer (some ⟨V3.heap.size, 0, none⟩) ∧ A.eval (.tmp 22) = .int .i64 0 ∧
    Cx w W' [bJ 69 V3.heap.size 4 4 (kK K F R (.slice bo n bc)),oU V2.heap.size 3 1 (.slice bo n bc) n (rowV (iF f) n),bJ 74 W1.heap.size 3 3 (oO 0 1 (.slice xo 1 xc)),sgI W.heap.size W1,bJ 69 w.heap.size 4 4 (kK K F R (.slice ao n cap))])
   ⟨(bZ _ _).trans hs,(aO _ _).trans hd,Qv,Qv,Qv,Qv,Qv,Qv,Qv,Qv,H⟩ ?_
  clear b1 b2 b3 b4 b10 b12 b13 b15 b16 b18 b19 hs hd H hsz rN2 rC2 pc rmc p10 r10 r10' hcl s10 g10 k11 o11 z4 z5
  rintro A V6 ⟨hs,hd,b1,b2,b3,b4,b10,b12,b21,b22,H⟩
  refine aK ?_
  refine aD (aJ ?_)
  refine qa ?_
  refine qg (rW _ _ rfl Qv Qv _) ?_
  refine qa ?_
  iterate 3
   iterate 4 refine qa ?_
   refine qg (zV _ _ rfl Qv Qv _) ?_
   refine qg (bI _ _ _ rfl Qv Qv _) ?_
   refine qa ?_
  iterate 6 refine qa ?_
  refine qg (zV _ _ rfl Qv Qv _) ?_
  refine qg (bI _ _ _ rfl Qv Qv _) ?_
  refine aF ?_
  refine aEC rfl (bL ?_)
  refine aK ?_
  refine aD ?_
  refine qa ?_
  refine aF ?_
  refine aU ?_
  refine dY (λr A W' => ∃ i : Nat, i ≤ n ∧ n - i ≤ r ∧ A.tmps.size = 193 ∧ A.defers = [] ∧ A.eval (.tmp 1) = .int .i64 (j : Int) ∧ A.eval (.tmp 2) = .int .i64 m ∧ A.eval (.tmp 3) = .int .i64 a ∧ A.eval (.tmp 4) = .pointer (some ⟨w.heap.size, 0, none⟩) ∧ A.eval (.tmp 10) = .slice a6 (12 + 8 * n) c6 ∧ A.eval (.tmp 12) = .pointer (some ⟨W1.heap.size, 0, none⟩) ∧ A.eval (.tmp 21) = .pointer (some ⟨V3.heap.size, 0, none⟩) ∧ A.eval (.tmp 23) = .int .i64 (i : Int) ∧
    Cx w W' [bJ 69 V3.heap.size 4 4 (kK K F R (.slice bo n bc)),oU V2.heap.size 3 1 (.slice bo n bc) n (rowV (iF f) n),bJ 74 W1.heap.size 3 3 (oO 0 1 (.slice xo 1 xc)),sgI W.heap.size W1,bJ 69 w.heap.size 4 4 (kK K F R (.slice ao n cap))]) n
   ⟨0,Nat.zero_le _,Yo,(bZ _ _).trans hs,(aO _ _).trans hd,Qv,Qv,Qv,Qv,Qv,Qv,Qv,Qv,H⟩ (λr A V7 hI=>?_)
  clear b1 b2 b3 b4 b10 b12 b21 b22 hs hd H
  obtain⟨i,hi,hir,hs,hd,b1,b2,b3,b4,b10,b12,b21,b23,H⟩:=hI
  refine aK ?_
  refine aD (aJ ?_)
  iterate 5 refine qa ?_
  refine aF ?_
  refine lK (λh=>?_) (λh=>?_)
  ·have hin:i<n:=by have:=of_decide_eq_true h;omega
   refine bL ?_
   refine aK (aU ?_)
   refine aK ?_
   replace H:=H.drew
   have hrow:World.ownsRow _ _ _ _ _ _ _:=H.o1
   rcases har with ⟨_,h0,_⟩|⟨x,rfl,hcx⟩
   ·omega
   rcases hrow.2 with ⟨_,e0⟩|⟨g2,cap2,cur2,eg,_⟩
   ·omega
   cases eg
   have cN:V7.drew.cell? ⟨g2,0+i*1,none⟩=some (.int .i64 (f i)):=by
    have:=hrow.cells (g:=g2) rfl i _ (gU (iF f) hin)
    rw[Addr.add_lit] at this
    rw[Nat.mul_one]
    exact this
   have cA:V7.drew.cell? (x.add i)=some (.int .i64 (f i)):=bE (hcx i hin) H.bel
   have c21:V7.drew.cell? ⟨V3.heap.size,0+3,none⟩=some (.slice (some ⟨g2,0,none⟩) n bc):=H.v0.cell (show 3<4 by omega)
   have c4:V7.drew.cell? ⟨w.heap.size,0+3,none⟩=some (.slice (some x) n cap):=H.v4.cell (show 3<4 by omega)
   have hS:(λW'=>Below V7.drew.heap.size V7.drew W') V7.drew:=Below.refl _ _
   refine fZ (S:=λW'=>Below V7.drew.heap.size V7.drew W') (.mv 0 (.rd 1 (.mv 2 (.mv 3 (.rd 4 (.mv 5 (.rd 6 (.mv 7 (.mv 8 (.rd 9 (.mv 10 .fin))))))))))) [] (by kernel_rfl) (by kernel_rfl) ?_
   refine qj ?_
   refine Yr rfl hS (λ_ H=>wD OneK.out (bE c21 H) rfl Qv) ?_
   refine qj ?_
   refine aBy rfl rfl (λ_ _ _ h=>h) Yw (λw=>nL _ _ _ _ rfl SlcK.out SizK.out Qv Qv rfl hin w) ?_
   refine Yr rfl hS (λ_ H=>wD OneK.out (bE cN H) rfl Qv) ?_
   refine qj ?_
   refine Yr rfl hS (λ_ H=>wD OneK.out (bE c4 H) rfl Qv) ?_
   refine qj ?_
   refine aBy rfl rfl (λ_ _ _ h=>h) Yw (λw=>aMv _ _ _ _ rfl SlcK.out SizK.out Qv Qv rfl hin w) ?_
   refine Yr rfl hS (λ_ H=>aMG OneK.out (bE cA H) rfl Qv) ?_
   refine aBy rfl rfl (λ_ _ _ h=>h) Yw (λw=>zV _ _ rfl Qv Qv w) ?_
   refine iA ?_
   refine aEC rfl (iW ?_)
   refine aR ?_
   repeat refine qa ?_
   exact bQ ⟨n-(i+1),Yo,i+1,Yo,Yo,(bZ _ _).trans hs,(aO _ _).trans hd,Qv,Qv,Qv,Qv,Qv,Qv,Qv,Eq.trans Qv (by rw[Int.natCast_add];rfl),H⟩
  ·refine dS (fU ?_)
   refine aBX (λA W'=>A.tmps.size=193∧A.defers=[]∧A.eval (.tmp 1)=.int .i64 (j:Int)∧A.eval (.tmp 2)=.int .i64 m∧A.eval (.tmp 3)=.int .i64 a∧A.eval (.tmp 10)=.slice a6 (12+8*n) c6∧A.eval (.tmp 12)=.pointer (some ⟨W1.heap.size,0,none⟩)∧Cx w W' [bJ 74 W1.heap.size 3 3 (oO 0 1 (.slice xo 1 xc)),sgI W.heap.size W1])
    ⟨(bZ _ _).trans hs,(aO _ _).trans hd,Qv,Qv,Qv,Qv,Qv,H.tl.tl.sub (.cons_cons _ (.cons_cons _ (.cons _ .slnil)))⟩ ?_
   clear b1 b2 b3 b4 b10 b12 b21 b23 hs hd H
   rintro A V8 ⟨hs,hd,b1,b2,b3,b10,b12,H⟩
   replace H:=H.drew
   have nX8:BNew W.heap.size V8.drew xo xc [c0]:=nX.seg H.o1
   have hx8:∀k,k<3→V8.drew.cell? ⟨W1.heap.size,0+k,none⟩=some (oO 0 1 (.slice xo 1 xc) k):=λk hk=>H.v0.cellz hk
   replace H:=H.tl.tl
   have pse:p.se=0:=by rw[ep]
   have pdl:p.ds.length=12+8*n:=by rw[ep];exact dl
   have hTn:∀U,Below V8.drew.heap.size V8.drew U→∀q M:Nat,q<12+8*n→M<255→Calls Tryz.prog 19 #[aV (oO 0 1 (.slice xo 1 xc)) 0 3,.int .i64 0,.int .i64 (q:Int),.int .i64 (1+(M:Int))] U λe U'=>∃(yo:Option Addr) (yc:Nat) (cY:Lp),e=.returned (.tuple #[aV (oO 0 1 (.slice yo 1 yc)) 0 3,.int .i64 0])∧cY.p=nS q (M+1) p∧BNew U.heap.size U' yo yc [cY]∧Below U.heap.size U U':=by
    intro U kU q M hq hM
    obtain⟨t1,t2⟩:=aMY (N:=0) (s:=1) (a:=(q:Int)) (m:=1+(M:Int)) (p:=p) pse (by rw[pdl];omega) Yo
    have h0:=aGL ⟨0,1,[p]⟩ xo xc [c0] 0 (q:Int) (1+(M:Int)) U hX tX (nX8.below kU).1 (by unfold R64;omega) (by unfold R64;omega) (by unfold R64;omega)
    rw[t1,t2] at h0
    refine (show Calls _ _ #[aV (oO 0 1 (.slice xo 1 xc)) 0 3,.int .i64 0,.int .i64 (q:Int),.int .i64 (1+(M:Int))] _ _ from h0).mono ?_
    rintro e U' ⟨yo,yc,LT,rfl,tT,nT,k⟩
    obtain⟨cY,rfl,hcY⟩:=tT.one
    exact⟨yo,yc,cY,rfl,hcY.trans (by rw[Int.toNat_natCast,show (1+(M:Int)).toNat=M+1 by omega]),nT,k⟩
   refine aRe (λA W'=>∃(q M yb:Nat) (yo:Option Addr) (yc:Nat) (cY:Lp) (B:Nat) (U:World),A.tmps.size=193∧A.defers=[]∧A.eval (.tmp 1)=.int .i64 (j:Int)∧A.eval (.tmp 24)=.pointer (some ⟨yb,0,none⟩)∧A.eval (.tmp 25)=.int .i64 0∧q<12+8*n∧M<255∧cY.p=nS q (M+1) p∧BNew B U yo yc [cY]∧Cx w W' [bJ 74 yb 3 3 (oO 0 1 (.slice yo 1 yc)),sgI B U]) (λhT=>?_) (λA V9 hT=>?_)
   ·refine aK ?_
    have hS:(λW'=>Below V8.drew.heap.size V8.drew W') V8.drew:=Below.refl _ _
    refine fZ (S:=λW'=>Below V8.drew.heap.size V8.drew W') (.rd 0 (.mv 1 (.mv 2 (.mv 3 (.mv 5 (.two 4 12 (.two 6 12 (.mv 7 (.two 8 12 (.mv 9 (.mv 10 (.mv 11 (.go 12 (.go 13 (.mv 14 .fin)))))) (.go 8 (.mv 9 (.mv 10 (.mv 11 (.go 13 (.mv 14 .fin)))))))) (.go 6 (.mv 7 (.go 8 (.mv 9 (.mv 10 (.mv 11 (.go 13 (.mv 14 .fin))))))))) (.go 4 (.go 6 (.mv 7 (.go 8 (.mv 9 (.mv 10 (.mv 11 (.go 13 (.mv 14 .fin))))))))))))))) [] (by kernel_rfl) (by kernel_rfl) ?_
    refine aGq ?_
    refine Yr rfl hS (λ_ H=>aAy (g:=oO 0 1 (.slice xo 1 xc)) ManyK.out (λk hk=>bE (hx8 k hk) H) rfl Qv) ?_
    iterate 4 refine qj ?_
    refine aRl (r:=.go 13 (.mv 14 .fin)) (λA W'=>∃(q M yb:Nat) (yo:Option Addr) (yc:Nat) (cY:Lp) (B:Nat) (U:World),A.tmps.size=193∧A.defers=[]∧A.eval (.tmp 1)=.int .i64 (j:Int)∧A.eval (.tmp 24)=.pointer (some ⟨yb,0,none⟩)∧A.eval (.tmp 163)=aV (oO 0 1 (.slice yo 1 yc)) 0 3∧A.eval (.tmp 164)=.int .i64 0∧q<12+8*n∧M<255∧cY.p=nS q (M+1) p∧BNew B U yo yc [cY]∧Cx w W' [bJ 74 yb 3 3 (oO 0 0 (.slice none 0 0)),sgI B U]∧V8.drew.heap.size≤yb∧Below V8.drew.heap.size V8.drew W') (λA U3 hT'=>?_) (λhT'=>?_)
    ·clear b1 b2 b3 b10 b12 hs hd H hS
     obtain⟨q,M,yb,yo,yc,cY,B,U,hs,hd,b1,b24,b163,b164,hq,hM,hcY,nY,H,hyb,kb⟩:=hT'
     refine aGq ?_
     refine eU rfl Yw (λK0 hK=>?_)
     refine aI _ _ _ _ rfl ManyK.out Qv Qv H.v0 Yo (aAQ _ _ _ _ _) rfl ?_
     intro U4 m4 k4 z4
     replace H:=H.s0 k4 (m4.congr dO)
     refine hK _ (λ_ _=>aC kb k4 hyb kb.size) ?_
     clear hK K0
     refine qj ?_
     exact iA (hT _ _ ⟨q,M,yb,yo,yc,cY,B,U,(bZ _ _).trans hs,(aO _ _).trans hd,Qv,Qv,Qv,hq,hM,hcY,nY,H⟩)
    refine aBR ?_ ?_
    ·refine dI rfl rfl Yw (λK0 hK=>?_)
     refine dB _ _ _ _ _ rfl Qv Qv (EntK.out _ _) (qH a ((12+8*n:Nat):Int) Yo Yo _) ?_
     rintro e U1 ⟨q,hq,rfl,rfl⟩
     refine⟨_,rfl,hK _ _ (λ_ h=>h) ?_⟩
     clear hK K0
     refine aBR ?_ ?_
     ·refine dI rfl rfl Yw (λK0 hK=>?_)
      refine dB _ _ _ _ _ rfl Qv Qv (EntK.out _ _) (qH m 255 Yo Yo _) ?_
      rintro e U1 ⟨M,hM,rfl,rfl⟩
      refine⟨_,rfl,hK _ _ (λ_ h=>h) ?_⟩
      clear hK K0
      refine qj ?_
      refine aBR ?_ ?_
      ·have kU:Below V8.drew.heap.size V8.drew V8.drew:=Below.refl _ _
       refine dI rfl rfl Yw (λK0 hK=>?_)
       refine jQ _ _ _ _ _ _ _ rfl Qv Qv Qv Qv (EntK.out _ _) (hTn V8.drew kU q M Yo Yo) ?_
       rintro e U2 ⟨yo,yc,cY,rfl,hcY,nY,k2⟩
       refine⟨_,rfl,hK _ _ (λ_ h=>h.trans (k2.mono h.size)) ?_⟩
       clear hK K0
       replace H:=H.seg k2
       iterate 3 refine qj ?_
       refine dI rfl rfl Yw (λK0 hK=>?_)
       refine aT _ _ rfl ZerK.out Yd ?_
       intro U1 m1 k1 z1
       refine hK _ _ (λ_ h=>h.trans (k1.mono h.size)) ?_
       clear hK K0
       replace H:=H.add k1 (bJ _ _ _ _ _) m1 (λj (e:j=_)=>Nat.le_of_eq e.symm)
       exact hT' _ _ ⟨q,M,_,yo,yc,cY,_,_,(bZ _ _).trans hs,(aO _ _).trans hd,Qv,Qv,Qv,Qv,Yo,Yo,hcY,nY,H,k2.size,k2.trans (k1.mono k2.size)⟩
      ·refine dI rfl rfl Yw (λK0 hK=>?_)
       refine aT _ _ rfl ZerK.out Yd ?_
       intro U1 m1 k1 z1
       refine hK _ _ (λ_ h=>h.trans (k1.mono h.size)) ?_
       clear hK K0
       replace H:=H.add k1 (bJ _ _ _ _ _) m1 (λj (e:j=_)=>Nat.le_of_eq e.symm)
       have kU:Below V8.drew.heap.size V8.drew U1:=k1
       refine dI rfl rfl Yw (λK0 hK=>?_)
       refine jQ _ _ _ _ _ _ _ rfl Qv Qv Qv Qv (EntK.out _ _) (hTn U1 kU q M Yo Yo) ?_
       rintro e U2 ⟨yo,yc,cY,rfl,hcY,nY,k2⟩
       refine⟨_,rfl,hK _ _ (λ_ h=>h.trans (k2.mono h.size)) ?_⟩
       clear hK K0
       replace H:=H.seg k2
       iterate 3 refine qj ?_
       exact hT' _ _ ⟨q,M,_,yo,yc,cY,_,_,(bZ _ _).trans hs,(aO _ _).trans hd,Qv,Qv,Qv,Qv,Yo,Yo,hcY,nY,H.f1,Nat.le_refl _,k1.trans (k2.mono k1.size)⟩
     ·refine dI rfl rfl Yw (λK0 hK=>?_)
      refine aT _ _ rfl ZerK.out Yd ?_
      intro U1 m1 k1 z1
      refine hK _ _ (λ_ h=>h.trans (k1.mono h.size)) ?_
      clear hK K0
      replace H:=H.add k1 (bJ _ _ _ _ _) m1 (λj (e:j=_)=>Nat.le_of_eq e.symm)
      refine dI rfl rfl Yw (λK0 hK=>?_)
      refine dB _ _ _ _ _ rfl Qv Qv (EntK.out _ _) (qH m 255 Yo Yo _) ?_
      rintro e U1 ⟨M,hM,rfl,rfl⟩
      refine⟨_,rfl,hK _ _ (λ_ h=>h) ?_⟩
      clear hK K0
      refine qj ?_
      have kU:Below V8.drew.heap.size V8.drew U1:=k1
      refine dI rfl rfl Yw (λK0 hK=>?_)
      refine jQ _ _ _ _ _ _ _ rfl Qv Qv Qv Qv (EntK.out _ _) (hTn U1 kU q M Yo Yo) ?_
      rintro e U2 ⟨yo,yc,cY,rfl,hcY,nY,k2⟩
      refine⟨_,rfl,hK _ _ (λ_ h=>h.trans (k2.mono h.size)) ?_⟩
      clear hK K0
      replace H:=H.seg k2
      iterate 3 refine qj ?_
      exact hT' _ _ ⟨q,M,_,yo,yc,cY,_,_,(bZ _ _).trans hs,(aO _ _).trans hd,Qv,Qv,Qv,Qv,Yo,Yo,hcY,nY,H.f1,Nat.le_refl _,k1.trans (k2.mono k1.size)⟩
    ·refine dI rfl rfl Yw (λK0 hK=>?_)
     refine aT _ _ rfl ZerK.out Yd ?_
     intro U1 m1 k1 z1
     refine hK _ _ (λ_ h=>h.trans (k1.mono h.size)) ?_
     clear hK K0
     replace H:=H.add k1 (bJ _ _ _ _ _) m1 (λj (e:j=_)=>Nat.le_of_eq e.symm)
     refine dI rfl rfl Yw (λK0 hK=>?_)
     refine dB _ _ _ _ _ rfl Qv Qv (EntK.out _ _) (qH a ((12+8*n:Nat):Int) Yo Yo _) ?_
     rintro e U1 ⟨q,hq,rfl,rfl⟩
     refine⟨_,rfl,hK _ _ (λ_ h=>h) ?_⟩
     clear hK K0
     refine dI rfl rfl Yw (λK0 hK=>?_)
     refine dB _ _ _ _ _ rfl Qv Qv (EntK.out _ _) (qH m 255 Yo Yo _) ?_
     rintro e U1 ⟨M,hM,rfl,rfl⟩
     refine⟨_,rfl,hK _ _ (λ_ h=>h) ?_⟩
     clear hK K0
     refine qj ?_
     have kU:Below V8.drew.heap.size V8.drew U1:=k1
     refine dI rfl rfl Yw (λK0 hK=>?_)
     refine jQ _ _ _ _ _ _ _ rfl Qv Qv Qv Qv (EntK.out _ _) (hTn U1 kU q M Yo Yo) ?_
     rintro e U2 ⟨yo,yc,cY,rfl,hcY,nY,k2⟩
     refine⟨_,rfl,hK _ _ (λ_ h=>h.trans (k2.mono h.size)) ?_⟩
     clear hK K0
     replace H:=H.seg k2
     iterate 3 refine qj ?_
     exact hT' _ _ ⟨q,M,_,yo,yc,cY,_,_,(bZ _ _).trans hs,(aO _ _).trans hd,Qv,Qv,Qv,Qv,Yo,Yo,hcY,nY,H.f1,Nat.le_refl _,k1.trans (k2.mono k1.size)⟩
   ·clear b1 b2 b3 b10 b12 hs hd H hTn hx8
    obtain⟨q,M,yb,yo,yc,cY,B,U,hs,hd,b1,b24,b25,hq,hM,hcY,nY,H⟩:=hT
    have nY9:BNew B V9 yo yc [cY]:=nY.seg H.o1
    obtain⟨pt,ept⟩:∃pt,pt=nS q (M+1) p:=⟨_,rfl⟩
    rw[←ept] at hcY
    have hpt:zZ ⟨0,1,[pt]⟩:=⟨hX.1,hX.2.1,λx hx=>by
     have e:x=pt:=List.mem_singleton.1 hx
     rw[e,ept]
     exact aOZ (hX.2.2.1 p (List.mem_singleton.2 rfl)) Yo,hX.2.2.2⟩
    have edu:pt.du=(j:Int):=by rw[ept,ep];rfl
    have hP3:=xS ⟨0,1,[pt]⟩ yo yc [cY] (j:Int) V9 hpt (by show [cY.p]=[pt];rw[hcY]) nY9.1 (by unfold R64;omega)
    have eE3:=qG (N:=0) (s:=1) [pt] (t:=(j:Int)) Yo Yo
    refine aD (aJ ?_)
    iterate 2 refine qa ?_
    refine uB (show Calls _ _ #[aV (oO 0 1 (.slice yo 1 yc)) 0 3,.int .i64 (j:Int)] _ _ from hP3) ?_
    rintro e V10 ⟨zo,zc,LZ,co,cc,LC,rfl,_,_,tC,nC,rC,k10⟩
    rw[(aCs Yo Yo Yo).1] at tC
    obtain⟨ct,rfl,hct⟩:=tC.one
    refine⟨.tuple #[lI (jB ⟨0,1,[pt]⟩ (j:Int)).now (jB ⟨0,1,[pt]⟩ (j:Int)).ser (.slice zo LZ.length zc),.slice co 1 cc,.int .i64 0],by rw[eE3];rfl,?_⟩
    replace H:=H.call k10
    refine qa ?_
    refine qg (kZ _ rfl Qv _) ?_
    refine qg (kV _ rfl Qv _) ?_
    refine qg (kY _ rfl Qv _) ?_
    iterate 2 refine qa ?_
    refine aF ?_
    refine aK ?_
    refine aD ?_
    refine qa ?_
    refine qg (rW _ _ rfl Qv Qv _) ?_
    iterate 2 refine qa ?_
    refine qg (rW _ _ rfl Qv Qv _) ?_
    refine qg (bI _ _ _ rfl Qv Qv _) ?_
    iterate 3 refine qa ?_
    refine qg (zV _ _ rfl Qv Qv _) ?_
    refine qg (bI _ _ _ rfl Qv Qv _) ?_
    refine aF ?_
    refine aEC rfl (bL ?_)
    have hdt:ct.p.ds.length=12+8*n:=by rw[hct,ept,vP,pdl]
    have hds:p.ds=liB (enS K F R n f) (12+8*n):=by rw[ep];exact eds
    have pr:=nC.1.2.2 ct (List.mem_singleton.2 rfl)
    unfold PRd at pr
    rw[hdt] at pr
    have s10:Sr V10 ct.ao (12+8*n) ct.cap (bF (yB (enS K F R n f) q (M+1))):=pr.1.congr (λi hi=>by unfold bF;rw[hct,ept,aQM hds hq hi])
    rcases rC.2 with ⟨_,e0⟩|⟨g,cap9,cur,eg,_⟩
    ·cases e0
    cases eg
    have hcl:V10.cell? ⟨g,0+0*5+4,none⟩=some (.slice ct.ao (12+8*n) ct.cap):=by
     have:=(RowP.at (i:=0) (c:=ct) rC rfl).2.2.2.2
     unfold iG at this
     rw[hdt] at this
     exact this
    refine aD ?_
    refine qa ?_
    refine qg (nL _ _ _ _ rfl SlcK.out SizK.out Qv Qv rfl Nat.one_pos _) ?_
    refine qa ?_
    refine qg (wD OneK.out hcl rfl Qv) ?_
    refine xU (tZ ct.ao (12+8*n) ct.cap _ V10 (aEg hgl q Yo) Yo pr.2 s10) ?_
    rintro e V11 ⟨E,v11,dE,rfl,_,k11⟩
    have h0:E≠0:=λe0=>by
     subst e0
     exact aIT hq Yo Yo (aAw dE).2.2.2.1
    refine⟨_,rfl,?_⟩
    replace H:=H.call k11
    iterate 4 refine qa ?_
    refine aF ?_
    refine aD ?_
    refine qa ?_
    refine qg (zT (b:=true) _ _ rfl Qv Qv (by simp[h0]) _) ?_
    refine qa ?_
    refine aF ?_
    exact bD (bB ((aO _ _).trans hd) (dW rfl Qv) ⟨rfl,H.bel⟩)
end Go.Proofs.YtdhblehhgpdpdacGreat
