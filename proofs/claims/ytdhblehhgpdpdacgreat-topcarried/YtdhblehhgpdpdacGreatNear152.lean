import Derived.Test.YtdhblehhgpdpdacGreatNear53
namespace Go.Proofs.YtdhblehhgpdpdacGreat
open Go.RowKit
section
variable {f:Operand→Value} {o:Oper}
theorem aFX(ho:o.op=.build 55 #[])(w:World):(execOp f o).run Tryz.prog w=.ok (.value (aU (ndF dW (.slice none 0 0)) 0 74)) w:=by
 unfold execOp
 rw[ho]
 go_simp
 kernel_rfl
theorem aCH (a b c : Operand) (ho : o.op = .build 55 #[(0, a), (2, b), (4, c)]) {id : Int} {t : Tn} {r : Rl} (h0 : f a = .int .i64 id) (h1 : f b = aU (oH t) 0 4) (h2 : f c = eW r) (w : World) :
  (execOp f o).run Tryz.prog w=.ok (.value (aU (ndF { dW with id:=id,tn:=t,rl:=r } (.slice none 0 0)) 0 74)) w:=by
 have h1':f b=.agg #[.int .i64 t.Dt,.int .i64 t.Q,.int .i64 t.R,.int .i64 t.G]:=h1
 unfold eW at h2
 unfold execOp
 rw[ho]
 simp only[List.map_toArray,List.map_cons,List.map_nil]
 rw[h0,h1',h2]
 clear h0 h1 h1' h2 ho
 change _=_
 kernel_rfl
end
theorem aFC:Many Tryz.prog 23 4:=Many.of _ Tryz.underlying23 rfl (by kernel_rfl)
theorem aMR(n:Nd)(v:Value):∀j,j<4→ndF n v (0+2+j)=oH n.tn j:=by
 intro j hj
 unfold ndF
 rw[if_neg Yo,if_pos Yo,show 0+2+j-2=j by omega]
end Go.Proofs.YtdhblehhgpdpdacGreat
namespace Go.Proofs.YtdhblehhgpdpdacGreat
open Go.RowKit
end Go.Proofs.YtdhblehhgpdpdacGreat
namespace Go.Proofs.YtdhblehhgpdpdacGreat
open Go.RowKit
def vQ(x k:Nat):St:=if k<x then St.beg0 else St.nil'
theorem aCh:vQ 0=dW.ax:=by funext k;unfold vQ;rw[if_neg Yo];rfl
theorem aBJ{x:Nat}:(λk=>if k=x then St.beg0 else vQ x k)=vQ (x+1):=by
 funext k
 unfold vQ
 by_cases c:k=x
 ·rw[if_pos c,if_pos Yo]
 ·rw[if_neg c]
  by_cases c2:k<x
  ·rw[if_pos c2,if_pos Yo]
  ·rw[if_neg c2,if_neg Yo]
def bgN(id:Int)(t:Tn)(ax:Nat→St):Nd:=⟨id,0,t,ax,beginR,λ_ _=>0,λ_=>0,λ_ _=>0,λ_=>0,0,0,false,[]⟩
theorem aBE{id:Int}{t:Tn}{v:Value}:ndF (bgN id t (vQ 3)) v=ndF (bgN id t (λ_=>St.beg0)) v:=by
 funext j
 unfold ndF bgN
 dsimp only
 by_cases c2:j<2
 ·rw[if_pos c2,if_pos c2]
 ·rw[if_neg c2,if_neg c2]
  by_cases c6:j<6
  ·rw[if_pos c6,if_pos c6]
  ·rw[if_neg c6,if_neg c6]
   by_cases c27:j<27
   ·rw[if_pos c27,if_pos c27]
    have e:vQ 3 ((j-6)/7)=St.beg0:=by unfold vQ;rw[if_pos Yo]
    rw[e]
   ·rw[if_neg c27,if_neg c27]
def aPh(fn:Nat):Prop:=∀(id:Int) (t:Tn) (w:World),R64 id→t.Ok→
 Calls Tryz.prog fn #[.int .i64 id,aU (oH t) 0 4] w λe w'=>∃a' c',e=.returned (.tuple #[i5 (gS id t) (.slice a' (gS id t).vA.length c'),.int .i64 (aCu id)])∧lK w.heap.size w' (gS id t) a' c'∧Below w.heap.size w w'
end Go.Proofs.YtdhblehhgpdpdacGreat
namespace Go.Proofs.YtdhblehhgpdpdacGreat
open Go
theorem yR (w : World) {P : Program} {Q : Exit → Act → World → Prop} {o : Oper} {a : Act} {K : Act → World → Prop} (n : Nat) (x y z u v : Operand) (T : Array TypeId) (ho : o.op = .call { callee := .value (.func n), args := #[x, y, z, u, v], argTypes := T }) {p q r s t : Value} (hx : a.eval x = p) (hy : a.eval y = q) (hz : a.eval z = r) (hu : a.eval u = s) (hv : a.eval v = t) (hf : (callFunc n #[p, q, r, s, t]).run P w = .ok (.enter n #[p, q, r, s, t]) w) {R : Ending → World → Prop} (hc : Calls P n #[p, q, r, s, t] w R)
  (h:∀e w',R e w'→∃r,e=.returned r∧K (a.put o.dst r) w'):WpI P o a w K Q:=by
 refine⟨?_⟩
 have e:(execOp a.eval o).run P w=.ok (.enter n #[p,q,r,s,t]) w:=by
  unfold execOp
  rw[ho]
  have hv2:a.eval (Operand.func n)=.func (.func n) #[] #[]:=rfl
  simp only[resolve,invoke,Sem.run_bind,List.map_toArray,List.map_cons,List.map_nil,hx,hy,hz,hu,hv,hv2]
  go_simp
 unfold Oper.wp
 rw[e,Oper.upon_enter]
 refine hc.mono ?_
 intro e w' hr
 obtain⟨r,rfl,hk⟩:=h e w' hr
 exact hk
end Go.Proofs.YtdhblehhgpdpdacGreat
namespace Go.Proofs.YtdhblehhgpdpdacGreat
open Go.RowKit
def relI(n:Nd)(l:List Ms)(i s a:Nat):Int:=if s<i then relD n l s a else n.di s a
def aGX(n:Nd)(l:List Ms)(j:Nat):Int:=relD n l (j/3) (j%3)
theorem aLQ{n:Nd}{d d':Nat→Nat→Int}{v:Value}(h:∀s a,s<4→d s a=d' s a):ndF { n with di:=d } v=ndF { n with di:=d' } v:=by
 funext j
 unfold ndF
 by_cases c2:j<2
 ·rw[if_pos c2,if_pos c2]
 ·rw[if_neg c2,if_neg c2]
  by_cases c6:j<6
  ·rw[if_pos c6,if_pos c6]
  ·rw[if_neg c6,if_neg c6]
   by_cases c27:j<27
   ·rw[if_pos c27,if_pos c27]
   ·rw[if_neg c27,if_neg c27]
    by_cases c39:j<39
    ·rw[if_pos c39,if_pos c39]
    ·rw[if_neg c39,if_neg c39]
     by_cases c51:j<51
     ·rw[if_pos c51,if_pos c51]
      show iV (d _ _)=iV (d' _ _)
      rw[h _ _ Yo]
     ·rw[if_neg c51,if_neg c51]
theorem aN7(n:Nd)(v:Value){i a:Nat}(hi:i<4)(ha:a<3):ndF n v (0+39+i*3+a*1)=.int .i64 (n.di i a):=by
 unfold ndF
 rw[if_neg Yo,if_neg Yo,if_neg Yo,if_neg Yo,if_pos Yo,show (0+39+i*3+a*1-39)/3=i by omega,show (0+39+i*3+a*1-39)%3=a by omega]
 rfl
theorem aHp(n:Nd)(l:List Ms):∀s a,s<4→relI n l 4 s a=relD n l s a:=λs a h=>by unfold relI;rw[if_pos h]
theorem aJm{n:Nd}{L:List Lm}{i:Nat}(h:fL n.id n.fr L (i:Int) 1 3=none):({ n with di:=relI n (L.map Lm.m) i }:Nd)={ n with di:=relI n (L.map Lm.m) (i+1) }:=by
 congr 1
 funext s a
 unfold relI
 by_cases c1:s<i
 ·rw[if_pos c1,if_pos Yo]
 ·rw[if_neg c1]
  by_cases c2:s=i
  ·subst c2
   rw[if_pos Yo]
   unfold relD
   have:=lH n L s 1 3
   rw[show ((3:Nat):Int)=3 from rfl,h] at this
   rw[←this]
   rfl
  ·rw[if_neg Yo]
theorem aIN{n:Nd}{L:List Lm}{i:Nat}{c:Lm}(h:fL n.id n.fr L (i:Int) 1 3=some c):({ n with di:=λs a=>if s=i then gL c.m.L a else relI n (L.map Lm.m) i s a }:Nd)={ n with di:=relI n (L.map Lm.m) (i+1) }:=by
 congr 1
 funext s a
 unfold relI
 by_cases c2:s=i
 ·subst c2
  rw[if_pos rfl,if_pos Yo]
  unfold relD
  have:=lH n L s 1 3
  rw[show ((3:Nat):Int)=3 from rfl,h] at this
  rw[←this]
  rfl
 ·rw[if_neg c2]
  by_cases c1:s<i
  ·rw[if_pos c1,if_pos Yo]
  ·rw[if_neg c1,if_neg Yo]
theorem aMQ(f:Nat→Int)(k:Nat):rowV (iF (gL ((List.range k).map f))) k=rowV (iF f) k:=by
 refine fP (λi hi=>?_)
 unfold iF gL
 rw[List.getD_eq_getElem?_getD,List.getElem?_map,List.getElem?_range hi]
 rfl
end Go.Proofs.YtdhblehhgpdpdacGreat
namespace Go.Proofs.YtdhblehhgpdpdacGreat
open Go.RowKit
end Go.Proofs.YtdhblehhgpdpdacGreat
namespace Go.Proofs.YtdhblehhgpdpdacGreat
open Go.RowKit
def lmC(c:Lm):List Value:=[iV c.m.K,iV c.m.F,iV c.m.R,lmV c]
def pH:List Lm→List Value
 |[]=>[]
 |c::L=>lmC c++pH L
theorem aEZ(L M:List Lm):pH (L++M)=pH L++pH M:=by
 induction L with
 |nil=>rfl
 |cons c L ih=>show lmC c++pH (L++M)=(lmC c++pH L)++pH M;rw[ih,List.append_assoc]
theorem aDR(L:List Lm):(pH L).length=L.length*4:=by
 induction L with
 |nil=>rfl
 |cons c L ih=>show (lmC c++pH L).length=_;rw[List.length_append,ih,List.length_cons];show 4+_=_;omega
theorem aKc{L:List Lm}:∀u,u∈pH L→u.oneCell'=true:=by
 induction L with
 |nil=>intro u hu;exact absurd hu (List.not_mem_nil)
 |cons c L ih=>
  intro u hu
  rcases List.mem_append.1 hu with h|h
  ·unfold lmC lmV iV at h
   simp at h
   rcases h with rfl|rfl|rfl|rfl<;>rfl
  ·exact ih u h
theorem aFH(L:List Lm):∀(i:Nat) (c:Lm),L[i]?=some c→∀k,k<4→(pH L)[i*4+k]?=some (oS c k):=by
 induction L with
 |nil=>intro i c h;simp at h
 |cons d L ih=>
  intro i c h k hk
  show (lmC d++pH L)[i*4+k]?=_
  cases i with
  |zero=>
   have e:d=c:=by simpa using h
   subst e
   rw[List.getElem?_append_left (by show 0*4+k<4;omega)]
   match k,hk with
   |0,_=>rfl
   |1,_=>rfl
   |2,_=>rfl
   |3,_=>rfl
  |succ i=>
   rw[List.getElem?_append_right (by show 4≤_;omega)]
   have:=ih i c (by simpa using h) k hk
   rw[←this]
   congr 1
   show (i+1)*4+k-4=_
   omega
def aCI(w:World)(B:Nat)(c:Lm):Prop:=w.ownsRow B 3 1 (lmV c) c.m.L.length (rowV (iF (gL c.m.L)) c.m.L.length)
def OwnM(w:World)(B:Nat)(v:Value)(L:List Lm):Prop:=w.ownsRow B 69 4 v L.length (pH L)∧∀c,c∈L→aCI w B c
theorem nV{t:TypeId}{B s n b:Nat}{w:World}{v:Value}{xs:List Value}(h:w.ownsRow B t s v n xs)(e:v.ownBlock=some b):∃cur,w.heap[b]?=some (.cells cur t (0,0)):=by
 rcases h.2 with ⟨rfl,h0⟩|⟨g,c,cur,rfl,hb,hg,_⟩
 ·cases e
 ·cases e;exact⟨cur,hg⟩
theorem OwnM.below{w w':World}{B:Nat}{v:Value}{L:List Lm}(h:OwnM w B v L)(k:Below w.heap.size w w'):OwnM w' B v L:=⟨bE h.1 k,λc hc=>bE (h.2 c hc) k⟩
theorem OwnM.nil(w:World)(B:Nat):OwnM w B (.slice none 0 0) []:=⟨World.ownsRow_nil _ _ _ _,λ_ h=>absurd h (List.not_mem_nil)⟩
theorem OwnM.rd{w:World}{B n cap:Nat}{ao:Option Addr}{L:List Lm}(h:OwnM w B (.slice ao n cap) L)(hl:∀c,c∈L→c.m.L.length≤17592186044404):MRd w ao L:=by
 refine⟨λhp=>?_,λc hc=>?_⟩
 ·rcases h.1.2 with ⟨e,h0⟩|⟨g,cp,cur,e,hb,hg,hc,hm,hsz,hcur⟩
  ·omega
  ·cases e
   refine⟨g,0,rfl,λi c hi k hk=>?_⟩
   have hlt:=(List.getElem?_eq_some_iff.1 hi).1
   have h1:=aFH L i c hi k hk
   have hL:=aDR L
   rw[←hcur,List.getElem?_take,if_pos Yo,Array.getElem?_toList] at h1
   unfold World.cell?
   rw[hg]
   show cur[0+i*4+k]?=_
   rw[Nat.zero_add]
   exact h1
 ·obtain⟨ao2,cap2,e,hs,hc2⟩:=iT (h.2 c hc)
  unfold lmV at e
  cases e
  exact⟨hs,hc2,hl c hc⟩
theorem aCd (w : World) {o : Oper} {a : Act} {K : Act → World → Prop} {Q : Exit → Act → World → Prop} (x : Operand) (ho : o.op = .buildSlice 113 1 #[(0, x)]) {c : Lm} (hx : a.eval x = aU (oS c) 0 4)
  (h:∀w',Vh 69 w' w.heap.size 4 4 (oS c)→Below w.heap.size w w'→w'.heap.size=w.heap.size+1→K (a.put o.dst (.slice (some ⟨w.heap.size,0,none⟩) 1 1)) w'):WpI Tryz.prog o a w K Q:=by
 have hh:=h (w.alloc (.cells #[.int .i64 c.m.K,.int .i64 c.m.F,.int .i64 c.m.R,.slice c.ao c.m.L.length c.cap] 69)) (Vh.of_row (oS c) 4 Yc (by show (w.heap.push _)[w.heap.size]?=_;rw[Array.getElem?_push_size];rfl)) (bQ _ _) (cH _ _)
 have hx':a.eval x=.agg #[.int .i64 c.m.K,.int .i64 c.m.F,.int .i64 c.m.R,.slice c.ao c.m.L.length c.cap]:=hx
 have e:(execOp a.eval o).run Tryz.prog w=.ok (.value (.slice (some ⟨w.heap.size,0,none⟩) 1 1)) (w.alloc (.cells #[.int .i64 c.m.K,.int .i64 c.m.F,.int .i64 c.m.R,.slice c.ao c.m.L.length c.cap] 69)):=by
  clear hx hh
  generalize a.eval=f at hx'
  unfold execOp
  rw[ho]
  simp only[List.map_toArray,List.map_cons,List.map_nil]
  rw[hx']
  go_simp
 refine⟨?_⟩
 unfold Oper.wp
 rw[e]
 exact hh
theorem xU(f:Nat→Bool){i:Nat}(hi:i<4)(w:World):(Instr.index 47 (.agg #[.bool (f 0),.bool (f 1),.bool (f 2),.bool (f 3)]) (.int .i64 (i:Int))).run Tryz.prog w=.ok (.bool (f i)) w:=by
 have:i=0∨i=1∨i=2∨i=3:=Yo
 rcases this with rfl|rfl|rfl|rfl<;>simp[Instr.index,go_sem]
def gcN(b:Bool)(m t:Int):Bool:=if b then decide (0≤m)&&decide (m≤2)&&decide (t=0) else decide (m=0)&&decide (0≤t)&&decide (t≤2)
theorem aOx(r:Rl)(i:Nat):gd r i=gcN (r.I i) (r.M i) (r.J i):=rfl
set_option maxHeartbeats 1000000 in
theorem aAG (b : Bool) (m t : Int) (w : World) :
  Calls Tryz.prog 111 #[.bool b,.int .i64 m,.int .i64 t] w λe w'=>e=.returned (.bool (gcN b m t))∧w'=w:=by
 cases b with
 |true=>
  have G:=aA (show gcN true m t=(decide (0≤m)&&decide (m≤2)&&decide (t=0)) from rfl)
  by_cases h1:0≤m
  ·have d1:decide (0≤m)=true:=decide_eq_true h1
   by_cases h2:m≤2
   ·have d2:decide (m≤2)=true:=decide_eq_true h2
    by_cases h3:t=0
    ·subst h3
     go_enter Tryz.func111,Tryz.ntmps111
     go_wp2_with fail
     go_ret
     exact⟨by rw[unhide G,d1,d2];rfl,rfl⟩
    ·have d3:(t==0)=false:=by simp[h3]
     have d4:decide (t=0)=false:=decide_eq_false h3
     go_enter Tryz.func111,Tryz.ntmps111
     go_wp2_with fail
     go_ret
     exact⟨by rw[unhide G,d1,d2,d4];rfl,rfl⟩
   ·have d2:decide (m≤2)=false:=decide_eq_false h2
    go_enter Tryz.func111,Tryz.ntmps111
    go_wp2_with fail
    go_ret
    exact⟨by rw[unhide G,d1,d2];rfl,rfl⟩
  ·have d1:decide (0≤m)=false:=decide_eq_false h1
   go_enter Tryz.func111,Tryz.ntmps111
   go_wp2_with fail
   go_ret
   exact⟨by rw[unhide G,d1];rfl,rfl⟩
 |false=>
  have G:=aA (show gcN false m t=(decide (m=0)&&decide (0≤t)&&decide (t≤2)) from rfl)
  by_cases h1:0≤t
  ·have d1:decide (0≤t)=true:=decide_eq_true h1
   by_cases h2:t<3
   ·have d2:decide (t<3)=true:=decide_eq_true h2
    have d5:=aA (show decide (t≤2)=true from decide_eq_true Yo)
    by_cases h3:m=0
    ·subst h3
     go_enter Tryz.func111,Tryz.ntmps111
     go_wp2_with fail
     go_ret
     exact⟨by rw[unhide G,d1,unhide d5];rfl,rfl⟩
    ·have d3:(m==0)=false:=by simp[h3]
     have d4:decide (m=0)=false:=decide_eq_false h3
     go_enter Tryz.func111,Tryz.ntmps111
     go_wp2_with fail
     go_ret
     exact⟨by rw[unhide G,d4];rfl,rfl⟩
   ·have d2:decide (t<3)=false:=decide_eq_false h2
    have d5:=aA (show decide (t≤2)=false from decide_eq_false Yo)
    go_enter Tryz.func111,Tryz.ntmps111
    go_wp2_with fail
    go_ret
    exact⟨by rw[unhide G,unhide d5,Bool.and_false];rfl,rfl⟩
  ·have d1:decide (0≤t)=false:=decide_eq_false h1
   go_enter Tryz.func111,Tryz.ntmps111
   go_wp2_with fail
   go_ret
   exact⟨by rw[unhide G,d1,Bool.and_false];rfl,rfl⟩
theorem RAt.drew{w:World}{b:Nat}{r:Rl}(h:RAt w b r):RAt w.drew b r:=h
set_option maxHeartbeats 2000000 in
theorem vP:aO2 98:=by
 intro r w _
 obtain⟨w1,e1,m1,k1,z1⟩:=pQ w r
 have p0:=m1.inn (i:=0) Yo
 have p1:=m1.inn (i:=1) Yo
 have p2:=m1.inn (i:=2) Yo
 have p3:=m1.inn (i:=3) Yo
 rw[e1] at p0 p1 p2 p3
 have E1:=aA e1;have M1:=aA m1;have K1:=aA k1
 clear e1 m1 k1 z1
 unfold eW
 go_enter Tryz.func98,Tryz.ntmps98
 go_wp2_with fail
 rw[←unhide E1]
 clear p0 p1 p2 p3
 go_loopw [7] (λis wr=>∃i:Nat,is=.int .i64 i∧i≤4∧(∀j,j<i→gd r j=true)∧RAt wr w.heap.size r∧Below w.heap.size w wr) (λis _=>4-(intOf is).toNat)
 case atStart=>exact⟨0,rfl,Yo,λj h=>absurd h Yo,unhide M1,unhide K1⟩
 case round=>
  obtain⟨i,rfl,hi,hg,hm,hk⟩:=hrel
  rename World=>wr
  have HG:=aA hg;have HK:=aA hk
  clear hg hk M1 K1
  by_cases hin:i<4
  ·have hin':(i:Int)<4:=Yo
   have NX:=aA (λh:gd r i=true=>show ∀j,j<i+1→gd r j=true from λj hj=>by
    by_cases e:j=i
    ·rw[e];exact h
    ·exact unhide HG j Yo)
   have at_:=xU r.I hin
   have GG:=aA (aOx r i)
   have hS:(λu=>RAt u w.heap.size r) wr.drew:=hm.drew
   have HM:=aA hm
   clear hm
   go_wp2_with fail
   refine dX (S:=λu=>RAt u w.heap.size r) [(0,false),(1,false),(2,false),(3,false),(4,false),(5,false),(6,false),(7,false),(8,false),(9,true),(10,true)] [] (by kernel_rfl) (by kernel_rfl) ?_
   iterate 9
    refine bN (v:=?_) rfl (λ_ _ _ h=>h) (by rfl) hS ?_ ?_
    rotate_left 1
    ·intro wx hwx
     have cm:=RAt.mis hwx hin;have cj:=RAt.joi hwx hin
     clear hwx
     go_simp<;>exact rfl
    go_frame
   refine bT rfl (λK hK=>?_)
   go_simp
   refine (aAG (r.I i) (r.M i) (r.J i) _).mono ?_
   rintro e w2 ⟨rfl,rfl⟩
   refine hK _ _ (λ_=>hS) ?_
   clear hK K
   rw[←unhide GG]
   refine bT rfl (λK hK=>?_)
   go_simp
   refine hK _ _ (λ_=>hS) ?_
   clear hK K
   refine fI ?_
   have M2:=aA ((unhide HM).drew);have K2:=aA (aP (unhide HK))
   clear hS HM HK at_
   cases hb:gd r i with
   |true=>
    have Y:=aA (unhide NX hb)
    go_wp2_with fail
    go_roundw
    case rel=>exact⟨i+1,by go_num,Yo,unhide Y,unhide M2,unhide K2⟩
    case measure=>simp[intOf]<;>omega
   |false=>
    have N:=aA (aM6 hin hb)
    go_wp2_with fail
    go_ret
    exact⟨by rw[unhide N];rfl,unhide K2⟩
  ·have e9:i=4:=Yo
   subst e9
   rw[show ((4:Nat):Int)=4 from rfl]
   have N:=aA (tG.2 (unhide HG))
   clear hm
   go_wp2_with fail
   go_ret
   exact⟨by rw[unhide N];rfl,unhide HK⟩
theorem eD(x y:Value)(w:World):(callFunc 127 #[x,y]).run Tryz.prog w=.ok (.enter 127 #[x,y]) w:=by go_simp
theorem vV(x:Value)(w:World):(callFunc 126 #[x]).run Tryz.prog w=.ok (.enter 126 #[x]) w:=by go_simp
theorem aBn(x:Value)(w:World):(callFunc 113 #[x]).run Tryz.prog w=.ok (.enter 113 #[x]) w:=by go_simp
theorem sA(x:Value)(w:World):(callFunc 128 #[x]).run Tryz.prog w=.ok (.enter 128 #[x]) w:=by go_simp
theorem vN(x y z:Value)(w:World):(callFunc 114 #[x,y,z]).run Tryz.prog w=.ok (.enter 114 #[x,y,z]) w:=by go_simp
theorem aCc(x:Value)(w:World):(callFunc 98 #[x]).run Tryz.prog w=.ok (.enter 98 #[x]) w:=by go_simp
def wiB(x l:Int):Bool:=decide (0≤x)&&decide (x≤l)
theorem fK(x l:Int)(w:World):Calls Tryz.prog 127 #[.int .i64 x,.int .i64 l] w λe w'=>e=.returned (.bool (wiB x l))∧Below w.heap.size w w':=by
 unfold wiB
 by_cases h1:0≤x
 ·by_cases h2:x≤l
  ·rw[decide_eq_true h1,decide_eq_true h2]
   refine bW Tryz.func127 rfl 12 rfl Yd (λA hs hd hb=>?_)
   have b0:=hb 0 _ rfl
   have b1:=hb 1 _ rfl
   clear hb
   refine aD (aI ?_)
   refine Yp ?_
   refine aE ?_
   refine aD ?_
   refine Yp ?_
   refine Yq (f9 (b:=true) _ _ rfl (Ye rfl) (aF _ _) (decide_eq_true h1) _) ?_
   iterate 3 refine Yp ?_
   refine Yq (uJ (b:=true) _ _ rfl (Ye rfl) (Ye rfl) (decide_eq_true h2) _) ?_
   refine Yq (aW _ _ _ rfl (Ye rfl) (Ye rfl) _) ?_
   refine Yp ?_
   refine aE ?_
   exact bC (aZ ((aN _ _).trans hd) (dC rfl (Ye rfl)) ⟨rfl,Below.refl _ _⟩)
  ·rw[decide_eq_true h1,decide_eq_false h2]
   refine bW Tryz.func127 rfl 12 rfl Yd (λA hs hd hb=>?_)
   have b0:=hb 0 _ rfl
   have b1:=hb 1 _ rfl
   clear hb
   refine aD (aI ?_)
   refine Yp ?_
   refine aE ?_
   refine aD ?_
   refine Yp ?_
   refine Yq (f9 (b:=true) _ _ rfl (Ye rfl) (aF _ _) (decide_eq_true h1) _) ?_
   iterate 3 refine Yp ?_
   refine Yq (uJ (b:=false) _ _ rfl (Ye rfl) (Ye rfl) (decide_eq_false h2) _) ?_
   refine Yq (aW _ _ _ rfl (Ye rfl) (Ye rfl) _) ?_
   refine Yp ?_
   refine aE ?_
   exact bC (aZ ((aN _ _).trans hd) (dC rfl (Ye rfl)) ⟨rfl,Below.refl _ _⟩)
 ·rw[decide_eq_false h1]
  refine bW Tryz.func127 rfl 12 rfl Yd (λA hs hd hb=>?_)
  have b0:=hb 0 _ rfl
  have b1:=hb 1 _ rfl
  clear hb
  refine aD (aI ?_)
  refine Yp ?_
  refine aE ?_
  refine aD ?_
  refine Yp ?_
  refine Yq (f9 (b:=false) _ _ rfl (Ye rfl) (aF _ _) (decide_eq_false h1) _) ?_
  refine Yp ?_
  iterate 3 refine Yu ?_
  refine Yq (bG _ _ _ rfl (Ye rfl) (aF _ _) _) ?_
  refine Yp ?_
  refine aE ?_
  exact bC (aZ ((aN _ _).trans hd) (dC rfl (Ye rfl)) ⟨rfl,Below.refl _ _⟩)
def axS(p:Nat→Int):St:=⟨p 0,p 1,p 2,p 3,p 4,decide (p 5=1),p 6⟩
def axO(p:Nat→Int):St:=if wiB (p 5) 1 then axS p else St.nil'
theorem zO (z : Addr) (m mc : Nat) (p : Nat → Int) (w : World) (hm : 7 ≤ m) (hz : ∀ i, i < 7 → w.cell? (z.add i) = some (.int .i64 (p i))) :
  Calls Tryz.prog 126 #[.slice (some z) m mc] w λe w'=>e=.returned (.tuple #[aU (cK (axO p)) 0 7,.bool (wiB (p 5) 1)])∧Below w.heap.size w w':=by
 refine bW Tryz.func126 rfl 33 rfl Yd (λA hs hd hb=>?_)
 have b0:=hb 0 _ rfl
 clear hb
 rcases hb:wiB (p 5) 1 with _|_
 ·refine aD (aI ?_)
  refine aR rfl Yw (λK hK=>?_)
  refine aS _ _ rfl pU Yd ?_
  intro w1 m1 k1 z1
  refine hK _ _ ?_
  clear hK K
  refine Yp ?_
  refine aE ?_
  refine aJ ?_
  refine aD ?_
  refine Yp ?_
  refine Yq (eH _ _ rfl (a:=z) (n:=m) (cap:=mc) (Ye rfl) (aF _ _) (i:=5) rfl Yo _) ?_
  refine Yq (eI _ rfl (Ye rfl) (bD (hz 5 Yo) k1)) ?_
  refine aR rfl Yw (λK hK=>?_)
  have C1:=fK (p 5) 1 w1
  rw[hb] at C1
  refine cG _ 127 _ _ _ rfl (Ye rfl) (aF _ _) (eD _ _ _) C1 ?_
  rintro e w2 ⟨rfl,k2⟩
  have n2:=k2.size
  have mr2:=m1.below k2
  refine⟨_,rfl,?_⟩
  refine hK _ _ ?_
  clear hK K
  refine Yq (cX _ _ rfl (Ye rfl) _) ?_
  refine aE ?_
  refine bO (Ye rfl) ?_
  refine aD ?_
  refine Yq (aGo rfl _) ?_
  refine bR Yw (λK hK=>?_)
  refine aH _ _ _ _ rfl fC (Ye rfl) (Ye rfl) mr2 Yc (dK _) rfl ?_
  intro w3 mm3 k3 z3
  have mr3:=Vh.congr mm3 (mE _ _)
  refine hK _ ?_
  clear hK K
  refine Yp ?_
  refine aE ?_
  refine bC ?_
  simp only[Nx,Exit.then]
  refine aZ ((aN _ _).trans hd) (kZ rfl (Ye rfl) (Ye rfl) fC mr3 (Nat.le_refl _)) ⟨?_,aC (k1.trans (k2.mono Yo)) k3 Yo Yo⟩
  unfold axO
  rw[hb]
  rfl
 ·refine aD (aI ?_)
  refine aR rfl Yw (λK hK=>?_)
  refine aS _ _ rfl pU Yd ?_
  intro w1 m1 k1 z1
  refine hK _ _ ?_
  clear hK K
  refine Yp ?_
  refine aE ?_
  refine aJ ?_
  refine aD ?_
  refine Yp ?_
  refine Yq (eH _ _ rfl (a:=z) (n:=m) (cap:=mc) (Ye rfl) (aF _ _) (i:=5) rfl Yo _) ?_
  refine Yq (eI _ rfl (Ye rfl) (bD (hz 5 Yo) k1)) ?_
  refine aR rfl Yw (λK hK=>?_)
  have C1:=fK (p 5) 1 w1
  rw[hb] at C1
  refine cG _ 127 _ _ _ rfl (Ye rfl) (aF _ _) (eD _ _ _) C1 ?_
  rintro e w2 ⟨rfl,k2⟩
  have n2:=k2.size
  have mr2:=m1.below k2
  refine⟨_,rfl,?_⟩
  refine hK _ _ ?_
  clear hK K
  refine Yq (cX _ _ rfl (Ye rfl) _) ?_
  refine aE ?_
  refine bL (Ye rfl) (bK ?_)
  refine aJ ?_
  have hS0:(λZ=>∀i,i<7→Z.cell? (z.add i)=some (.int .i64 (p i))) w2.drew:=λi hi=>bD (hz i hi) (aP (k1.trans (k2.mono Yo)))
  have mr0:Vh _ w2.drew _ _ _ _:=mr2
  have ez:w2.drew.heap.size=w2.heap.size:=rfl
  refine eO (S:=λZ=>∀i,i<7→Z.cell? (z.add i)=some (.int .i64 (p i))) (.mv 0 (.mv 1 (.rd 2 (.mv 3 (.mv 4 (.rd 5 (.mv 6 (.mv 7 (.rd 8 (.mv 9 (.mv 10 (.rd 11 (.mv 12 (.mv 13 (.rd 14 (.mv 15 (.mv 16 (.rd 17 (.mv 18 (.mv 19 (.mv 20 (.rd 21 (.mv 22 (.go 23 (.mv 24 .fin))))))))))))))))))))))))) [23] (by kernel_rfl) (by kernel_rfl) ?_
  refine Yj ?_
  refine Yk rfl (λ_=>eH _ _ rfl (a:=z) (n:=m) (cap:=mc) (Ye rfl) (aF _ _) (i:=0) rfl Yo _) ?_
  refine Yr rfl hS0 (λ_ hS=>eI _ rfl (Ye rfl) (hS 0 Yc)) ?_
  refine Yj ?_
  refine Yk rfl (λ_=>eH _ _ rfl (a:=z) (n:=m) (cap:=mc) (Ye rfl) (aF _ _) (i:=1) rfl Yo _) ?_
  refine Yr rfl hS0 (λ_ hS=>eI _ rfl (Ye rfl) (hS 1 Yc)) ?_
  refine Yj ?_
  refine Yk rfl (λ_=>eH _ _ rfl (a:=z) (n:=m) (cap:=mc) (Ye rfl) (aF _ _) (i:=2) rfl Yo _) ?_
  refine Yr rfl hS0 (λ_ hS=>eI _ rfl (Ye rfl) (hS 2 Yc)) ?_
  refine Yj ?_
  refine Yk rfl (λ_=>eH _ _ rfl (a:=z) (n:=m) (cap:=mc) (Ye rfl) (aF _ _) (i:=3) rfl Yo _) ?_
  refine Yr rfl hS0 (λ_ hS=>eI _ rfl (Ye rfl) (hS 3 Yc)) ?_
  refine Yj ?_
  refine Yk rfl (λ_=>eH _ _ rfl (a:=z) (n:=m) (cap:=mc) (Ye rfl) (aF _ _) (i:=4) rfl Yo _) ?_
  refine Yr rfl hS0 (λ_ hS=>eI _ rfl (Ye rfl) (hS 4 Yc)) ?_
  refine Yj ?_
  refine Yk rfl (λ_=>eH _ _ rfl (a:=z) (n:=m) (cap:=mc) (Ye rfl) (aF _ _) (i:=5) rfl Yo _) ?_
  refine Yr rfl hS0 (λ_ hS=>eI _ rfl (Ye rfl) (hS 5 Yc)) ?_
  refine Yk rfl (λ_=>cE (b:=decide (p 5=1)) _ _ rfl (Ye rfl) (aF _ _) rfl _) ?_
  refine Yj ?_
  refine Yk rfl (λ_=>eH _ _ rfl (a:=z) (n:=m) (cap:=mc) (Ye rfl) (aF _ _) (i:=6) rfl Yo _) ?_
  refine Yr rfl hS0 (λ_ hS=>eI _ rfl (Ye rfl) (hS 6 Yc)) ?_
  refine Yk rfl (λ_=>aIE (s:=axS p) _ _ _ _ _ _ _ rfl (Ye rfl) (Ye rfl) (Ye rfl) (Ye rfl) (Ye rfl) (Ye rfl) (Ye rfl) _) ?_
  refine dQ rfl Yw (λK hK=>?_)
  refine aH _ _ _ _ rfl fC (Ye rfl) (Ye rfl) mr0 Yc (dK _) rfl ?_
  intro w3 mm3 k3 z3
  have mr3:=Vh.congr mm3 (mE _ _)
  refine hK _ (λh=>absurd h Yc) ?_
  clear hK K
  refine Yj ?_
  refine fN ?_
  refine bC ?_
  refine aZ ((aN _ _).trans hd) (kZ rfl (Ye rfl) (Ye rfl) fC mr3 (Nat.le_refl _)) ⟨?_,aC (aP (k1.trans (k2.mono Yo))) k3 Yo Yo⟩
  unfold axO
  rw[hb]
  rfl
theorem qL(w:World):(zeroValue 46).run Tryz.prog w=.ok (aU (λj=>cK St.nil' (j%7)) 0 21) w:=by kernel_rfl
theorem iA(g:Nat→Value)(h:Nat→Value):∀j,j<21→dY g 0 21 h j=h j:=λj hj=>by
 have:=jN g (o:=0) (n:=21) h hj
 rwa [Nat.zero_add] at this
theorem aD0(a:Addr)(i k:Nat):(a.add i).add k=a.add (i+k):=by
 by_cases hi:i=0
 ·subst hi;simp[Addr.add]
 ·by_cases hk:k=0
  ·subst hk;simp[Addr.add]
  ·simp[Addr.add,hi,hk,Nat.add_assoc]
def kQ(v:Nat→Int)(a:Nat):St:=axS (λi=>v (7*a+i))
def iK(v:Nat→Int):Bool:=wiB (v 5) 1&&(wiB (v 12) 1&&wiB (v 19) 1)
def axV(v:Nat→Int)(x j:Nat):Value:=if j<7*x then cK (kQ v (j/7)) (j%7) else cK St.nil' (j%7)
theorem aJl(v:Nat→Int):∀j,j<21→cK St.nil' (j%7)=axV v 0 j:=λj _=>by unfold axV;rw[if_neg Yo]
theorem aI4(v:Nat→Int){x:Nat}(hb:wiB (v (7*x+5)) 1=true):∀j,j<21→dY (axV v x) (0+x*7) 7 (cK (axO (λi=>v (7*x+i)))) j=axV v (x+1) j:=by
 intro j _
 unfold dY
 by_cases c:0+x*7≤j∧j<0+x*7+7
 ·rw[if_pos c]
  have e:axO (λi=>v (7*x+i))=kQ v x:=by
   unfold axO
   exact if_pos hb
  rw[e]
  unfold axV
  rw[if_pos Yo,show j/7=x by omega,show j%7=j-(0+x*7) by omega]
 ·rw[if_neg c]
  unfold axV
  by_cases c2:j<7*x
  ·rw[if_pos c2,if_pos Yo]
  ·rw[if_neg c2,if_neg Yo]
theorem aGa(v:Nat→Int):∀j,j<21→axV v 3 j=cK (kQ v (j/7)) (j%7):=λj hj=>by unfold axV;rw[if_pos Yo]
theorem aME{v:Nat→Int}{x:Nat}(hx:x<3)(hb:wiB (v (7*x+5)) 1=false):iK v=false:=by
 unfold iK
 match x,hx with
 |0,_=>rw[show wiB (v 5) 1=false from hb];rfl
 |1,_=>rw[show wiB (v 12) 1=false from hb];simp
 |2,_=>rw[show wiB (v 19) 1=false from hb];simp
theorem aLf{v:Nat→Int}(h:∀a,a<3→wiB (v (7*a+5)) 1=true):iK v=true:=by
 unfold iK
 rw[show wiB (v 5) 1=true from h 0 Yo,show wiB (v 12) 1=true from h 1 Yo,show wiB (v 19) 1=true from h 2 Yo]
 rfl
set_option maxHeartbeats 2000000 in
theorem aEB (y : Addr) (yc : Nat) (v : Nat → Int) (w : World) (hc : 24 ≤ yc) (hy : ∀ i, i < 24 → w.cell? (y.add i) = some (.int .i64 (v i))) :
  Calls Tryz.prog 113 #[.slice (some y) 24 yc] w λe w'=>e=.returned (.tuple #[aU (λj=>cK (if iK v then kQ v (j/7) else St.nil') (j%7)) 0 21,.bool (iK v)])∧Below w.heap.size w w':=by
 refine bW Tryz.func113 rfl 27 rfl Yd (λA hs hd hb=>?_)
 have b0:=hb 0 _ rfl
 clear hb
 refine aD (aI ?_)
 refine aR rfl Yw (λK hK=>?_)
 refine aS _ _ rfl qL Yd ?_
 intro w1 m1 k1 z1
 refine hK _ _ ?_
 clear hK K
 refine Yp ?_
 refine aE ?_
 refine aD ?_
 refine aR rfl Yw (λK hK=>?_)
 refine aS _ _ rfl qL Yd ?_
 intro w2 m2 k2 z2
 have mr2:=m1.below k2
 refine hK _ _ ?_
 clear hK K
 refine aE ?_
 refine aJ ?_
 refine aD ?_
 refine Yp ?_
 refine aE ?_
 refine aT ?_
 refine dF (λq A W=>∃x:Nat,x≤3∧3-x≤q∧A.tmps.size=27∧A.defers=[]∧A.eval (.tmp 0)=.slice (some y) 24 yc∧A.eval (.tmp 2)=.pointer (some ⟨w.heap.size,0,none⟩)∧A.eval (.tmp 4)=.pointer (some ⟨w1.heap.size,0,none⟩)∧A.eval (.tmp 8)=.int .i64 (x:Int)∧(∀a,a<x→wiB (v (7*a+5)) 1=true)∧Vh 46 W w.heap.size 21 21 (λj=>cK St.nil' (j%7))∧Vh 46 W w1.heap.size 21 21 (axV v x)∧Below w.heap.size w W∧w2.heap.size≤W.heap.size) 3 ⟨0,Yo,Yo,(bY _ _).trans hs,(aN _ _).trans hd,(aB rfl b0),(Ye rfl),(Ye rfl),(Ye rfl),λa h=>absurd h Yo,mr2,Vh.congr m2 (aJl v),k1.trans (k2.mono Yo),Yo⟩ (λq B W hI2=>?_)
 clear b0 hs hd
 obtain⟨x,hx,hr2,hs,hd,b0,b2,b4,b8,hok,mr,ml,kB,hW⟩:=hI2
 by_cases hin:x<3
 ·rcases hb:wiB (v (7*x+5)) 1 with _|_
  ·refine aD (aI ?_)
   refine Yq (aY (b:=true) _ _ rfl (aB rfl b8) (aF _ _) (decide_eq_true Yo) _) ?_
   refine aE ?_
   refine aJ (bO (Ye rfl) (bK ?_))
   refine aJ (aT ?_)
   refine aD ?_
   iterate 2 refine Yp ?_
   refine aE ?_
   refine aD ?_
   iterate 2 refine Yp ?_
   refine Yq (yJ _ _ rfl (Ye rfl) (aF _ _) Yo Yo _) ?_
   refine Yq (yG (i:=7*x) _ _ rfl (Ye rfl) (Ye rfl) Yo Yo Yo _) ?_
   refine aR rfl Yw (λK hK=>?_)
   have C1:=zO (y.add (7*x)) (24-7*x) (yc-7*x) (λi=>v (7*x+i)) W Yo (λi hi=>by rw[aD0];exact bD (hy (7*x+i) Yo) kB)
   rw[hb] at C1
   refine bM _ 126 _ _ rfl (Ye rfl) (vV _ _) C1 ?_
   rintro e w11 ⟨rfl,k11⟩
   have n11:=k11.size
   have mr11:=mr.below k11
   have ml11:=ml.below k11
   refine⟨_,rfl,?_⟩
   refine hK _ _ ?_
   clear hK K
   refine Yp ?_
   refine Yq (j9 _ rfl (Ye rfl) _) ?_
   refine Yq (kF _ rfl (Ye rfl) _) ?_
   refine aR rfl Yw (λK hK=>?_)
   refine aS _ _ rfl pU Yd ?_
   intro w12 m12 k12 z12
   have mr12:=mr11.below k12
   have ml12:=ml11.below k12
   refine hK _ _ ?_
   clear hK K
   refine bR Yw (λK hK=>?_)
   refine aH _ _ _ _ rfl fC (Ye rfl) (Ye rfl) m12 Yc (dK _) rfl ?_
   intro w13 mm13 k13 z13
   have ms13:=Vh.congr mm13 (mE _ _)
   have mr13:=mr12.kept k13 Yo
   have ml13:=ml12.kept k13 Yo
   refine hK _ ?_
   clear hK K
   refine Yp ?_
   refine aE ?_
   refine aJ ?_
   refine aD ?_
   refine Yp ?_
   refine Yq (cX _ _ rfl (Ye rfl) _) ?_
   refine aE ?_
   refine bO (Ye rfl) ?_
   refine aD ?_
   refine Yq (aA9 rfl _) ?_
   refine bR Yw (λK hK=>?_)
   refine aH _ _ _ _ rfl dS (aB rfl b2) (Ye rfl) mr13 Yc (λj _=>dK _ _ Yo) rfl ?_
   intro w14 mm14 k14 z14
   have mr14:=Vh.congr mm14 (iA _ _)
   have ml14:=ml13.kept k14 Yo
   have ms14:=ms13.kept k14 Yo
   refine hK _ ?_
   clear hK K
   refine Yp ?_
   refine aE ?_
   refine bC ?_
   simp only[Nx,Exit.inBlock,Exit.then]
   refine aZ ((aN _ _).trans hd) (kZ rfl (aB rfl b2) (Ye rfl) dS mr14 (Nat.le_refl _)) ⟨?_,aC (aC ((kB.trans (k11.mono Yo)).trans (k12.mono Yo)) k13 Yo Yo) k14 Yo Yo⟩
   rw[aME hin hb]
   rfl
  ·refine aD (aI ?_)
   refine Yq (aY (b:=true) _ _ rfl (aB rfl b8) (aF _ _) (decide_eq_true Yo) _) ?_
   refine aE ?_
   refine aJ (bO (Ye rfl) (bK ?_))
   refine aJ (aT ?_)
   refine aD ?_
   iterate 2 refine Yp ?_
   refine aE ?_
   refine aD ?_
   iterate 2 refine Yp ?_
   refine Yq (yJ _ _ rfl (Ye rfl) (aF _ _) Yo Yo _) ?_
   refine Yq (yG (i:=7*x) _ _ rfl (Ye rfl) (Ye rfl) Yo Yo Yo _) ?_
   refine aR rfl Yw (λK hK=>?_)
   have C1:=zO (y.add (7*x)) (24-7*x) (yc-7*x) (λi=>v (7*x+i)) W Yo (λi hi=>by rw[aD0];exact bD (hy (7*x+i) Yo) kB)
   rw[hb] at C1
   refine bM _ 126 _ _ rfl (Ye rfl) (vV _ _) C1 ?_
   rintro e w11 ⟨rfl,k11⟩
   have n11:=k11.size
   have mr11:=mr.below k11
   have ml11:=ml.below k11
   refine⟨_,rfl,?_⟩
   refine hK _ _ ?_
   clear hK K
   refine Yp ?_
   refine Yq (j9 _ rfl (Ye rfl) _) ?_
   refine Yq (kF _ rfl (Ye rfl) _) ?_
   refine aR rfl Yw (λK hK=>?_)
   refine aS _ _ rfl pU Yd ?_
   intro w12 m12 k12 z12
   have mr12:=mr11.below k12
   have ml12:=ml11.below k12
   refine hK _ _ ?_
   clear hK K
   refine bR Yw (λK hK=>?_)
   refine aH _ _ _ _ rfl fC (Ye rfl) (Ye rfl) m12 Yc (dK _) rfl ?_
   intro w13 mm13 k13 z13
   have ms13:=Vh.congr mm13 (mE _ _)
   have mr13:=mr12.kept k13 Yo
   have ml13:=ml12.kept k13 Yo
   refine hK _ ?_
   clear hK K
   refine Yp ?_
   refine aE ?_
   refine aJ ?_
   refine aD ?_
   refine Yp ?_
   refine Yq (cX _ _ rfl (Ye rfl) _) ?_
   refine aE ?_
   refine bL (Ye rfl) (bK ?_)
   refine aQ ?_
   refine Yp ?_
   refine Yq (aO _ _ rfl fC (Ye rfl) ms13 Yc) ?_
   refine Yq (cZ _ _ _ _ rfl Tryz.underlying46 fC.size (aB rfl b4) (Ye rfl) rfl hin _) ?_
   refine bR Yw (λK hK=>?_)
   refine aH _ _ _ _ rfl fC (Ye rfl) (Ye rfl) ml13 Yo (dK _) rfl ?_
   intro w14 mm14 k14 z14
   have ml14:=Vh.congr mm14 (aI4 v hb)
   have mr14:=mr13.kept k14 Yo
   have ms14:=ms13.kept k14 Yo
   refine hK _ ?_
   clear hK K
   refine fT ?_
   refine aQ ?_
   refine Yq (bU _ _ rfl (aB rfl b8) (aF _ _) Yo Yo _) ?_
   refine Yp ?_
   exact bP ⟨3-(x+1),Yo,x+1,Yo,Yo,(bY _ _).trans hs,(aN _ _).trans hd,(aB rfl b0),(aB rfl b2),(aB rfl b4),(Ye rfl).trans (by rw[Int.natCast_add];rfl),(λa ha=>by
    by_cases e:a=x
    ·rw[e];exact hb
    ·exact hok a Yo),mr14,ml14,aC (aC ((kB.trans (k11.mono Yo)).trans (k12.mono Yo)) k13 Yo Yo) k14 Yo Yo,Yo⟩
 ·refine aD (aI ?_)
  refine Yq (aY (b:=false) _ _ rfl (aB rfl b8) (aF _ _) (decide_eq_false Yo) _) ?_
  obtain rfl:x=3:=Yo
  have ml:=Vh.congr ml (aGa v)
  refine aE ?_
  refine aJ (bL (Ye rfl) (dA (eJ ?_)))
  refine aD ?_
  refine Yq (aO _ _ rfl dS (aB rfl b4) ml Yc) ?_
  refine bR Yw (λK hK=>?_)
  refine aH _ _ _ _ rfl dS (aB rfl b2) (Ye rfl) mr Yc (λj _=>dK _ _ Yo) rfl ?_
  intro w11 mm11 k11 z11
  have mr11:=Vh.congr mm11 (iA _ _)
  have ml11:=ml.kept k11 Yo
  refine hK _ ?_
  clear hK K
  refine Yp ?_
  refine aE ?_
  refine bC (aZ ((aN _ _).trans hd) (kZ rfl (aB rfl b2) (Ye rfl) dS mr11 (Nat.le_refl _)) ⟨?_,aC kB k11 Yo Yo⟩)
  rw[aLf hok]
  rfl
def vR(n:Int)(i:Nat):Int:=n/8^(3-i)%8
def zG(n:Int)(x i:Nat):Value:=iV (if 3-i<x then vR n i else 0)
theorem aIm(n:Int):∀j,j<4→iV 0=zG n 0 j:=λj _=>by unfold zG;rw[if_neg Yo]
theorem aIF(n:Int){x:Nat}(hx:x<4):∀j,j<4→fW (zG n x) (0+(3-x)*1) (.int .i64 (n/8^x%8)) j=zG n (x+1) j:=by
 intro j hj
 unfold fW
 rw[show 0+(3-x)*1=3-x by omega]
 by_cases e:j=3-x
 ·rw[if_pos e]
  unfold zG vR
  rw[if_pos Yo,show 3-j=x by omega]
  rfl
 ·rw[if_neg e]
  unfold zG
  by_cases c:3-j<x
  ·rw[if_pos c,if_pos Yo]
  ·rw[if_neg c,if_neg Yo]
theorem aIk(n:Int):∀j,j<4→zG n 4 j=iV (vR n j):=λj _=>by unfold zG;rw[if_pos Yo]
theorem aM0{n:Int}{x:Nat}:n/8^x/8=n/8^(x+1):=by
 rw[Int.ediv_ediv_of_nonneg (Int.pow_nonneg Yc),Int.pow_succ]
theorem aOm{n:Int}(h0:0≤n)(h1:n≤9223372036854775807)(x:Nat):0≤n/8^x∧n/8^x≤9223372036854775807:=
 ⟨Int.ediv_nonneg h0 (Int.pow_nonneg Yc),Int.le_trans (Int.ediv_le_self _ h0) h1⟩
set_option maxHeartbeats 1000000 in
theorem wP(n:Int)(w:World)(h0:0≤n)(h1:n≤9223372036854775807):Calls Tryz.prog 128 #[.int .i64 n] w λe w'=>e=.returned (aU (λi=>iV (vR n i)) 0 4)∧Below w.heap.size w w':=by
 refine bW Tryz.func128 rfl 16 rfl Yd (λA hs hd hb=>?_)
 have b0:A.eval (.tmp 0)=.int .i64 n:=hb 0 _ rfl
 clear hb
 refine aD (aI ?_)
 refine aR rfl Yw (λK hK=>?_)
 refine aS _ _ rfl aAh Yd ?_
 intro w1 m1 k1 z1
 refine hK _ _ ?_
 clear hK K
 refine aE ?_
 refine aD ?_
 refine aR rfl Yw (λK hK=>?_)
 refine aS _ _ rfl aAh Yd ?_
 intro w2 m2 k2 z2
 have mr2:=m1.below k2
 refine hK _ _ ?_
 clear hK K
 refine aE ?_
 refine aJ ?_
 refine aD ?_
 refine Yp ?_
 refine aE ?_
 refine aT ?_
 refine dF (λq A W=>∃x:Nat,x≤4∧4-x≤q∧A.tmps.size=16∧A.defers=[]∧A.eval (.tmp 2)=.pointer (some ⟨w.heap.size,0,none⟩)∧A.eval (.tmp 3)=.pointer (some ⟨w1.heap.size,0,none⟩)∧A.eval (.tmp 0)=.int .i64 (n/8^x)∧A.eval (.tmp 4)=.int .i64 (3-(x:Int))∧Vh 48 W w.heap.size 4 4 (λ_=>iV 0)∧Vh 48 W w1.heap.size 4 4 (zG n x)∧Below w.heap.size w W∧w2.heap.size≤W.heap.size) 4 ⟨0,Yo,Yo,(bY _ _).trans hs,(aN _ _).trans hd,(Ye rfl),(Ye rfl),(aB rfl b0).trans (by rw[Int.pow_zero,Int.ediv_one]),(Ye rfl),mr2,Vh.congr m2 (aIm n),k1.trans (k2.mono Yo),Yo⟩ (λq B W hI2=>?_)
 clear b0 hs hd
 obtain⟨x,hx,hr2,hs,hd,b2,b3,b0,b4,mr,ml,kB,hW⟩:=hI2
 have hq:=aOm h0 h1 x
 by_cases hin:x<4
 ·refine aJ ?_
  refine aD (aI ?_)
  refine Yp ?_
  refine Yq (f9 (b:=true) _ _ rfl (Ye rfl) (aF _ _) (decide_eq_true Yo) _) ?_
  refine aE ?_
  refine bO (Ye rfl) (bK ?_)
  refine aJ (aT ?_)
  refine aD ?_
  iterate 2 refine Yp ?_
  refine Yq (aIH _ _ rfl (Ye rfl) (aF _ _) hq.1 _) ?_
  refine Yq (cZ (i:=3-x) _ _ _ _ rfl Tryz.underlying48 bS.size (aB rfl b3) (Ye rfl) Yo Yo _) ?_
  refine bR Yw (λK hK=>?_)
  refine fS _ _ _ _ rfl bS (Ye rfl) (Ye rfl) ml Yo rfl rfl rfl ?_
  intro w11 mm11 k11 z11
  have ml11:=Vh.congr mm11 (aIF n hin)
  have mr11:=mr.kept k11 Yo
  refine hK _ ?_
  clear hK K
  refine aE ?_
  refine aQ ?_
  refine Yp ?_
  refine Yq (aGZ _ _ rfl (Ye rfl) (aF _ _) hq.1 Yo _) ?_
  refine Yp ?_
  refine fT ?_
  refine aQ ?_
  refine Yp ?_
  refine Yq (uD _ _ rfl (Ye rfl) (aF _ _) Yo Yo _) ?_
  refine Yp ?_
  exact bP ⟨4-(x+1),Yo,x+1,Yo,Yo,(bY _ _).trans hs,(aN _ _).trans hd,(aB rfl b2),(aB rfl b3),(Ye rfl).trans (by rw[aM0]),(Ye rfl).trans (by congr 1;omega),mr11,ml11,aC kB k11 Yo Yo,Yo⟩
 ·refine aJ ?_
  refine aD (aI ?_)
  refine Yp ?_
  refine Yq (f9 (b:=false) _ _ rfl (Ye rfl) (aF _ _) (decide_eq_false Yo) _) ?_
  obtain rfl:x=4:=Yo
  have ml:=Vh.congr ml (aIk n)
  refine aE ?_
  refine bL (Ye rfl) (dA (eJ ?_))
  refine aD ?_
  refine Yq (aO _ _ rfl oK (aB rfl b3) ml Yc) ?_
  refine bR Yw (λK hK=>?_)
  refine aH _ _ _ _ rfl oK (aB rfl b2) (Ye rfl) mr Yc (λj hj=>rfl) rfl ?_
  intro w11 mm11 k11 z11
  have mr11:=Vh.congr mm11 (dP _ _)
  have ml11:=ml.kept k11 Yo
  refine hK _ ?_
  clear hK K
  refine aE ?_
  refine bC (aZ ((aN _ _).trans hd) (nD rfl (aB rfl b2) oK mr11 (Nat.le_refl _)) ⟨rfl,aC kB k11 Yo Yo⟩)
theorem tB(x:Value)(w:World):(callFunc 101 #[x]).run Tryz.prog w=.ok (.enter 101 #[x]) w:=by go_simp
theorem aCt(x y:Value)(w:World):(callFunc 84 #[x,y]).run Tryz.prog w=.ok (.enter 84 #[x,y]) w:=by go_simp
def hJ(s m j:Int):Rl:=⟨λi=>decide (s/2^i%2=1),vR m,vR j⟩
def gX(s m j:Int):Bool:=wiB s 15&&(wiB m 4095&&wiB j 4095)
def rlP(s m j:Int)(x:Nat):Rl:=⟨λi=>if i<x then decide (s/2^i%2=1) else false,vR m,vR j⟩
theorem aHX{s m j:Int}:rlP s m j 0=⟨λ_=>false,vR m,vR j⟩:=by
 unfold rlP
 congr 1
theorem aIl(s m j:Int){x:Nat}(hx:x<4):∀i,i<12→fW (cD (rlP s m j x)) (0+0+x*1) (.bool (decide (s/2^x%2=1))) i=cD (rlP s m j (x+1)) i:=by
 intro i _
 unfold fW
 rw[show 0+0+x*1=x by omega]
 by_cases e:i=x
 ·rw[if_pos e]
  unfold cD rlP
  rw[if_pos Yo]
  dsimp only
  rw[if_pos Yo,e]
 ·rw[if_neg e]
  unfold cD rlP
  dsimp only
  by_cases c4:i<4
  ·rw[if_pos c4,if_pos c4]
   by_cases c:i<x
   ·rw[if_pos c,if_pos Yo]
   ·rw[if_neg c,if_neg Yo]
  ·rw[if_neg c4,if_neg c4]
theorem aHv(s m j:Int):∀i,i<12→cD (rlP s m j 4) i=cD (hJ s m j) i:=by
 intro i _
 unfold cD rlP hJ
 dsimp only
 by_cases c4:i<4
 ·rw[if_pos c4,if_pos c4,if_pos c4]
 ·rw[if_neg c4,if_neg c4]
theorem aOQ{s:Int}(h0:0≤s)(h1:s≤15)(x:Nat):0≤s/2^x∧s/2^x≤15:=
 ⟨Int.ediv_nonneg h0 (Int.pow_nonneg Yc),Int.le_trans (Int.ediv_le_self _ h0) h1⟩
theorem aJP(n:Int)(i:Nat):R64 (vR n i):=by
 unfold vR R64
 omega
theorem aBz{x l:Int}(h:wiB x l=true):0≤x∧x≤l:=by
 unfold wiB at h
 simpa using h
set_option maxHeartbeats 2000000 in
theorem aAg(s m j:Int)(w:World):Calls Tryz.prog 114 #[.int .i64 s,.int .i64 m,.int .i64 j] w λe w'=>e=.returned (.tuple #[aU (cD (if gX s m j then hJ s m j else zeroR)) 0 12,.bool (gX s m j&&kP (hJ s m j))])∧Below w.heap.size w w':=by
 refine bW Tryz.func114 rfl 44 rfl Yd (λA hs hd hb=>?_)
 have b0:A.eval (.tmp 0)=.int .i64 s:=hb 0 _ rfl
 have b1:A.eval (.tmp 1)=.int .i64 m:=hb 1 _ rfl
 have b2:A.eval (.tmp 2)=.int .i64 j:=hb 2 _ rfl
 clear hb
 rcases h1:wiB s 15 with _|_
 ·refine aD (aI ?_)
  refine aR rfl Yw (λK hK=>?_)
  refine aS _ _ rfl iU Yd ?_
  intro w1 m1 k1 z1
  refine hK _ _ ?_
  clear hK K
  refine Yp ?_
  refine aE ?_
  refine aJ ?_
  refine aD ?_
  refine Yp ?_
  refine aR rfl Yw (λK hK=>?_)
  have C2:=fK s 15 w1
  rw[h1] at C2
  refine cG _ 127 _ _ _ rfl (Ye rfl) (aF _ _) (eD _ _ _) C2 ?_
  rintro e w2 ⟨rfl,k2⟩
  have n2:=k2.size
  have mr2:=m1.below k2
  refine⟨_,rfl,?_⟩
  refine hK _ _ ?_
  clear hK K
  refine Yq (cX _ _ rfl (Ye rfl) _) ?_
  refine Yp ?_
  iterate 3 refine Yu ?_
  refine Yq (aW _ _ _ rfl (Ye rfl) (aF _ _) _) ?_
  refine Yp ?_
  iterate 3 refine Yu ?_
  refine Yq (aW _ _ _ rfl (Ye rfl) (aF _ _) _) ?_
  refine aE ?_
  refine bO (Ye rfl) ?_
  refine aD ?_
  refine Yq (rU rfl _) ?_
  refine bR Yw (λK hK=>?_)
  refine aH _ _ _ _ rfl cO (Ye rfl) (Ye rfl) mr2 Yc (eB _) rfl ?_
  intro w3 mm3 k3 z3
  have mr3:=Vh.congr mm3 (d6 _ _)
  refine hK _ ?_
  clear hK K
  refine Yp ?_
  refine aE ?_
  refine bC ?_
  simp only[Nx,Exit.then]
  refine aZ ((aN _ _).trans hd) (kZ rfl (Ye rfl) (Ye rfl) cO mr3 (Nat.le_refl _)) ⟨?_,aC ((k1).trans (k2.mono Yo)) k3 Yo Yo⟩
  rw[show gX s m j=false by unfold gX;rw[h1];rfl]
  rfl
 ·rcases h2:wiB m 4095 with _|_
  ·refine aD (aI ?_)
   refine aR rfl Yw (λK hK=>?_)
   refine aS _ _ rfl iU Yd ?_
   intro w1 m1 k1 z1
   refine hK _ _ ?_
   clear hK K
   refine Yp ?_
   refine aE ?_
   refine aJ ?_
   refine aD ?_
   refine Yp ?_
   refine aR rfl Yw (λK hK=>?_)
   have C2:=fK s 15 w1
   rw[h1] at C2
   refine cG _ 127 _ _ _ rfl (Ye rfl) (aF _ _) (eD _ _ _) C2 ?_
   rintro e w2 ⟨rfl,k2⟩
   have n2:=k2.size
   have mr2:=m1.below k2
   refine⟨_,rfl,?_⟩
   refine hK _ _ ?_
   clear hK K
   refine Yq (cX _ _ rfl (Ye rfl) _) ?_
   iterate 2 refine Yp ?_
   refine aR rfl (bB (j:=3) rfl rfl rfl (Ye rfl)) (λK hK=>?_)
   have C3:=fK m 4095 w2
   rw[h2] at C3
   refine cG _ 127 _ _ _ rfl (Ye rfl) (aF _ _) (eD _ _ _) C3 ?_
   rintro e w3 ⟨rfl,k3⟩
   have n3:=k3.size
   have mr3:=mr2.below k3
   refine⟨_,rfl,?_⟩
   refine hK _ _ ?_
   clear hK K
   refine Yq (cX _ _ rfl (Ye rfl) _) ?_
   refine Yq (bG _ _ _ rfl (Ye rfl) (Ye rfl) _) ?_
   refine Yp ?_
   iterate 3 refine Yu ?_
   refine Yq (aW _ _ _ rfl (Ye rfl) (aF _ _) _) ?_
   refine aE ?_
   refine bO (Ye rfl) ?_
   refine aD ?_
   refine Yq (rU rfl _) ?_
   refine bR Yw (λK hK=>?_)
   refine aH _ _ _ _ rfl cO (Ye rfl) (Ye rfl) mr3 Yc (eB _) rfl ?_
   intro w4 mm4 k4 z4
   have mr4:=Vh.congr mm4 (d6 _ _)
   refine hK _ ?_
   clear hK K
   refine Yp ?_
   refine aE ?_
   refine bC ?_
   simp only[Nx,Exit.then]
   refine aZ ((aN _ _).trans hd) (kZ rfl (Ye rfl) (Ye rfl) cO mr4 (Nat.le_refl _)) ⟨?_,aC (((k1).trans (k2.mono Yo)).trans (k3.mono Yo)) k4 Yo Yo⟩
   rw[show gX s m j=false by unfold gX;rw[h1,h2];rfl]
   rfl
  ·rcases h3:wiB j 4095 with _|_
   ·refine aD (aI ?_)
    refine aR rfl Yw (λK hK=>?_)
    refine aS _ _ rfl iU Yd ?_
    intro w1 m1 k1 z1
    refine hK _ _ ?_
    clear hK K
    refine Yp ?_
    refine aE ?_
    refine aJ ?_
    refine aD ?_
    refine Yp ?_
    refine aR rfl Yw (λK hK=>?_)
    have C2:=fK s 15 w1
    rw[h1] at C2
    refine cG _ 127 _ _ _ rfl (Ye rfl) (aF _ _) (eD _ _ _) C2 ?_
    rintro e w2 ⟨rfl,k2⟩
    have n2:=k2.size
    have mr2:=m1.below k2
    refine⟨_,rfl,?_⟩
    refine hK _ _ ?_
    clear hK K
    refine Yq (cX _ _ rfl (Ye rfl) _) ?_
    iterate 2 refine Yp ?_
    refine aR rfl (bB (j:=3) rfl rfl rfl (Ye rfl)) (λK hK=>?_)
    have C3:=fK m 4095 w2
    rw[h2] at C3
    refine cG _ 127 _ _ _ rfl (Ye rfl) (aF _ _) (eD _ _ _) C3 ?_
    rintro e w3 ⟨rfl,k3⟩
    have n3:=k3.size
    have mr3:=mr2.below k3
    refine⟨_,rfl,?_⟩
    refine hK _ _ ?_
    clear hK K
    refine Yq (cX _ _ rfl (Ye rfl) _) ?_
    refine Yq (bG _ _ _ rfl (Ye rfl) (Ye rfl) _) ?_
    iterate 2 refine Yp ?_
    refine aR rfl (bB (j:=8) rfl rfl rfl (Ye rfl)) (λK hK=>?_)
    have C4:=fK j 4095 w3
    rw[h3] at C4
    refine cG _ 127 _ _ _ rfl (Ye rfl) (aF _ _) (eD _ _ _) C4 ?_
    rintro e w4 ⟨rfl,k4⟩
    have n4:=k4.size
    have mr4:=mr3.below k4
    refine⟨_,rfl,?_⟩
    refine hK _ _ ?_
    clear hK K
    refine Yq (cX _ _ rfl (Ye rfl) _) ?_
    refine Yq (bG _ _ _ rfl (Ye rfl) (Ye rfl) _) ?_
    refine aE ?_
    refine bO (Ye rfl) ?_
    refine aD ?_
    refine Yq (rU rfl _) ?_
    refine bR Yw (λK hK=>?_)
    refine aH _ _ _ _ rfl cO (Ye rfl) (Ye rfl) mr4 Yc (eB _) rfl ?_
    intro w5 mm5 k5 z5
    have mr5:=Vh.congr mm5 (d6 _ _)
    refine hK _ ?_
    clear hK K
    refine Yp ?_
    refine aE ?_
    refine bC ?_
    simp only[Nx,Exit.then]
    refine aZ ((aN _ _).trans hd) (kZ rfl (Ye rfl) (Ye rfl) cO mr5 (Nat.le_refl _)) ⟨?_,aC ((((k1).trans (k2.mono Yo)).trans (k3.mono Yo)).trans (k4.mono Yo)) k5 Yo Yo⟩
    rw[show gX s m j=false by unfold gX;rw[h1,h2,h3];rfl]
    rfl
   ·obtain⟨hs0,hs1⟩:=aBz h1
    obtain⟨hm0,hm1⟩:=aBz h2
    obtain⟨hj0,hj1⟩:=aBz h3
    refine aD (aI ?_)
    refine aR rfl Yw (λK hK=>?_)
    refine aS _ _ rfl iU Yd ?_
    intro w1 m1 k1 z1
    refine hK _ _ ?_
    clear hK K
    refine Yp ?_
    refine aE ?_
    refine aJ ?_
    refine aD ?_
    refine Yp ?_
    refine aR rfl Yw (λK hK=>?_)
    have C2:=fK s 15 w1
    rw[h1] at C2
    refine cG _ 127 _ _ _ rfl (Ye rfl) (aF _ _) (eD _ _ _) C2 ?_
    rintro e w2 ⟨rfl,k2⟩
    have n2:=k2.size
    have mr2:=m1.below k2
    refine⟨_,rfl,?_⟩
    refine hK _ _ ?_
    clear hK K
    refine Yq (cX _ _ rfl (Ye rfl) _) ?_
    iterate 2 refine Yp ?_
    refine aR rfl (bB (j:=3) rfl rfl rfl (Ye rfl)) (λK hK=>?_)
    have C3:=fK m 4095 w2
    rw[h2] at C3
    refine cG _ 127 _ _ _ rfl (Ye rfl) (aF _ _) (eD _ _ _) C3 ?_
    rintro e w3 ⟨rfl,k3⟩
    have n3:=k3.size
    have mr3:=mr2.below k3
    refine⟨_,rfl,?_⟩
    refine hK _ _ ?_
    clear hK K
    refine Yq (cX _ _ rfl (Ye rfl) _) ?_
    refine Yq (bG _ _ _ rfl (Ye rfl) (Ye rfl) _) ?_
    iterate 2 refine Yp ?_
    refine aR rfl (bB (j:=8) rfl rfl rfl (Ye rfl)) (λK hK=>?_)
    have C4:=fK j 4095 w3
    rw[h3] at C4
    refine cG _ 127 _ _ _ rfl (Ye rfl) (aF _ _) (eD _ _ _) C4 ?_
    rintro e w4 ⟨rfl,k4⟩
    have n4:=k4.size
    have mr4:=mr3.below k4
    refine⟨_,rfl,?_⟩
    refine hK _ _ ?_
    clear hK K
    refine Yq (cX _ _ rfl (Ye rfl) _) ?_
    refine Yq (bG _ _ _ rfl (Ye rfl) (Ye rfl) _) ?_
    refine aE ?_
    refine bL (Ye rfl) (bK ?_)
    refine aD ?_
    refine Yp ?_
    refine aR rfl Yw (λK hK=>?_)
    refine bM _ 128 _ _ rfl (Ye rfl) (sA _ _) (wP m _ Yo Yo) ?_
    rintro e w5 ⟨rfl,k5⟩
    have n5:=k5.size
    have mr5:=mr4.below k5
    refine⟨_,rfl,?_⟩
    refine hK _ _ ?_
    clear hK K
    refine Yp ?_
    refine aR rfl Yw (λK hK=>?_)
    refine bM _ 128 _ _ rfl (Ye rfl) (sA _ _) (wP j _ Yo Yo) ?_
    rintro e w6 ⟨rfl,k6⟩
    have n6:=k6.size
    have mr6:=mr5.below k6
    refine⟨_,rfl,?_⟩
    refine hK _ _ ?_
    clear hK K
    refine Yq (aGV _ _ rfl (Ye rfl) (Ye rfl) _) ?_
    refine aR rfl Yw (λK hK=>?_)
    refine aS _ _ rfl iU Yd ?_
    intro w7 m7 k7 z7
    have mr7:=mr6.below k7
    refine hK _ _ ?_
    clear hK K
    refine bR Yw (λK hK=>?_)
    refine aH _ _ _ _ rfl cO (Ye rfl) (Ye rfl) m7 Yc (eB _) rfl ?_
    intro w8 mm8 k8 z8
    have mp8:=Vh.congr mm8 (d6 _ _)
    have mr8:=mr7.kept k8 Yo
    refine hK _ ?_
    clear hK K
    refine aE ?_
    refine aJ ?_
    refine aD ?_
    refine Yp ?_
    refine aE ?_
    refine aT ?_
    refine dF (λq A W=>∃x:Nat,x≤4∧4-x≤q∧A.tmps.size=44∧A.defers=[]∧A.eval (.tmp 0)=.int .i64 s∧A.eval (.tmp 6)=.pointer (some ⟨w.heap.size,0,none⟩)∧A.eval (.tmp 8)=.pointer (some ⟨w6.heap.size,0,none⟩)∧A.eval (.tmp 29)=.int .i64 (x:Int)∧Vh 50 W w.heap.size 12 12 (cD zeroR)∧Vh 50 W w6.heap.size 12 12 (cD (rlP s m j x))∧Below w.heap.size w W∧w8.heap.size≤W.heap.size) 4 ⟨0,Yo,Yo,(bY _ _).trans hs,(aN _ _).trans hd,(aB rfl b0),(Ye rfl),(Ye rfl),(Ye rfl),mr8,by rw[aHX];exact mp8,aC (((((((k1).trans (k2.mono Yo)).trans (k3.mono Yo)).trans (k4.mono Yo)).trans (k5.mono Yo)).trans (k6.mono Yo)).trans (k7.mono Yo)) k8 Yo Yo,Yo⟩ (λq B W hI2=>?_)
    clear b0 b1 b2 hs hd
    obtain⟨x,hx,hr2,hs,hd,b0,b6,b8,b29,mr,mp,kB,hW⟩:=hI2
    by_cases hin:x<4
    ·have hsx:=aOQ hs0 hs1 x
     refine aD (aI ?_)
     refine Yq (aY (b:=true) _ _ rfl (aB rfl b29) (aF _ _) (decide_eq_true Yo) _) ?_
     refine aE ?_
     refine aJ (bO (Ye rfl) (bK ?_))
     refine aJ (aT ?_)
     refine aD ?_
     iterate 2 refine Yp ?_
     refine aE ?_
     refine aQ ?_
     iterate 3 refine Yp ?_
     refine Yq (aIb _ _ rfl (Ye rfl) (Ye rfl) Yo _) ?_
     refine Yq (aJv _ _ rfl (Ye rfl) (aF _ _) hsx.1 hsx.2 _) ?_
     refine Yq (cE (b:=decide (s/2^x%2=1)) _ _ rfl (Ye rfl) (aF _ _) rfl _) ?_
     refine Yq (wE rfl (aB rfl b8) _) ?_
     refine Yq (cZ _ _ _ _ rfl Tryz.underlying47 oZ.size (Ye rfl) (Ye rfl) rfl hin _) ?_
     refine bR Yw (λK hK=>?_)
     refine fS _ _ _ _ rfl oZ (Ye rfl) (Ye rfl) mp Yo rfl rfl rfl ?_
     intro w11 mm11 k11 z11
     have mp11:=Vh.congr mm11 (aIl s m j hin)
     have mr11:=mr.kept k11 Yo
     refine hK _ ?_
     clear hK K
     refine fT ?_
     refine aQ ?_
     refine Yq (bU _ _ rfl (aB rfl b29) (aF _ _) Yo Yo _) ?_
     refine Yp ?_
     exact bP ⟨4-(x+1),Yo,x+1,Yo,Yo,(bY _ _).trans hs,(aN _ _).trans hd,(aB rfl b0),(aB rfl b6),(aB rfl b8),(Ye rfl).trans (by rw[Int.natCast_add];rfl),mr11,mp11,aC kB k11 Yo Yo,Yo⟩
    ·refine aD (aI ?_)
     refine Yq (aY (b:=false) _ _ rfl (aB rfl b29) (aF _ _) (decide_eq_false Yo) _) ?_
     obtain rfl:x=4:=Yo
     have mp:=Vh.congr mp (aHv s m j)
     refine aE ?_
     refine aJ (bL (Ye rfl) (dA (eJ ?_)))
     refine aJ ?_
     have hS0:(λZ=>Vh 50 Z w6.heap.size 12 12 (cD (hJ s m j))) W.drew:=mp
     have mr0:Vh _ W.drew _ _ _ _:=mr
     have mp0:Vh _ W.drew _ _ _ _:=mp
     have ez:W.drew.heap.size=W.heap.size:=rfl
     refine eO (S:=λZ=>Vh 50 Z w6.heap.size 12 12 (cD (hJ s m j))) (.rd 0 (.rd 1 (.go 2 (.go 3 (.mv 4 .fin))))) [] (by kernel_rfl) (by kernel_rfl) ?_
     refine Yr rfl hS0 (λ_ hS=>aO _ _ rfl cO (aB rfl b8) hS Yc) ?_
     refine Yr rfl hS0 (λ_ hS=>aO _ _ rfl cO (aB rfl b8) hS Yc) ?_
     refine cM rfl rfl Yw (λK hK=>?_)
     refine bM _ 98 _ _ rfl (Ye rfl) (aCc _ _) (vP (hJ s m j) _ (λi _=>⟨aJP _ _,aJP _ _⟩)) ?_
     rintro e w11 ⟨rfl,k11⟩
     have n11:=k11.size
     have mr11:=mr0.below k11
     have mp11:=hS0.below k11
     have hS11:(λZ=>Vh 50 Z w6.heap.size 12 12 (cD (hJ s m j))) w11:=mp11
     refine⟨_,rfl,?_⟩
     refine hK _ _ (λ_ _=>hS11) ?_
     clear hK K
     refine dQ rfl Yw (λK hK=>?_)
     refine aH _ _ _ _ rfl cO (aB rfl b6) (Ye rfl) mr11 Yc (eB _) rfl ?_
     intro w12 mm12 k12 z12
     have mr12:=Vh.congr mm12 (d6 _ _)
     have mp12:=mp11.kept k12 Yo
     have hS12:(λZ=>Vh 50 Z w6.heap.size 12 12 (cD (hJ s m j))) w12:=mp12
     refine hK _ (λ_ _=>hS12) ?_
     clear hK K
     refine Yj ?_
     refine fN ?_
     refine bC ?_
     refine aZ ((aN _ _).trans hd) (kZ rfl (aB rfl b6) (Ye rfl) cO mr12 (Nat.le_refl _)) ⟨?_,aC ((aP kB).trans (k11.mono Yo)) k12 Yo Yo⟩
     rw[show gX s m j=true by unfold gX;rw[h1,h2,h3];rfl,Bool.true_and]
     rfl
theorem tD {P : Program} {w : World} {a : Act} {fn : Func} {p p' p2 : Nat} {ty ty' : TypeId} {b b' n n' N N' cap cap' : Nat} {t t' : TypeId} {g g' : Nat → Value} {v : Value} (h : fn.results = #[.cell p ty, .cell p' ty', .tmp p2]) (hv : a.eval (.tmp p) = .pointer (some ⟨b, 0, none⟩)) (hv' : a.eval (.tmp p') = .pointer (some ⟨b', 0, none⟩)) (h2 : a.eval (.tmp p2) = v) (T : Many P ty n) (T' : Many P ty' n') (hm : Vh t w b N cap g) (hn : n ≤ N) (hm' : Vh t' w b' N' cap' g') (hn' : n' ≤ N') :
  (results fn a.tmps).run P w=.ok (.tuple #[aU g 0 n,aU g' 0 n',v]) w:=by
 have e:=iR hv;have e2:=iR hv';have e3:=iR h2
 simp only[Array.getD_eq_getD_getElem?] at e e2 e3
 simp[results,h,e,e2,e3,asAddr,kW T hm hn,kW T' hm' hn']
theorem aNe(v:List Int):unOK v=(iK (gL v)&&(gX (gL v 21) (gL v 22) (gL v 23)&&kP (hJ (gL v 21) (gL v 22) (gL v 23)))):=by
 have e:kP (unR v)=kP (hJ (gL v 21) (gL v 22) (gL v 23)):=rfl
 unfold unOK iK gX wiB
 rw[e,show (List.range 3).all (λa=>decide (0≤v.getD (7*a+5) 0)&&decide (v.getD (7*a+5) 0≤1))=((decide (0≤gL v 5)&&decide (gL v 5≤1))&&((decide (0≤gL v 12)&&decide (gL v 12≤1))&&((decide (0≤gL v 19)&&decide (gL v 19≤1))&&true))) from rfl]
 show (_&&decide (0≤gL v 21)&&decide (gL v 21≤15)&&decide (0≤gL v 22)&&decide (gL v 22≤4095)&&decide (0≤gL v 23)&&decide (gL v 23≤4095)&&_)=_
 simp only[Bool.and_true,Bool.and_assoc]
theorem r7{v:List Int}(hl:v.length=24):(decide (v.length=24)&&unOK v)=(iK (gL v)&&(gX (gL v 21) (gL v 22) (gL v 23)&&kP (hJ (gL v 21) (gL v 22) (gL v 23)))):=by
 rw[decide_eq_true hl,Bool.true_and,aNe]
theorem aMB{v:List Int}(h:iK (gL v)=true){a:Nat}(ha:a<3):kQ (gL v) a=unA v a:=by
 have hb:wiB (gL v (7*a+5)) 1=true:=by
  unfold iK at h
  simp only[Bool.and_eq_true] at h
  match a,ha with
  |0,_=>exact h.1
  |1,_=>exact h.2.1
  |2,_=>exact h.2.2
 obtain⟨h0,h1⟩:=aBz hb
 have e:decide (gL v (7*a+5)=1)=decide (0<v.getD (7*a+5) 0):=by
  show decide (gL v (7*a+5)=1)=decide (0<gL v (7*a+5))
  exact decide_eq_decide.2 Yo
 unfold kQ axS unA
 dsimp only
 rw[e]
 rfl
set_option maxHeartbeats 2000000 in
theorem yF (v : List Int) (to : Option Addr) (tc : Nat) (w : World) (hsr : Sr w to v.length tc (iF (gL v))) (htl : v.length ≤ tc) :
  Calls Tryz.prog 101 #[.slice to v.length tc] w λe w'=>∃fx fr:Nat→Value,e=.returned (.tuple #[aU fx 0 21,aU fr 0 12,.bool (decide (v.length=24)&&unOK v)])∧(∀j,j<21→(fx j).oneCell'=true)∧(∀j,j<12→(fr j).oneCell'=true)∧((decide (v.length=24)&&unOK v)=true→(∀i,i<21→fx i=cK (unA v (i/7)) (i%7))∧∀i,i<12→fr i=cD (unR v) i)∧Below w.heap.size w w':=by
 refine bW Tryz.func101 rfl 38 rfl Yd (λA hs hd hb=>?_)
 have b0:A.eval (.tmp 0)=.slice to v.length tc:=hb 0 _ rfl
 clear hb
 by_cases hne:((v.length:Nat):Int)≠24
 ·rw[decide_eq_false (show ¬v.length=24 by omega),Bool.false_and]
  refine aD (aI ?_)
  refine aR rfl Yw (λK hK=>?_)
  refine aS _ _ rfl qL Yd ?_
  intro w1 m1 k1 z1
  refine hK _ _ ?_
  clear hK K
  refine aR rfl Yw (λK hK=>?_)
  refine aS _ _ rfl iU Yd ?_
  intro w2 m2 k2 z2
  have ma2:=m1.below k2
  refine hK _ _ ?_
  clear hK K
  refine Yp ?_
  refine aE ?_
  refine aJ ?_
  refine aD ?_
  refine Yp ?_
  refine Yq (dL _ rfl (Ye rfl) _) ?_
  refine Yq (dO (b:=true) _ _ rfl (Ye rfl) (aF _ _) (decide_eq_true hne) _) ?_
  refine aE ?_
  refine bO (Ye rfl) ?_
  refine aD ?_
  refine Yq (aA9 rfl _) ?_
  refine Yq (rU rfl _) ?_
  refine bR Yw (λK hK=>?_)
  refine aH _ _ _ _ rfl dS (Ye rfl) (Ye rfl) ma2 Yc (λj _=>dK _ _ Yo) rfl ?_
  intro w3 mm3 k3 z3
  have ma3:=Vh.congr mm3 (iA _ _)
  have mb3:=m2.kept k3 Yo
  refine hK _ ?_
  clear hK K
  refine bR Yw (λK hK=>?_)
  refine aH _ _ _ _ rfl cO (Ye rfl) (Ye rfl) mb3 Yc (eB _) rfl ?_
  intro w4 mm4 k4 z4
  have mb4:=Vh.congr mm4 (d6 _ _)
  have ma4:=ma3.kept k4 Yo
  refine hK _ ?_
  clear hK K
  refine Yp ?_
  refine aE ?_
  refine bC ?_
  simp only[Nx,Exit.then]
  refine aZ ((aN _ _).trans hd) (tD rfl (Ye rfl) (Ye rfl) (Ye rfl) dS cO ma4 (Nat.le_refl _) mb4 (Nat.le_refl _)) ⟨_,_,rfl,(λj _=>dK _ _ Yo),eB _,λh=>absurd h Yc,aC (aC (k1.trans (k2.mono Yo)) k3 Yo Yo) k4 Yo Yo⟩
 ·have hl:v.length=24:=Yo
  have htc:24≤tc:=Yo
  obtain⟨y,rfl,hy⟩:∃y,to=some y∧∀i,i<24→w.cell? (y.add i)=some (.int .i64 (gL v i)):=by
   rcases hsr with ⟨_,e,_⟩|⟨y,e,hc⟩
   ·omega
   ·exact⟨y,e,λi hi=>hc i Yo⟩
  refine aD (aI ?_)
  refine aR rfl Yw (λK hK=>?_)
  refine aS _ _ rfl qL Yd ?_
  intro w1 m1 k1 z1
  refine hK _ _ ?_
  clear hK K
  refine aR rfl Yw (λK hK=>?_)
  refine aS _ _ rfl iU Yd ?_
  intro w2 m2 k2 z2
  have ma2:=m1.below k2
  refine hK _ _ ?_
  clear hK K
  refine Yp ?_
  refine aE ?_
  refine aJ ?_
  refine aD ?_
  refine Yp ?_
  refine Yq (dL _ rfl (Ye rfl) _) ?_
  refine Yq (dO (b:=false) _ _ rfl (Ye rfl) (aF _ _) (decide_eq_false (λe=>e (by rw[hl];rfl))) _) ?_
  refine aE ?_
  refine bL (Ye rfl) (bK ?_)
  refine aD ?_
  refine Yp ?_
  refine aR rfl Yw (λK hK=>?_)
  have C3:=aEB y tc (gL v) w2 htc (λi hi=>bD (hy i hi) (k1.trans (k2.mono Yo)))
  rw[←hl] at C3
  refine bM _ 113 _ _ rfl (Ye rfl) (aBn _ _) C3 ?_
  rintro e w3 ⟨rfl,k3⟩
  have n3:=k3.size
  have ma3:=ma2.below k3
  have mb3:=m2.below k3
  refine⟨_,rfl,?_⟩
  refine hK _ _ ?_
  clear hK K
  refine Yp ?_
  refine Yq (j9 _ rfl (Ye rfl) _) ?_
  refine Yq (kF _ rfl (Ye rfl) _) ?_
  refine aR rfl Yw (λK hK=>?_)
  refine aS _ _ rfl qL Yd ?_
  intro w4 m4 k4 z4
  have ma4:=ma3.below k4
  have mb4:=mb3.below k4
  refine hK _ _ ?_
  clear hK K
  refine bR Yw (λK hK=>?_)
  refine aH _ _ _ _ rfl dS (Ye rfl) (Ye rfl) m4 Yc (λj _=>dK _ _ Yo) rfl ?_
  intro w5 mm5 k5 z5
  have mx5:=Vh.congr mm5 (iA _ _)
  have ma5:=ma4.kept k5 Yo
  have mb5:=mb4.kept k5 Yo
  refine hK _ ?_
  clear hK K
  refine Yp ?_
  refine aE ?_
  refine aJ ?_
  have kA:Below w.heap.size w w5.drew:=aP (aC ((((k1).trans (k2.mono Yo)).trans (k3.mono Yo)).trans (k4.mono Yo)) k5 Yo Yo)
  have hS0:(λZ=>∀i,i<24→Z.cell? (y.add i)=some (.int .i64 (gL v i))) w5.drew:=λi hi=>bD (hy i hi) kA
  have ma0:Vh _ w5.drew _ _ _ _:=ma5
  have mb0:Vh _ w5.drew _ _ _ _:=mb5
  have mx0:Vh _ w5.drew _ _ _ _:=mx5
  have ez:w5.drew.heap.size=w5.heap.size:=rfl
  refine eO (S:=λZ=>∀i,i<24→Z.cell? (y.add i)=some (.int .i64 (gL v i))) (.mv 0 (.mv 1 (.rd 2 (.mv 3 (.mv 4 (.rd 5 (.mv 6 (.mv 7 (.rd 8 (.two 9 13 (.mv 10 (.mv 11 (.mv 12 (.go 13 (.go 14 (.mv 15 .fin)))))) (.go 9 (.mv 10 (.mv 11 (.mv 12 (.go 14 (.mv 15 .fin)))))))))))))))) [14] (by kernel_rfl) (by kernel_rfl) ?_
  refine Yj ?_
  refine Yk rfl (λ_=>eH _ _ rfl (a:=y) (n:=v.length) (cap:=tc) (Ye rfl) (aF _ _) (i:=21) rfl Yo _) ?_
  refine Yr rfl hS0 (λ_ hS=>eI _ rfl (Ye rfl) (hS 21 Yc)) ?_
  refine Yj ?_
  refine Yk rfl (λ_=>eH _ _ rfl (a:=y) (n:=v.length) (cap:=tc) (Ye rfl) (aF _ _) (i:=22) rfl Yo _) ?_
  refine Yr rfl hS0 (λ_ hS=>eI _ rfl (Ye rfl) (hS 22 Yc)) ?_
  refine Yj ?_
  refine Yk rfl (λ_=>eH _ _ rfl (a:=y) (n:=v.length) (cap:=tc) (Ye rfl) (aF _ _) (i:=23) rfl Yo _) ?_
  refine Yr rfl hS0 (λ_ hS=>eI _ rfl (Ye rfl) (hS 23 Yc)) ?_
  refine zW ?_ ?_
  ·refine cM rfl rfl Yw (λK hK=>?_)
   refine fF _ 114 _ _ _ _ rfl (Ye rfl) (Ye rfl) (Ye rfl) (vN _ _ _ _) (aAg (gL v 21) (gL v 22) (gL v 23) _) ?_
   rintro e w6 ⟨rfl,k6⟩
   have n6:=k6.size
   have ma6:=ma0.below k6
   have mb6:=mb0.below k6
   have mx6:=mx0.below k6
   have hS6:(λZ=>∀i,i<24→Z.cell? (y.add i)=some (.int .i64 (gL v i))) w6:=λi hi=>bD (hS0 i hi) k6
   refine⟨_,rfl,?_⟩
   refine hK _ _ (λ_ _=>hS6) ?_
   clear hK K
   refine Yj ?_
   refine Yk rfl (λ_=>j9 _ rfl (Ye rfl) _) ?_
   refine Yk rfl (λ_=>kF _ rfl (Ye rfl) _) ?_
   refine cM rfl rfl Yw (λK hK=>?_)
   refine aS _ _ rfl iU Yd ?_
   intro w7 m7 k7 z7
   have ma7:=ma6.below k7
   have mb7:=mb6.below k7
   have mx7:=mx6.below k7
   have hS7:(λZ=>∀i,i<24→Z.cell? (y.add i)=some (.int .i64 (gL v i))) w7:=λi hi=>bD (hS6 i hi) k7
   refine hK _ _ (λ_ _=>hS7) ?_
   clear hK K
   refine dQ rfl Yw (λK hK=>?_)
   refine aH _ _ _ _ rfl cO (f:=cD (if gX (gL v 21) (gL v 22) (gL v 23) then hJ (gL v 21) (gL v 22) (gL v 23) else zeroR)) (Ye rfl) (Ye rfl) m7 Yc (eB _) rfl ?_
   intro w8 mm8 k8 z8
   have mp8:=Vh.congr mm8 (d6 _ _)
   have ma8:=ma7.kept k8 Yo
   have mb8:=mb7.kept k8 Yo
   have mx8:=mx7.kept k8 Yo
   refine hK _ (λh=>absurd h Yc) ?_
   clear hK K
   refine Yj ?_
   refine fN ?_
   refine aJ ?_
   have kB:Below w.heap.size w w8.drew:=aP (aC ((kA.trans (k6.mono Yo)).trans (k7.mono Yo)) k8 Yo Yo)
   have hS0:(λZ=>Vh 46 Z w3.heap.size 21 21 (λi=>cK (if iK (gL v) then kQ (gL v) (i/7) else St.nil') (i%7))∧Vh 50 Z (w6.heap.size) 12 12 (cD (if gX (gL v 21) (gL v 22) (gL v 23) then hJ (gL v 21) (gL v 22) (gL v 23) else zeroR))) w8.drew:=⟨mx8,mp8⟩
   have ma0:Vh _ w8.drew _ _ _ _:=ma8
   have mb0:Vh _ w8.drew _ _ _ _:=mb8
   have mx0:Vh _ w8.drew _ _ _ _:=mx8
   have mp0:Vh _ w8.drew _ _ _ _:=mp8
   have ez:w8.drew.heap.size=w8.heap.size:=rfl
   rcases hoa:iK (gL v) with _|_
   ·refine eO (S:=λZ=>Vh 46 Z w3.heap.size 21 21 (λi=>cK (if iK (gL v) then kQ (gL v) (i/7) else St.nil') (i%7))∧Vh 50 Z (w6.heap.size) 12 12 (cD (if gX (gL v 21) (gL v 22) (gL v 23) then hJ (gL v 21) (gL v 22) (gL v 23) else zeroR))) (.rd 0 (.rd 1 (.mv 2 (.mv 3 (.mv 4 (.mv 5 (.go 6 (.go 7 (.mv 8 .fin))))))))) [] (by kernel_rfl) (by kernel_rfl) ?_
    refine Yr rfl hS0 (λ_ hS=>aO _ _ rfl dS (Ye rfl) hS.1 Yc) ?_
    refine Yr rfl hS0 (λ_ hS=>aO _ _ rfl cO (Ye rfl) hS.2 Yc) ?_
    iterate 2 refine Yj ?_
    refine aGv rfl rfl (λ_ _ _ h=>h) (dH (j:=3) rfl rfl rfl (Ye rfl) Yc) ?_
    refine Yk rfl (λ_=>bG _ _ _ rfl (Ye rfl) (aF _ _) _) ?_
    refine dQ rfl Yw (λK hK=>?_)
    refine aH _ _ _ _ rfl dS (Ye rfl) (Ye rfl) ma0 Yc (λj _=>dK _ _ Yo) rfl ?_
    intro w9 mm9 k9 z9
    have ma9:=Vh.congr mm9 (iA _ _)
    have mb9:=mb0.kept k9 Yo
    have mx9:=mx0.kept k9 Yo
    have mp9:=mp0.kept k9 Yo
    have hS9:(λZ=>Vh 46 Z w3.heap.size 21 21 (λi=>cK (if iK (gL v) then kQ (gL v) (i/7) else St.nil') (i%7))∧Vh 50 Z (w6.heap.size) 12 12 (cD (if gX (gL v 21) (gL v 22) (gL v 23) then hJ (gL v 21) (gL v 22) (gL v 23) else zeroR))) w9:=⟨mx9,mp9⟩
    refine hK _ (λ_ _=>hS9) ?_
    clear hK K
    refine dQ rfl Yw (λK hK=>?_)
    refine aH _ _ _ _ rfl cO (Ye rfl) (Ye rfl) mb9 Yc (eB _) rfl ?_
    intro w10 mm10 k10 z10
    have mb10:=Vh.congr mm10 (d6 _ _)
    have ma10:=ma9.kept k10 Yo
    have mx10:=mx9.kept k10 Yo
    have mp10:=mp9.kept k10 Yo
    have hS10:(λZ=>Vh 46 Z w3.heap.size 21 21 (λi=>cK (if iK (gL v) then kQ (gL v) (i/7) else St.nil') (i%7))∧Vh 50 Z (w6.heap.size) 12 12 (cD (if gX (gL v 21) (gL v 22) (gL v 23) then hJ (gL v 21) (gL v 22) (gL v 23) else zeroR))) w10:=⟨mx10,mp10⟩
    refine hK _ (λ_ _=>hS10) ?_
    clear hK K
    refine Yj ?_
    refine fN ?_
    refine bC ?_
    refine aZ ((aN _ _).trans hd) (tD rfl (Ye rfl) (Ye rfl) (Ye rfl) dS cO ma10 (Nat.le_refl _) mb10 (Nat.le_refl _)) ⟨(λi=>cK (if iK (gL v) then kQ (gL v) (i/7) else St.nil') (i%7)),cD (if gX (gL v 21) (gL v 22) (gL v 23) then hJ (gL v 21) (gL v 22) (gL v 23) else zeroR),?_,(λj _=>dK _ _ Yo),eB _,?_,aC (aC kB k9 Yo Yo) k10 Yo Yo⟩
    ·rw[r7 hl,hoa]
     rfl
    ·intro h
     rw[r7 hl,hoa] at h
     cases h
   ·refine eO (S:=λZ=>Vh 46 Z w3.heap.size 21 21 (λi=>cK (if iK (gL v) then kQ (gL v) (i/7) else St.nil') (i%7))∧Vh 50 Z (w6.heap.size) 12 12 (cD (if gX (gL v 21) (gL v 22) (gL v 23) then hJ (gL v 21) (gL v 22) (gL v 23) else zeroR))) (.rd 0 (.rd 1 (.mv 2 (.mv 3 (.mv 4 (.mv 5 (.go 6 (.go 7 (.mv 8 .fin))))))))) [] (by kernel_rfl) (by kernel_rfl) ?_
    refine Yr rfl hS0 (λ_ hS=>aO _ _ rfl dS (Ye rfl) hS.1 Yc) ?_
    refine Yr rfl hS0 (λ_ hS=>aO _ _ rfl cO (Ye rfl) hS.2 Yc) ?_
    iterate 3 refine Yj ?_
    refine Yk rfl (λ_=>aW _ _ _ rfl (Ye rfl) (Ye rfl) _) ?_
    refine dQ rfl Yw (λK hK=>?_)
    refine aH _ _ _ _ rfl dS (Ye rfl) (Ye rfl) ma0 Yc (λj _=>dK _ _ Yo) rfl ?_
    intro w9 mm9 k9 z9
    have ma9:=Vh.congr mm9 (iA _ _)
    have mb9:=mb0.kept k9 Yo
    have mx9:=mx0.kept k9 Yo
    have mp9:=mp0.kept k9 Yo
    have hS9:(λZ=>Vh 46 Z w3.heap.size 21 21 (λi=>cK (if iK (gL v) then kQ (gL v) (i/7) else St.nil') (i%7))∧Vh 50 Z (w6.heap.size) 12 12 (cD (if gX (gL v 21) (gL v 22) (gL v 23) then hJ (gL v 21) (gL v 22) (gL v 23) else zeroR))) w9:=⟨mx9,mp9⟩
    refine hK _ (λ_ _=>hS9) ?_
    clear hK K
    refine dQ rfl Yw (λK hK=>?_)
    refine aH _ _ _ _ rfl cO (Ye rfl) (Ye rfl) mb9 Yc (eB _) rfl ?_
    intro w10 mm10 k10 z10
    have mb10:=Vh.congr mm10 (d6 _ _)
    have ma10:=ma9.kept k10 Yo
    have mx10:=mx9.kept k10 Yo
    have mp10:=mp9.kept k10 Yo
    have hS10:(λZ=>Vh 46 Z w3.heap.size 21 21 (λi=>cK (if iK (gL v) then kQ (gL v) (i/7) else St.nil') (i%7))∧Vh 50 Z (w6.heap.size) 12 12 (cD (if gX (gL v 21) (gL v 22) (gL v 23) then hJ (gL v 21) (gL v 22) (gL v 23) else zeroR))) w10:=⟨mx10,mp10⟩
    refine hK _ (λ_ _=>hS10) ?_
    clear hK K
    refine Yj ?_
    refine fN ?_
    refine bC ?_
    refine aZ ((aN _ _).trans hd) (tD rfl (Ye rfl) (Ye rfl) (Ye rfl) dS cO ma10 (Nat.le_refl _) mb10 (Nat.le_refl _)) ⟨(λi=>cK (if iK (gL v) then kQ (gL v) (i/7) else St.nil') (i%7)),cD (if gX (gL v 21) (gL v 22) (gL v 23) then hJ (gL v 21) (gL v 22) (gL v 23) else zeroR),?_,(λj _=>dK _ _ Yo),eB _,?_,aC (aC kB k9 Yo Yo) k10 Yo Yo⟩
    ·rw[r7 hl,hoa]
     rfl
    ·intro h
     rw[r7 hl,hoa,Bool.true_and,Bool.and_eq_true] at h
     refine⟨λi _=>?_,?_⟩
     ·dsimp only
      rw[if_pos hoa,aMB hoa Yo]
     ·intro i _
      rw[if_pos h.1]
      rfl
  ·refine cM rfl rfl Yw (λK hK=>?_)
   refine aS _ _ rfl iU Yd ?_
   intro w6 m6 k6 z6
   have ma6:=ma0.below k6
   have mb6:=mb0.below k6
   have mx6:=mx0.below k6
   have hS6:(λZ=>∀i,i<24→Z.cell? (y.add i)=some (.int .i64 (gL v i))) w6:=λi hi=>bD (hS0 i hi) k6
   refine hK _ _ (λ_ _=>hS6) ?_
   clear hK K
   refine cM rfl rfl Yw (λK hK=>?_)
   refine fF _ 114 _ _ _ _ rfl (Ye rfl) (Ye rfl) (Ye rfl) (vN _ _ _ _) (aAg (gL v 21) (gL v 22) (gL v 23) _) ?_
   rintro e w7 ⟨rfl,k7⟩
   have n7:=k7.size
   have ma7:=ma6.below k7
   have mb7:=mb6.below k7
   have mx7:=mx6.below k7
   have mp7:=m6.below k7
   have hS7:(λZ=>∀i,i<24→Z.cell? (y.add i)=some (.int .i64 (gL v i))) w7:=λi hi=>bD (hS6 i hi) k7
   refine⟨_,rfl,?_⟩
   refine hK _ _ (λ_ _=>hS7) ?_
   clear hK K
   refine Yj ?_
   refine Yk rfl (λ_=>j9 _ rfl (Ye rfl) _) ?_
   refine Yk rfl (λ_=>kF _ rfl (Ye rfl) _) ?_
   refine dQ rfl Yw (λK hK=>?_)
   refine aH _ _ _ _ rfl cO (f:=cD (if gX (gL v 21) (gL v 22) (gL v 23) then hJ (gL v 21) (gL v 22) (gL v 23) else zeroR)) (Ye rfl) (Ye rfl) mp7 Yc (eB _) rfl ?_
   intro w8 mm8 k8 z8
   have mp8:=Vh.congr mm8 (d6 _ _)
   have ma8:=ma7.kept k8 Yo
   have mb8:=mb7.kept k8 Yo
   have mx8:=mx7.kept k8 Yo
   refine hK _ (λh=>absurd h Yc) ?_
   clear hK K
   refine Yj ?_
   refine fN ?_
   refine aJ ?_
   have kB:Below w.heap.size w w8.drew:=aP (aC ((kA.trans (k6.mono Yo)).trans (k7.mono Yo)) k8 Yo Yo)
   have hS0:(λZ=>Vh 46 Z w3.heap.size 21 21 (λi=>cK (if iK (gL v) then kQ (gL v) (i/7) else St.nil') (i%7))∧Vh 50 Z (w5.drew.heap.size) 12 12 (cD (if gX (gL v 21) (gL v 22) (gL v 23) then hJ (gL v 21) (gL v 22) (gL v 23) else zeroR))) w8.drew:=⟨mx8,mp8⟩
   have ma0:Vh _ w8.drew _ _ _ _:=ma8
   have mb0:Vh _ w8.drew _ _ _ _:=mb8
   have mx0:Vh _ w8.drew _ _ _ _:=mx8
   have mp0:Vh _ w8.drew _ _ _ _:=mp8
   have ez:w8.drew.heap.size=w8.heap.size:=rfl
   rcases hoa:iK (gL v) with _|_
   ·refine eO (S:=λZ=>Vh 46 Z w3.heap.size 21 21 (λi=>cK (if iK (gL v) then kQ (gL v) (i/7) else St.nil') (i%7))∧Vh 50 Z (w5.drew.heap.size) 12 12 (cD (if gX (gL v 21) (gL v 22) (gL v 23) then hJ (gL v 21) (gL v 22) (gL v 23) else zeroR))) (.rd 0 (.rd 1 (.mv 2 (.mv 3 (.mv 4 (.mv 5 (.go 6 (.go 7 (.mv 8 .fin))))))))) [] (by kernel_rfl) (by kernel_rfl) ?_
    refine Yr rfl hS0 (λ_ hS=>aO _ _ rfl dS (Ye rfl) hS.1 Yc) ?_
    refine Yr rfl hS0 (λ_ hS=>aO _ _ rfl cO (Ye rfl) hS.2 Yc) ?_
    iterate 2 refine Yj ?_
    refine aGv rfl rfl (λ_ _ _ h=>h) (dH (j:=3) rfl rfl rfl (Ye rfl) Yc) ?_
    refine Yk rfl (λ_=>bG _ _ _ rfl (Ye rfl) (aF _ _) _) ?_
    refine dQ rfl Yw (λK hK=>?_)
    refine aH _ _ _ _ rfl dS (Ye rfl) (Ye rfl) ma0 Yc (λj _=>dK _ _ Yo) rfl ?_
    intro w9 mm9 k9 z9
    have ma9:=Vh.congr mm9 (iA _ _)
    have mb9:=mb0.kept k9 Yo
    have mx9:=mx0.kept k9 Yo
    have mp9:=mp0.kept k9 Yo
    have hS9:(λZ=>Vh 46 Z w3.heap.size 21 21 (λi=>cK (if iK (gL v) then kQ (gL v) (i/7) else St.nil') (i%7))∧Vh 50 Z (w5.drew.heap.size) 12 12 (cD (if gX (gL v 21) (gL v 22) (gL v 23) then hJ (gL v 21) (gL v 22) (gL v 23) else zeroR))) w9:=⟨mx9,mp9⟩
    refine hK _ (λ_ _=>hS9) ?_
    clear hK K
    refine dQ rfl Yw (λK hK=>?_)
    refine aH _ _ _ _ rfl cO (Ye rfl) (Ye rfl) mb9 Yc (eB _) rfl ?_
    intro w10 mm10 k10 z10
    have mb10:=Vh.congr mm10 (d6 _ _)
    have ma10:=ma9.kept k10 Yo
    have mx10:=mx9.kept k10 Yo
    have mp10:=mp9.kept k10 Yo
    have hS10:(λZ=>Vh 46 Z w3.heap.size 21 21 (λi=>cK (if iK (gL v) then kQ (gL v) (i/7) else St.nil') (i%7))∧Vh 50 Z (w5.drew.heap.size) 12 12 (cD (if gX (gL v 21) (gL v 22) (gL v 23) then hJ (gL v 21) (gL v 22) (gL v 23) else zeroR))) w10:=⟨mx10,mp10⟩
    refine hK _ (λ_ _=>hS10) ?_
    clear hK K
    refine Yj ?_
    refine fN ?_
    refine bC ?_
    refine aZ ((aN _ _).trans hd) (tD rfl (Ye rfl) (Ye rfl) (Ye rfl) dS cO ma10 (Nat.le_refl _) mb10 (Nat.le_refl _)) ⟨(λi=>cK (if iK (gL v) then kQ (gL v) (i/7) else St.nil') (i%7)),cD (if gX (gL v 21) (gL v 22) (gL v 23) then hJ (gL v 21) (gL v 22) (gL v 23) else zeroR),?_,(λj _=>dK _ _ Yo),eB _,?_,aC (aC kB k9 Yo Yo) k10 Yo Yo⟩
    ·rw[r7 hl,hoa]
     rfl
    ·intro h
     rw[r7 hl,hoa] at h
     cases h
   ·refine eO (S:=λZ=>Vh 46 Z w3.heap.size 21 21 (λi=>cK (if iK (gL v) then kQ (gL v) (i/7) else St.nil') (i%7))∧Vh 50 Z (w5.drew.heap.size) 12 12 (cD (if gX (gL v 21) (gL v 22) (gL v 23) then hJ (gL v 21) (gL v 22) (gL v 23) else zeroR))) (.rd 0 (.rd 1 (.mv 2 (.mv 3 (.mv 4 (.mv 5 (.go 6 (.go 7 (.mv 8 .fin))))))))) [] (by kernel_rfl) (by kernel_rfl) ?_
    refine Yr rfl hS0 (λ_ hS=>aO _ _ rfl dS (Ye rfl) hS.1 Yc) ?_
    refine Yr rfl hS0 (λ_ hS=>aO _ _ rfl cO (Ye rfl) hS.2 Yc) ?_
    iterate 3 refine Yj ?_
    refine Yk rfl (λ_=>aW _ _ _ rfl (Ye rfl) (Ye rfl) _) ?_
    refine dQ rfl Yw (λK hK=>?_)
    refine aH _ _ _ _ rfl dS (Ye rfl) (Ye rfl) ma0 Yc (λj _=>dK _ _ Yo) rfl ?_
    intro w9 mm9 k9 z9
    have ma9:=Vh.congr mm9 (iA _ _)
    have mb9:=mb0.kept k9 Yo
    have mx9:=mx0.kept k9 Yo
    have mp9:=mp0.kept k9 Yo
    have hS9:(λZ=>Vh 46 Z w3.heap.size 21 21 (λi=>cK (if iK (gL v) then kQ (gL v) (i/7) else St.nil') (i%7))∧Vh 50 Z (w5.drew.heap.size) 12 12 (cD (if gX (gL v 21) (gL v 22) (gL v 23) then hJ (gL v 21) (gL v 22) (gL v 23) else zeroR))) w9:=⟨mx9,mp9⟩
    refine hK _ (λ_ _=>hS9) ?_
    clear hK K
    refine dQ rfl Yw (λK hK=>?_)
    refine aH _ _ _ _ rfl cO (Ye rfl) (Ye rfl) mb9 Yc (eB _) rfl ?_
    intro w10 mm10 k10 z10
    have mb10:=Vh.congr mm10 (d6 _ _)
    have ma10:=ma9.kept k10 Yo
    have mx10:=mx9.kept k10 Yo
    have mp10:=mp9.kept k10 Yo
    have hS10:(λZ=>Vh 46 Z w3.heap.size 21 21 (λi=>cK (if iK (gL v) then kQ (gL v) (i/7) else St.nil') (i%7))∧Vh 50 Z (w5.drew.heap.size) 12 12 (cD (if gX (gL v 21) (gL v 22) (gL v 23) then hJ (gL v 21) (gL v 22) (gL v 23) else zeroR))) w10:=⟨mx10,mp10⟩
    refine hK _ (λ_ _=>hS10) ?_
    clear hK K
    refine Yj ?_
    refine fN ?_
    refine bC ?_
    refine aZ ((aN _ _).trans hd) (tD rfl (Ye rfl) (Ye rfl) (Ye rfl) dS cO ma10 (Nat.le_refl _) mb10 (Nat.le_refl _)) ⟨(λi=>cK (if iK (gL v) then kQ (gL v) (i/7) else St.nil') (i%7)),cD (if gX (gL v 21) (gL v 22) (gL v 23) then hJ (gL v 21) (gL v 22) (gL v 23) else zeroR),?_,(λj _=>dK _ _ Yo),eB _,?_,aC (aC kB k9 Yo Yo) k10 Yo Yo⟩
    ·rw[r7 hl,hoa]
     rfl
    ·intro h
     rw[r7 hl,hoa,Bool.true_and,Bool.and_eq_true] at h
     refine⟨λi _=>?_,?_⟩
     ·dsimp only
      rw[if_pos hoa,aMB hoa Yo]
     ·intro i _
      rw[if_pos h.1]
      rfl
theorem eG(x:Value)(w:World):(callFunc 52 #[x]).run Tryz.prog w=.ok (.enter 52 #[x]) w:=by go_simp
theorem lF(x:Value)(w:World):(callFunc 70 #[x]).run Tryz.prog w=.ok (.enter 70 #[x]) w:=by go_simp
theorem kO(x y z:Value)(w:World):(callFunc 71 #[x,y,z]).run Tryz.prog w=.ok (.enter 71 #[x,y,z]) w:=by go_simp
theorem lZ(x y z u:Value)(w:World):(callFunc 72 #[x,y,z,u]).run Tryz.prog w=.ok (.enter 72 #[x,y,z,u]) w:=by go_simp
theorem aBW(x y:Value)(w:World):(callFunc 80 #[x,y]).run Tryz.prog w=.ok (.enter 80 #[x,y]) w:=by go_simp
theorem aDi(x:Value)(w:World):(callFunc 73 #[x]).run Tryz.prog w=.ok (.enter 73 #[x]) w:=by go_simp
theorem oB(x y:Value)(w:World):(callFunc 78 #[x,y]).run Tryz.prog w=.ok (.enter 78 #[x,y]) w:=by go_simp
theorem zI(x:Value)(w:World):(callFunc 93 #[x]).run Tryz.prog w=.ok (.enter 93 #[x]) w:=by go_simp
theorem zB(x:Value)(w:World):(callFunc 94 #[x]).run Tryz.prog w=.ok (.enter 94 #[x]) w:=by go_simp
theorem oQ(x:Value)(w:World):(callFunc 95 #[x]).run Tryz.prog w=.ok (.enter 95 #[x]) w:=by go_simp
theorem fY(id:Int)(w:World):Calls Tryz.prog 52 #[.int .i64 id] w λe w'=>e=.returned (.bool (!iB id))∧Below w.heap.size w w':=by
 unfold iB
 by_cases h1:id<0
 ·rw[decide_eq_true h1,Bool.true_or]
  refine bW Tryz.func52 rfl 9 rfl Yd (λA hs hd hb=>?_)
  have b0:=hb 0 _ rfl
  clear hb
  refine aD (aI ?_)
  refine Yp ?_
  refine aE ?_
  refine aD ?_
  refine Yp ?_
  refine Yq (f9 (b:=false) _ _ rfl (Ye rfl) (aF _ _) (decide_eq_false Yo) _) ?_
  refine Yp ?_
  iterate 2 refine Yu ?_
  refine Yq (bG _ _ _ rfl (Ye rfl) (aF _ _) _) ?_
  refine Yp ?_
  refine aE ?_
  exact bC (aZ ((aN _ _).trans hd) (dC rfl (Ye rfl)) ⟨rfl,Below.refl _ _⟩)
 ·by_cases h2:3<id
  ·rw[decide_eq_false h1,decide_eq_true h2,Bool.or_true]
   refine bW Tryz.func52 rfl 9 rfl Yd (λA hs hd hb=>?_)
   have b0:=hb 0 _ rfl
   clear hb
   refine aD (aI ?_)
   refine Yp ?_
   refine aE ?_
   refine aD ?_
   refine Yp ?_
   refine Yq (f9 (b:=true) _ _ rfl (Ye rfl) (aF _ _) (decide_eq_true Yo) _) ?_
   iterate 2 refine Yp ?_
   refine Yq (aY (b:=false) _ _ rfl (Ye rfl) (aF _ _) (decide_eq_false Yo) _) ?_
   refine Yq (aW _ _ _ rfl (Ye rfl) (Ye rfl) _) ?_
   refine Yp ?_
   refine aE ?_
   exact bC (aZ ((aN _ _).trans hd) (dC rfl (Ye rfl)) ⟨rfl,Below.refl _ _⟩)
  ·rw[decide_eq_false h1,decide_eq_false h2,Bool.or_false]
   refine bW Tryz.func52 rfl 9 rfl Yd (λA hs hd hb=>?_)
   have b0:=hb 0 _ rfl
   clear hb
   refine aD (aI ?_)
   refine Yp ?_
   refine aE ?_
   refine aD ?_
   refine Yp ?_
   refine Yq (f9 (b:=true) _ _ rfl (Ye rfl) (aF _ _) (decide_eq_true Yo) _) ?_
   iterate 2 refine Yp ?_
   refine Yq (aY (b:=true) _ _ rfl (Ye rfl) (aF _ _) (decide_eq_true Yo) _) ?_
   refine Yq (aW _ _ _ rfl (Ye rfl) (Ye rfl) _) ?_
   refine Yp ?_
   refine aE ?_
   exact bC (aZ ((aN _ _).trans hd) (dC rfl (Ye rfl)) ⟨rfl,Below.refl _ _⟩)
theorem pP (n : Nd) (ao : Option Addr) (c : Nat) (w : World) (hs0 : Sr w ao n.vA.length c (tF (bA n))) (hl : n.vA.length ≤ 140737488351232) :
  Calls Tryz.prog 70 #[i5 n (.slice ao n.vA.length c)] w λe w'=>∃a' c',e=.returned (i5 n (.slice a' n.vA.length c'))∧w'.ownsRow w.heap.size 4 1 (.slice a' n.vA.length c') n.vA.length (rowV (tF (bA n)) n.vA.length)∧Below w.heap.size w w':=by
 refine bW Tryz.func70 rfl 10 rfl Yd (λA hs hd hb=>?_)
 have b0:=hb 0 _ rfl
 clear hb
 refine aD (aI ?_)
 refine aR rfl Yw (λK hK=>?_)
 refine dD _ _ _ rfl (aB rfl b0) Yd ?_
 intro w1 m1 k1 z1
 have sr1:=hs0.below k1
 refine hK _ _ ?_
 clear hK K
 refine aR rfl Yw (λK hK=>?_)
 refine aS _ _ rfl kJ Yd ?_
 intro w2 m2 k2 z2
 have mn2:=m1.below k2
 have sr2:=sr1.below k2
 refine hK _ _ ?_
 clear hK K
 refine aE ?_
 refine aD ?_
 refine Yq (kN rfl (Ye rfl) _) ?_
 refine Yq (aFb rfl (Ye rfl) _) ?_
 refine Yq (aM _ _ rfl aJ2 (Ye rfl) mn2 Yc rfl) ?_
 refine aR rfl Yw (λK hK=>?_)
 refine⟨aIe _ _ _ rfl w2.heap.size (Nat.le_refl _) (.slice none 0 0) 0 [] rfl (World.ownsRow_nil _ _ _ _) ao n.vA.length c (tF (bA n)) (Ye rfl) sr2 (λi _=>rfl) Yo ?_⟩
 intro v3 w3 o3 k3
 rw[Nat.zero_add,List.nil_append] at o3
 obtain⟨a3,c3,rfl,hc3⟩:=eQ o3
 have mn3:=mn2.below k3
 have mr3:=m2.below k3
 refine hK _ _ ?_
 clear hK K
 refine Yq (kN rfl (Ye rfl) _) ?_
 refine Yq (aFb rfl (Ye rfl) _) ?_
 refine bR Yw (λK hK=>?_)
 refine fS _ _ _ _ rfl aJ2 (Ye rfl) (Ye rfl) mn3 Yc rfl rfl rfl ?_
 intro w4 mm4 k4 z4
 have mn4:=Vh.congr mm4 (aCn _ _ _)
 have mr4:=mr3.kept k4 Yo
 have ow4:=fQ o3 k4 Yo
 refine hK _ ?_
 clear hK K
 refine aE ?_
 refine aD ?_
 refine Yq (aO _ _ rfl aV (Ye rfl) mn4 Yc) ?_
 refine bR Yw (λK hK=>?_)
 refine aH _ _ _ _ rfl aV (Ye rfl) (Ye rfl) mr4 Yc (cB _ _ _ _) rfl ?_
 intro w5 mm5 k5 z5
 have mr5:=Vh.congr mm5 (dB _ _)
 have mn5:=mn4.kept k5 Yo
 have ow5:=fQ ow4 k5 Yo
 refine hK _ ?_
 clear hK K
 refine aE ?_
 refine bC (aZ ((aN _ _).trans hd) (nD rfl (Ye rfl) aV mr5 (Nat.le_refl _)) ⟨a3,c3,rfl,cR ow5 Yo,?_⟩)
 exact aC (aC ((k1.trans (k2.mono Yo)).trans (k3.mono Yo)) k4 Yo (by have:=k3.size;omega)) k5 Yo (by have:=k3.size;omega)
theorem oD (n : Nd) (nv : Value) (kind : Int) (vo : Option Addr) (vn vc : Nat) (g : Nat → Int) (w : World) (hsr : Sr w vo vn vc (iF g)) (hl : vn ≤ 17592186044404) :
  Calls Tryz.prog 71 #[i5 n nv,.int .i64 kind,.slice vo vn vc] w λe w'=>∃a2 c2,e=.returned (aU (iP kind n.id n.fr (.slice a2 vn c2)) 0 4)∧w'.ownsRow w.heap.size 3 1 (.slice a2 vn c2) vn (rowV (iF g) vn)∧Below w.heap.size w w':=by
 refine bW Tryz.func71 rfl 15 rfl Yd (λA hs hd hb=>?_)
 have b0:=hb 0 _ rfl
 have b1:=hb 1 _ rfl
 have b2:=hb 2 _ rfl
 clear hb
 refine aD (aI ?_)
 refine aR rfl Yw (λK hK=>?_)
 refine dD _ _ _ rfl (aB rfl b0) Yd ?_
 intro w1 m1 k1 z1
 have sr1:=hsr.below k1
 refine hK _ _ ?_
 clear hK K
 refine aR rfl Yw (λK hK=>?_)
 refine aS _ _ rfl jT Yd ?_
 intro w2 m2 k2 z2
 have mn2:=m1.below k2
 have sr2:=sr1.below k2
 refine hK _ _ ?_
 clear hK K
 refine aE ?_
 refine aJ ?_
 have hS0:(λW=>Vh 55 W w.heap.size 74 74 (ndF n nv)) w2.drew:=mn2
 have mq0:Vh _ w2.drew _ _ _ _:=m2
 have sr0:Sr w2.drew _ _ _ _:=sr2
 have ez:w2.drew.heap.size=w2.heap.size:=rfl
 refine eO (S:=λW=>Vh 55 W w.heap.size 74 74 (ndF n nv)) (.mv 0 (.mv 1 (.rd 2 (.mv 3 (.rd 4 (.mv 5 (.go 6 (.mv 7 (.go 8 .fin))))))))) [] (by kernel_rfl) (by kernel_rfl) ?_
 refine Yj ?_
 refine Yk rfl (λ_=>iL rfl (Ye rfl) _) ?_
 refine Yr rfl hS0 (λ_ hS=>aM _ _ rfl bS (Ye rfl) hS Yc rfl) ?_
 refine Yk rfl (λ_=>nE rfl (Ye rfl) _) ?_
 refine Yr rfl hS0 (λ_ hS=>aM _ _ rfl bS (Ye rfl) hS Yc rfl) ?_
 refine Yj ?_
 refine cM rfl rfl Yw (λK hK=>?_)
 refine⟨mG _ _ _ rfl w2.drew.heap.size (Nat.le_refl _) (.slice none 0 0) 0 [] (aF _ _) (World.ownsRow_nil _ _ _ _) vo vn vc (iF g) (Ye rfl) sr0 (λi _=>rfl) Yo ?_⟩
 intro v3 w3 ov3 k3
 rw[Nat.zero_add,List.nil_append] at ov3
 obtain⟨a2,c2,rfl,hc2⟩:=eQ ov3
 have n3:=k3.size
 have hS3:(λW=>Vh 55 W w.heap.size 74 74 (ndF n nv)) w3:=hS0.below k3
 have mq3:=mq0.below k3
 refine hK _ _ (λ_ _=>hS3) ?_
 clear hK K
 refine Yk rfl (λ_=>aHK _ _ _ _ rfl (Ye rfl) (Ye rfl) (Ye rfl) (Ye rfl) _) ?_
 refine dQ rfl Yw (λK hK=>?_)
 refine aH _ _ _ _ rfl dI (Ye rfl) (Ye rfl) mq3 Yc (eP _ _ _ _ _ _) rfl ?_
 intro w4 mm4 k4 z4
 have mq4:=Vh.congr mm4 (dP _ _)
 have hS4:(λW=>Vh 55 W w.heap.size 74 74 (ndF n nv)) w4:=hS3.kept k4 Yo
 have ov4:=fQ ov3 k4 Yo
 refine hK _ (λ_ _=>hS4) ?_
 clear hK K
 refine fN ?_
 refine bC (aZ ((aN _ _).trans hd) (nD rfl (Ye rfl) dI mq4 (Nat.le_refl _)) ⟨a2,c2,rfl,cR ov4 Yo,?_⟩)
 exact aC ((aP (k1.trans (k2.mono Yo))).trans (k3.mono Yo)) k4 Yo Yo
theorem pC(x:Value)(w:World):(callFunc 86 #[x]).run Tryz.prog w=.ok (.enter 86 #[x]) w:=by go_simp
def movN(n:Nd)(v:List Int):Nd:=if (decide (v.length=24)&&unOK v)=true then { n with ax:=unA v,rl:=unR v } else n
theorem aBF(n:Nd){nv:Value}(h:nv.oneCell'=true):∀j,j<74→(ndF n nv j).oneCell'=true:=by
 intro j _
 unfold ndF oH cK cD iV
 repeat' split
 all_goals first|exact h|rfl
theorem upd_axW(n:Nd)(v:Value){fx:Nat→Value}{ax:Nat→St}(hx:∀i,i<21→fx i=cK (ax (i/7)) (i%7)):∀j,j<74→dY (ndF n v) (0+6) 21 fx j=ndF { n with ax:=ax } v j:=by
 intro j hj
 unfold dY
 by_cases c:0+6≤j∧j<0+6+21
 ·rw[if_pos c,hx _ Yo]
  unfold ndF
  rw[if_neg (show ¬j<2 by omega),if_neg (show ¬j<6 by omega),if_pos (show j<27 by omega),show j-(0+6)=j-6 by omega]
 ·rw[if_neg c]
  unfold ndF
  dsimp only
  by_cases c2:j<2
  ·rw[if_pos c2,if_pos c2]
  ·rw[if_neg c2,if_neg c2]
   by_cases c6:j<6
   ·rw[if_pos c6,if_pos c6]
   ·rw[if_neg c6,if_neg c6]
    rw[if_neg (show ¬j<27 by omega),if_neg (show ¬j<27 by omega)]
theorem upd_rlW(n:Nd)(v:Value){fr:Nat→Value}{r:Rl}(hx:∀i,i<12→fr i=cD r i):∀j,j<74→dY (ndF n v) (0+27) 12 fr j=ndF { n with rl:=r } v j:=by
 intro j hj
 refine Eq.trans ?_ (upd_rl n v r j hj)
 unfold dY
 by_cases c:0+27≤j∧j<0+27+12
 ·rw[if_pos c,if_pos c,hx _ Yo]
 ·rw[if_neg c,if_neg c]
set_option maxHeartbeats 2000000 in
theorem aGM (n : Nd) (nv : Value) (v : List Int) (to : Option Addr) (tc : Nat) (w : World) (hnv : nv.oneCell' = true) (hsr : Sr w to v.length tc (iF (gL v))) (htl : v.length ≤ tc) :
  Calls Tryz.prog 84 #[i5 n nv,.slice to v.length tc] w λe w'=>e=.returned (i5 (movN n v) nv)∧Below w.heap.size w w':=by
 refine bW Tryz.func84 rfl 20 rfl Yd (λA hs hd hb=>?_)
 have b0:A.eval (.tmp 0)=i5 n nv:=hb 0 _ rfl
 have b1:A.eval (.tmp 1)=.slice to v.length tc:=hb 1 _ rfl
 clear hb
 rcases hb:(decide (v.length=24)&&unOK v) with _|_
 ·refine aD (aI ?_)
  refine aR rfl Yw (λK hK=>?_)
  refine dD _ _ _ rfl (aB rfl b0) Yd ?_
  intro w1 m1 k1 z1
  have sr1:=hsr.below k1
  refine hK _ _ ?_
  clear hK K
  refine aR rfl Yw (λK hK=>?_)
  refine aS _ _ rfl kJ Yd ?_
  intro w2 m2 k2 z2
  have mn2:=m1.below k2
  have sr2:=sr1.below k2
  refine hK _ _ ?_
  clear hK K
  refine aE ?_
  refine aJ ?_
  refine aD ?_
  refine Yp ?_
  refine aR rfl Yw (λK hK=>?_)
  have C3:=yF v to tc w2 sr2 htl
  rw[hb] at C3
  refine bM _ 101 _ _ rfl (Ye rfl) (tB _ _) C3 ?_
  rintro e w3 ⟨fx,fr,rfl,ofx,ofr,hfx,k3⟩
  have n3:=k3.size
  have mn3:=mn2.below k3
  have mr3:=m2.below k3
  refine⟨_,rfl,?_⟩
  refine hK _ _ ?_
  clear hK K
  refine Yp ?_
  refine Yq (jB _ rfl (Ye rfl) _) ?_
  refine Yq (i9 _ rfl (Ye rfl) _) ?_
  refine Yq (iX _ rfl (Ye rfl) _) ?_
  refine aR rfl Yw (λK hK=>?_)
  refine aS _ _ rfl qL Yd ?_
  intro w4 m4 k4 z4
  have mn4:=mn3.below k4
  have mr4:=mr3.below k4
  refine hK _ _ ?_
  clear hK K
  refine aR rfl Yw (λK hK=>?_)
  refine aS _ _ rfl iU Yd ?_
  intro w5 m5 k5 z5
  have mn5:=mn4.below k5
  have mr5:=mr4.below k5
  have ma5:=m4.below k5
  refine hK _ _ ?_
  clear hK K
  refine bR Yw (λK hK=>?_)
  refine aH _ _ _ _ rfl dS (f:=fx) (Ye rfl) (Ye rfl) ma5 Yc ofx rfl ?_
  intro w6 mm6 k6 z6
  have ma6:=Vh.congr mm6 (iA _ _)
  have mn6:=mn5.kept k6 Yo
  have mr6:=mr5.kept k6 Yo
  have mb6:=m5.kept k6 Yo
  refine hK _ ?_
  clear hK K
  refine bR Yw (λK hK=>?_)
  refine aH _ _ _ _ rfl cO (f:=fr) (Ye rfl) (Ye rfl) mb6 Yc ofr rfl ?_
  intro w7 mm7 k7 z7
  have mb7:=Vh.congr mm7 (d6 _ _)
  have mn7:=mn6.kept k7 Yo
  have mr7:=mr6.kept k7 Yo
  have ma7:=ma6.kept k7 Yo
  refine hK _ ?_
  clear hK K
  refine Yp ?_
  refine aE ?_
  refine aD ?_
  refine Yp ?_
  refine aE ?_
  refine bL (Ye rfl) (bK ?_)
  refine aD ?_
  refine Yq (aO _ _ rfl aV (Ye rfl) mn7 Yc) ?_
  refine bR Yw (λK hK=>?_)
  refine aH _ _ _ _ rfl aV (Ye rfl) (Ye rfl) mr7 Yc (aBF _ hnv) rfl ?_
  intro w8 mm8 k8 z8
  have mr8:=Vh.congr mm8 (dB _ _)
  have mn8:=mn7.kept k8 Yo
  have ma8:=ma7.kept k8 Yo
  have mb8:=mb7.kept k8 Yo
  refine hK _ ?_
  clear hK K
  refine aE ?_
  refine bC (aZ ((aN _ _).trans hd) (nD rfl (Ye rfl) aV mr8 (Nat.le_refl _)) ⟨?_,aC (aC (aC ((((k1.trans (k2.mono Yo)).trans (k3.mono Yo)).trans (k4.mono Yo)).trans (k5.mono Yo)) k6 Yo Yo) k7 Yo Yo) k8 Yo Yo⟩)
  unfold movN
  rw[hb]
  rfl
 ·refine aD (aI ?_)
  refine aR rfl Yw (λK hK=>?_)
  refine dD _ _ _ rfl (aB rfl b0) Yd ?_
  intro w1 m1 k1 z1
  have sr1:=hsr.below k1
  refine hK _ _ ?_
  clear hK K
  refine aR rfl Yw (λK hK=>?_)
  refine aS _ _ rfl kJ Yd ?_
  intro w2 m2 k2 z2
  have mn2:=m1.below k2
  have sr2:=sr1.below k2
  refine hK _ _ ?_
  clear hK K
  refine aE ?_
  refine aJ ?_
  refine aD ?_
  refine Yp ?_
  refine aR rfl Yw (λK hK=>?_)
  have C3:=yF v to tc w2 sr2 htl
  rw[hb] at C3
  refine bM _ 101 _ _ rfl (Ye rfl) (tB _ _) C3 ?_
  rintro e w3 ⟨fx,fr,rfl,ofx,ofr,hfx,k3⟩
  have n3:=k3.size
  have mn3:=mn2.below k3
  have mr3:=m2.below k3
  refine⟨_,rfl,?_⟩
  refine hK _ _ ?_
  clear hK K
  refine Yp ?_
  refine Yq (jB _ rfl (Ye rfl) _) ?_
  refine Yq (i9 _ rfl (Ye rfl) _) ?_
  refine Yq (iX _ rfl (Ye rfl) _) ?_
  refine aR rfl Yw (λK hK=>?_)
  refine aS _ _ rfl qL Yd ?_
  intro w4 m4 k4 z4
  have mn4:=mn3.below k4
  have mr4:=mr3.below k4
  refine hK _ _ ?_
  clear hK K
  refine aR rfl Yw (λK hK=>?_)
  refine aS _ _ rfl iU Yd ?_
  intro w5 m5 k5 z5
  have mn5:=mn4.below k5
  have mr5:=mr4.below k5
  have ma5:=m4.below k5
  refine hK _ _ ?_
  clear hK K
  refine bR Yw (λK hK=>?_)
  refine aH _ _ _ _ rfl dS (f:=fx) (Ye rfl) (Ye rfl) ma5 Yc ofx rfl ?_
  intro w6 mm6 k6 z6
  have ma6:=Vh.congr mm6 (iA _ _)
  have mn6:=mn5.kept k6 Yo
  have mr6:=mr5.kept k6 Yo
  have mb6:=m5.kept k6 Yo
  refine hK _ ?_
  clear hK K
  refine bR Yw (λK hK=>?_)
  refine aH _ _ _ _ rfl cO (f:=fr) (Ye rfl) (Ye rfl) mb6 Yc ofr rfl ?_
  intro w7 mm7 k7 z7
  have mb7:=Vh.congr mm7 (d6 _ _)
  have mn7:=mn6.kept k7 Yo
  have mr7:=mr6.kept k7 Yo
  have ma7:=ma6.kept k7 Yo
  refine hK _ ?_
  clear hK K
  refine Yp ?_
  refine aE ?_
  refine aD ?_
  refine Yp ?_
  refine aE ?_
  refine bO (Ye rfl) ?_
  have kA:Below w.heap.size w w7.drew:=aP (aC (aC ((((k1.trans (k2.mono Yo)).trans (k3.mono Yo)).trans (k4.mono Yo)).trans (k5.mono Yo)) k6 Yo Yo) k7 Yo Yo)
  obtain⟨hx1,hx2⟩:=hfx rfl
  have hS0:(λZ=>Vh 46 Z w3.heap.size 21 21 fx∧Vh 50 Z w4.heap.size 12 12 fr) w7.drew:=⟨ma7,mb7⟩
  have mn0:Vh _ w7.drew _ _ _ _:=mn7
  have mr0:Vh _ w7.drew _ _ _ _:=mr7
  have ma0:Vh _ w7.drew _ _ _ _:=ma7
  have mb0:Vh _ w7.drew _ _ _ _:=mb7
  have ez:w7.drew.heap.size=w7.heap.size:=rfl
  refine eO (S:=λZ=>Vh 46 Z w3.heap.size 21 21 fx∧Vh 50 Z w4.heap.size 12 12 fr) (.rd 0 (.rd 1 (.mv 2 (.go 3 (.mv 4 (.go 5 .fin)))))) [] (by kernel_rfl) (by kernel_rfl) ?_
  refine Yr rfl hS0 (λ_ hS=>aO _ _ rfl dS (Ye rfl) hS.1 Yc) ?_
  refine Yr rfl hS0 (λ_ hS=>aO _ _ rfl cO (Ye rfl) hS.2 Yc) ?_
  refine Yk rfl (λ_=>nK rfl (Ye rfl) _) ?_
  refine dQ rfl Yw (λK hK=>?_)
  refine aH _ _ _ _ rfl dS (f:=fx) (Ye rfl) (Ye rfl) mn0 Yc ofx rfl ?_
  intro w8 mm8 k8 z8
  have mn8:Vh 55 w8 w.heap.size 74 74 (ndF { n with ax:=unA v } nv):=Vh.congr mm8 (upd_axW n nv hx1)
  have mr8:=mr0.kept k8 Yo
  have ma8:=ma0.kept k8 Yo
  have mb8:=mb0.kept k8 Yo
  have hS8:(λZ=>Vh 46 Z w3.heap.size 21 21 fx∧Vh 50 Z w4.heap.size 12 12 fr) w8:=⟨ma8,mb8⟩
  refine hK _ (λ_ _=>hS8) ?_
  clear hK K
  refine Yk rfl (λ_=>mW rfl (Ye rfl) _) ?_
  refine dQ rfl Yw (λK hK=>?_)
  refine aH _ _ _ _ rfl cO (f:=fr) (Ye rfl) (Ye rfl) mn8 Yc ofr rfl ?_
  intro w9 mm9 k9 z9
  have mn9:Vh 55 w9 w.heap.size 74 74 (ndF { n with ax:=unA v,rl:=unR v } nv):=Vh.congr mm9 (upd_rlW { n with ax:=unA v } nv hx2)
  have mr9:=mr8.kept k9 Yo
  have ma9:=ma8.kept k9 Yo
  have mb9:=mb8.kept k9 Yo
  have hS9:(λZ=>Vh 46 Z w3.heap.size 21 21 fx∧Vh 50 Z w4.heap.size 12 12 fr) w9:=⟨ma9,mb9⟩
  refine hK _ (λ_ _=>hS9) ?_
  clear hK K
  refine fN ?_
  refine aD ?_
  refine Yq (aO _ _ rfl aV (Ye rfl) mn9 Yc) ?_
  refine bR Yw (λK hK=>?_)
  refine aH _ _ _ _ rfl aV (Ye rfl) (Ye rfl) mr9 Yc (aBF _ hnv) rfl ?_
  intro w10 mm10 k10 z10
  have mr10:=Vh.congr mm10 (dB _ _)
  have mn10:=mn9.kept k10 Yo
  have ma10:=ma9.kept k10 Yo
  have mb10:=mb9.kept k10 Yo
  refine hK _ ?_
  clear hK K
  refine aE ?_
  refine bC (aZ ((aN _ _).trans hd) (nD rfl (Ye rfl) aV mr10 (Nat.le_refl _)) ⟨?_,aC (aC (aC kA k8 Yo Yo) k9 Yo Yo) k10 Yo Yo⟩)
  unfold movN
  rw[hb]
  rfl
def vK(n:Nd)(x j:Nat):Value:=if j=0 then iV n.id else if j=1 then iV n.fr else if j<5 then iV (n.us (j-2)) else if j<8 then iV (if j-5<x then (n.ax (j-5)).X else 0) else if j=8 then iV n.dg else if j=9 then .bool n.vS else .bool (n.rl.I (j-10))
def sB(n:Nd):Nat→Value:=vK n 3
theorem mO(n:Nd)(x:Nat):∀j,j<14→(vK n x j).oneCell'=true:=by
 intro j _
 unfold vK iV
 repeat' split
 all_goals rfl
theorem aK1(n:Nd){x:Nat}(hx:x<3):∀j,j<14→fW (vK n x) (0+5+x*1) (.int .i64 (n.ax x).X) j=vK n (x+1) j:=by
 intro j _
 unfold fW
 rw[show 0+5+x*1=5+x by omega]
 by_cases e:j=5+x
 ·rw[if_pos e]
  unfold vK
  rw[if_neg Yo,if_neg Yo,if_neg Yo,if_pos Yo,if_pos Yo,show j-5=x by omega]
  rfl
 ·rw[if_neg e]
  unfold vK
  by_cases c0:j=0
  ·rw[if_pos c0,if_pos c0]
  rw[if_neg c0,if_neg c0]
  by_cases c1:j=1
  ·rw[if_pos c1,if_pos c1]
  rw[if_neg c1,if_neg c1]
  by_cases c5:j<5
  ·rw[if_pos c5,if_pos c5]
  rw[if_neg c5,if_neg c5]
  by_cases c8:j<8
  ·rw[if_pos c8,if_pos c8]
   by_cases c:j-5<x
   ·rw[if_pos c,if_pos Yo]
   ·rw[if_neg c,if_neg Yo]
  rw[if_neg c8,if_neg c8]
theorem kL:Many Tryz.prog 61 14:=Many.of _ Tryz.underlying61 rfl (by kernel_rfl)
theorem zT(w:World):(zeroValue 61).run Tryz.prog w=.ok (aU (vK dW 3) 0 14) w:=by kernel_rfl
theorem mK(g:Nat→Value)(h:Nat→Value):∀j,j<14→dY g 0 14 h j=h j:=λj hj=>by
 have:=jN g (o:=0) (n:=14) h hj
 rwa [Nat.zero_add] at this
theorem aOh(n:Nd)(v:Value):∀j,j<3→ndF n v (0+67+j)=iV (n.us j):=λj hj=>by
 unfold ndF
 rw[if_neg Yo,if_neg Yo,if_neg Yo,if_neg Yo,if_neg Yo,if_neg Yo,if_neg Yo,if_pos Yo,show 0+67+j-67=j by omega]
theorem aNU(n:Nd)(v:Value):∀j,j<21→ndF n v (0+6+j)=cK (n.ax (j/7)) (j%7):=λj hj=>by
 unfold ndF
 rw[if_neg Yo,if_neg Yo,if_pos Yo,show 0+6+j-6=j by omega]
theorem aKn(ax:Nat→St){x:Nat}:aU (λj=>cK (ax (j/7)) (j%7)) (x*7) 7=aU (cK (ax x)) 0 7:=by
 unfold aU
 congr 2
 refine List.map_congr_left (λj hj=>?_)
 have:=List.mem_range.1 hj
 show cK (ax ((x*7+j)/7)) ((x*7+j)%7)=cK (ax x) (0+j)
 rw[show (x*7+j)/7=x by omega,show (x*7+j)%7=j by omega,Nat.zero_add]
section
variable {f:Operand→Value} {o:Oper} {x:Operand} {b off:Nat}
theorem aNy(ho:o.op=.fieldAddr 61 x 3)(hx:f x=.pointer (some ⟨b,off,none⟩))(w:World):(execOp f o).run Tryz.prog w=.ok (.value (.pointer (some ⟨b,off+5,none⟩))) w:=by
 unfold execOp
 rw[ho]
 dsimp only
 rw[hx]
 go_simp
theorem aEW(ho:o.op=.build 61 #[])(w:World):(execOp f o).run Tryz.prog w=.ok (.value (aU (vK dW 3) 0 14)) w:=by
 unfold execOp
 rw[ho]
 dsimp only
 change _=_
 kernel_rfl
theorem aGy (a b c d e g : Operand) (ho : o.op = .build 61 #[(0, a), (1, b), (2, c), (4, d), (5, e), (6, g)]) {n : Nd} (h0 : f a = .int .i64 n.id) (h1 : f b = .int .i64 n.fr) (h2 : f c = aU (λi => iV (n.us i)) 0 3) (h3 : f d = .int .i64 n.dg) (h4 : f e = .bool n.vS) (h5 : f g = aU (tF n.rl.I) 0 4) (w : World) :
  (execOp f o).run Tryz.prog w=.ok (.value (aU (vK n 0) 0 14)) w:=by
 have h2':f c=.agg #[.int .i64 (n.us 0),.int .i64 (n.us 1),.int .i64 (n.us 2)]:=h2
 have h5':f g=.agg #[.bool (n.rl.I 0),.bool (n.rl.I 1),.bool (n.rl.I 2),.bool (n.rl.I 3)]:=h5
 unfold execOp
 rw[ho]
 simp only[List.map_toArray,List.map_cons,List.map_nil]
 rw[h0,h1,h2',h3,h4,h5']
 clear h0 h1 h2 h3 h4 h5 h2' h5' ho
 change _=_
 kernel_rfl
end
set_option maxHeartbeats 2000000 in
theorem uV(n:Nd)(nv:Value)(w:World):Calls Tryz.prog 86 #[i5 n nv] w λe w'=>e=.returned (aU (sB n) 0 14)∧Below w.heap.size w w':=by
 refine bW Tryz.func86 rfl 34 rfl Yd (λA hs hd hb=>?_)
 have b0:A.eval (.tmp 0)=i5 n nv:=hb 0 _ rfl
 clear hb
 refine aD (aI ?_)
 refine aR rfl Yw (λK hK=>?_)
 refine dD _ _ _ rfl (aB rfl b0) Yd ?_
 intro w1 m1 k1 z1
 refine hK _ _ ?_
 clear hK K
 refine aR rfl Yw (λK hK=>?_)
 refine aS _ _ rfl zT Yd ?_
 intro w2 m2 k2 z2
 have mn2:=m1.below k2
 refine hK _ _ ?_
 clear hK K
 refine aE ?_
 refine aD ?_
 refine Yq (iL rfl (Ye rfl) _) ?_
 refine Yq (aM _ _ rfl bS (Ye rfl) mn2 Yc rfl) ?_
 refine Yq (nE rfl (Ye rfl) _) ?_
 refine Yq (aM _ _ rfl bS (Ye rfl) mn2 Yc rfl) ?_
 refine Yq (aCp rfl (Ye rfl) _) ?_
 refine Yq (cU (h:=λi=>iV (n.us i)) _ _ rfl jM (Ye rfl) mn2 Yo (aOh n nv)) ?_
 refine Yq (tE rfl (Ye rfl) _) ?_
 refine Yq (aM _ _ rfl bS (Ye rfl) mn2 Yc rfl) ?_
 refine Yq (kN rfl (Ye rfl) _) ?_
 refine Yq (zE rfl (Ye rfl) _) ?_
 refine Yq (aM _ _ rfl oZ (Ye rfl) mn2 Yc rfl) ?_
 refine Yq (mW rfl (Ye rfl) _) ?_
 refine Yq (wE rfl (Ye rfl) _) ?_
 refine Yq (cU _ _ rfl aCA (Ye rfl) mn2 Yo (aAw _ _)) ?_
 refine Yq (aGy (n:=n) _ _ _ _ _ _ rfl (Ye rfl) (Ye rfl) (Ye rfl) (Ye rfl) (Ye rfl) (Ye rfl) _) ?_
 refine aR rfl Yw (λK hK=>?_)
 refine aS _ _ rfl zT Yd ?_
 intro w3 m3 k3 z3
 have mn3:=mn2.below k3
 have mr3:=m2.below k3
 refine hK _ _ ?_
 clear hK K
 refine bR Yw (λK hK=>?_)
 refine aH _ _ _ _ rfl kL (Ye rfl) (Ye rfl) m3 Yc (mO _ _) rfl ?_
 intro w4 mm4 k4 z4
 have mp4:=Vh.congr mm4 (mK _ _)
 have mn4:=mn3.kept k4 Yo
 have mr4:=mr3.kept k4 Yo
 refine hK _ ?_
 clear hK K
 refine aE ?_
 refine aJ ?_
 refine aD ?_
 refine Yq (nK rfl (Ye rfl) _) ?_
 refine Yq (cU (h:=λj=>cK (n.ax (j/7)) (j%7)) _ _ rfl dS (Ye rfl) mn4 Yo (aNU n nv)) ?_
 refine Yp ?_
 refine aE ?_
 refine aT ?_
 refine dF (λq A W=>∃x:Nat,x≤3∧3-x≤q∧A.tmps.size=34∧A.defers=[]∧A.eval (.tmp 2)=.pointer (some ⟨w1.heap.size,0,none⟩)∧A.eval (.tmp 3)=.pointer (some ⟨w2.heap.size,0,none⟩)∧A.eval (.tmp 22)=aU (λj=>cK (n.ax (j/7)) (j%7)) 0 21∧A.eval (.tmp 23)=.int .i64 (x:Int)∧Vh 61 W w1.heap.size 14 14 (vK dW 3)∧Vh 61 W w2.heap.size 14 14 (vK n x)∧Below w.heap.size w W∧w4.heap.size≤W.heap.size) 3 ⟨0,Yo,Yo,(bY _ _).trans hs,(aN _ _).trans hd,(Ye rfl),(Ye rfl),(Ye rfl),(Ye rfl),mr4,mp4,aC (((k1).trans (k2.mono Yo)).trans (k3.mono Yo)) k4 Yo Yo,Yo⟩ (λq B W hI2=>?_)
 clear b0 hs hd
 obtain⟨x,hx,hr2,hs,hd,b2,b3,b22,b23,mr,mp,kB,hW⟩:=hI2
 by_cases hin:x<3
 ·refine aD (aI ?_)
  refine Yq (aY (b:=true) _ _ rfl (aB rfl b23) (aF _ _) (decide_eq_true Yo) _) ?_
  refine aE ?_
  refine aJ (bO (Ye rfl) (bK ?_))
  refine aJ (aT ?_)
  refine aD ?_
  refine Yp ?_
  refine Yq ((gV _ _ _ _ rfl Tryz.underlying46 fC (aB rfl b22) rfl (aB rfl b23) rfl hin _).trans (by rw[aKn n.ax])) ?_
  refine aR rfl Yw (λK hK=>?_)
  refine aS _ _ rfl pU Yd ?_
  intro w11 m11 k11 z11
  have mr11:=mr.below k11
  have mp11:=mp.below k11
  refine hK _ _ ?_
  clear hK K
  refine Yp ?_
  refine bR Yw (λK hK=>?_)
  refine aH _ _ _ _ rfl fC (Ye rfl) (Ye rfl) m11 Yc (dK _) rfl ?_
  intro w12 mm12 k12 z12
  have ms12:=Vh.congr mm12 (mE _ _)
  have mr12:=mr11.kept k12 Yo
  have mp12:=mp11.kept k12 Yo
  refine hK _ ?_
  clear hK K
  refine aE ?_
  refine aQ ?_
  refine Yp ?_
  refine Yq (aFv rfl (Ye rfl) _) ?_
  refine Yq (aM _ _ rfl bS (Ye rfl) ms12 Yc rfl) ?_
  refine Yq (aNy rfl (aB rfl b3) _) ?_
  refine Yq (cZ _ _ _ _ rfl Tryz.underlying27 bS.size (Ye rfl) (Ye rfl) rfl hin _) ?_
  refine bR Yw (λK hK=>?_)
  refine fS _ _ _ _ rfl bS (Ye rfl) (Ye rfl) mp12 Yo rfl rfl rfl ?_
  intro w13 mm13 k13 z13
  have mp13:=Vh.congr mm13 (aK1 n hin)
  have mr13:=mr12.kept k13 Yo
  have ms13:=ms12.kept k13 Yo
  refine hK _ ?_
  clear hK K
  refine fT ?_
  refine aQ ?_
  refine Yq (bU _ _ rfl (aB rfl b23) (aF _ _) Yo Yo _) ?_
  refine Yp ?_
  exact bP ⟨3-(x+1),Yo,x+1,Yo,Yo,(bY _ _).trans hs,(aN _ _).trans hd,(aB rfl b2),(aB rfl b3),(aB rfl b22),(Ye rfl).trans (by rw[Int.natCast_add];rfl),mr13,mp13,aC (aC (kB.trans (k11.mono Yo)) k12 Yo Yo) k13 Yo Yo,Yo⟩
 ·refine aD (aI ?_)
  refine Yq (aY (b:=false) _ _ rfl (aB rfl b23) (aF _ _) (decide_eq_false Yo) _) ?_
  obtain rfl:x=3:=Yo
  refine aE ?_
  refine aJ (bL (Ye rfl) (dA (eJ ?_)))
  refine aD ?_
  refine Yq (aO _ _ rfl kL (aB rfl b3) mp Yc) ?_
  refine bR Yw (λK hK=>?_)
  refine aH _ _ _ _ rfl kL (aB rfl b2) (Ye rfl) mr Yc (mO _ _) rfl ?_
  intro w11 mm11 k11 z11
  have mr11:=Vh.congr mm11 (mK _ _)
  have mp11:=mp.kept k11 Yo
  refine hK _ ?_
  clear hK K
  refine aE ?_
  refine bC (aZ ((aN _ _).trans hd) (nD rfl (aB rfl b2) kL mr11 (Nat.le_refl _)) ⟨rfl,aC kB k11 Yo Yo⟩)
end Go.Proofs.YtdhblehhgpdpdacGreat
