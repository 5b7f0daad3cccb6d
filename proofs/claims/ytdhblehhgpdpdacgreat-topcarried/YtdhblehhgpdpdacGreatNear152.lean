import Derived.Test.YtdhblehhgpdpdacGreatNear53
namespace Go.Proofs.YtdhblehhgpdpdacGreat
open Go.RowKit
section
variable {f:Operand→Value} {o:Oper}
theorem aJe(ho:o.op=.build 55 #[])(w:World):(execOp f o).run Tryz.prog w=.ok (.value (aV (ndF fD (.slice none 0 0)) 0 74)) w:=by
 unfold execOp
 rw[ho]
 go_simp
 kernel_rfl
theorem aEy (a b c : Operand) (ho : o.op = .build 55 #[(0, a), (2, b), (4, c)]) {id : Int} {t : Tn} {r : Rl} (h0 : f a = .int .i64 id) (h1 : f b = aV (rY t) 0 4) (h2 : f c = gK r) (w : World) :
  (execOp f o).run Tryz.prog w=.ok (.value (aV (ndF { fD with id:=id,tn:=t,rl:=r } (.slice none 0 0)) 0 74)) w:=by
 have h1':f b=.agg #[.int .i64 t.Dt,.int .i64 t.Q,.int .i64 t.R,.int .i64 t.G]:=h1
 unfold gK at h2
 unfold execOp
 rw[ho]
 simp only[List.map_toArray,List.map_cons,List.map_nil]
 rw[h0,h1',h2]
 clear h0 h1 h1' h2 ho
 change _=_
 kernel_rfl
end
theorem aHV:Many Tryz.prog 23 4:=Many.of _ Tryz.underlying23 rfl (by kernel_rfl)
theorem aRb(n:Nd)(v:Value):∀j,j<4→ndF n v (0+2+j)=rY n.tn j:=by
 intro j hj
 unfold ndF
 rw[if_neg Yo,if_pos Yo,show 0+2+j-2=j by omega]
def bgA(x k:Nat):St:=if k<x then St.beg0 else St.nil'
theorem aEE:bgA 0=fD.ax:=by funext k;unfold bgA;rw[if_neg Yo];rfl
theorem aFd{x:Nat}:(λk=>if k=x then St.beg0 else bgA x k)=bgA (x+1):=by
 funext k
 unfold bgA
 by_cases c:k=x
 ·rw[if_pos c,if_pos Yo]
 ·rw[if_neg c]
  by_cases c2:k<x
  ·rw[if_pos c2,if_pos Yo]
  ·rw[if_neg c2,if_neg Yo]
def bgN(id:Int)(t:Tn)(ax:Nat→St):Nd:=⟨id,0,t,ax,beginR,λ_ _=>0,λ_=>0,λ_ _=>0,λ_=>0,0,0,false,[]⟩
theorem aDT{id:Int}{t:Tn}{v:Value}:ndF (bgN id t (bgA 3)) v=ndF (bgN id t (λ_=>St.beg0)) v:=by
 funext j
 unfold ndF bgN
 dsimp only
 by_cases c2:j<2
 ·rw[if_pos c2,if_pos c2]
 ·rw[if_neg c2,if_neg c2]
  by_cases c6:j<6
  ·rw[if_pos c6,if_pos c6]
  ·rw[if_neg c6,if_neg c6]
   by_cases c27:j<27
   ·rw[if_pos c27,if_pos c27]
    have e:bgA 3 ((j-6)/7)=St.beg0:=by unfold bgA;rw[if_pos Yo]
    rw[e]
   ·rw[if_neg c27,if_neg c27]
def aUa(fn:Nat):Prop:=∀(id:Int) (t:Tn) (w:World),R64 id→t.Ok→
 Calls Tryz.prog fn #[.int .i64 id,aV (rY t) 0 4] w λe w'=>∃a' c',e=.returned (.tuple #[kT (jE id t) (.slice a' (jE id t).vA.length c'),.int .i64 (aEI id)])∧oI w.heap.size w' (jE id t) a' c'∧Below w.heap.size w w'
end Go.Proofs.YtdhblehhgpdpdacGreat
namespace Go.Proofs.YtdhblehhgpdpdacGreat
open Go
theorem aBt (w : World) {P : Program} {Q : Exit → Act → World → Prop} {o : Oper} {a : Act} {K : Act → World → Prop} (n : Nat) (x y z u v : Operand) (T : Array TypeId) (ho : o.op = .call { callee := .value (.func n), args := #[x, y, z, u, v], argTypes := T }) {p q r s t : Value} (hx : a.eval x = p) (hy : a.eval y = q) (hz : a.eval z = r) (hu : a.eval u = s) (hv : a.eval v = t) (hf : (callFunc n #[p, q, r, s, t]).run P w = .ok (.enter n #[p, q, r, s, t]) w) {R : Ending → World → Prop} (hc : Calls P n #[p, q, r, s, t] w R)
  (h:∀e w',R e w'→∃r,e=.returned r∧K (a.put o.dst r) w'):WpI P o a w K Q:=by
 refine⟨?_⟩
 have e:(execOp a.eval o).run P w=.ok (.enter n #[p,q,r,s,t]) w:=by
  unfold execOp
  rw[ho]
  have hv2:a.eval (Operand.func n)=.func (.func n) #[] #[]:=rfl
  simp only[resolve,invoke,Sem.run_bind,List.map_toArray,List.map_cons,List.map_nil,hx,hy,hz,hu,hv,hv2]
  go_simp
 unfold Oper.wp
 rw[e,Oper.upon_enter]
 refine hc.mono ?_
 intro e w' hr
 obtain⟨r,rfl,hk⟩:=h e w' hr
 exact hk
end Go.Proofs.YtdhblehhgpdpdacGreat
namespace Go.Proofs.YtdhblehhgpdpdacGreat
open Go.RowKit
def relI(n:Nd)(l:List Ms)(i s a:Nat):Int:=if s<i then relD n l s a else n.di s a
def aKX(n:Nd)(l:List Ms)(j:Nat):Int:=relD n l (j/3) (j%3)
theorem aOU{n:Nd}{d d':Nat→Nat→Int}{v:Value}(h:∀s a,s<4→d s a=d' s a):ndF { n with di:=d } v=ndF { n with di:=d' } v:=by
 funext j
 unfold ndF
 by_cases c2:j<2
 ·rw[if_pos c2,if_pos c2]
 ·rw[if_neg c2,if_neg c2]
  by_cases c6:j<6
  ·rw[if_pos c6,if_pos c6]
  ·rw[if_neg c6,if_neg c6]
   by_cases c27:j<27
   ·rw[if_pos c27,if_pos c27]
   ·rw[if_neg c27,if_neg c27]
    by_cases c39:j<39
    ·rw[if_pos c39,if_pos c39]
    ·rw[if_neg c39,if_neg c39]
     by_cases c51:j<51
     ·rw[if_pos c51,if_pos c51]
      show iV (d _ _)=iV (d' _ _)
      rw[h _ _ Yo]
     ·rw[if_neg c51,if_neg c51]
theorem aRI(n:Nd)(v:Value){i a:Nat}(hi:i<4)(ha:a<3):ndF n v (0+39+i*3+a*1)=.int .i64 (n.di i a):=by
 unfold ndF
 rw[if_neg Yo,if_neg Yo,if_neg Yo,if_neg Yo,if_pos Yo,show (0+39+i*3+a*1-39)/3=i by omega,show (0+39+i*3+a*1-39)%3=a by omega]
 rfl
theorem aKq(n:Nd)(l:List Ms):∀s a,s<4→relI n l 4 s a=relD n l s a:=λs a h=>by unfold relI;rw[if_pos h]
theorem aKd{n:Nd}{L:List Lm}{i:Nat}(h:fL n.id n.fr L (i:Int) 1 3=none):({ n with di:=relI n (L.map Lm.m) i }:Nd)={ n with di:=relI n (L.map Lm.m) (i+1) }:=by
 congr 1
 funext s a
 unfold relI
 by_cases c1:s<i
 ·rw[if_pos c1,if_pos Yo]
 ·rw[if_neg c1]
  by_cases c2:s=i
  ·subst c2
   rw[if_pos Yo]
   unfold relD
   have:=oG n L s 1 3
   rw[show ((3:Nat):Int)=3 from rfl,h] at this
   rw[←this]
   rfl
  ·rw[if_neg Yo]
theorem aMT{n:Nd}{L:List Lm}{i:Nat}{c:Lm}(h:fL n.id n.fr L (i:Int) 1 3=some c):({ n with di:=λs a=>if s=i then gL c.m.L a else relI n (L.map Lm.m) i s a }:Nd)={ n with di:=relI n (L.map Lm.m) (i+1) }:=by
 congr 1
 funext s a
 unfold relI
 by_cases c2:s=i
 ·subst c2
  rw[if_pos rfl,if_pos Yo]
  unfold relD
  have:=oG n L s 1 3
  rw[show ((3:Nat):Int)=3 from rfl,h] at this
  rw[←this]
  rfl
 ·rw[if_neg c2]
  by_cases c1:s<i
  ·rw[if_pos c1,if_pos Yo]
  ·rw[if_neg c1,if_neg Yo]
theorem aRq(f:Nat→Int)(k:Nat):rowV (iF (gL ((List.range k).map f))) k=rowV (iF f) k:=by
 refine iB (λi hi=>?_)
 unfold iF gL
 rw[List.getD_eq_getElem?_getD,List.getElem?_map,List.getElem?_range hi]
 rfl
def lmC(c:Lm):List Value:=[iV c.m.K,iV c.m.F,iV c.m.R,lmV c]
def uH:List Lm→List Value
 |[]=>[]
 |c::L=>lmC c++uH L
theorem aHu(L M:List Lm):uH (L++M)=uH L++uH M:=by
 induction L with
 |nil=>rfl
 |cons c L ih=>show lmC c++uH (L++M)=(lmC c++uH L)++uH M;rw[ih,List.append_assoc]
theorem aGj(L:List Lm):(uH L).length=L.length*4:=by
 induction L with
 |nil=>rfl
 |cons c L ih=>show (lmC c++uH L).length=_;rw[List.length_append,ih,List.length_cons];show 4+_=_;omega
theorem aQu{L:List Lm}:∀u,u∈uH L→u.oneCell'=true:=by
 induction L with
 |nil=>intro u hu;exact absurd hu (List.not_mem_nil)
 |cons c L ih=>
  intro u hu
  rcases List.mem_append.1 hu with h|h
  ·unfold lmC lmV iV at h
   simp at h
   rcases h with rfl|rfl|rfl|rfl<;>rfl
  ·exact ih u h
theorem aIu(L:List Lm):∀(i:Nat) (c:Lm),L[i]?=some c→∀k,k<4→(uH L)[i*4+k]?=some (sW c k):=by
 induction L with
 |nil=>intro i c h;simp at h
 |cons d L ih=>
  intro i c h k hk
  show (lmC d++uH L)[i*4+k]?=_
  cases i with
  |zero=>
   have e:d=c:=by simpa using h
   subst e
   rw[List.getElem?_append_left (by show 0*4+k<4;omega)]
   match k,hk with
   |0,_=>rfl
   |1,_=>rfl
   |2,_=>rfl
   |3,_=>rfl
  |succ i=>
   rw[List.getElem?_append_right (by show 4≤_;omega)]
   have:=ih i c (by simpa using h) k hk
   rw[←this]
   congr 1
   show (i+1)*4+k-4=_
   omega
def aFa(w:World)(B:Nat)(c:Lm):Prop:=w.ownsRow B 3 1 (lmV c) c.m.L.length (rowV (iF (gL c.m.L)) c.m.L.length)
def OwnM(w:World)(B:Nat)(v:Value)(L:List Lm):Prop:=w.ownsRow B 69 4 v L.length (uH L)∧∀c,c∈L→aFa w B c
theorem rV{t:TypeId}{B s n b:Nat}{w:World}{v:Value}{xs:List Value}(h:w.ownsRow B t s v n xs)(e:v.ownBlock=some b):∃cur,w.heap[b]?=some (.cells cur t (0,0)):=by
 rcases h.2 with ⟨rfl,h0⟩|⟨g,c,cur,rfl,hb,hg,_⟩
 ·cases e
 ·cases e;exact⟨cur,hg⟩
theorem OwnM.below{w w':World}{B:Nat}{v:Value}{L:List Lm}(h:OwnM w B v L)(k:Below w.heap.size w w'):OwnM w' B v L:=⟨bG h.1 k,λc hc=>bG (h.2 c hc) k⟩
theorem OwnM.nil(w:World)(B:Nat):OwnM w B (.slice none 0 0) []:=⟨World.ownsRow_nil _ _ _ _,λ_ h=>absurd h (List.not_mem_nil)⟩
theorem OwnM.rd{w:World}{B n cap:Nat}{ao:Option Addr}{L:List Lm}(h:OwnM w B (.slice ao n cap) L)(hl:∀c,c∈L→c.m.L.length≤17592186044404):MRd w ao L:=by
 refine⟨λhp=>?_,λc hc=>?_⟩
 ·rcases h.1.2 with ⟨e,h0⟩|⟨g,cp,cur,e,hb,hg,hc,hm,hsz,hcur⟩
  ·omega
  ·cases e
   refine⟨g,0,rfl,λi c hi k hk=>?_⟩
   have hlt:=(List.getElem?_eq_some_iff.1 hi).1
   have h1:=aIu L i c hi k hk
   have hL:=aGj L
   rw[←hcur,List.getElem?_take,if_pos Yo,Array.getElem?_toList] at h1
   unfold World.cell?
   rw[hg]
   show cur[0+i*4+k]?=_
   rw[Nat.zero_add]
   exact h1
 ·obtain⟨ao2,cap2,e,hs,hc2⟩:=kN (h.2 c hc)
  unfold lmV at e
  cases e
  exact⟨hs,hc2,hl c hc⟩
theorem aDM (w : World) {o : Oper} {a : Act} {K : Act → World → Prop} {Q : Exit → Act → World → Prop} (x : Operand) (ho : o.op = .buildSlice 113 1 #[(0, x)]) {c : Lm} (hx : a.eval x = aV (sW c) 0 4)
  (h:∀w',Vh 69 w' w.heap.size 4 4 (sW c)→Below w.heap.size w w'→w'.heap.size=w.heap.size+1→K (a.put o.dst (.slice (some ⟨w.heap.size,0,none⟩) 1 1)) w'):WpI Tryz.prog o a w K Q:=by
 have hh:=h (w.alloc (.cells #[.int .i64 c.m.K,.int .i64 c.m.F,.int .i64 c.m.R,.slice c.ao c.m.L.length c.cap] 69)) (Vh.of_row (sW c) 4 Yc (by show (w.heap.push _)[w.heap.size]?=_;rw[Array.getElem?_push_size];rfl)) (bR _ _) (dC _ _)
 have hx':a.eval x=.agg #[.int .i64 c.m.K,.int .i64 c.m.F,.int .i64 c.m.R,.slice c.ao c.m.L.length c.cap]:=hx
 have e:(execOp a.eval o).run Tryz.prog w=.ok (.value (.slice (some ⟨w.heap.size,0,none⟩) 1 1)) (w.alloc (.cells #[.int .i64 c.m.K,.int .i64 c.m.F,.int .i64 c.m.R,.slice c.ao c.m.L.length c.cap] 69)):=by
  clear hx hh
  generalize a.eval=f at hx'
  unfold execOp
  rw[ho]
  simp only[List.map_toArray,List.map_cons,List.map_nil]
  rw[hx']
  go_simp
 refine⟨?_⟩
 unfold Oper.wp
 rw[e]
 exact hh
theorem aAX(f:Nat→Bool){i:Nat}(hi:i<4)(w:World):(Instr.index 47 (.agg #[.bool (f 0),.bool (f 1),.bool (f 2),.bool (f 3)]) (.int .i64 (i:Int))).run Tryz.prog w=.ok (.bool (f i)) w:=by
 have:i=0∨i=1∨i=2∨i=3:=Yo
 rcases this with rfl|rfl|rfl|rfl<;>simp[Instr.index,go_sem]
def gcN(b:Bool)(m t:Int):Bool:=if b then decide (0≤m)&&decide (m≤2)&&decide (t=0) else decide (m=0)&&decide (0≤t)&&decide (t≤2)
theorem aTo(r:Rl)(i:Nat):gd r i=gcN (r.I i) (r.M i) (r.J i):=rfl
set_option maxHeartbeats 1000000 in
theorem aCp (b : Bool) (m t : Int) (w : World) :
  Calls Tryz.prog 111 #[.bool b,.int .i64 m,.int .i64 t] w λe w'=>e=.returned (.bool (gcN b m t))∧w'=w:=by
 cases b with
 |true=>
  have G:=aA (show gcN true m t=(decide (0≤m)&&decide (m≤2)&&decide (t=0)) from rfl)
  by_cases h1:0≤m
  ·have d1:decide (0≤m)=true:=decide_eq_true h1
   by_cases h2:m≤2
   ·have d2:decide (m≤2)=true:=decide_eq_true h2
    by_cases h3:t=0
    ·subst h3
     go_enter Tryz.func111,Tryz.ntmps111
     go_wp2_with fail
     go_ret
     exact⟨by rw[unhide G,d1,d2];rfl,rfl⟩
    ·have d3:(t==0)=false:=by simp[h3]
     have d4:decide (t=0)=false:=decide_eq_false h3
     go_enter Tryz.func111,Tryz.ntmps111
     go_wp2_with fail
     go_ret
     exact⟨by rw[unhide G,d1,d2,d4];rfl,rfl⟩
   ·have d2:decide (m≤2)=false:=decide_eq_false h2
    go_enter Tryz.func111,Tryz.ntmps111
    go_wp2_with fail
    go_ret
    exact⟨by rw[unhide G,d1,d2];rfl,rfl⟩
  ·have d1:decide (0≤m)=false:=decide_eq_false h1
   go_enter Tryz.func111,Tryz.ntmps111
   go_wp2_with fail
   go_ret
   exact⟨by rw[unhide G,d1];rfl,rfl⟩
 |false=>
  have G:=aA (show gcN false m t=(decide (m=0)&&decide (0≤t)&&decide (t≤2)) from rfl)
  by_cases h1:0≤t
  ·have d1:decide (0≤t)=true:=decide_eq_true h1
   by_cases h2:t<3
   ·have d2:decide (t<3)=true:=decide_eq_true h2
    have d5:=aA (show decide (t≤2)=true from decide_eq_true Yo)
    by_cases h3:m=0
    ·subst h3
     go_enter Tryz.func111,Tryz.ntmps111
     go_wp2_with fail
     go_ret
     exact⟨by rw[unhide G,d1,unhide d5];rfl,rfl⟩
    ·have d3:(m==0)=false:=by simp[h3]
     have d4:decide (m=0)=false:=decide_eq_false h3
     go_enter Tryz.func111,Tryz.ntmps111
     go_wp2_with fail
     go_ret
     exact⟨by rw[unhide G,d4];rfl,rfl⟩
   ·have d2:decide (t<3)=false:=decide_eq_false h2
    have d5:=aA (show decide (t≤2)=false from decide_eq_false Yo)
    go_enter Tryz.func111,Tryz.ntmps111
    go_wp2_with fail
    go_ret
    exact⟨by rw[unhide G,unhide d5,Bool.and_false];rfl,rfl⟩
  ·have d1:decide (0≤t)=false:=decide_eq_false h1
   go_enter Tryz.func111,Tryz.ntmps111
   go_wp2_with fail
   go_ret
   exact⟨by rw[unhide G,d1,Bool.and_false];rfl,rfl⟩
theorem RAt.drew{w:World}{b:Nat}{r:Rl}(h:RAt w b r):RAt w.drew b r:=h
set_option maxHeartbeats 2000000 in
theorem aAh:aTE 98:=by
 intro r w _
 obtain⟨w1,e1,m1,k1,z1⟩:=uQ w r
 have p0:=m1.inn (i:=0) Yo
 have p1:=m1.inn (i:=1) Yo
 have p2:=m1.inn (i:=2) Yo
 have p3:=m1.inn (i:=3) Yo
 rw[e1] at p0 p1 p2 p3
 have E1:=aA e1;have M1:=aA m1;have K1:=aA k1
 clear e1 m1 k1 z1
 unfold gK
 go_enter Tryz.func98,Tryz.ntmps98
 go_wp2_with fail
 rw[←unhide E1]
 clear p0 p1 p2 p3
 go_loopw [7] (λis wr=>∃i:Nat,is=.int .i64 i∧i≤4∧(∀j,j<i→gd r j=true)∧RAt wr w.heap.size r∧Below w.heap.size w wr) (λis _=>4-(intOf is).toNat)
 case atStart=>exact⟨0,rfl,Yo,λj h=>absurd h Yo,unhide M1,unhide K1⟩
 case round=>
  obtain⟨i,rfl,hi,hg,hm,hk⟩:=hrel
  rename World=>wr
  have HG:=aA hg;have HK:=aA hk
  clear hg hk M1 K1
  by_cases hin:i<4
  ·have hin':(i:Int)<4:=Yo
   have NX:=aA (λh:gd r i=true=>show ∀j,j<i+1→gd r j=true from λj hj=>by
    by_cases e:j=i
    ·rw[e];exact h
    ·exact unhide HG j Yo)
   have at_:=aAX r.I hin
   have GG:=aA (aTo r i)
   have hS:(λu=>RAt u w.heap.size r) wr.drew:=hm.drew
   have HM:=aA hm
   clear hm
   go_wp2_with fail
   refine fF (S:=λu=>RAt u w.heap.size r) [(0,false),(1,false),(2,false),(3,false),(4,false),(5,false),(6,false),(7,false),(8,false),(9,true),(10,true)] [] (by kernel_rfl) (by kernel_rfl) ?_
   iterate 9
    refine bO (v:=?_) rfl (λ_ _ _ h=>h) (by rfl) hS ?_ ?_
    rotate_left 1
    ·intro wx hwx
     have cm:=RAt.mis hwx hin;have cj:=RAt.joi hwx hin
     clear hwx
     go_simp<;>exact rfl
    go_frame
   refine bU rfl (λK hK=>?_)
   go_simp
   refine (aCp (r.I i) (r.M i) (r.J i) _).mono ?_
   rintro e w2 ⟨rfl,rfl⟩
   refine hK _ _ (λ_=>hS) ?_
   clear hK K
   rw[←unhide GG]
   refine bU rfl (λK hK=>?_)
   go_simp
   refine hK _ _ (λ_=>hS) ?_
   clear hK K
   refine gV ?_
   have M2:=aA ((unhide HM).drew);have K2:=aA (aQ (unhide HK))
   clear hS HM HK at_
   cases hb:gd r i with
   |true=>
    have Y:=aA (unhide NX hb)
    go_wp2_with fail
    go_roundw
    case rel=>exact⟨i+1,by go_num,Yo,unhide Y,unhide M2,unhide K2⟩
    case measure=>simp[intOf]<;>omega
   |false=>
    have N:=aA (aRp hin hb)
    go_wp2_with fail
    go_ret
    exact⟨by rw[unhide N];rfl,unhide K2⟩
  ·have e9:i=4:=Yo
   subst e9
   rw[show ((4:Nat):Int)=4 from rfl]
   have N:=aA (yS.2 (unhide HG))
   clear hm
   go_wp2_with fail
   go_ret
   exact⟨by rw[unhide N];rfl,unhide HK⟩
theorem fP(x y:Value)(w:World):(callFunc 127 #[x,y]).run Tryz.prog w=.ok (.enter 127 #[x,y]) w:=by go_simp
theorem aAg(x:Value)(w:World):(callFunc 126 #[x]).run Tryz.prog w=.ok (.enter 126 #[x]) w:=by go_simp
theorem aDt(x:Value)(w:World):(callFunc 113 #[x]).run Tryz.prog w=.ok (.enter 113 #[x]) w:=by go_simp
theorem xK(x:Value)(w:World):(callFunc 128 #[x]).run Tryz.prog w=.ok (.enter 128 #[x]) w:=by go_simp
theorem aAi(x y z:Value)(w:World):(callFunc 114 #[x,y,z]).run Tryz.prog w=.ok (.enter 114 #[x,y,z]) w:=by go_simp
theorem aDX(x:Value)(w:World):(callFunc 98 #[x]).run Tryz.prog w=.ok (.enter 98 #[x]) w:=by go_simp
def wiB(x l:Int):Bool:=decide (0≤x)&&decide (x≤l)
theorem gX(x l:Int)(w:World):Calls Tryz.prog 127 #[.int .i64 x,.int .i64 l] w λe w'=>e=.returned (.bool (wiB x l))∧Below w.heap.size w w':=by
 unfold wiB
 by_cases h1:0≤x
 ·by_cases h2:x≤l
  ·rw[decide_eq_true h1,decide_eq_true h2]
   refine bX Tryz.func127 rfl 12 rfl Yd (λA hs hd hb=>?_)
   have b0:=hb 0 _ rfl
   have b1:=hb 1 _ rfl
   clear hb
   refine aD (aJ ?_)
   refine Yp ?_
   refine aF ?_
   refine aD ?_
   refine Yp ?_
   refine Yq (iR (b:=true) _ _ rfl (Ye rfl) (aG _ _) (decide_eq_true h1) _) ?_
   iterate 3 refine Yp ?_
   refine Yq (zY (b:=true) _ _ rfl (Ye rfl) (Ye rfl) (decide_eq_true h2) _) ?_
   refine Yq (aX _ _ _ rfl (Ye rfl) (Ye rfl) _) ?_
   refine Yp ?_
   refine aF ?_
   exact bD (bB ((aO _ _).trans hd) (dW rfl (Ye rfl)) ⟨rfl,Below.refl _ _⟩)
  ·rw[decide_eq_true h1,decide_eq_false h2]
   refine bX Tryz.func127 rfl 12 rfl Yd (λA hs hd hb=>?_)
   have b0:=hb 0 _ rfl
   have b1:=hb 1 _ rfl
   clear hb
   refine aD (aJ ?_)
   refine Yp ?_
   refine aF ?_
   refine aD ?_
   refine Yp ?_
   refine Yq (iR (b:=true) _ _ rfl (Ye rfl) (aG _ _) (decide_eq_true h1) _) ?_
   iterate 3 refine Yp ?_
   refine Yq (zY (b:=false) _ _ rfl (Ye rfl) (Ye rfl) (decide_eq_false h2) _) ?_
   refine Yq (aX _ _ _ rfl (Ye rfl) (Ye rfl) _) ?_
   refine Yp ?_
   refine aF ?_
   exact bD (bB ((aO _ _).trans hd) (dW rfl (Ye rfl)) ⟨rfl,Below.refl _ _⟩)
 ·rw[decide_eq_false h1]
  refine bX Tryz.func127 rfl 12 rfl Yd (λA hs hd hb=>?_)
  have b0:=hb 0 _ rfl
  have b1:=hb 1 _ rfl
  clear hb
  refine aD (aJ ?_)
  refine Yp ?_
  refine aF ?_
  refine aD ?_
  refine Yp ?_
  refine Yq (iR (b:=false) _ _ rfl (Ye rfl) (aG _ _) (decide_eq_false h1) _) ?_
  refine Yp ?_
  iterate 3 refine Yu ?_
  refine Yq (bI _ _ _ rfl (Ye rfl) (aG _ _) _) ?_
  refine Yp ?_
  refine aF ?_
  exact bD (bB ((aO _ _).trans hd) (dW rfl (Ye rfl)) ⟨rfl,Below.refl _ _⟩)
def axS(p:Nat→Int):St:=⟨p 0,p 1,p 2,p 3,p 4,decide (p 5=1),p 6⟩
def axO(p:Nat→Int):St:=if wiB (p 5) 1 then axS p else St.nil'
theorem aCf (z : Addr) (m mc : Nat) (p : Nat → Int) (w : World) (hm : 7 ≤ m) (hz : ∀ i, i < 7 → w.cell? (z.add i) = some (.int .i64 (p i))) :
  Calls Tryz.prog 126 #[.slice (some z) m mc] w λe w'=>e=.returned (.tuple #[aV (dG (axO p)) 0 7,.bool (wiB (p 5) 1)])∧Below w.heap.size w w':=by
 refine bX Tryz.func126 rfl 33 rfl Yd (λA hs hd hb=>?_)
 have b0:=hb 0 _ rfl
 clear hb
 rcases hb:wiB (p 5) 1 with _|_
 ·refine aD (aJ ?_)
  refine aS rfl Yw (λK hK=>?_)
  refine aT _ _ rfl vF Yd ?_
  intro w1 m1 k1 z1
  refine hK _ _ ?_
  clear hK K
  refine Yp ?_
  refine aF ?_
  refine aK ?_
  refine aD ?_
  refine Yp ?_
  refine Yq (fT _ _ rfl (a:=z) (n:=m) (cap:=mc) (Ye rfl) (aG _ _) (i:=5) rfl Yo _) ?_
  refine Yq (fQ _ rfl (Ye rfl) (bE (hz 5 Yo) k1)) ?_
  refine aS rfl Yw (λK hK=>?_)
  have C1:=gX (p 5) 1 w1
  rw[hb] at C1
  refine dB _ 127 _ _ _ rfl (Ye rfl) (aG _ _) (fP _ _ _) C1 ?_
  rintro e w2 ⟨rfl,k2⟩
  have n2:=k2.size
  have mr2:=m1.below k2
  refine⟨_,rfl,?_⟩
  refine hK _ _ ?_
  clear hK K
  refine Yq (dQ _ _ rfl (Ye rfl) _) ?_
  refine aF ?_
  refine bP (Ye rfl) ?_
  refine aD ?_
  refine Yq (aJt rfl _) ?_
  refine bS Yw (λK hK=>?_)
  refine aI _ _ _ _ rfl gM (Ye rfl) (Ye rfl) mr2 Yc (eH _) rfl ?_
  intro w3 mm3 k3 z3
  have mr3:=Vh.congr mm3 (pQ _ _)
  refine hK _ ?_
  clear hK K
  refine Yp ?_
  refine aF ?_
  refine bD ?_
  simp only[Nx,Exit.then]
  refine bB ((aO _ _).trans hd) (nW rfl (Ye rfl) (Ye rfl) gM mr3 (Nat.le_refl _)) ⟨?_,aC (k1.trans (k2.mono Yo)) k3 Yo Yo⟩
  unfold axO
  rw[hb]
  rfl
 ·refine aD (aJ ?_)
  refine aS rfl Yw (λK hK=>?_)
  refine aT _ _ rfl vF Yd ?_
  intro w1 m1 k1 z1
  refine hK _ _ ?_
  clear hK K
  refine Yp ?_
  refine aF ?_
  refine aK ?_
  refine aD ?_
  refine Yp ?_
  refine Yq (fT _ _ rfl (a:=z) (n:=m) (cap:=mc) (Ye rfl) (aG _ _) (i:=5) rfl Yo _) ?_
  refine Yq (fQ _ rfl (Ye rfl) (bE (hz 5 Yo) k1)) ?_
  refine aS rfl Yw (λK hK=>?_)
  have C1:=gX (p 5) 1 w1
  rw[hb] at C1
  refine dB _ 127 _ _ _ rfl (Ye rfl) (aG _ _) (fP _ _ _) C1 ?_
  rintro e w2 ⟨rfl,k2⟩
  have n2:=k2.size
  have mr2:=m1.below k2
  refine⟨_,rfl,?_⟩
  refine hK _ _ ?_
  clear hK K
  refine Yq (dQ _ _ rfl (Ye rfl) _) ?_
  refine aF ?_
  refine bM (Ye rfl) (bL ?_)
  refine aK ?_
  have hS0:(λZ=>∀i,i<7→Z.cell? (z.add i)=some (.int .i64 (p i))) w2.drew:=λi hi=>bE (hz i hi) (aQ (k1.trans (k2.mono Yo)))
  have mr0:Vh _ w2.drew _ _ _ _:=mr2
  have ez:w2.drew.heap.size=w2.heap.size:=rfl
  refine fZ (S:=λZ=>∀i,i<7→Z.cell? (z.add i)=some (.int .i64 (p i))) (.mv 0 (.mv 1 (.rd 2 (.mv 3 (.mv 4 (.rd 5 (.mv 6 (.mv 7 (.rd 8 (.mv 9 (.mv 10 (.rd 11 (.mv 12 (.mv 13 (.rd 14 (.mv 15 (.mv 16 (.rd 17 (.mv 18 (.mv 19 (.mv 20 (.rd 21 (.mv 22 (.go 23 (.mv 24 .fin))))))))))))))))))))))))) [23] (by kernel_rfl) (by kernel_rfl) ?_
  refine Yj ?_
  refine Yk rfl (λ_=>fT _ _ rfl (a:=z) (n:=m) (cap:=mc) (Ye rfl) (aG _ _) (i:=0) rfl Yo _) ?_
  refine Yr rfl hS0 (λ_ hS=>fQ _ rfl (Ye rfl) (hS 0 Yc)) ?_
  refine Yj ?_
  refine Yk rfl (λ_=>fT _ _ rfl (a:=z) (n:=m) (cap:=mc) (Ye rfl) (aG _ _) (i:=1) rfl Yo _) ?_
  refine Yr rfl hS0 (λ_ hS=>fQ _ rfl (Ye rfl) (hS 1 Yc)) ?_
  refine Yj ?_
  refine Yk rfl (λ_=>fT _ _ rfl (a:=z) (n:=m) (cap:=mc) (Ye rfl) (aG _ _) (i:=2) rfl Yo _) ?_
  refine Yr rfl hS0 (λ_ hS=>fQ _ rfl (Ye rfl) (hS 2 Yc)) ?_
  refine Yj ?_
  refine Yk rfl (λ_=>fT _ _ rfl (a:=z) (n:=m) (cap:=mc) (Ye rfl) (aG _ _) (i:=3) rfl Yo _) ?_
  refine Yr rfl hS0 (λ_ hS=>fQ _ rfl (Ye rfl) (hS 3 Yc)) ?_
  refine Yj ?_
  refine Yk rfl (λ_=>fT _ _ rfl (a:=z) (n:=m) (cap:=mc) (Ye rfl) (aG _ _) (i:=4) rfl Yo _) ?_
  refine Yr rfl hS0 (λ_ hS=>fQ _ rfl (Ye rfl) (hS 4 Yc)) ?_
  refine Yj ?_
  refine Yk rfl (λ_=>fT _ _ rfl (a:=z) (n:=m) (cap:=mc) (Ye rfl) (aG _ _) (i:=5) rfl Yo _) ?_
  refine Yr rfl hS0 (λ_ hS=>fQ _ rfl (Ye rfl) (hS 5 Yc)) ?_
  refine Yk rfl (λ_=>dA (b:=decide (p 5=1)) _ _ rfl (Ye rfl) (aG _ _) rfl _) ?_
  refine Yj ?_
  refine Yk rfl (λ_=>fT _ _ rfl (a:=z) (n:=m) (cap:=mc) (Ye rfl) (aG _ _) (i:=6) rfl Yo _) ?_
  refine Yr rfl hS0 (λ_ hS=>fQ _ rfl (Ye rfl) (hS 6 Yc)) ?_
  refine Yk rfl (λ_=>aLv (s:=axS p) _ _ _ _ _ _ _ rfl (Ye rfl) (Ye rfl) (Ye rfl) (Ye rfl) (Ye rfl) (Ye rfl) (Ye rfl) _) ?_
  refine eU rfl Yw (λK hK=>?_)
  refine aI _ _ _ _ rfl gM (Ye rfl) (Ye rfl) mr0 Yc (eH _) rfl ?_
  intro w3 mm3 k3 z3
  have mr3:=Vh.congr mm3 (pQ _ _)
  refine hK _ (λh=>absurd h Yc) ?_
  clear hK K
  refine Yj ?_
  refine iA ?_
  refine bD ?_
  refine bB ((aO _ _).trans hd) (nW rfl (Ye rfl) (Ye rfl) gM mr3 (Nat.le_refl _)) ⟨?_,aC (aQ (k1.trans (k2.mono Yo))) k3 Yo Yo⟩
  unfold axO
  rw[hb]
  rfl
theorem wN(w:World):(zeroValue 46).run Tryz.prog w=.ok (aV (λj=>dG St.nil' (j%7)) 0 21) w:=by kernel_rfl
theorem jS(g:Nat→Value)(h:Nat→Value):∀j,j<21→fG g 0 21 h j=h j:=λj hj=>by
 have:=mE g (o:=0) (n:=21) h hj
 rwa [Nat.zero_add] at this
theorem aGg(a:Addr)(i k:Nat):(a.add i).add k=a.add (i+k):=by
 by_cases hi:i=0
 ·subst hi;simp[Addr.add]
 ·by_cases hk:k=0
  ·subst hk;simp[Addr.add]
  ·simp[Addr.add,hi,hk,Nat.add_assoc]
def nJ(v:Nat→Int)(a:Nat):St:=axS (λi=>v (7*a+i))
def jZ(v:Nat→Int):Bool:=wiB (v 5) 1&&(wiB (v 12) 1&&wiB (v 19) 1)
def axV(v:Nat→Int)(x j:Nat):Value:=if j<7*x then dG (nJ v (j/7)) (j%7) else dG St.nil' (j%7)
theorem aLo(v:Nat→Int):∀j,j<21→dG St.nil' (j%7)=axV v 0 j:=λj _=>by unfold axV;rw[if_neg Yo]
theorem aLG(v:Nat→Int){x:Nat}(hb:wiB (v (7*x+5)) 1=true):∀j,j<21→fG (axV v x) (0+x*7) 7 (dG (axO (λi=>v (7*x+i)))) j=axV v (x+1) j:=by
 intro j _
 unfold fG
 by_cases c:0+x*7≤j∧j<0+x*7+7
 ·rw[if_pos c]
  have e:axO (λi=>v (7*x+i))=nJ v x:=by
   unfold axO
   exact if_pos hb
  rw[e]
  unfold axV
  rw[if_pos Yo,show j/7=x by omega,show j%7=j-(0+x*7) by omega]
 ·rw[if_neg c]
  unfold axV
  by_cases c2:j<7*x
  ·rw[if_pos c2,if_pos Yo]
  ·rw[if_neg c2,if_neg Yo]
theorem aJX(v:Nat→Int):∀j,j<21→axV v 3 j=dG (nJ v (j/7)) (j%7):=λj hj=>by unfold axV;rw[if_pos Yo]
theorem aQS{v:Nat→Int}{x:Nat}(hx:x<3)(hb:wiB (v (7*x+5)) 1=false):jZ v=false:=by
 unfold jZ
 match x,hx with
 |0,_=>rw[show wiB (v 5) 1=false from hb];rfl
 |1,_=>rw[show wiB (v 12) 1=false from hb];simp
 |2,_=>rw[show wiB (v 19) 1=false from hb];simp
theorem aPe{v:Nat→Int}(h:∀a,a<3→wiB (v (7*a+5)) 1=true):jZ v=true:=by
 unfold jZ
 rw[show wiB (v 5) 1=true from h 0 Yo,show wiB (v 12) 1=true from h 1 Yo,show wiB (v 19) 1=true from h 2 Yo]
 rfl
set_option maxHeartbeats 2000000 in
theorem aHr (y : Addr) (yc : Nat) (v : Nat → Int) (w : World) (hc : 24 ≤ yc) (hy : ∀ i, i < 24 → w.cell? (y.add i) = some (.int .i64 (v i))) :
  Calls Tryz.prog 113 #[.slice (some y) 24 yc] w λe w'=>e=.returned (.tuple #[aV (λj=>dG (if jZ v then nJ v (j/7) else St.nil') (j%7)) 0 21,.bool (jZ v)])∧Below w.heap.size w w':=by
 refine bX Tryz.func113 rfl 27 rfl Yd (λA hs hd hb=>?_)
 have b0:=hb 0 _ rfl
 clear hb
 refine aD (aJ ?_)
 refine aS rfl Yw (λK hK=>?_)
 refine aT _ _ rfl wN Yd ?_
 intro w1 m1 k1 z1
 refine hK _ _ ?_
 clear hK K
 refine Yp ?_
 refine aF ?_
 refine aD ?_
 refine aS rfl Yw (λK hK=>?_)
 refine aT _ _ rfl wN Yd ?_
 intro w2 m2 k2 z2
 have mr2:=m1.below k2
 refine hK _ _ ?_
 clear hK K
 refine aF ?_
 refine aK ?_
 refine aD ?_
 refine Yp ?_
 refine aF ?_
 refine aU ?_
 refine dY (λq A W=>∃x:Nat,x≤3∧3-x≤q∧A.tmps.size=27∧A.defers=[]∧A.eval (.tmp 0)=.slice (some y) 24 yc∧A.eval (.tmp 2)=.pointer (some ⟨w.heap.size,0,none⟩)∧A.eval (.tmp 4)=.pointer (some ⟨w1.heap.size,0,none⟩)∧A.eval (.tmp 8)=.int .i64 (x:Int)∧(∀a,a<x→wiB (v (7*a+5)) 1=true)∧Vh 46 W w.heap.size 21 21 (λj=>dG St.nil' (j%7))∧Vh 46 W w1.heap.size 21 21 (axV v x)∧Below w.heap.size w W∧w2.heap.size≤W.heap.size) 3 ⟨0,Yo,Yo,(bZ _ _).trans hs,(aO _ _).trans hd,(aB rfl b0),(Ye rfl),(Ye rfl),(Ye rfl),λa h=>absurd h Yo,mr2,Vh.congr m2 (aLo v),k1.trans (k2.mono Yo),Yo⟩ (λq B W hI2=>?_)
 clear b0 hs hd
 obtain⟨x,hx,hr2,hs,hd,b0,b2,b4,b8,hok,mr,ml,kB,hW⟩:=hI2
 by_cases hin:x<3
 ·rcases hb:wiB (v (7*x+5)) 1 with _|_
  ·refine aD (aJ ?_)
   refine Yq (aZ (b:=true) _ _ rfl (aB rfl b8) (aG _ _) (decide_eq_true Yo) _) ?_
   refine aF ?_
   refine aK (bP (Ye rfl) (bL ?_))
   refine aK (aU ?_)
   refine aD ?_
   iterate 2 refine Yp ?_
   refine aF ?_
   refine aD ?_
   iterate 2 refine Yp ?_
   refine Yq (aBx _ _ rfl (Ye rfl) (aG _ _) Yo Yo _) ?_
   refine Yq (aBa (i:=7*x) _ _ rfl (Ye rfl) (Ye rfl) Yo Yo Yo _) ?_
   refine aS rfl Yw (λK hK=>?_)
   have C1:=aCf (y.add (7*x)) (24-7*x) (yc-7*x) (λi=>v (7*x+i)) W Yo (λi hi=>by rw[aGg];exact bE (hy (7*x+i) Yo) kB)
   rw[hb] at C1
   refine bN _ 126 _ _ rfl (Ye rfl) (aAg _ _) C1 ?_
   rintro e w11 ⟨rfl,k11⟩
   have n11:=k11.size
   have mr11:=mr.below k11
   have ml11:=ml.below k11
   refine⟨_,rfl,?_⟩
   refine hK _ _ ?_
   clear hK K
   refine Yp ?_
   refine Yq (mX _ rfl (Ye rfl) _) ?_
   refine Yq (mW _ rfl (Ye rfl) _) ?_
   refine aS rfl Yw (λK hK=>?_)
   refine aT _ _ rfl vF Yd ?_
   intro w12 m12 k12 z12
   have mr12:=mr11.below k12
   have ml12:=ml11.below k12
   refine hK _ _ ?_
   clear hK K
   refine bS Yw (λK hK=>?_)
   refine aI _ _ _ _ rfl gM (Ye rfl) (Ye rfl) m12 Yc (eH _) rfl ?_
   intro w13 mm13 k13 z13
   have ms13:=Vh.congr mm13 (pQ _ _)
   have mr13:=mr12.kept k13 Yo
   have ml13:=ml12.kept k13 Yo
   refine hK _ ?_
   clear hK K
   refine Yp ?_
   refine aF ?_
   refine aK ?_
   refine aD ?_
   refine Yp ?_
   refine Yq (dQ _ _ rfl (Ye rfl) _) ?_
   refine aF ?_
   refine bP (Ye rfl) ?_
   refine aD ?_
   refine Yq (aDj rfl _) ?_
   refine bS Yw (λK hK=>?_)
   refine aI _ _ _ _ rfl fB (aB rfl b2) (Ye rfl) mr13 Yc (λj _=>eH _ _ Yo) rfl ?_
   intro w14 mm14 k14 z14
   have mr14:=Vh.congr mm14 (jS _ _)
   have ml14:=ml13.kept k14 Yo
   have ms14:=ms13.kept k14 Yo
   refine hK _ ?_
   clear hK K
   refine Yp ?_
   refine aF ?_
   refine bD ?_
   simp only[Nx,Exit.inBlock,Exit.then]
   refine bB ((aO _ _).trans hd) (nW rfl (aB rfl b2) (Ye rfl) fB mr14 (Nat.le_refl _)) ⟨?_,aC (aC ((kB.trans (k11.mono Yo)).trans (k12.mono Yo)) k13 Yo Yo) k14 Yo Yo⟩
   rw[aQS hin hb]
   rfl
  ·refine aD (aJ ?_)
   refine Yq (aZ (b:=true) _ _ rfl (aB rfl b8) (aG _ _) (decide_eq_true Yo) _) ?_
   refine aF ?_
   refine aK (bP (Ye rfl) (bL ?_))
   refine aK (aU ?_)
   refine aD ?_
   iterate 2 refine Yp ?_
   refine aF ?_
   refine aD ?_
   iterate 2 refine Yp ?_
   refine Yq (aBx _ _ rfl (Ye rfl) (aG _ _) Yo Yo _) ?_
   refine Yq (aBa (i:=7*x) _ _ rfl (Ye rfl) (Ye rfl) Yo Yo Yo _) ?_
   refine aS rfl Yw (λK hK=>?_)
   have C1:=aCf (y.add (7*x)) (24-7*x) (yc-7*x) (λi=>v (7*x+i)) W Yo (λi hi=>by rw[aGg];exact bE (hy (7*x+i) Yo) kB)
   rw[hb] at C1
   refine bN _ 126 _ _ rfl (Ye rfl) (aAg _ _) C1 ?_
   rintro e w11 ⟨rfl,k11⟩
   have n11:=k11.size
   have mr11:=mr.below k11
   have ml11:=ml.below k11
   refine⟨_,rfl,?_⟩
   refine hK _ _ ?_
   clear hK K
   refine Yp ?_
   refine Yq (mX _ rfl (Ye rfl) _) ?_
   refine Yq (mW _ rfl (Ye rfl) _) ?_
   refine aS rfl Yw (λK hK=>?_)
   refine aT _ _ rfl vF Yd ?_
   intro w12 m12 k12 z12
   have mr12:=mr11.below k12
   have ml12:=ml11.below k12
   refine hK _ _ ?_
   clear hK K
   refine bS Yw (λK hK=>?_)
   refine aI _ _ _ _ rfl gM (Ye rfl) (Ye rfl) m12 Yc (eH _) rfl ?_
   intro w13 mm13 k13 z13
   have ms13:=Vh.congr mm13 (pQ _ _)
   have mr13:=mr12.kept k13 Yo
   have ml13:=ml12.kept k13 Yo
   refine hK _ ?_
   clear hK K
   refine Yp ?_
   refine aF ?_
   refine aK ?_
   refine aD ?_
   refine Yp ?_
   refine Yq (dQ _ _ rfl (Ye rfl) _) ?_
   refine aF ?_
   refine bM (Ye rfl) (bL ?_)
   refine aR ?_
   refine Yp ?_
   refine Yq (aP _ _ rfl gM (Ye rfl) ms13 Yc) ?_
   refine Yq (dP _ _ _ _ rfl Tryz.underlying46 gM.size (aB rfl b4) (Ye rfl) rfl hin _) ?_
   refine bS Yw (λK hK=>?_)
   refine aI _ _ _ _ rfl gM (Ye rfl) (Ye rfl) ml13 Yo (eH _) rfl ?_
   intro w14 mm14 k14 z14
   have ml14:=Vh.congr mm14 (aLG v hb)
   have mr14:=mr13.kept k14 Yo
   have ms14:=ms13.kept k14 Yo
   refine hK _ ?_
   clear hK K
   refine iE ?_
   refine aR ?_
   refine Yq (bW _ _ rfl (aB rfl b8) (aG _ _) Yo Yo _) ?_
   refine Yp ?_
   exact bQ ⟨3-(x+1),Yo,x+1,Yo,Yo,(bZ _ _).trans hs,(aO _ _).trans hd,(aB rfl b0),(aB rfl b2),(aB rfl b4),(Ye rfl).trans (by rw[Int.natCast_add];rfl),(λa ha=>by
    by_cases e:a=x
    ·rw[e];exact hb
    ·exact hok a Yo),mr14,ml14,aC (aC ((kB.trans (k11.mono Yo)).trans (k12.mono Yo)) k13 Yo Yo) k14 Yo Yo,Yo⟩
 ·refine aD (aJ ?_)
  refine Yq (aZ (b:=false) _ _ rfl (aB rfl b8) (aG _ _) (decide_eq_false Yo) _) ?_
  obtain rfl:x=3:=Yo
  have ml:=Vh.congr ml (aJX v)
  refine aF ?_
  refine aK (bM (Ye rfl) (dS (fU ?_)))
  refine aD ?_
  refine Yq (aP _ _ rfl fB (aB rfl b4) ml Yc) ?_
  refine bS Yw (λK hK=>?_)
  refine aI _ _ _ _ rfl fB (aB rfl b2) (Ye rfl) mr Yc (λj _=>eH _ _ Yo) rfl ?_
  intro w11 mm11 k11 z11
  have mr11:=Vh.congr mm11 (jS _ _)
  have ml11:=ml.kept k11 Yo
  refine hK _ ?_
  clear hK K
  refine Yp ?_
  refine aF ?_
  refine bD (bB ((aO _ _).trans hd) (nW rfl (aB rfl b2) (Ye rfl) fB mr11 (Nat.le_refl _)) ⟨?_,aC kB k11 Yo Yo⟩)
  rw[aPe hok]
  rfl
def ctO(n:Int)(i:Nat):Int:=n/8^(3-i)%8
def ctV(n:Int)(x i:Nat):Value:=iV (if 3-i<x then ctO n i else 0)
theorem aKg(n:Int):∀j,j<4→iV 0=ctV n 0 j:=λj _=>by unfold ctV;rw[if_neg Yo]
theorem aKl(n:Int){x:Nat}(hx:x<4):∀j,j<4→iJ (ctV n x) (0+(3-x)*1) (.int .i64 (n/8^x%8)) j=ctV n (x+1) j:=by
 intro j hj
 unfold iJ
 rw[show 0+(3-x)*1=3-x by omega]
 by_cases e:j=3-x
 ·rw[if_pos e]
  unfold ctV ctO
  rw[if_pos Yo,show 3-j=x by omega]
  rfl
 ·rw[if_neg e]
  unfold ctV
  by_cases c:3-j<x
  ·rw[if_pos c,if_pos Yo]
  ·rw[if_neg c,if_neg Yo]
theorem aMx(n:Int):∀j,j<4→ctV n 4 j=iV (ctO n j):=λj _=>by unfold ctV;rw[if_pos Yo]
theorem aRB{n:Int}{x:Nat}:n/8^x/8=n/8^(x+1):=by
 rw[Int.ediv_ediv_of_nonneg (Int.pow_nonneg Yc),Int.pow_succ]
theorem aTf{n:Int}(h0:0≤n)(h1:n≤9223372036854775807)(x:Nat):0≤n/8^x∧n/8^x≤9223372036854775807:=
 ⟨Int.ediv_nonneg h0 (Int.pow_nonneg Yc),Int.le_trans (Int.ediv_le_self _ h0) h1⟩
set_option maxHeartbeats 1000000 in
theorem aAq(n:Int)(w:World)(h0:0≤n)(h1:n≤9223372036854775807):Calls Tryz.prog 128 #[.int .i64 n] w λe w'=>e=.returned (aV (λi=>iV (ctO n i)) 0 4)∧Below w.heap.size w w':=by
 refine bX Tryz.func128 rfl 16 rfl Yd (λA hs hd hb=>?_)
 have b0:A.eval (.tmp 0)=.int .i64 n:=hb 0 _ rfl
 clear hb
 refine aD (aJ ?_)
 refine aS rfl Yw (λK hK=>?_)
 refine aT _ _ rfl aCa Yd ?_
 intro w1 m1 k1 z1
 refine hK _ _ ?_
 clear hK K
 refine aF ?_
 refine aD ?_
 refine aS rfl Yw (λK hK=>?_)
 refine aT _ _ rfl aCa Yd ?_
 intro w2 m2 k2 z2
 have mr2:=m1.below k2
 refine hK _ _ ?_
 clear hK K
 refine aF ?_
 refine aK ?_
 refine aD ?_
 refine Yp ?_
 refine aF ?_
 refine aU ?_
 refine dY (λq A W=>∃x:Nat,x≤4∧4-x≤q∧A.tmps.size=16∧A.defers=[]∧A.eval (.tmp 2)=.pointer (some ⟨w.heap.size,0,none⟩)∧A.eval (.tmp 3)=.pointer (some ⟨w1.heap.size,0,none⟩)∧A.eval (.tmp 0)=.int .i64 (n/8^x)∧A.eval (.tmp 4)=.int .i64 (3-(x:Int))∧Vh 48 W w.heap.size 4 4 (λ_=>iV 0)∧Vh 48 W w1.heap.size 4 4 (ctV n x)∧Below w.heap.size w W∧w2.heap.size≤W.heap.size) 4 ⟨0,Yo,Yo,(bZ _ _).trans hs,(aO _ _).trans hd,(Ye rfl),(Ye rfl),(aB rfl b0).trans (by rw[Int.pow_zero,Int.ediv_one]),(Ye rfl),mr2,Vh.congr m2 (aKg n),k1.trans (k2.mono Yo),Yo⟩ (λq B W hI2=>?_)
 clear b0 hs hd
 obtain⟨x,hx,hr2,hs,hd,b2,b3,b0,b4,mr,ml,kB,hW⟩:=hI2
 have hq:=aTf h0 h1 x
 by_cases hin:x<4
 ·refine aK ?_
  refine aD (aJ ?_)
  refine Yp ?_
  refine Yq (iR (b:=true) _ _ rfl (Ye rfl) (aG _ _) (decide_eq_true Yo) _) ?_
  refine aF ?_
  refine bP (Ye rfl) (bL ?_)
  refine aK (aU ?_)
  refine aD ?_
  iterate 2 refine Yp ?_
  refine Yq (aLY _ _ rfl (Ye rfl) (aG _ _) hq.1 _) ?_
  refine Yq (dP (i:=3-x) _ _ _ _ rfl Tryz.underlying48 bT.size (aB rfl b3) (Ye rfl) Yo Yo _) ?_
  refine bS Yw (λK hK=>?_)
  refine iH _ _ _ _ rfl bT (Ye rfl) (Ye rfl) ml Yo rfl rfl rfl ?_
  intro w11 mm11 k11 z11
  have ml11:=Vh.congr mm11 (aKl n hin)
  have mr11:=mr.kept k11 Yo
  refine hK _ ?_
  clear hK K
  refine aF ?_
  refine aR ?_
  refine Yp ?_
  refine Yq (aMt _ _ rfl (Ye rfl) (aG _ _) hq.1 Yo _) ?_
  refine Yp ?_
  refine iE ?_
  refine aR ?_
  refine Yp ?_
  refine Yq (zH _ _ rfl (Ye rfl) (aG _ _) Yo Yo _) ?_
  refine Yp ?_
  exact bQ ⟨4-(x+1),Yo,x+1,Yo,Yo,(bZ _ _).trans hs,(aO _ _).trans hd,(aB rfl b2),(aB rfl b3),(Ye rfl).trans (by rw[aRB]),(Ye rfl).trans (by congr 1;omega),mr11,ml11,aC kB k11 Yo Yo,Yo⟩
 ·refine aK ?_
  refine aD (aJ ?_)
  refine Yp ?_
  refine Yq (iR (b:=false) _ _ rfl (Ye rfl) (aG _ _) (decide_eq_false Yo) _) ?_
  obtain rfl:x=4:=Yo
  have ml:=Vh.congr ml (aMx n)
  refine aF ?_
  refine bM (Ye rfl) (dS (fU ?_))
  refine aD ?_
  refine Yq (aP _ _ rfl sP (aB rfl b3) ml Yc) ?_
  refine bS Yw (λK hK=>?_)
  refine aI _ _ _ _ rfl sP (aB rfl b2) (Ye rfl) mr Yc (λj hj=>rfl) rfl ?_
  intro w11 mm11 k11 z11
  have mr11:=Vh.congr mm11 (fA _ _)
  have ml11:=ml.kept k11 Yo
  refine hK _ ?_
  clear hK K
  refine aF ?_
  refine bD (bB ((aO _ _).trans hd) (qN rfl (aB rfl b2) sP mr11 (Nat.le_refl _)) ⟨rfl,aC kB k11 Yo Yo⟩)
theorem yU(x:Value)(w:World):(callFunc 101 #[x]).run Tryz.prog w=.ok (.enter 101 #[x]) w:=by go_simp
theorem aEq(x y:Value)(w:World):(callFunc 84 #[x,y]).run Tryz.prog w=.ok (.enter 84 #[x,y]) w:=by go_simp
def jT(s m j:Int):Rl:=⟨λi=>decide (s/2^i%2=1),ctO m,ctO j⟩
def jN(s m j:Int):Bool:=wiB s 15&&(wiB m 4095&&wiB j 4095)
def rlP(s m j:Int)(x:Nat):Rl:=⟨λi=>if i<x then decide (s/2^i%2=1) else false,ctO m,ctO j⟩
theorem aLp{s m j:Int}:rlP s m j 0=⟨λ_=>false,ctO m,ctO j⟩:=by
 unfold rlP
 congr 1
theorem aKm(s m j:Int){x:Nat}(hx:x<4):∀i,i<12→iJ (cZ (rlP s m j x)) (0+0+x*1) (.bool (decide (s/2^x%2=1))) i=cZ (rlP s m j (x+1)) i:=by
 intro i _
 unfold iJ
 rw[show 0+0+x*1=x by omega]
 by_cases e:i=x
 ·rw[if_pos e]
  unfold cZ rlP
  rw[if_pos Yo]
  dsimp only
  rw[if_pos Yo,e]
 ·rw[if_neg e]
  unfold cZ rlP
  dsimp only
  by_cases c4:i<4
  ·rw[if_pos c4,if_pos c4]
   by_cases c:i<x
   ·rw[if_pos c,if_pos Yo]
   ·rw[if_neg c,if_neg Yo]
  ·rw[if_neg c4,if_neg c4]
theorem aLl(s m j:Int):∀i,i<12→cZ (rlP s m j 4) i=cZ (jT s m j) i:=by
 intro i _
 unfold cZ rlP jT
 dsimp only
 by_cases c4:i<4
 ·rw[if_pos c4,if_pos c4,if_pos c4]
 ·rw[if_neg c4,if_neg c4]
theorem aTs{s:Int}(h0:0≤s)(h1:s≤15)(x:Nat):0≤s/2^x∧s/2^x≤15:=
 ⟨Int.ediv_nonneg h0 (Int.pow_nonneg Yc),Int.le_trans (Int.ediv_le_self _ h0) h1⟩
theorem aNK(n:Int)(i:Nat):R64 (ctO n i):=by
 unfold ctO R64
 omega
theorem aDH{x l:Int}(h:wiB x l=true):0≤x∧x≤l:=by
 unfold wiB at h
 simpa using h
set_option maxHeartbeats 2000000 in
theorem aBV(s m j:Int)(w:World):Calls Tryz.prog 114 #[.int .i64 s,.int .i64 m,.int .i64 j] w λe w'=>e=.returned (.tuple #[aV (cZ (if jN s m j then jT s m j else zeroR)) 0 12,.bool (jN s m j&&nK (jT s m j))])∧Below w.heap.size w w':=by
 refine bX Tryz.func114 rfl 44 rfl Yd (λA hs hd hb=>?_)
 have b0:A.eval (.tmp 0)=.int .i64 s:=hb 0 _ rfl
 have b1:A.eval (.tmp 1)=.int .i64 m:=hb 1 _ rfl
 have b2:A.eval (.tmp 2)=.int .i64 j:=hb 2 _ rfl
 clear hb
 rcases h1:wiB s 15 with _|_
 ·refine aD (aJ ?_)
  refine aS rfl Yw (λK hK=>?_)
  refine aT _ _ rfl kM Yd ?_
  intro w1 m1 k1 z1
  refine hK _ _ ?_
  clear hK K
  refine Yp ?_
  refine aF ?_
  refine aK ?_
  refine aD ?_
  refine Yp ?_
  refine aS rfl Yw (λK hK=>?_)
  have C2:=gX s 15 w1
  rw[h1] at C2
  refine dB _ 127 _ _ _ rfl (Ye rfl) (aG _ _) (fP _ _ _) C2 ?_
  rintro e w2 ⟨rfl,k2⟩
  have n2:=k2.size
  have mr2:=m1.below k2
  refine⟨_,rfl,?_⟩
  refine hK _ _ ?_
  clear hK K
  refine Yq (dQ _ _ rfl (Ye rfl) _) ?_
  refine Yp ?_
  iterate 3 refine Yu ?_
  refine Yq (aX _ _ _ rfl (Ye rfl) (aG _ _) _) ?_
  refine Yp ?_
  iterate 3 refine Yu ?_
  refine Yq (aX _ _ _ rfl (Ye rfl) (aG _ _) _) ?_
  refine aF ?_
  refine bP (Ye rfl) ?_
  refine aD ?_
  refine Yq (xE rfl _) ?_
  refine bS Yw (λK hK=>?_)
  refine aI _ _ _ _ rfl dJ (Ye rfl) (Ye rfl) mr2 Yc (fM _) rfl ?_
  intro w3 mm3 k3 z3
  have mr3:=Vh.congr mm3 (fI _ _)
  refine hK _ ?_
  clear hK K
  refine Yp ?_
  refine aF ?_
  refine bD ?_
  simp only[Nx,Exit.then]
  refine bB ((aO _ _).trans hd) (nW rfl (Ye rfl) (Ye rfl) dJ mr3 (Nat.le_refl _)) ⟨?_,aC ((k1).trans (k2.mono Yo)) k3 Yo Yo⟩
  rw[show jN s m j=false by unfold jN;rw[h1];rfl]
  rfl
 ·rcases h2:wiB m 4095 with _|_
  ·refine aD (aJ ?_)
   refine aS rfl Yw (λK hK=>?_)
   refine aT _ _ rfl kM Yd ?_
   intro w1 m1 k1 z1
   refine hK _ _ ?_
   clear hK K
   refine Yp ?_
   refine aF ?_
   refine aK ?_
   refine aD ?_
   refine Yp ?_
   refine aS rfl Yw (λK hK=>?_)
   have C2:=gX s 15 w1
   rw[h1] at C2
   refine dB _ 127 _ _ _ rfl (Ye rfl) (aG _ _) (fP _ _ _) C2 ?_
   rintro e w2 ⟨rfl,k2⟩
   have n2:=k2.size
   have mr2:=m1.below k2
   refine⟨_,rfl,?_⟩
   refine hK _ _ ?_
   clear hK K
   refine Yq (dQ _ _ rfl (Ye rfl) _) ?_
   iterate 2 refine Yp ?_
   refine aS rfl (bC (j:=3) rfl rfl rfl (Ye rfl)) (λK hK=>?_)
   have C3:=gX m 4095 w2
   rw[h2] at C3
   refine dB _ 127 _ _ _ rfl (Ye rfl) (aG _ _) (fP _ _ _) C3 ?_
   rintro e w3 ⟨rfl,k3⟩
   have n3:=k3.size
   have mr3:=mr2.below k3
   refine⟨_,rfl,?_⟩
   refine hK _ _ ?_
   clear hK K
   refine Yq (dQ _ _ rfl (Ye rfl) _) ?_
   refine Yq (bI _ _ _ rfl (Ye rfl) (Ye rfl) _) ?_
   refine Yp ?_
   iterate 3 refine Yu ?_
   refine Yq (aX _ _ _ rfl (Ye rfl) (aG _ _) _) ?_
   refine aF ?_
   refine bP (Ye rfl) ?_
   refine aD ?_
   refine Yq (xE rfl _) ?_
   refine bS Yw (λK hK=>?_)
   refine aI _ _ _ _ rfl dJ (Ye rfl) (Ye rfl) mr3 Yc (fM _) rfl ?_
   intro w4 mm4 k4 z4
   have mr4:=Vh.congr mm4 (fI _ _)
   refine hK _ ?_
   clear hK K
   refine Yp ?_
   refine aF ?_
   refine bD ?_
   simp only[Nx,Exit.then]
   refine bB ((aO _ _).trans hd) (nW rfl (Ye rfl) (Ye rfl) dJ mr4 (Nat.le_refl _)) ⟨?_,aC (((k1).trans (k2.mono Yo)).trans (k3.mono Yo)) k4 Yo Yo⟩
   rw[show jN s m j=false by unfold jN;rw[h1,h2];rfl]
   rfl
  ·rcases h3:wiB j 4095 with _|_
   ·refine aD (aJ ?_)
    refine aS rfl Yw (λK hK=>?_)
    refine aT _ _ rfl kM Yd ?_
    intro w1 m1 k1 z1
    refine hK _ _ ?_
    clear hK K
    refine Yp ?_
    refine aF ?_
    refine aK ?_
    refine aD ?_
    refine Yp ?_
    refine aS rfl Yw (λK hK=>?_)
    have C2:=gX s 15 w1
    rw[h1] at C2
    refine dB _ 127 _ _ _ rfl (Ye rfl) (aG _ _) (fP _ _ _) C2 ?_
    rintro e w2 ⟨rfl,k2⟩
    have n2:=k2.size
    have mr2:=m1.below k2
    refine⟨_,rfl,?_⟩
    refine hK _ _ ?_
    clear hK K
    refine Yq (dQ _ _ rfl (Ye rfl) _) ?_
    iterate 2 refine Yp ?_
    refine aS rfl (bC (j:=3) rfl rfl rfl (Ye rfl)) (λK hK=>?_)
    have C3:=gX m 4095 w2
    rw[h2] at C3
    refine dB _ 127 _ _ _ rfl (Ye rfl) (aG _ _) (fP _ _ _) C3 ?_
    rintro e w3 ⟨rfl,k3⟩
    have n3:=k3.size
    have mr3:=mr2.below k3
    refine⟨_,rfl,?_⟩
    refine hK _ _ ?_
    clear hK K
    refine Yq (dQ _ _ rfl (Ye rfl) _) ?_
    refine Yq (bI _ _ _ rfl (Ye rfl) (Ye rfl) _) ?_
    iterate 2 refine Yp ?_
    refine aS rfl (bC (j:=8) rfl rfl rfl (Ye rfl)) (λK hK=>?_)
    have C4:=gX j 4095 w3
    rw[h3] at C4
    refine dB _ 127 _ _ _ rfl (Ye rfl) (aG _ _) (fP _ _ _) C4 ?_
    rintro e w4 ⟨rfl,k4⟩
    have n4:=k4.size
    have mr4:=mr3.below k4
    refine⟨_,rfl,?_⟩
    refine hK _ _ ?_
    clear hK K
    refine Yq (dQ _ _ rfl (Ye rfl) _) ?_
    refine Yq (bI _ _ _ rfl (Ye rfl) (Ye rfl) _) ?_
    refine aF ?_
    refine bP (Ye rfl) ?_
    refine aD ?_
    refine Yq (xE rfl _) ?_
    refine bS Yw (λK hK=>?_)
    refine aI _ _ _ _ rfl dJ (Ye rfl) (Ye rfl) mr4 Yc (fM _) rfl ?_
    intro w5 mm5 k5 z5
    have mr5:=Vh.congr mm5 (fI _ _)
    refine hK _ ?_
    clear hK K
    refine Yp ?_
    refine aF ?_
    refine bD ?_
    simp only[Nx,Exit.then]
    refine bB ((aO _ _).trans hd) (nW rfl (Ye rfl) (Ye rfl) dJ mr5 (Nat.le_refl _)) ⟨?_,aC ((((k1).trans (k2.mono Yo)).trans (k3.mono Yo)).trans (k4.mono Yo)) k5 Yo Yo⟩
    rw[show jN s m j=false by unfold jN;rw[h1,h2,h3];rfl]
    rfl
   ·obtain⟨hs0,hs1⟩:=aDH h1
    obtain⟨hm0,hm1⟩:=aDH h2
    obtain⟨hj0,hj1⟩:=aDH h3
    refine aD (aJ ?_)
    refine aS rfl Yw (λK hK=>?_)
    refine aT _ _ rfl kM Yd ?_
    intro w1 m1 k1 z1
    refine hK _ _ ?_
    clear hK K
    refine Yp ?_
    refine aF ?_
    refine aK ?_
    refine aD ?_
    refine Yp ?_
    refine aS rfl Yw (λK hK=>?_)
    have C2:=gX s 15 w1
    rw[h1] at C2
    refine dB _ 127 _ _ _ rfl (Ye rfl) (aG _ _) (fP _ _ _) C2 ?_
    rintro e w2 ⟨rfl,k2⟩
    have n2:=k2.size
    have mr2:=m1.below k2
    refine⟨_,rfl,?_⟩
    refine hK _ _ ?_
    clear hK K
    refine Yq (dQ _ _ rfl (Ye rfl) _) ?_
    iterate 2 refine Yp ?_
    refine aS rfl (bC (j:=3) rfl rfl rfl (Ye rfl)) (λK hK=>?_)
    have C3:=gX m 4095 w2
    rw[h2] at C3
    refine dB _ 127 _ _ _ rfl (Ye rfl) (aG _ _) (fP _ _ _) C3 ?_
    rintro e w3 ⟨rfl,k3⟩
    have n3:=k3.size
    have mr3:=mr2.below k3
    refine⟨_,rfl,?_⟩
    refine hK _ _ ?_
    clear hK K
    refine Yq (dQ _ _ rfl (Ye rfl) _) ?_
    refine Yq (bI _ _ _ rfl (Ye rfl) (Ye rfl) _) ?_
    iterate 2 refine Yp ?_
    refine aS rfl (bC (j:=8) rfl rfl rfl (Ye rfl)) (λK hK=>?_)
    have C4:=gX j 4095 w3
    rw[h3] at C4
    refine dB _ 127 _ _ _ rfl (Ye rfl) (aG _ _) (fP _ _ _) C4 ?_
    rintro e w4 ⟨rfl,k4⟩
    have n4:=k4.size
    have mr4:=mr3.below k4
    refine⟨_,rfl,?_⟩
    refine hK _ _ ?_
    clear hK K
    refine Yq (dQ _ _ rfl (Ye rfl) _) ?_
    refine Yq (bI _ _ _ rfl (Ye rfl) (Ye rfl) _) ?_
    refine aF ?_
    refine bM (Ye rfl) (bL ?_)
    refine aD ?_
    refine Yp ?_
    refine aS rfl Yw (λK hK=>?_)
    refine bN _ 128 _ _ rfl (Ye rfl) (xK _ _) (aAq m _ Yo Yo) ?_
    rintro e w5 ⟨rfl,k5⟩
    have n5:=k5.size
    have mr5:=mr4.below k5
    refine⟨_,rfl,?_⟩
    refine hK _ _ ?_
    clear hK K
    refine Yp ?_
    refine aS rfl Yw (λK hK=>?_)
    refine bN _ 128 _ _ rfl (Ye rfl) (xK _ _) (aAq j _ Yo Yo) ?_
    rintro e w6 ⟨rfl,k6⟩
    have n6:=k6.size
    have mr6:=mr5.below k6
    refine⟨_,rfl,?_⟩
    refine hK _ _ ?_
    clear hK K
    refine Yq (aJs _ _ rfl (Ye rfl) (Ye rfl) _) ?_
    refine aS rfl Yw (λK hK=>?_)
    refine aT _ _ rfl kM Yd ?_
    intro w7 m7 k7 z7
    have mr7:=mr6.below k7
    refine hK _ _ ?_
    clear hK K
    refine bS Yw (λK hK=>?_)
    refine aI _ _ _ _ rfl dJ (Ye rfl) (Ye rfl) m7 Yc (fM _) rfl ?_
    intro w8 mm8 k8 z8
    have mp8:=Vh.congr mm8 (fI _ _)
    have mr8:=mr7.kept k8 Yo
    refine hK _ ?_
    clear hK K
    refine aF ?_
    refine aK ?_
    refine aD ?_
    refine Yp ?_
    refine aF ?_
    refine aU ?_
    refine dY (λq A W=>∃x:Nat,x≤4∧4-x≤q∧A.tmps.size=44∧A.defers=[]∧A.eval (.tmp 0)=.int .i64 s∧A.eval (.tmp 6)=.pointer (some ⟨w.heap.size,0,none⟩)∧A.eval (.tmp 8)=.pointer (some ⟨w6.heap.size,0,none⟩)∧A.eval (.tmp 29)=.int .i64 (x:Int)∧Vh 50 W w.heap.size 12 12 (cZ zeroR)∧Vh 50 W w6.heap.size 12 12 (cZ (rlP s m j x))∧Below w.heap.size w W∧w8.heap.size≤W.heap.size) 4 ⟨0,Yo,Yo,(bZ _ _).trans hs,(aO _ _).trans hd,(aB rfl b0),(Ye rfl),(Ye rfl),(Ye rfl),mr8,by rw[aLp];exact mp8,aC (((((((k1).trans (k2.mono Yo)).trans (k3.mono Yo)).trans (k4.mono Yo)).trans (k5.mono Yo)).trans (k6.mono Yo)).trans (k7.mono Yo)) k8 Yo Yo,Yo⟩ (λq B W hI2=>?_)
    clear b0 b1 b2 hs hd
    obtain⟨x,hx,hr2,hs,hd,b0,b6,b8,b29,mr,mp,kB,hW⟩:=hI2
    by_cases hin:x<4
    ·have hsx:=aTs hs0 hs1 x
     refine aD (aJ ?_)
     refine Yq (aZ (b:=true) _ _ rfl (aB rfl b29) (aG _ _) (decide_eq_true Yo) _) ?_
     refine aF ?_
     refine aK (bP (Ye rfl) (bL ?_))
     refine aK (aU ?_)
     refine aD ?_
     iterate 2 refine Yp ?_
     refine aF ?_
     refine aR ?_
     iterate 3 refine Yp ?_
     refine Yq (aLS _ _ rfl (Ye rfl) (Ye rfl) Yo _) ?_
     refine Yq (aMe _ _ rfl (Ye rfl) (aG _ _) hsx.1 hsx.2 _) ?_
     refine Yq (dA (b:=decide (s/2^x%2=1)) _ _ rfl (Ye rfl) (aG _ _) rfl _) ?_
     refine Yq (aAF rfl (aB rfl b8) _) ?_
     refine Yq (dP _ _ _ _ rfl Tryz.underlying47 uD.size (Ye rfl) (Ye rfl) rfl hin _) ?_
     refine bS Yw (λK hK=>?_)
     refine iH _ _ _ _ rfl uD (Ye rfl) (Ye rfl) mp Yo rfl rfl rfl ?_
     intro w11 mm11 k11 z11
     have mp11:=Vh.congr mm11 (aKm s m j hin)
     have mr11:=mr.kept k11 Yo
     refine hK _ ?_
     clear hK K
     refine iE ?_
     refine aR ?_
     refine Yq (bW _ _ rfl (aB rfl b29) (aG _ _) Yo Yo _) ?_
     refine Yp ?_
     exact bQ ⟨4-(x+1),Yo,x+1,Yo,Yo,(bZ _ _).trans hs,(aO _ _).trans hd,(aB rfl b0),(aB rfl b6),(aB rfl b8),(Ye rfl).trans (by rw[Int.natCast_add];rfl),mr11,mp11,aC kB k11 Yo Yo,Yo⟩
    ·refine aD (aJ ?_)
     refine Yq (aZ (b:=false) _ _ rfl (aB rfl b29) (aG _ _) (decide_eq_false Yo) _) ?_
     obtain rfl:x=4:=Yo
     have mp:=Vh.congr mp (aLl s m j)
     refine aF ?_
     refine aK (bM (Ye rfl) (dS (fU ?_)))
     refine aK ?_
     have hS0:(λZ=>Vh 50 Z w6.heap.size 12 12 (cZ (jT s m j))) W.drew:=mp
     have mr0:Vh _ W.drew _ _ _ _:=mr
     have mp0:Vh _ W.drew _ _ _ _:=mp
     have ez:W.drew.heap.size=W.heap.size:=rfl
     refine fZ (S:=λZ=>Vh 50 Z w6.heap.size 12 12 (cZ (jT s m j))) (.rd 0 (.rd 1 (.go 2 (.go 3 (.mv 4 .fin))))) [] (by kernel_rfl) (by kernel_rfl) ?_
     refine Yr rfl hS0 (λ_ hS=>aP _ _ rfl dJ (aB rfl b8) hS Yc) ?_
     refine Yr rfl hS0 (λ_ hS=>aP _ _ rfl dJ (aB rfl b8) hS Yc) ?_
     refine dI rfl rfl Yw (λK hK=>?_)
     refine bN _ 98 _ _ rfl (Ye rfl) (aDX _ _) (aAh (jT s m j) _ (λi _=>⟨aNK _ _,aNK _ _⟩)) ?_
     rintro e w11 ⟨rfl,k11⟩
     have n11:=k11.size
     have mr11:=mr0.below k11
     have mp11:=hS0.below k11
     have hS11:(λZ=>Vh 50 Z w6.heap.size 12 12 (cZ (jT s m j))) w11:=mp11
     refine⟨_,rfl,?_⟩
     refine hK _ _ (λ_ _=>hS11) ?_
     clear hK K
     refine eU rfl Yw (λK hK=>?_)
     refine aI _ _ _ _ rfl dJ (aB rfl b6) (Ye rfl) mr11 Yc (fM _) rfl ?_
     intro w12 mm12 k12 z12
     have mr12:=Vh.congr mm12 (fI _ _)
     have mp12:=mp11.kept k12 Yo
     have hS12:(λZ=>Vh 50 Z w6.heap.size 12 12 (cZ (jT s m j))) w12:=mp12
     refine hK _ (λ_ _=>hS12) ?_
     clear hK K
     refine Yj ?_
     refine iA ?_
     refine bD ?_
     refine bB ((aO _ _).trans hd) (nW rfl (aB rfl b6) (Ye rfl) dJ mr12 (Nat.le_refl _)) ⟨?_,aC ((aQ kB).trans (k11.mono Yo)) k12 Yo Yo⟩
     rw[show jN s m j=true by unfold jN;rw[h1,h2,h3];rfl,Bool.true_and]
     rfl
theorem yG {P : Program} {w : World} {a : Act} {fn : Func} {p p' p2 : Nat} {ty ty' : TypeId} {b b' n n' N N' cap cap' : Nat} {t t' : TypeId} {g g' : Nat → Value} {v : Value} (h : fn.results = #[.cell p ty, .cell p' ty', .tmp p2]) (hv : a.eval (.tmp p) = .pointer (some ⟨b, 0, none⟩)) (hv' : a.eval (.tmp p') = .pointer (some ⟨b', 0, none⟩)) (h2 : a.eval (.tmp p2) = v) (T : Many P ty n) (T' : Many P ty' n') (hm : Vh t w b N cap g) (hn : n ≤ N) (hm' : Vh t' w b' N' cap' g') (hn' : n' ≤ N') :
  (results fn a.tmps).run P w=.ok (.tuple #[aV g 0 n,aV g' 0 n',v]) w:=by
 have e:=kQ hv;have e2:=kQ hv';have e3:=kQ h2
 simp only[Array.getD_eq_getD_getElem?] at e e2 e3
 simp[results,h,e,e2,e3,asAddr,nQ T hm hn,nQ T' hm' hn']
theorem aSG(v:List Int):unOK v=(jZ (gL v)&&(jN (gL v 21) (gL v 22) (gL v 23)&&nK (jT (gL v 21) (gL v 22) (gL v 23)))):=by
 have e:nK (unR v)=nK (jT (gL v 21) (gL v 22) (gL v 23)):=rfl
 unfold unOK jZ jN wiB
 rw[e,show (List.range 3).all (λa=>decide (0≤v.getD (7*a+5) 0)&&decide (v.getD (7*a+5) 0≤1))=((decide (0≤gL v 5)&&decide (gL v 5≤1))&&((decide (0≤gL v 12)&&decide (gL v 12≤1))&&((decide (0≤gL v 19)&&decide (gL v 19≤1))&&true))) from rfl]
 show (_&&decide (0≤gL v 21)&&decide (gL v 21≤15)&&decide (0≤gL v 22)&&decide (gL v 22≤4095)&&decide (0≤gL v 23)&&decide (gL v 23≤4095)&&_)=_
 simp only[Bool.and_true,Bool.and_assoc]
theorem xB{v:List Int}(hl:v.length=24):(decide (v.length=24)&&unOK v)=(jZ (gL v)&&(jN (gL v 21) (gL v 22) (gL v 23)&&nK (jT (gL v 21) (gL v 22) (gL v 23)))):=by
 rw[decide_eq_true hl,Bool.true_and,aSG]
theorem aRF{v:List Int}(h:jZ (gL v)=true){a:Nat}(ha:a<3):nJ (gL v) a=unA v a:=by
 have hb:wiB (gL v (7*a+5)) 1=true:=by
  unfold jZ at h
  simp only[Bool.and_eq_true] at h
  match a,ha with
  |0,_=>exact h.1
  |1,_=>exact h.2.1
  |2,_=>exact h.2.2
 obtain⟨h0,h1⟩:=aDH hb
 have e:decide (gL v (7*a+5)=1)=decide (0<v.getD (7*a+5) 0):=by
  show decide (gL v (7*a+5)=1)=decide (0<gL v (7*a+5))
  exact decide_eq_decide.2 Yo
 unfold nJ axS unA
 dsimp only
 rw[e]
 rfl
set_option maxHeartbeats 2000000 in
theorem aAZ (v : List Int) (to : Option Addr) (tc : Nat) (w : World) (hsr : Sr w to v.length tc (iF (gL v))) (htl : v.length ≤ tc) :
  Calls Tryz.prog 101 #[.slice to v.length tc] w λe w'=>∃fx fr:Nat→Value,e=.returned (.tuple #[aV fx 0 21,aV fr 0 12,.bool (decide (v.length=24)&&unOK v)])∧(∀j,j<21→(fx j).oneCell'=true)∧(∀j,j<12→(fr j).oneCell'=true)∧((decide (v.length=24)&&unOK v)=true→(∀i,i<21→fx i=dG (unA v (i/7)) (i%7))∧∀i,i<12→fr i=cZ (unR v) i)∧Below w.heap.size w w':=by
 refine bX Tryz.func101 rfl 38 rfl Yd (λA hs hd hb=>?_)
 have b0:A.eval (.tmp 0)=.slice to v.length tc:=hb 0 _ rfl
 clear hb
 by_cases hne:((v.length:Nat):Int)≠24
 ·rw[decide_eq_false (show ¬v.length=24 by omega),Bool.false_and]
  refine aD (aJ ?_)
  refine aS rfl Yw (λK hK=>?_)
  refine aT _ _ rfl wN Yd ?_
  intro w1 m1 k1 z1
  refine hK _ _ ?_
  clear hK K
  refine aS rfl Yw (λK hK=>?_)
  refine aT _ _ rfl kM Yd ?_
  intro w2 m2 k2 z2
  have ma2:=m1.below k2
  refine hK _ _ ?_
  clear hK K
  refine Yp ?_
  refine aF ?_
  refine aK ?_
  refine aD ?_
  refine Yp ?_
  refine Yq (eP _ rfl (Ye rfl) _) ?_
  refine Yq (eQ (b:=true) _ _ rfl (Ye rfl) (aG _ _) (decide_eq_true hne) _) ?_
  refine aF ?_
  refine bP (Ye rfl) ?_
  refine aD ?_
  refine Yq (aDj rfl _) ?_
  refine Yq (xE rfl _) ?_
  refine bS Yw (λK hK=>?_)
  refine aI _ _ _ _ rfl fB (Ye rfl) (Ye rfl) ma2 Yc (λj _=>eH _ _ Yo) rfl ?_
  intro w3 mm3 k3 z3
  have ma3:=Vh.congr mm3 (jS _ _)
  have mb3:=m2.kept k3 Yo
  refine hK _ ?_
  clear hK K
  refine bS Yw (λK hK=>?_)
  refine aI _ _ _ _ rfl dJ (Ye rfl) (Ye rfl) mb3 Yc (fM _) rfl ?_
  intro w4 mm4 k4 z4
  have mb4:=Vh.congr mm4 (fI _ _)
  have ma4:=ma3.kept k4 Yo
  refine hK _ ?_
  clear hK K
  refine Yp ?_
  refine aF ?_
  refine bD ?_
  simp only[Nx,Exit.then]
  refine bB ((aO _ _).trans hd) (yG rfl (Ye rfl) (Ye rfl) (Ye rfl) fB dJ ma4 (Nat.le_refl _) mb4 (Nat.le_refl _)) ⟨_,_,rfl,(λj _=>eH _ _ Yo),fM _,λh=>absurd h Yc,aC (aC (k1.trans (k2.mono Yo)) k3 Yo Yo) k4 Yo Yo⟩
 ·have hl:v.length=24:=Yo
  have htc:24≤tc:=Yo
  obtain⟨y,rfl,hy⟩:∃y,to=some y∧∀i,i<24→w.cell? (y.add i)=some (.int .i64 (gL v i)):=by
   rcases hsr with ⟨_,e,_⟩|⟨y,e,hc⟩
   ·omega
   ·exact⟨y,e,λi hi=>hc i Yo⟩
  refine aD (aJ ?_)
  refine aS rfl Yw (λK hK=>?_)
  refine aT _ _ rfl wN Yd ?_
  intro w1 m1 k1 z1
  refine hK _ _ ?_
  clear hK K
  refine aS rfl Yw (λK hK=>?_)
  refine aT _ _ rfl kM Yd ?_
  intro w2 m2 k2 z2
  have ma2:=m1.below k2
  refine hK _ _ ?_
  clear hK K
  refine Yp ?_
  refine aF ?_
  refine aK ?_
  refine aD ?_
  refine Yp ?_
  refine Yq (eP _ rfl (Ye rfl) _) ?_
  refine Yq (eQ (b:=false) _ _ rfl (Ye rfl) (aG _ _) (decide_eq_false (λe=>e (by rw[hl];rfl))) _) ?_
  refine aF ?_
  refine bM (Ye rfl) (bL ?_)
  refine aD ?_
  refine Yp ?_
  refine aS rfl Yw (λK hK=>?_)
  have C3:=aHr y tc (gL v) w2 htc (λi hi=>bE (hy i hi) (k1.trans (k2.mono Yo)))
  rw[←hl] at C3
  refine bN _ 113 _ _ rfl (Ye rfl) (aDt _ _) C3 ?_
  rintro e w3 ⟨rfl,k3⟩
  have n3:=k3.size
  have ma3:=ma2.below k3
  have mb3:=m2.below k3
  refine⟨_,rfl,?_⟩
  refine hK _ _ ?_
  clear hK K
  refine Yp ?_
  refine Yq (mX _ rfl (Ye rfl) _) ?_
  refine Yq (mW _ rfl (Ye rfl) _) ?_
  refine aS rfl Yw (λK hK=>?_)
  refine aT _ _ rfl wN Yd ?_
  intro w4 m4 k4 z4
  have ma4:=ma3.below k4
  have mb4:=mb3.below k4
  refine hK _ _ ?_
  clear hK K
  refine bS Yw (λK hK=>?_)
  refine aI _ _ _ _ rfl fB (Ye rfl) (Ye rfl) m4 Yc (λj _=>eH _ _ Yo) rfl ?_
  intro w5 mm5 k5 z5
  have mx5:=Vh.congr mm5 (jS _ _)
  have ma5:=ma4.kept k5 Yo
  have mb5:=mb4.kept k5 Yo
  refine hK _ ?_
  clear hK K
  refine Yp ?_
  refine aF ?_
  refine aK ?_
  have kA:Below w.heap.size w w5.drew:=aQ (aC ((((k1).trans (k2.mono Yo)).trans (k3.mono Yo)).trans (k4.mono Yo)) k5 Yo Yo)
  have hS0:(λZ=>∀i,i<24→Z.cell? (y.add i)=some (.int .i64 (gL v i))) w5.drew:=λi hi=>bE (hy i hi) kA
  have ma0:Vh _ w5.drew _ _ _ _:=ma5
  have mb0:Vh _ w5.drew _ _ _ _:=mb5
  have mx0:Vh _ w5.drew _ _ _ _:=mx5
  have ez:w5.drew.heap.size=w5.heap.size:=rfl
  refine fZ (S:=λZ=>∀i,i<24→Z.cell? (y.add i)=some (.int .i64 (gL v i))) (.mv 0 (.mv 1 (.rd 2 (.mv 3 (.mv 4 (.rd 5 (.mv 6 (.mv 7 (.rd 8 (.two 9 13 (.mv 10 (.mv 11 (.mv 12 (.go 13 (.go 14 (.mv 15 .fin)))))) (.go 9 (.mv 10 (.mv 11 (.mv 12 (.go 14 (.mv 15 .fin)))))))))))))))) [14] (by kernel_rfl) (by kernel_rfl) ?_
  refine Yj ?_
  refine Yk rfl (λ_=>fT _ _ rfl (a:=y) (n:=v.length) (cap:=tc) (Ye rfl) (aG _ _) (i:=21) rfl Yo _) ?_
  refine Yr rfl hS0 (λ_ hS=>fQ _ rfl (Ye rfl) (hS 21 Yc)) ?_
  refine Yj ?_
  refine Yk rfl (λ_=>fT _ _ rfl (a:=y) (n:=v.length) (cap:=tc) (Ye rfl) (aG _ _) (i:=22) rfl Yo _) ?_
  refine Yr rfl hS0 (λ_ hS=>fQ _ rfl (Ye rfl) (hS 22 Yc)) ?_
  refine Yj ?_
  refine Yk rfl (λ_=>fT _ _ rfl (a:=y) (n:=v.length) (cap:=tc) (Ye rfl) (aG _ _) (i:=23) rfl Yo _) ?_
  refine Yr rfl hS0 (λ_ hS=>fQ _ rfl (Ye rfl) (hS 23 Yc)) ?_
  refine aBR ?_ ?_
  ·refine dI rfl rfl Yw (λK hK=>?_)
   refine gQ _ 114 _ _ _ _ rfl (Ye rfl) (Ye rfl) (Ye rfl) (aAi _ _ _ _) (aBV (gL v 21) (gL v 22) (gL v 23) _) ?_
   rintro e w6 ⟨rfl,k6⟩
   have n6:=k6.size
   have ma6:=ma0.below k6
   have mb6:=mb0.below k6
   have mx6:=mx0.below k6
   have hS6:(λZ=>∀i,i<24→Z.cell? (y.add i)=some (.int .i64 (gL v i))) w6:=λi hi=>bE (hS0 i hi) k6
   refine⟨_,rfl,?_⟩
   refine hK _ _ (λ_ _=>hS6) ?_
   clear hK K
   refine Yj ?_
   refine Yk rfl (λ_=>mX _ rfl (Ye rfl) _) ?_
   refine Yk rfl (λ_=>mW _ rfl (Ye rfl) _) ?_
   refine dI rfl rfl Yw (λK hK=>?_)
   refine aT _ _ rfl kM Yd ?_
   intro w7 m7 k7 z7
   have ma7:=ma6.below k7
   have mb7:=mb6.below k7
   have mx7:=mx6.below k7
   have hS7:(λZ=>∀i,i<24→Z.cell? (y.add i)=some (.int .i64 (gL v i))) w7:=λi hi=>bE (hS6 i hi) k7
   refine hK _ _ (λ_ _=>hS7) ?_
   clear hK K
   refine eU rfl Yw (λK hK=>?_)
   refine aI _ _ _ _ rfl dJ (f:=cZ (if jN (gL v 21) (gL v 22) (gL v 23) then jT (gL v 21) (gL v 22) (gL v 23) else zeroR)) (Ye rfl) (Ye rfl) m7 Yc (fM _) rfl ?_
   intro w8 mm8 k8 z8
   have mp8:=Vh.congr mm8 (fI _ _)
   have ma8:=ma7.kept k8 Yo
   have mb8:=mb7.kept k8 Yo
   have mx8:=mx7.kept k8 Yo
   refine hK _ (λh=>absurd h Yc) ?_
   clear hK K
   refine Yj ?_
   refine iA ?_
   refine aK ?_
   have kB:Below w.heap.size w w8.drew:=aQ (aC ((kA.trans (k6.mono Yo)).trans (k7.mono Yo)) k8 Yo Yo)
   have hS0:(λZ=>Vh 46 Z w3.heap.size 21 21 (λi=>dG (if jZ (gL v) then nJ (gL v) (i/7) else St.nil') (i%7))∧Vh 50 Z (w6.heap.size) 12 12 (cZ (if jN (gL v 21) (gL v 22) (gL v 23) then jT (gL v 21) (gL v 22) (gL v 23) else zeroR))) w8.drew:=⟨mx8,mp8⟩
   have ma0:Vh _ w8.drew _ _ _ _:=ma8
   have mb0:Vh _ w8.drew _ _ _ _:=mb8
   have mx0:Vh _ w8.drew _ _ _ _:=mx8
   have mp0:Vh _ w8.drew _ _ _ _:=mp8
   have ez:w8.drew.heap.size=w8.heap.size:=rfl
   rcases hoa:jZ (gL v) with _|_
   ·refine fZ (S:=λZ=>Vh 46 Z w3.heap.size 21 21 (λi=>dG (if jZ (gL v) then nJ (gL v) (i/7) else St.nil') (i%7))∧Vh 50 Z (w6.heap.size) 12 12 (cZ (if jN (gL v 21) (gL v 22) (gL v 23) then jT (gL v 21) (gL v 22) (gL v 23) else zeroR))) (.rd 0 (.rd 1 (.mv 2 (.mv 3 (.mv 4 (.mv 5 (.go 6 (.go 7 (.mv 8 .fin))))))))) [] (by kernel_rfl) (by kernel_rfl) ?_
    refine Yr rfl hS0 (λ_ hS=>aP _ _ rfl fB (Ye rfl) hS.1 Yc) ?_
    refine Yr rfl hS0 (λ_ hS=>aP _ _ rfl dJ (Ye rfl) hS.2 Yc) ?_
    iterate 2 refine Yj ?_
    refine aIf rfl rfl (λ_ _ _ h=>h) (eB (j:=3) rfl rfl rfl (Ye rfl) Yc) ?_
    refine Yk rfl (λ_=>bI _ _ _ rfl (Ye rfl) (aG _ _) _) ?_
    refine eU rfl Yw (λK hK=>?_)
    refine aI _ _ _ _ rfl fB (Ye rfl) (Ye rfl) ma0 Yc (λj _=>eH _ _ Yo) rfl ?_
    intro w9 mm9 k9 z9
    have ma9:=Vh.congr mm9 (jS _ _)
    have mb9:=mb0.kept k9 Yo
    have mx9:=mx0.kept k9 Yo
    have mp9:=mp0.kept k9 Yo
    have hS9:(λZ=>Vh 46 Z w3.heap.size 21 21 (λi=>dG (if jZ (gL v) then nJ (gL v) (i/7) else St.nil') (i%7))∧Vh 50 Z (w6.heap.size) 12 12 (cZ (if jN (gL v 21) (gL v 22) (gL v 23) then jT (gL v 21) (gL v 22) (gL v 23) else zeroR))) w9:=⟨mx9,mp9⟩
    refine hK _ (λ_ _=>hS9) ?_
    clear hK K
    refine eU rfl Yw (λK hK=>?_)
    refine aI _ _ _ _ rfl dJ (Ye rfl) (Ye rfl) mb9 Yc (fM _) rfl ?_
    intro w10 mm10 k10 z10
    have mb10:=Vh.congr mm10 (fI _ _)
    have ma10:=ma9.kept k10 Yo
    have mx10:=mx9.kept k10 Yo
    have mp10:=mp9.kept k10 Yo
    have hS10:(λZ=>Vh 46 Z w3.heap.size 21 21 (λi=>dG (if jZ (gL v) then nJ (gL v) (i/7) else St.nil') (i%7))∧Vh 50 Z (w6.heap.size) 12 12 (cZ (if jN (gL v 21) (gL v 22) (gL v 23) then jT (gL v 21) (gL v 22) (gL v 23) else zeroR))) w10:=⟨mx10,mp10⟩
    refine hK _ (λ_ _=>hS10) ?_
    clear hK K
    refine Yj ?_
    refine iA ?_
    refine bD ?_
    refine bB ((aO _ _).trans hd) (yG rfl (Ye rfl) (Ye rfl) (Ye rfl) fB dJ ma10 (Nat.le_refl _) mb10 (Nat.le_refl _)) ⟨(λi=>dG (if jZ (gL v) then nJ (gL v) (i/7) else St.nil') (i%7)),cZ (if jN (gL v 21) (gL v 22) (gL v 23) then jT (gL v 21) (gL v 22) (gL v 23) else zeroR),?_,(λj _=>eH _ _ Yo),fM _,?_,aC (aC kB k9 Yo Yo) k10 Yo Yo⟩
    ·rw[xB hl,hoa]
     rfl
    ·intro h
     rw[xB hl,hoa] at h
     cases h
   ·refine fZ (S:=λZ=>Vh 46 Z w3.heap.size 21 21 (λi=>dG (if jZ (gL v) then nJ (gL v) (i/7) else St.nil') (i%7))∧Vh 50 Z (w6.heap.size) 12 12 (cZ (if jN (gL v 21) (gL v 22) (gL v 23) then jT (gL v 21) (gL v 22) (gL v 23) else zeroR))) (.rd 0 (.rd 1 (.mv 2 (.mv 3 (.mv 4 (.mv 5 (.go 6 (.go 7 (.mv 8 .fin))))))))) [] (by kernel_rfl) (by kernel_rfl) ?_
    refine Yr rfl hS0 (λ_ hS=>aP _ _ rfl fB (Ye rfl) hS.1 Yc) ?_
    refine Yr rfl hS0 (λ_ hS=>aP _ _ rfl dJ (Ye rfl) hS.2 Yc) ?_
    iterate 3 refine Yj ?_
    refine Yk rfl (λ_=>aX _ _ _ rfl (Ye rfl) (Ye rfl) _) ?_
    refine eU rfl Yw (λK hK=>?_)
    refine aI _ _ _ _ rfl fB (Ye rfl) (Ye rfl) ma0 Yc (λj _=>eH _ _ Yo) rfl ?_
    intro w9 mm9 k9 z9
    have ma9:=Vh.congr mm9 (jS _ _)
    have mb9:=mb0.kept k9 Yo
    have mx9:=mx0.kept k9 Yo
    have mp9:=mp0.kept k9 Yo
    have hS9:(λZ=>Vh 46 Z w3.heap.size 21 21 (λi=>dG (if jZ (gL v) then nJ (gL v) (i/7) else St.nil') (i%7))∧Vh 50 Z (w6.heap.size) 12 12 (cZ (if jN (gL v 21) (gL v 22) (gL v 23) then jT (gL v 21) (gL v 22) (gL v 23) else zeroR))) w9:=⟨mx9,mp9⟩
    refine hK _ (λ_ _=>hS9) ?_
    clear hK K
    refine eU rfl Yw (λK hK=>?_)
    refine aI _ _ _ _ rfl dJ (Ye rfl) (Ye rfl) mb9 Yc (fM _) rfl ?_
    intro w10 mm10 k10 z10
    have mb10:=Vh.congr mm10 (fI _ _)
    have ma10:=ma9.kept k10 Yo
    have mx10:=mx9.kept k10 Yo
    have mp10:=mp9.kept k10 Yo
    have hS10:(λZ=>Vh 46 Z w3.heap.size 21 21 (λi=>dG (if jZ (gL v) then nJ (gL v) (i/7) else St.nil') (i%7))∧Vh 50 Z (w6.heap.size) 12 12 (cZ (if jN (gL v 21) (gL v 22) (gL v 23) then jT (gL v 21) (gL v 22) (gL v 23) else zeroR))) w10:=⟨mx10,mp10⟩
    refine hK _ (λ_ _=>hS10) ?_
    clear hK K
    refine Yj ?_
    refine iA ?_
    refine bD ?_
    refine bB ((aO _ _).trans hd) (yG rfl (Ye rfl) (Ye rfl) (Ye rfl) fB dJ ma10 (Nat.le_refl _) mb10 (Nat.le_refl _)) ⟨(λi=>dG (if jZ (gL v) then nJ (gL v) (i/7) else St.nil') (i%7)),cZ (if jN (gL v 21) (gL v 22) (gL v 23) then jT (gL v 21) (gL v 22) (gL v 23) else zeroR),?_,(λj _=>eH _ _ Yo),fM _,?_,aC (aC kB k9 Yo Yo) k10 Yo Yo⟩
    ·rw[xB hl,hoa]
     rfl
    ·intro h
     rw[xB hl,hoa,Bool.true_and,Bool.and_eq_true] at h
     refine⟨λi _=>?_,?_⟩
     ·dsimp only
      rw[if_pos hoa,aRF hoa Yo]
     ·intro i _
      rw[if_pos h.1]
      rfl
  ·refine dI rfl rfl Yw (λK hK=>?_)
   refine aT _ _ rfl kM Yd ?_
   intro w6 m6 k6 z6
   have ma6:=ma0.below k6
   have mb6:=mb0.below k6
   have mx6:=mx0.below k6
   have hS6:(λZ=>∀i,i<24→Z.cell? (y.add i)=some (.int .i64 (gL v i))) w6:=λi hi=>bE (hS0 i hi) k6
   refine hK _ _ (λ_ _=>hS6) ?_
   clear hK K
   refine dI rfl rfl Yw (λK hK=>?_)
   refine gQ _ 114 _ _ _ _ rfl (Ye rfl) (Ye rfl) (Ye rfl) (aAi _ _ _ _) (aBV (gL v 21) (gL v 22) (gL v 23) _) ?_
   rintro e w7 ⟨rfl,k7⟩
   have n7:=k7.size
   have ma7:=ma6.below k7
   have mb7:=mb6.below k7
   have mx7:=mx6.below k7
   have mp7:=m6.below k7
   have hS7:(λZ=>∀i,i<24→Z.cell? (y.add i)=some (.int .i64 (gL v i))) w7:=λi hi=>bE (hS6 i hi) k7
   refine⟨_,rfl,?_⟩
   refine hK _ _ (λ_ _=>hS7) ?_
   clear hK K
   refine Yj ?_
   refine Yk rfl (λ_=>mX _ rfl (Ye rfl) _) ?_
   refine Yk rfl (λ_=>mW _ rfl (Ye rfl) _) ?_
   refine eU rfl Yw (λK hK=>?_)
   refine aI _ _ _ _ rfl dJ (f:=cZ (if jN (gL v 21) (gL v 22) (gL v 23) then jT (gL v 21) (gL v 22) (gL v 23) else zeroR)) (Ye rfl) (Ye rfl) mp7 Yc (fM _) rfl ?_
   intro w8 mm8 k8 z8
   have mp8:=Vh.congr mm8 (fI _ _)
   have ma8:=ma7.kept k8 Yo
   have mb8:=mb7.kept k8 Yo
   have mx8:=mx7.kept k8 Yo
   refine hK _ (λh=>absurd h Yc) ?_
   clear hK K
   refine Yj ?_
   refine iA ?_
   refine aK ?_
   have kB:Below w.heap.size w w8.drew:=aQ (aC ((kA.trans (k6.mono Yo)).trans (k7.mono Yo)) k8 Yo Yo)
   have hS0:(λZ=>Vh 46 Z w3.heap.size 21 21 (λi=>dG (if jZ (gL v) then nJ (gL v) (i/7) else St.nil') (i%7))∧Vh 50 Z (w5.drew.heap.size) 12 12 (cZ (if jN (gL v 21) (gL v 22) (gL v 23) then jT (gL v 21) (gL v 22) (gL v 23) else zeroR))) w8.drew:=⟨mx8,mp8⟩
   have ma0:Vh _ w8.drew _ _ _ _:=ma8
   have mb0:Vh _ w8.drew _ _ _ _:=mb8
   have mx0:Vh _ w8.drew _ _ _ _:=mx8
   have mp0:Vh _ w8.drew _ _ _ _:=mp8
   have ez:w8.drew.heap.size=w8.heap.size:=rfl
   rcases hoa:jZ (gL v) with _|_
   ·refine fZ (S:=λZ=>Vh 46 Z w3.heap.size 21 21 (λi=>dG (if jZ (gL v) then nJ (gL v) (i/7) else St.nil') (i%7))∧Vh 50 Z (w5.drew.heap.size) 12 12 (cZ (if jN (gL v 21) (gL v 22) (gL v 23) then jT (gL v 21) (gL v 22) (gL v 23) else zeroR))) (.rd 0 (.rd 1 (.mv 2 (.mv 3 (.mv 4 (.mv 5 (.go 6 (.go 7 (.mv 8 .fin))))))))) [] (by kernel_rfl) (by kernel_rfl) ?_
    refine Yr rfl hS0 (λ_ hS=>aP _ _ rfl fB (Ye rfl) hS.1 Yc) ?_
    refine Yr rfl hS0 (λ_ hS=>aP _ _ rfl dJ (Ye rfl) hS.2 Yc) ?_
    iterate 2 refine Yj ?_
    refine aIf rfl rfl (λ_ _ _ h=>h) (eB (j:=3) rfl rfl rfl (Ye rfl) Yc) ?_
    refine Yk rfl (λ_=>bI _ _ _ rfl (Ye rfl) (aG _ _) _) ?_
    refine eU rfl Yw (λK hK=>?_)
    refine aI _ _ _ _ rfl fB (Ye rfl) (Ye rfl) ma0 Yc (λj _=>eH _ _ Yo) rfl ?_
    intro w9 mm9 k9 z9
    have ma9:=Vh.congr mm9 (jS _ _)
    have mb9:=mb0.kept k9 Yo
    have mx9:=mx0.kept k9 Yo
    have mp9:=mp0.kept k9 Yo
    have hS9:(λZ=>Vh 46 Z w3.heap.size 21 21 (λi=>dG (if jZ (gL v) then nJ (gL v) (i/7) else St.nil') (i%7))∧Vh 50 Z (w5.drew.heap.size) 12 12 (cZ (if jN (gL v 21) (gL v 22) (gL v 23) then jT (gL v 21) (gL v 22) (gL v 23) else zeroR))) w9:=⟨mx9,mp9⟩
    refine hK _ (λ_ _=>hS9) ?_
    clear hK K
    refine eU rfl Yw (λK hK=>?_)
    refine aI _ _ _ _ rfl dJ (Ye rfl) (Ye rfl) mb9 Yc (fM _) rfl ?_
    intro w10 mm10 k10 z10
    have mb10:=Vh.congr mm10 (fI _ _)
    have ma10:=ma9.kept k10 Yo
    have mx10:=mx9.kept k10 Yo
    have mp10:=mp9.kept k10 Yo
    have hS10:(λZ=>Vh 46 Z w3.heap.size 21 21 (λi=>dG (if jZ (gL v) then nJ (gL v) (i/7) else St.nil') (i%7))∧Vh 50 Z (w5.drew.heap.size) 12 12 (cZ (if jN (gL v 21) (gL v 22) (gL v 23) then jT (gL v 21) (gL v 22) (gL v 23) else zeroR))) w10:=⟨mx10,mp10⟩
    refine hK _ (λ_ _=>hS10) ?_
    clear hK K
    refine Yj ?_
    refine iA ?_
    refine bD ?_
    refine bB ((aO _ _).trans hd) (yG rfl (Ye rfl) (Ye rfl) (Ye rfl) fB dJ ma10 (Nat.le_refl _) mb10 (Nat.le_refl _)) ⟨(λi=>dG (if jZ (gL v) then nJ (gL v) (i/7) else St.nil') (i%7)),cZ (if jN (gL v 21) (gL v 22) (gL v 23) then jT (gL v 21) (gL v 22) (gL v 23) else zeroR),?_,(λj _=>eH _ _ Yo),fM _,?_,aC (aC kB k9 Yo Yo) k10 Yo Yo⟩
    ·rw[xB hl,hoa]
     rfl
    ·intro h
     rw[xB hl,hoa] at h
     cases h
   ·refine fZ (S:=λZ=>Vh 46 Z w3.heap.size 21 21 (λi=>dG (if jZ (gL v) then nJ (gL v) (i/7) else St.nil') (i%7))∧Vh 50 Z (w5.drew.heap.size) 12 12 (cZ (if jN (gL v 21) (gL v 22) (gL v 23) then jT (gL v 21) (gL v 22) (gL v 23) else zeroR))) (.rd 0 (.rd 1 (.mv 2 (.mv 3 (.mv 4 (.mv 5 (.go 6 (.go 7 (.mv 8 .fin))))))))) [] (by kernel_rfl) (by kernel_rfl) ?_
    refine Yr rfl hS0 (λ_ hS=>aP _ _ rfl fB (Ye rfl) hS.1 Yc) ?_
    refine Yr rfl hS0 (λ_ hS=>aP _ _ rfl dJ (Ye rfl) hS.2 Yc) ?_
    iterate 3 refine Yj ?_
    refine Yk rfl (λ_=>aX _ _ _ rfl (Ye rfl) (Ye rfl) _) ?_
    refine eU rfl Yw (λK hK=>?_)
    refine aI _ _ _ _ rfl fB (Ye rfl) (Ye rfl) ma0 Yc (λj _=>eH _ _ Yo) rfl ?_
    intro w9 mm9 k9 z9
    have ma9:=Vh.congr mm9 (jS _ _)
    have mb9:=mb0.kept k9 Yo
    have mx9:=mx0.kept k9 Yo
    have mp9:=mp0.kept k9 Yo
    have hS9:(λZ=>Vh 46 Z w3.heap.size 21 21 (λi=>dG (if jZ (gL v) then nJ (gL v) (i/7) else St.nil') (i%7))∧Vh 50 Z (w5.drew.heap.size) 12 12 (cZ (if jN (gL v 21) (gL v 22) (gL v 23) then jT (gL v 21) (gL v 22) (gL v 23) else zeroR))) w9:=⟨mx9,mp9⟩
    refine hK _ (λ_ _=>hS9) ?_
    clear hK K
    refine eU rfl Yw (λK hK=>?_)
    refine aI _ _ _ _ rfl dJ (Ye rfl) (Ye rfl) mb9 Yc (fM _) rfl ?_
    intro w10 mm10 k10 z10
    have mb10:=Vh.congr mm10 (fI _ _)
    have ma10:=ma9.kept k10 Yo
    have mx10:=mx9.kept k10 Yo
    have mp10:=mp9.kept k10 Yo
    have hS10:(λZ=>Vh 46 Z w3.heap.size 21 21 (λi=>dG (if jZ (gL v) then nJ (gL v) (i/7) else St.nil') (i%7))∧Vh 50 Z (w5.drew.heap.size) 12 12 (cZ (if jN (gL v 21) (gL v 22) (gL v 23) then jT (gL v 21) (gL v 22) (gL v 23) else zeroR))) w10:=⟨mx10,mp10⟩
    refine hK _ (λ_ _=>hS10) ?_
    clear hK K
    refine Yj ?_
    refine iA ?_
    refine bD ?_
    refine bB ((aO _ _).trans hd) (yG rfl (Ye rfl) (Ye rfl) (Ye rfl) fB dJ ma10 (Nat.le_refl _) mb10 (Nat.le_refl _)) ⟨(λi=>dG (if jZ (gL v) then nJ (gL v) (i/7) else St.nil') (i%7)),cZ (if jN (gL v 21) (gL v 22) (gL v 23) then jT (gL v 21) (gL v 22) (gL v 23) else zeroR),?_,(λj _=>eH _ _ Yo),fM _,?_,aC (aC kB k9 Yo Yo) k10 Yo Yo⟩
    ·rw[xB hl,hoa]
     rfl
    ·intro h
     rw[xB hl,hoa,Bool.true_and,Bool.and_eq_true] at h
     refine⟨λi _=>?_,?_⟩
     ·dsimp only
      rw[if_pos hoa,aRF hoa Yo]
     ·intro i _
      rw[if_pos h.1]
      rfl
theorem fO(x:Value)(w:World):(callFunc 52 #[x]).run Tryz.prog w=.ok (.enter 52 #[x]) w:=by go_simp
theorem oN(x:Value)(w:World):(callFunc 70 #[x]).run Tryz.prog w=.ok (.enter 70 #[x]) w:=by go_simp
theorem nH(x y z:Value)(w:World):(callFunc 71 #[x,y,z]).run Tryz.prog w=.ok (.enter 71 #[x,y,z]) w:=by go_simp
theorem oZ(x y z u:Value)(w:World):(callFunc 72 #[x,y,z,u]).run Tryz.prog w=.ok (.enter 72 #[x,y,z,u]) w:=by go_simp
theorem aEh(x y:Value)(w:World):(callFunc 80 #[x,y]).run Tryz.prog w=.ok (.enter 80 #[x,y]) w:=by go_simp
theorem aFV(x:Value)(w:World):(callFunc 73 #[x]).run Tryz.prog w=.ok (.enter 73 #[x]) w:=by go_simp
theorem rQ(x y:Value)(w:World):(callFunc 78 #[x,y]).run Tryz.prog w=.ok (.enter 78 #[x,y]) w:=by go_simp
theorem aBW(x:Value)(w:World):(callFunc 93 #[x]).run Tryz.prog w=.ok (.enter 93 #[x]) w:=by go_simp
theorem aBg(x:Value)(w:World):(callFunc 94 #[x]).run Tryz.prog w=.ok (.enter 94 #[x]) w:=by go_simp
theorem sS(x:Value)(w:World):(callFunc 95 #[x]).run Tryz.prog w=.ok (.enter 95 #[x]) w:=by go_simp
theorem iO(id:Int)(w:World):Calls Tryz.prog 52 #[.int .i64 id] w λe w'=>e=.returned (.bool (!jR id))∧Below w.heap.size w w':=by
 unfold jR
 by_cases h1:id<0
 ·rw[decide_eq_true h1,Bool.true_or]
  refine bX Tryz.func52 rfl 9 rfl Yd (λA hs hd hb=>?_)
  have b0:=hb 0 _ rfl
  clear hb
  refine aD (aJ ?_)
  refine Yp ?_
  refine aF ?_
  refine aD ?_
  refine Yp ?_
  refine Yq (iR (b:=false) _ _ rfl (Ye rfl) (aG _ _) (decide_eq_false Yo) _) ?_
  refine Yp ?_
  iterate 2 refine Yu ?_
  refine Yq (bI _ _ _ rfl (Ye rfl) (aG _ _) _) ?_
  refine Yp ?_
  refine aF ?_
  exact bD (bB ((aO _ _).trans hd) (dW rfl (Ye rfl)) ⟨rfl,Below.refl _ _⟩)
 ·by_cases h2:3<id
  ·rw[decide_eq_false h1,decide_eq_true h2,Bool.or_true]
   refine bX Tryz.func52 rfl 9 rfl Yd (λA hs hd hb=>?_)
   have b0:=hb 0 _ rfl
   clear hb
   refine aD (aJ ?_)
   refine Yp ?_
   refine aF ?_
   refine aD ?_
   refine Yp ?_
   refine Yq (iR (b:=true) _ _ rfl (Ye rfl) (aG _ _) (decide_eq_true Yo) _) ?_
   iterate 2 refine Yp ?_
   refine Yq (aZ (b:=false) _ _ rfl (Ye rfl) (aG _ _) (decide_eq_false Yo) _) ?_
   refine Yq (aX _ _ _ rfl (Ye rfl) (Ye rfl) _) ?_
   refine Yp ?_
   refine aF ?_
   exact bD (bB ((aO _ _).trans hd) (dW rfl (Ye rfl)) ⟨rfl,Below.refl _ _⟩)
  ·rw[decide_eq_false h1,decide_eq_false h2,Bool.or_false]
   refine bX Tryz.func52 rfl 9 rfl Yd (λA hs hd hb=>?_)
   have b0:=hb 0 _ rfl
   clear hb
   refine aD (aJ ?_)
   refine Yp ?_
   refine aF ?_
   refine aD ?_
   refine Yp ?_
   refine Yq (iR (b:=true) _ _ rfl (Ye rfl) (aG _ _) (decide_eq_true Yo) _) ?_
   iterate 2 refine Yp ?_
   refine Yq (aZ (b:=true) _ _ rfl (Ye rfl) (aG _ _) (decide_eq_true Yo) _) ?_
   refine Yq (aX _ _ _ rfl (Ye rfl) (Ye rfl) _) ?_
   refine Yp ?_
   refine aF ?_
   exact bD (bB ((aO _ _).trans hd) (dW rfl (Ye rfl)) ⟨rfl,Below.refl _ _⟩)
theorem uL (n : Nd) (ao : Option Addr) (c : Nat) (w : World) (hs0 : Sr w ao n.vA.length c (tF (bA n))) (hl : n.vA.length ≤ 140737488351232) :
  Calls Tryz.prog 70 #[kT n (.slice ao n.vA.length c)] w λe w'=>∃a' c',e=.returned (kT n (.slice a' n.vA.length c'))∧w'.ownsRow w.heap.size 4 1 (.slice a' n.vA.length c') n.vA.length (rowV (tF (bA n)) n.vA.length)∧Below w.heap.size w w':=by
 refine bX Tryz.func70 rfl 10 rfl Yd (λA hs hd hb=>?_)
 have b0:=hb 0 _ rfl
 clear hb
 refine aD (aJ ?_)
 refine aS rfl Yw (λK hK=>?_)
 refine dX _ _ _ rfl (aB rfl b0) Yd ?_
 intro w1 m1 k1 z1
 have sr1:=hs0.below k1
 refine hK _ _ ?_
 clear hK K
 refine aS rfl Yw (λK hK=>?_)
 refine aT _ _ rfl nA Yd ?_
 intro w2 m2 k2 z2
 have mn2:=m1.below k2
 have sr2:=sr1.below k2
 refine hK _ _ ?_
 clear hK K
 refine aF ?_
 refine aD ?_
 refine Yq (nG rfl (Ye rfl) _) ?_
 refine Yq (aIW rfl (Ye rfl) _) ?_
 refine Yq (aN _ _ rfl aNt (Ye rfl) mn2 Yc rfl) ?_
 refine aS rfl Yw (λK hK=>?_)
 refine⟨aML _ _ _ rfl w2.heap.size (Nat.le_refl _) (.slice none 0 0) 0 [] rfl (World.ownsRow_nil _ _ _ _) ao n.vA.length c (tF (bA n)) (Ye rfl) sr2 (λi _=>rfl) Yo ?_⟩
 intro v3 w3 o3 k3
 rw[Nat.zero_add,List.nil_append] at o3
 obtain⟨a3,c3,rfl,hc3⟩:=gG o3
 have mn3:=mn2.below k3
 have mr3:=m2.below k3
 refine hK _ _ ?_
 clear hK K
 refine Yq (nG rfl (Ye rfl) _) ?_
 refine Yq (aIW rfl (Ye rfl) _) ?_
 refine bS Yw (λK hK=>?_)
 refine iH _ _ _ _ rfl aNt (Ye rfl) (Ye rfl) mn3 Yc rfl rfl rfl ?_
 intro w4 mm4 k4 z4
 have mn4:=Vh.congr mm4 (aEo _ _ _)
 have mr4:=mr3.kept k4 Yo
 have ow4:=iC o3 k4 Yo
 refine hK _ ?_
 clear hK K
 refine aF ?_
 refine aD ?_
 refine Yq (aP _ _ rfl aW (Ye rfl) mn4 Yc) ?_
 refine bS Yw (λK hK=>?_)
 refine aI _ _ _ _ rfl aW (Ye rfl) (Ye rfl) mr4 Yc (cK _ _ _ _) rfl ?_
 intro w5 mm5 k5 z5
 have mr5:=Vh.congr mm5 (dU _ _)
 have mn5:=mn4.kept k5 Yo
 have ow5:=iC ow4 k5 Yo
 refine hK _ ?_
 clear hK K
 refine aF ?_
 refine bD (bB ((aO _ _).trans hd) (qN rfl (Ye rfl) aW mr5 (Nat.le_refl _)) ⟨a3,c3,rfl,dL ow5 Yo,?_⟩)
 exact aC (aC ((k1.trans (k2.mono Yo)).trans (k3.mono Yo)) k4 Yo (by have:=k3.size;omega)) k5 Yo (by have:=k3.size;omega)
theorem rZ (n : Nd) (nv : Value) (kind : Int) (vo : Option Addr) (vn vc : Nat) (g : Nat → Int) (w : World) (hsr : Sr w vo vn vc (iF g)) (hl : vn ≤ 17592186044404) :
  Calls Tryz.prog 71 #[kT n nv,.int .i64 kind,.slice vo vn vc] w λe w'=>∃a2 c2,e=.returned (aV (kK kind n.id n.fr (.slice a2 vn c2)) 0 4)∧w'.ownsRow w.heap.size 3 1 (.slice a2 vn c2) vn (rowV (iF g) vn)∧Below w.heap.size w w':=by
 refine bX Tryz.func71 rfl 15 rfl Yd (λA hs hd hb=>?_)
 have b0:=hb 0 _ rfl
 have b1:=hb 1 _ rfl
 have b2:=hb 2 _ rfl
 clear hb
 refine aD (aJ ?_)
 refine aS rfl Yw (λK hK=>?_)
 refine dX _ _ _ rfl (aB rfl b0) Yd ?_
 intro w1 m1 k1 z1
 have sr1:=hsr.below k1
 refine hK _ _ ?_
 clear hK K
 refine aS rfl Yw (λK hK=>?_)
 refine aT _ _ rfl lX Yd ?_
 intro w2 m2 k2 z2
 have mn2:=m1.below k2
 have sr2:=sr1.below k2
 refine hK _ _ ?_
 clear hK K
 refine aF ?_
 refine aK ?_
 have hS0:(λW=>Vh 55 W w.heap.size 74 74 (ndF n nv)) w2.drew:=mn2
 have mq0:Vh _ w2.drew _ _ _ _:=m2
 have sr0:Sr w2.drew _ _ _ _:=sr2
 have ez:w2.drew.heap.size=w2.heap.size:=rfl
 refine fZ (S:=λW=>Vh 55 W w.heap.size 74 74 (ndF n nv)) (.mv 0 (.mv 1 (.rd 2 (.mv 3 (.rd 4 (.mv 5 (.go 6 (.mv 7 (.go 8 .fin))))))))) [] (by kernel_rfl) (by kernel_rfl) ?_
 refine Yj ?_
 refine Yk rfl (λ_=>kE rfl (Ye rfl) _) ?_
 refine Yr rfl hS0 (λ_ hS=>aN _ _ rfl bT (Ye rfl) hS Yc rfl) ?_
 refine Yk rfl (λ_=>qV rfl (Ye rfl) _) ?_
 refine Yr rfl hS0 (λ_ hS=>aN _ _ rfl bT (Ye rfl) hS Yc rfl) ?_
 refine Yj ?_
 refine dI rfl rfl Yw (λK hK=>?_)
 refine⟨qA _ _ _ rfl w2.drew.heap.size (Nat.le_refl _) (.slice none 0 0) 0 [] (aG _ _) (World.ownsRow_nil _ _ _ _) vo vn vc (iF g) (Ye rfl) sr0 (λi _=>rfl) Yo ?_⟩
 intro v3 w3 ov3 k3
 rw[Nat.zero_add,List.nil_append] at ov3
 obtain⟨a2,c2,rfl,hc2⟩:=gG ov3
 have n3:=k3.size
 have hS3:(λW=>Vh 55 W w.heap.size 74 74 (ndF n nv)) w3:=hS0.below k3
 have mq3:=mq0.below k3
 refine hK _ _ (λ_ _=>hS3) ?_
 clear hK K
 refine Yk rfl (λ_=>aKY _ _ _ _ rfl (Ye rfl) (Ye rfl) (Ye rfl) (Ye rfl) _) ?_
 refine eU rfl Yw (λK hK=>?_)
 refine aI _ _ _ _ rfl eD (Ye rfl) (Ye rfl) mq3 Yc (gB _ _ _ _ _ _) rfl ?_
 intro w4 mm4 k4 z4
 have mq4:=Vh.congr mm4 (fA _ _)
 have hS4:(λW=>Vh 55 W w.heap.size 74 74 (ndF n nv)) w4:=hS3.kept k4 Yo
 have ov4:=iC ov3 k4 Yo
 refine hK _ (λ_ _=>hS4) ?_
 clear hK K
 refine iA ?_
 refine bD (bB ((aO _ _).trans hd) (qN rfl (Ye rfl) eD mq4 (Nat.le_refl _)) ⟨a2,c2,rfl,dL ov4 Yo,?_⟩)
 exact aC ((aQ (k1.trans (k2.mono Yo))).trans (k3.mono Yo)) k4 Yo Yo
theorem uA(x:Value)(w:World):(callFunc 86 #[x]).run Tryz.prog w=.ok (.enter 86 #[x]) w:=by go_simp
def movN(n:Nd)(v:List Int):Nd:=if (decide (v.length=24)&&unOK v)=true then { n with ax:=unA v,rl:=unR v } else n
theorem aEK(n:Nd){nv:Value}(h:nv.oneCell'=true):∀j,j<74→(ndF n nv j).oneCell'=true:=by
 intro j _
 unfold ndF rY dG cZ iV
 repeat' split
 all_goals first|exact h|rfl
theorem upd_axW(n:Nd)(v:Value){fx:Nat→Value}{ax:Nat→St}(hx:∀i,i<21→fx i=dG (ax (i/7)) (i%7)):∀j,j<74→fG (ndF n v) (0+6) 21 fx j=ndF { n with ax:=ax } v j:=by
 intro j hj
 unfold fG
 by_cases c:0+6≤j∧j<0+6+21
 ·rw[if_pos c,hx _ Yo]
  unfold ndF
  rw[if_neg (show ¬j<2 by omega),if_neg (show ¬j<6 by omega),if_pos (show j<27 by omega),show j-(0+6)=j-6 by omega]
 ·rw[if_neg c]
  unfold ndF
  dsimp only
  by_cases c2:j<2
  ·rw[if_pos c2,if_pos c2]
  ·rw[if_neg c2,if_neg c2]
   by_cases c6:j<6
   ·rw[if_pos c6,if_pos c6]
   ·rw[if_neg c6,if_neg c6]
    rw[if_neg (show ¬j<27 by omega),if_neg (show ¬j<27 by omega)]
theorem upd_rlW(n:Nd)(v:Value){fr:Nat→Value}{r:Rl}(hx:∀i,i<12→fr i=cZ r i):∀j,j<74→fG (ndF n v) (0+27) 12 fr j=ndF { n with rl:=r } v j:=by
 intro j hj
 refine Eq.trans ?_ (upd_rl n v r j hj)
 unfold fG
 by_cases c:0+27≤j∧j<0+27+12
 ·rw[if_pos c,if_pos c,hx _ Yo]
 ·rw[if_neg c,if_neg c]
set_option maxHeartbeats 2000000 in
theorem aJw (n : Nd) (nv : Value) (v : List Int) (to : Option Addr) (tc : Nat) (w : World) (hnv : nv.oneCell' = true) (hsr : Sr w to v.length tc (iF (gL v))) (htl : v.length ≤ tc) :
  Calls Tryz.prog 84 #[kT n nv,.slice to v.length tc] w λe w'=>e=.returned (kT (movN n v) nv)∧Below w.heap.size w w':=by
 refine bX Tryz.func84 rfl 20 rfl Yd (λA hs hd hb=>?_)
 have b0:A.eval (.tmp 0)=kT n nv:=hb 0 _ rfl
 have b1:A.eval (.tmp 1)=.slice to v.length tc:=hb 1 _ rfl
 clear hb
 rcases hb:(decide (v.length=24)&&unOK v) with _|_
 ·refine aD (aJ ?_)
  refine aS rfl Yw (λK hK=>?_)
  refine dX _ _ _ rfl (aB rfl b0) Yd ?_
  intro w1 m1 k1 z1
  have sr1:=hsr.below k1
  refine hK _ _ ?_
  clear hK K
  refine aS rfl Yw (λK hK=>?_)
  refine aT _ _ rfl nA Yd ?_
  intro w2 m2 k2 z2
  have mn2:=m1.below k2
  have sr2:=sr1.below k2
  refine hK _ _ ?_
  clear hK K
  refine aF ?_
  refine aK ?_
  refine aD ?_
  refine Yp ?_
  refine aS rfl Yw (λK hK=>?_)
  have C3:=aAZ v to tc w2 sr2 htl
  rw[hb] at C3
  refine bN _ 101 _ _ rfl (Ye rfl) (yU _ _) C3 ?_
  rintro e w3 ⟨fx,fr,rfl,ofx,ofr,hfx,k3⟩
  have n3:=k3.size
  have mn3:=mn2.below k3
  have mr3:=m2.below k3
  refine⟨_,rfl,?_⟩
  refine hK _ _ ?_
  clear hK K
  refine Yp ?_
  refine Yq (kZ _ rfl (Ye rfl) _) ?_
  refine Yq (kV _ rfl (Ye rfl) _) ?_
  refine Yq (kY _ rfl (Ye rfl) _) ?_
  refine aS rfl Yw (λK hK=>?_)
  refine aT _ _ rfl wN Yd ?_
  intro w4 m4 k4 z4
  have mn4:=mn3.below k4
  have mr4:=mr3.below k4
  refine hK _ _ ?_
  clear hK K
  refine aS rfl Yw (λK hK=>?_)
  refine aT _ _ rfl kM Yd ?_
  intro w5 m5 k5 z5
  have mn5:=mn4.below k5
  have mr5:=mr4.below k5
  have ma5:=m4.below k5
  refine hK _ _ ?_
  clear hK K
  refine bS Yw (λK hK=>?_)
  refine aI _ _ _ _ rfl fB (f:=fx) (Ye rfl) (Ye rfl) ma5 Yc ofx rfl ?_
  intro w6 mm6 k6 z6
  have ma6:=Vh.congr mm6 (jS _ _)
  have mn6:=mn5.kept k6 Yo
  have mr6:=mr5.kept k6 Yo
  have mb6:=m5.kept k6 Yo
  refine hK _ ?_
  clear hK K
  refine bS Yw (λK hK=>?_)
  refine aI _ _ _ _ rfl dJ (f:=fr) (Ye rfl) (Ye rfl) mb6 Yc ofr rfl ?_
  intro w7 mm7 k7 z7
  have mb7:=Vh.congr mm7 (fI _ _)
  have mn7:=mn6.kept k7 Yo
  have mr7:=mr6.kept k7 Yo
  have ma7:=ma6.kept k7 Yo
  refine hK _ ?_
  clear hK K
  refine Yp ?_
  refine aF ?_
  refine aD ?_
  refine Yp ?_
  refine aF ?_
  refine bM (Ye rfl) (bL ?_)
  refine aD ?_
  refine Yq (aP _ _ rfl aW (Ye rfl) mn7 Yc) ?_
  refine bS Yw (λK hK=>?_)
  refine aI _ _ _ _ rfl aW (Ye rfl) (Ye rfl) mr7 Yc (aEK _ hnv) rfl ?_
  intro w8 mm8 k8 z8
  have mr8:=Vh.congr mm8 (dU _ _)
  have mn8:=mn7.kept k8 Yo
  have ma8:=ma7.kept k8 Yo
  have mb8:=mb7.kept k8 Yo
  refine hK _ ?_
  clear hK K
  refine aF ?_
  refine bD (bB ((aO _ _).trans hd) (qN rfl (Ye rfl) aW mr8 (Nat.le_refl _)) ⟨?_,aC (aC (aC ((((k1.trans (k2.mono Yo)).trans (k3.mono Yo)).trans (k4.mono Yo)).trans (k5.mono Yo)) k6 Yo Yo) k7 Yo Yo) k8 Yo Yo⟩)
  unfold movN
  rw[hb]
  rfl
 ·refine aD (aJ ?_)
  refine aS rfl Yw (λK hK=>?_)
  refine dX _ _ _ rfl (aB rfl b0) Yd ?_
  intro w1 m1 k1 z1
  have sr1:=hsr.below k1
  refine hK _ _ ?_
  clear hK K
  refine aS rfl Yw (λK hK=>?_)
  refine aT _ _ rfl nA Yd ?_
  intro w2 m2 k2 z2
  have mn2:=m1.below k2
  have sr2:=sr1.below k2
  refine hK _ _ ?_
  clear hK K
  refine aF ?_
  refine aK ?_
  refine aD ?_
  refine Yp ?_
  refine aS rfl Yw (λK hK=>?_)
  have C3:=aAZ v to tc w2 sr2 htl
  rw[hb] at C3
  refine bN _ 101 _ _ rfl (Ye rfl) (yU _ _) C3 ?_
  rintro e w3 ⟨fx,fr,rfl,ofx,ofr,hfx,k3⟩
  have n3:=k3.size
  have mn3:=mn2.below k3
  have mr3:=m2.below k3
  refine⟨_,rfl,?_⟩
  refine hK _ _ ?_
  clear hK K
  refine Yp ?_
  refine Yq (kZ _ rfl (Ye rfl) _) ?_
  refine Yq (kV _ rfl (Ye rfl) _) ?_
  refine Yq (kY _ rfl (Ye rfl) _) ?_
  refine aS rfl Yw (λK hK=>?_)
  refine aT _ _ rfl wN Yd ?_
  intro w4 m4 k4 z4
  have mn4:=mn3.below k4
  have mr4:=mr3.below k4
  refine hK _ _ ?_
  clear hK K
  refine aS rfl Yw (λK hK=>?_)
  refine aT _ _ rfl kM Yd ?_
  intro w5 m5 k5 z5
  have mn5:=mn4.below k5
  have mr5:=mr4.below k5
  have ma5:=m4.below k5
  refine hK _ _ ?_
  clear hK K
  refine bS Yw (λK hK=>?_)
  refine aI _ _ _ _ rfl fB (f:=fx) (Ye rfl) (Ye rfl) ma5 Yc ofx rfl ?_
  intro w6 mm6 k6 z6
  have ma6:=Vh.congr mm6 (jS _ _)
  have mn6:=mn5.kept k6 Yo
  have mr6:=mr5.kept k6 Yo
  have mb6:=m5.kept k6 Yo
  refine hK _ ?_
  clear hK K
  refine bS Yw (λK hK=>?_)
  refine aI _ _ _ _ rfl dJ (f:=fr) (Ye rfl) (Ye rfl) mb6 Yc ofr rfl ?_
  intro w7 mm7 k7 z7
  have mb7:=Vh.congr mm7 (fI _ _)
  have mn7:=mn6.kept k7 Yo
  have mr7:=mr6.kept k7 Yo
  have ma7:=ma6.kept k7 Yo
  refine hK _ ?_
  clear hK K
  refine Yp ?_
  refine aF ?_
  refine aD ?_
  refine Yp ?_
  refine aF ?_
  refine bP (Ye rfl) ?_
  have kA:Below w.heap.size w w7.drew:=aQ (aC (aC ((((k1.trans (k2.mono Yo)).trans (k3.mono Yo)).trans (k4.mono Yo)).trans (k5.mono Yo)) k6 Yo Yo) k7 Yo Yo)
  obtain⟨hx1,hx2⟩:=hfx rfl
  have hS0:(λZ=>Vh 46 Z w3.heap.size 21 21 fx∧Vh 50 Z w4.heap.size 12 12 fr) w7.drew:=⟨ma7,mb7⟩
  have mn0:Vh _ w7.drew _ _ _ _:=mn7
  have mr0:Vh _ w7.drew _ _ _ _:=mr7
  have ma0:Vh _ w7.drew _ _ _ _:=ma7
  have mb0:Vh _ w7.drew _ _ _ _:=mb7
  have ez:w7.drew.heap.size=w7.heap.size:=rfl
  refine fZ (S:=λZ=>Vh 46 Z w3.heap.size 21 21 fx∧Vh 50 Z w4.heap.size 12 12 fr) (.rd 0 (.rd 1 (.mv 2 (.go 3 (.mv 4 (.go 5 .fin)))))) [] (by kernel_rfl) (by kernel_rfl) ?_
  refine Yr rfl hS0 (λ_ hS=>aP _ _ rfl fB (Ye rfl) hS.1 Yc) ?_
  refine Yr rfl hS0 (λ_ hS=>aP _ _ rfl dJ (Ye rfl) hS.2 Yc) ?_
  refine Yk rfl (λ_=>qQ rfl (Ye rfl) _) ?_
  refine eU rfl Yw (λK hK=>?_)
  refine aI _ _ _ _ rfl fB (f:=fx) (Ye rfl) (Ye rfl) mn0 Yc ofx rfl ?_
  intro w8 mm8 k8 z8
  have mn8:Vh 55 w8 w.heap.size 74 74 (ndF { n with ax:=unA v } nv):=Vh.congr mm8 (upd_axW n nv hx1)
  have mr8:=mr0.kept k8 Yo
  have ma8:=ma0.kept k8 Yo
  have mb8:=mb0.kept k8 Yo
  have hS8:(λZ=>Vh 46 Z w3.heap.size 21 21 fx∧Vh 50 Z w4.heap.size 12 12 fr) w8:=⟨ma8,mb8⟩
  refine hK _ (λ_ _=>hS8) ?_
  clear hK K
  refine Yk rfl (λ_=>qP rfl (Ye rfl) _) ?_
  refine eU rfl Yw (λK hK=>?_)
  refine aI _ _ _ _ rfl dJ (f:=fr) (Ye rfl) (Ye rfl) mn8 Yc ofr rfl ?_
  intro w9 mm9 k9 z9
  have mn9:Vh 55 w9 w.heap.size 74 74 (ndF { n with ax:=unA v,rl:=unR v } nv):=Vh.congr mm9 (upd_rlW { n with ax:=unA v } nv hx2)
  have mr9:=mr8.kept k9 Yo
  have ma9:=ma8.kept k9 Yo
  have mb9:=mb8.kept k9 Yo
  have hS9:(λZ=>Vh 46 Z w3.heap.size 21 21 fx∧Vh 50 Z w4.heap.size 12 12 fr) w9:=⟨ma9,mb9⟩
  refine hK _ (λ_ _=>hS9) ?_
  clear hK K
  refine iA ?_
  refine aD ?_
  refine Yq (aP _ _ rfl aW (Ye rfl) mn9 Yc) ?_
  refine bS Yw (λK hK=>?_)
  refine aI _ _ _ _ rfl aW (Ye rfl) (Ye rfl) mr9 Yc (aEK _ hnv) rfl ?_
  intro w10 mm10 k10 z10
  have mr10:=Vh.congr mm10 (dU _ _)
  have mn10:=mn9.kept k10 Yo
  have ma10:=ma9.kept k10 Yo
  have mb10:=mb9.kept k10 Yo
  refine hK _ ?_
  clear hK K
  refine aF ?_
  refine bD (bB ((aO _ _).trans hd) (qN rfl (Ye rfl) aW mr10 (Nat.le_refl _)) ⟨?_,aC (aC (aC kA k8 Yo Yo) k9 Yo Yo) k10 Yo Yo⟩)
  unfold movN
  rw[hb]
  rfl
def rpP(n:Nd)(x j:Nat):Value:=if j=0 then iV n.id else if j=1 then iV n.fr else if j<5 then iV (n.us (j-2)) else if j<8 then iV (if j-5<x then (n.ax (j-5)).X else 0) else if j=8 then iV n.dg else if j=9 then .bool n.vS else .bool (n.rl.I (j-10))
def xC(n:Nd):Nat→Value:=rpP n 3
theorem qC(n:Nd)(x:Nat):∀j,j<14→(rpP n x j).oneCell'=true:=by
 intro j _
 unfold rpP iV
 repeat' split
 all_goals rfl
theorem aPl(n:Nd){x:Nat}(hx:x<3):∀j,j<14→iJ (rpP n x) (0+5+x*1) (.int .i64 (n.ax x).X) j=rpP n (x+1) j:=by
 intro j _
 unfold iJ
 rw[show 0+5+x*1=5+x by omega]
 by_cases e:j=5+x
 ·rw[if_pos e]
  unfold rpP
  rw[if_neg Yo,if_neg Yo,if_neg Yo,if_pos Yo,if_pos Yo,show j-5=x by omega]
  rfl
 ·rw[if_neg e]
  unfold rpP
  by_cases c0:j=0
  ·rw[if_pos c0,if_pos c0]
  rw[if_neg c0,if_neg c0]
  by_cases c1:j=1
  ·rw[if_pos c1,if_pos c1]
  rw[if_neg c1,if_neg c1]
  by_cases c5:j<5
  ·rw[if_pos c5,if_pos c5]
  rw[if_neg c5,if_neg c5]
  by_cases c8:j<8
  ·rw[if_pos c8,if_pos c8]
   by_cases c:j-5<x
   ·rw[if_pos c,if_pos Yo]
   ·rw[if_neg c,if_neg Yo]
  rw[if_neg c8,if_neg c8]
theorem mY:Many Tryz.prog 61 14:=Many.of _ Tryz.underlying61 rfl (by kernel_rfl)
theorem aBQ(w:World):(zeroValue 61).run Tryz.prog w=.ok (aV (rpP fD 3) 0 14) w:=by kernel_rfl
theorem qB(g:Nat→Value)(h:Nat→Value):∀j,j<14→fG g 0 14 h j=h j:=λj hj=>by
 have:=mE g (o:=0) (n:=14) h hj
 rwa [Nat.zero_add] at this
theorem aTr(n:Nd)(v:Value):∀j,j<3→ndF n v (0+67+j)=iV (n.us j):=λj hj=>by
 unfold ndF
 rw[if_neg Yo,if_neg Yo,if_neg Yo,if_neg Yo,if_neg Yo,if_neg Yo,if_neg Yo,if_pos Yo,show 0+67+j-67=j by omega]
theorem aSI(n:Nd)(v:Value):∀j,j<21→ndF n v (0+6+j)=dG (n.ax (j/7)) (j%7):=λj hj=>by
 unfold ndF
 rw[if_neg Yo,if_neg Yo,if_pos Yo,show 0+6+j-6=j by omega]
theorem aOg(ax:Nat→St){x:Nat}:aV (λj=>dG (ax (j/7)) (j%7)) (x*7) 7=aV (dG (ax x)) 0 7:=by
 unfold aV
 congr 2
 refine List.map_congr_left (λj hj=>?_)
 have:=List.mem_range.1 hj
 show dG (ax ((x*7+j)/7)) ((x*7+j)%7)=dG (ax x) (0+j)
 rw[show (x*7+j)/7=x by omega,show (x*7+j)%7=j by omega,Nat.zero_add]
section
variable {f:Operand→Value} {o:Oper} {x:Operand} {b off:Nat}
theorem aSm(ho:o.op=.fieldAddr 61 x 3)(hx:f x=.pointer (some ⟨b,off,none⟩))(w:World):(execOp f o).run Tryz.prog w=.ok (.value (.pointer (some ⟨b,off+5,none⟩))) w:=by
 unfold execOp
 rw[ho]
 dsimp only
 rw[hx]
 go_simp
theorem aHf(ho:o.op=.build 61 #[])(w:World):(execOp f o).run Tryz.prog w=.ok (.value (aV (rpP fD 3) 0 14)) w:=by
 unfold execOp
 rw[ho]
 dsimp only
 change _=_
 kernel_rfl
theorem aJP (a b c d e g : Operand) (ho : o.op = .build 61 #[(0, a), (1, b), (2, c), (4, d), (5, e), (6, g)]) {n : Nd} (h0 : f a = .int .i64 n.id) (h1 : f b = .int .i64 n.fr) (h2 : f c = aV (λi => iV (n.us i)) 0 3) (h3 : f d = .int .i64 n.dg) (h4 : f e = .bool n.vS) (h5 : f g = aV (tF n.rl.I) 0 4) (w : World) :
  (execOp f o).run Tryz.prog w=.ok (.value (aV (rpP n 0) 0 14)) w:=by
 have h2':f c=.agg #[.int .i64 (n.us 0),.int .i64 (n.us 1),.int .i64 (n.us 2)]:=h2
 have h5':f g=.agg #[.bool (n.rl.I 0),.bool (n.rl.I 1),.bool (n.rl.I 2),.bool (n.rl.I 3)]:=h5
 unfold execOp
 rw[ho]
 simp only[List.map_toArray,List.map_cons,List.map_nil]
 rw[h0,h1,h2',h3,h4,h5']
 clear h0 h1 h2 h3 h4 h5 h2' h5' ho
 change _=_
 kernel_rfl
end
set_option maxHeartbeats 2000000 in
theorem aAb(n:Nd)(nv:Value)(w:World):Calls Tryz.prog 86 #[kT n nv] w λe w'=>e=.returned (aV (xC n) 0 14)∧Below w.heap.size w w':=by
 refine bX Tryz.func86 rfl 34 rfl Yd (λA hs hd hb=>?_)
 have b0:A.eval (.tmp 0)=kT n nv:=hb 0 _ rfl
 clear hb
 refine aD (aJ ?_)
 refine aS rfl Yw (λK hK=>?_)
 refine dX _ _ _ rfl (aB rfl b0) Yd ?_
 intro w1 m1 k1 z1
 refine hK _ _ ?_
 clear hK K
 refine aS rfl Yw (λK hK=>?_)
 refine aT _ _ rfl aBQ Yd ?_
 intro w2 m2 k2 z2
 have mn2:=m1.below k2
 refine hK _ _ ?_
 clear hK K
 refine aF ?_
 refine aD ?_
 refine Yq (kE rfl (Ye rfl) _) ?_
 refine Yq (aN _ _ rfl bT (Ye rfl) mn2 Yc rfl) ?_
 refine Yq (qV rfl (Ye rfl) _) ?_
 refine Yq (aN _ _ rfl bT (Ye rfl) mn2 Yc rfl) ?_
 refine Yq (aEU rfl (Ye rfl) _) ?_
 refine Yq (dM (h:=λi=>iV (n.us i)) _ _ rfl lT (Ye rfl) mn2 Yo (aTr n nv)) ?_
 refine Yq (yQ rfl (Ye rfl) _) ?_
 refine Yq (aN _ _ rfl bT (Ye rfl) mn2 Yc rfl) ?_
 refine Yq (nG rfl (Ye rfl) _) ?_
 refine Yq (aBI rfl (Ye rfl) _) ?_
 refine Yq (aN _ _ rfl uD (Ye rfl) mn2 Yc rfl) ?_
 refine Yq (qP rfl (Ye rfl) _) ?_
 refine Yq (aAF rfl (Ye rfl) _) ?_
 refine Yq (dM _ _ rfl aEx (Ye rfl) mn2 Yo (aCP _ _)) ?_
 refine Yq (aJP (n:=n) _ _ _ _ _ _ rfl (Ye rfl) (Ye rfl) (Ye rfl) (Ye rfl) (Ye rfl) (Ye rfl) _) ?_
 refine aS rfl Yw (λK hK=>?_)
 refine aT _ _ rfl aBQ Yd ?_
 intro w3 m3 k3 z3
 have mn3:=mn2.below k3
 have mr3:=m2.below k3
 refine hK _ _ ?_
 clear hK K
 refine bS Yw (λK hK=>?_)
 refine aI _ _ _ _ rfl mY (Ye rfl) (Ye rfl) m3 Yc (qC _ _) rfl ?_
 intro w4 mm4 k4 z4
 have mp4:=Vh.congr mm4 (qB _ _)
 have mn4:=mn3.kept k4 Yo
 have mr4:=mr3.kept k4 Yo
 refine hK _ ?_
 clear hK K
 refine aF ?_
 refine aK ?_
 refine aD ?_
 refine Yq (qQ rfl (Ye rfl) _) ?_
 refine Yq (dM (h:=λj=>dG (n.ax (j/7)) (j%7)) _ _ rfl fB (Ye rfl) mn4 Yo (aSI n nv)) ?_
 refine Yp ?_
 refine aF ?_
 refine aU ?_
 refine dY (λq A W=>∃x:Nat,x≤3∧3-x≤q∧A.tmps.size=34∧A.defers=[]∧A.eval (.tmp 2)=.pointer (some ⟨w1.heap.size,0,none⟩)∧A.eval (.tmp 3)=.pointer (some ⟨w2.heap.size,0,none⟩)∧A.eval (.tmp 22)=aV (λj=>dG (n.ax (j/7)) (j%7)) 0 21∧A.eval (.tmp 23)=.int .i64 (x:Int)∧Vh 61 W w1.heap.size 14 14 (rpP fD 3)∧Vh 61 W w2.heap.size 14 14 (rpP n x)∧Below w.heap.size w W∧w4.heap.size≤W.heap.size) 3 ⟨0,Yo,Yo,(bZ _ _).trans hs,(aO _ _).trans hd,(Ye rfl),(Ye rfl),(Ye rfl),(Ye rfl),mr4,mp4,aC (((k1).trans (k2.mono Yo)).trans (k3.mono Yo)) k4 Yo Yo,Yo⟩ (λq B W hI2=>?_)
 clear b0 hs hd
 obtain⟨x,hx,hr2,hs,hd,b2,b3,b22,b23,mr,mp,kB,hW⟩:=hI2
 by_cases hin:x<3
 ·refine aD (aJ ?_)
  refine Yq (aZ (b:=true) _ _ rfl (aB rfl b23) (aG _ _) (decide_eq_true Yo) _) ?_
  refine aF ?_
  refine aK (bP (Ye rfl) (bL ?_))
  refine aK (aU ?_)
  refine aD ?_
  refine Yp ?_
  refine Yq ((jJ _ _ _ _ rfl Tryz.underlying46 gM (aB rfl b22) rfl (aB rfl b23) rfl hin _).trans (by rw[aOg n.ax])) ?_
  refine aS rfl Yw (λK hK=>?_)
  refine aT _ _ rfl vF Yd ?_
  intro w11 m11 k11 z11
  have mr11:=mr.below k11
  have mp11:=mp.below k11
  refine hK _ _ ?_
  clear hK K
  refine Yp ?_
  refine bS Yw (λK hK=>?_)
  refine aI _ _ _ _ rfl gM (Ye rfl) (Ye rfl) m11 Yc (eH _) rfl ?_
  intro w12 mm12 k12 z12
  have ms12:=Vh.congr mm12 (pQ _ _)
  have mr12:=mr11.kept k12 Yo
  have mp12:=mp11.kept k12 Yo
  refine hK _ ?_
  clear hK K
  refine aF ?_
  refine aR ?_
  refine Yp ?_
  refine Yq (aJu rfl (Ye rfl) _) ?_
  refine Yq (aN _ _ rfl bT (Ye rfl) ms12 Yc rfl) ?_
  refine Yq (aSm rfl (aB rfl b3) _) ?_
  refine Yq (dP _ _ _ _ rfl Tryz.underlying27 bT.size (Ye rfl) (Ye rfl) rfl hin _) ?_
  refine bS Yw (λK hK=>?_)
  refine iH _ _ _ _ rfl bT (Ye rfl) (Ye rfl) mp12 Yo rfl rfl rfl ?_
  intro w13 mm13 k13 z13
  have mp13:=Vh.congr mm13 (aPl n hin)
  have mr13:=mr12.kept k13 Yo
  have ms13:=ms12.kept k13 Yo
  refine hK _ ?_
  clear hK K
  refine iE ?_
  refine aR ?_
  refine Yq (bW _ _ rfl (aB rfl b23) (aG _ _) Yo Yo _) ?_
  refine Yp ?_
  exact bQ ⟨3-(x+1),Yo,x+1,Yo,Yo,(bZ _ _).trans hs,(aO _ _).trans hd,(aB rfl b2),(aB rfl b3),(aB rfl b22),(Ye rfl).trans (by rw[Int.natCast_add];rfl),mr13,mp13,aC (aC (kB.trans (k11.mono Yo)) k12 Yo Yo) k13 Yo Yo,Yo⟩
 ·refine aD (aJ ?_)
  refine Yq (aZ (b:=false) _ _ rfl (aB rfl b23) (aG _ _) (decide_eq_false Yo) _) ?_
  obtain rfl:x=3:=Yo
  refine aF ?_
  refine aK (bM (Ye rfl) (dS (fU ?_)))
  refine aD ?_
  refine Yq (aP _ _ rfl mY (aB rfl b3) mp Yc) ?_
  refine bS Yw (λK hK=>?_)
  refine aI _ _ _ _ rfl mY (aB rfl b2) (Ye rfl) mr Yc (qC _ _) rfl ?_
  intro w11 mm11 k11 z11
  have mr11:=Vh.congr mm11 (qB _ _)
  have mp11:=mp.kept k11 Yo
  refine hK _ ?_
  clear hK K
  refine aF ?_
  refine bD (bB ((aO _ _).trans hd) (qN rfl (aB rfl b2) mY mr11 (Nat.le_refl _)) ⟨rfl,aC kB k11 Yo Yo⟩)
end Go.Proofs.YtdhblehhgpdpdacGreat
