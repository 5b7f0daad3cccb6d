import Derived.Test.YtdhblehhgpdpdacGreatAutI
import Derived.Test.YtdhblehhgpdpdacGreatClSpec
import Derived.Test.YtdhblehhgpdpdacGreatNear152
namespace Go.Proofs.YtdhblehhgpdpdacGreat
open Go.RowKit
def rO(fr:Int)(nd:Nat→Nd)(v:Nat→Value)(j:Nat):Value:=if j=0 then iV fr else ndF (nd ((j-1)/74)) (v ((j-1)/74)) ((j-1)%74)
def ipF(rd:Nat→Nat→Int)(bad:Int)(lv:Value)(j:Nat):Value:=if j<12 then iV (rd (j/3) (j%3)) else if j=12 then iV bad else lv
def lyF(ph wo:Int)(v:Value)(j:Nat):Value:=if j=0 then iV ph else if j=1 then iV wo else v
def m4F(m:Nat→Ms)(v:Nat→Value)(j:Nat):Value:=kK (m (j/4)).K (m (j/4)).F (m (j/4)).R (v (j/4)) (j%4)
def uG(fr:Int)(nd:Nat→Nd)(v:Nat→Value)(bad:Int)(lv:Value)(bx:Nat→Value)(j:Nat):Value:=if j<297 then rO fr nd v j else if j=297 then iV bad else if j=298 then lv else bx (j-299)
def gW(a:Option Addr×Nat)(n:Nat):Value:=.slice a.1 n a.2
theorem aSe(fr:Int)(nd:Nat→Nd)(v:Nat→Value){i j:Nat}(hj:j<74):rO fr nd v (1+i*74+j)=ndF (nd i) (v i) j:=by
 unfold rO
 rw[if_neg Yo,show (1+i*74+j-1)/74=i by omega,show (1+i*74+j-1)%74=j by omega]
theorem aGD(fr:Int)(nd:Nat→Nd)(v:Nat→Value)(i:Nat)(n:Nd)(u:Value):∀j,j<297→fG (rO fr nd v) (1+i*74) 74 (ndF n u) j=rO fr (dF nd i n) (dF v i u) j:=by
 intro j hj
 unfold fG
 by_cases c:1+i*74≤j∧j<1+i*74+74
 ·rw[if_pos c]
  unfold rO
  rw[if_neg Yo,show (j-1)/74=i by omega,show (j-1)%74=j-(1+i*74) by omega,cB,cB]
 ·rw[if_neg c]
  unfold rO
  by_cases c0:j=0
  ·rw[if_pos c0,if_pos c0]
  ·rw[if_neg c0,if_neg c0]
   have:(j-1)/74≠i:=Yo
   rw[upM_other _ _ this,upM_other _ _ this]
theorem aGf(fr:Int)(nd:Nat→Nd)(a:Nat→Option Addr×Nat)(n:Nat→Nat):∀j,j<297→(rO fr nd (λi=>gW (a i) (n i)) j).oneCell'=true:=by
 intro j _
 unfold rO
 split
 ·rfl
 ·exact cK _ _ _ _ _ (Nat.mod_lt _ Yc)
theorem aPs(ph wo:Int)(ao:Option Addr)(n c:Nat):∀j,j<3→(lyF ph wo (.slice ao n c) j).oneCell'=true:=by
 intro j _
 unfold lyF
 split
 ·rfl
 ·split<;>rfl
theorem aSh(m:Nat→Ms)(v:Nat→Value){i j:Nat}(hj:j<4):m4F m v (i*4+j)=kK (m i).K (m i).F (m i).R (v i) j:=by
 unfold m4F
 rw[show (i*4+j)/4=i by omega,show (i*4+j)%4=j by omega]
theorem aOu(m:Nat→Ms)(a:Nat→Option Addr×Nat)(n:Nat→Nat):∀j,j<16→(m4F m (λi=>gW (a i) (n i)) j).oneCell'=true:=by
 intro j _
 exact gB _ _ _ _ _ _ _ (Nat.mod_lt _ Yc)
theorem aQq(m:Nat→Ms)(v:Nat→Value)(i:Nat)(n:Ms)(u:Value):∀j,j<16→fG (m4F m v) (i*4) 4 (kK n.K n.F n.R u) j=m4F (dF m i n) (dF v i u) j:=by
 intro j hj
 unfold fG
 by_cases c:i*4≤j∧j<i*4+4
 ·rw[if_pos c]
  unfold m4F
  rw[show j/4=i by omega,show j%4=j-i*4 by omega,cB,cB]
 ·rw[if_neg c]
  unfold m4F
  have:j/4≠i:=Yo
  rw[upM_other _ _ this,upM_other _ _ this]
theorem xZ{fr:Int}{nd:Nat→Nd}{v:Nat→Value}{bad:Int}{lv:Value}{bx:Nat→Value}{j:Nat}(hj:j<297):uG fr nd v bad lv bx j=rO fr nd v j:=if_pos hj
theorem aQB(fr:Int)(nd:Nat→Nd)(v:Nat→Value)(bad:Int)(lv:Value)(bx:Nat→Value){i:Nat}(hi:i<4)(n:Nd)(u:Value):∀j,j<303→fG (uG fr nd v bad lv bx) (1+i*74) 74 (ndF n u) j=uG fr (dF nd i n) (dF v i u) bad lv bx j:=by
 intro j hj
 by_cases c:j<297
 ·rw[xZ c, ←aGD fr nd v i n u j c]
  unfold fG
  split
  ·rfl
  ·exact xZ c
 ·rw[mD _ _ Yo]
  unfold uG
  rw[if_neg c,if_neg c]
theorem aRs(fr:Int)(nd:Nat→Nd)(v:Nat→Value)(bad:Int)(lv:Value)(bx:Nat→Value)(i:Nat)(u:Value):∀j,j<303→iJ (uG fr nd v bad lv bx) (299+i) u j=uG fr nd v bad lv (dF bx i u) j:=by
 intro j hj
 by_cases c:j=299+i
 ·subst c
  rw[kF]
  unfold uG
  rw[if_neg Yo,if_neg Yo,if_neg Yo,Nat.add_sub_cancel_left,cB]
 ·rw[gT _ _ c]
  unfold uG
  by_cases c1:j<297
  ·rw[if_pos c1,if_pos c1]
  ·rw[if_neg c1,if_neg c1]
   by_cases c2:j=297
   ·rw[if_pos c2,if_pos c2]
   ·rw[if_neg c2,if_neg c2]
    by_cases c3:j=298
    ·rw[if_pos c3,if_pos c3]
    ·rw[if_neg c3,if_neg c3,upM_other _ _ Yo]
theorem dO{g f:Nat→Value}{n:Nat}:∀j,j<n→fG g 0 n f j=f j:=λj hj=>by
 have:=mE g (o:=0) (n:=n) f hj
 rwa [Nat.zero_add] at this
instance:ZerK Tryz.prog 58 297 (rO 0 (λ_=>fD) (λ_=>gW (none,0) 0)):=⟨λw=>by kernel_rfl⟩
instance:ZerK Tryz.prog 31 14 (ipF (λ_ _=>0) 0 (.slice none 0 0)):=⟨λw=>by kernel_rfl⟩
instance:ZerK Tryz.prog 35 3 (lyF 0 0 (.slice none 0 0)):=⟨λw=>by kernel_rfl⟩
instance:ZerK Tryz.prog 61 14 (xC fD):=⟨aBQ⟩
instance:ZerK Tryz.prog 110 16 (m4F (λ_=>jI) (λ_=>gW (none,0) 0)):=⟨λw=>by kernel_rfl⟩
theorem aIX{f:Operand→Value}{o:Oper}(ho:o.op=.build 58 #[])(w:World):(execOp f o).run Tryz.prog w=.ok (.value (aV (rO 0 (λ_=>fD) (λ_=>gW (none,0) 0)) 0 297)) w:=by
 unfold execOp
 rw[ho]
 kernel_rfl
def pG(B:Nat)(v:Value)(L:List Lm):It:=⟨λw=>OwnM w B v L,λk=>v.ownBlock=some k∨∃c,c∈L∧(lmV c).ownBlock=some k,
 λh e=>⟨yC h.1 (λk hk=>e k (h.1.lt k hk).2 (Or.inl hk)),λc hc=>yC (h.2 c hc) (λk hk=>e k ((h.2 c hc).lt k hk).2 (Or.inr ⟨c,hc,hk⟩))⟩,
 λh e=>by
  rcases e with e|⟨c,hc,e⟩
  ·exact (h.1.lt _ e).2
  ·exact ((h.2 c hc).lt _ e).2⟩
theorem zR{B:Nat}{v:Value}{L:List Lm}{w:World}(h:OwnM w B v L):∀j,(pG B v L).foot j→B≤j:=λj e=>by
 rcases e with e|⟨c,hc,e⟩
 ·exact (h.1.lt _ e).1
 ·exact ((h.2 c hc).lt _ e).1
theorem OwnM.base{w:World}{B C:Nat}{v:Value}{L:List Lm}(h:OwnM w B v L)(e:C≤B):OwnM w C v L:=⟨dL h.1 e,λc hc=>dL (h.2 c hc) e⟩
theorem aQv{w0 w w':World}{v u v':Value}{L M:List Lm}{l:List It}(H:Cx w0 w (pG w0.heap.size v L::pG w0.heap.size u M::l))(h2:w'.ownsRow w0.heap.size 69 4 v' (L.length+M.length) (uH L++uH M))(h3:w.grownBy w' v.ownBlock)(h4:∀k,v'.ownBlock=some k→v.ownBlock=some k∨w.heap.size≤k):Cx w0 w' (pG w0.heap.size v' (L++M)::l):=by
 have hL:OwnM w w0.heap.size v L:=H.o0
 have hM:OwnM w w0.heap.size u M:=H.o1
 have apart:∀c,aFa w w0.heap.size c→∀k,(lmV c).ownBlock=some k→some k≠v.ownBlock:=λc hc k hk e=>by
  obtain⟨u1,hu1⟩:=rV hc hk
  obtain⟨u2,hu2⟩:=rV hL.1 e.symm
  rw[hu1] at hu2
  cases hu2
 have kp:∀c,aFa w w0.heap.size c→aFa w' w0.heap.size c:=λc hc=>yC hc (λk hk=>h3.block k (hc.lt k hk).2 (apart c hc k hk))
 have hn:OwnM w' w0.heap.size v' (L++M):=⟨by rw[List.length_append,aHu];exact h2,λc hc=>by
  rcases List.mem_append.1 hc with hc|hc
  ·exact kp c (hL.2 c hc)
  ·exact kp c (hM.2 c hc)⟩
 refine H.merge.p0 h3.os h3.tape h3.output h3.size (λj h5 h6=>h3.block j h5 (λe=>h6 (Or.inl (Or.inl e.symm)))) (pG w0.heap.size v' (L++M)) hn (λj hj=>?_)
 rcases hj with hj|⟨c,hc,hj⟩
 ·rcases h4 j hj with h|h
  ·exact Or.inl (Or.inl (Or.inl h))
  ·exact Or.inr h
 ·rcases List.mem_append.1 hc with hc|hc
  ·exact Or.inl (Or.inl (Or.inr ⟨c,hc,hj⟩))
  ·exact Or.inl (Or.inr (Or.inr ⟨c,hc,hj⟩))
theorem aGY {ops : Array Oper} {Q : Exit → Act → World → Prop} {A : Act} {L' : List (Nat × Value)} {w0 w : World} {rest : List Oper} {o : Oper} {d : Nat} {l : List It} {L M : List Lm} {v u : Value} {s x : Operand} (H : Cx w0 w (pG w0.heap.size v L :: pG w0.heap.size u M :: l)) (hl : L.length + M.length ≤ 2932031007401)
  (h:∀v' w',Cx w0 w' (pG w0.heap.size v' (L++M)::l)→LstI Tryz.prog ops Q rest (aM A ((d,v')::L')) w')
  (ho:o.op=.call { callee:=.builtin .append,args:=#[s,x],argTypes:=#[113,113] }:=by rfl) (hs:(aM A L').eval s=v:=by exact Qv) (hx:(aM A L').eval x=u:=by exact Qv) (hd:o.dst=some d:=by rfl) (hw:Region.wanted o (yielded ops (aM A L').tmps)=true:=by exact cO rfl):LstI Tryz.prog ops Q (o::rest) (aM A L') w:=by
 have hL:OwnM w w0.heap.size v L:=H.o0
 have hM:OwnM w w0.heap.size u M:=H.o1
 exact aS hd hw (λ_ hK=>aBh ho inferInstance H.size hs hx hL.1 (aGr hM.1) aQu (by unfold maxLen;omega) Yo (λv' w' h2 h3 h4=>hK _ _ (h v' w' (aQv H h2 h3 h4))))
theorem aDO{w:World}{b B:Nat}{c:Lm}(h:Vh 69 w b 4 4 (sW c))(hb:B≤b):w.ownsRow B 69 4 (.slice (some ⟨b,0,none⟩) 1 1) 1 (uH [c]):=by
 obtain⟨cur,h1,h2,h3,h4,h5⟩:=h
 refine⟨rfl,Or.inr ⟨b,1,cur,rfl,hb,h1,Nat.le_refl _,by decide,Yo,?_⟩⟩
 apply List.ext_getElem?
 intro i
 rw[List.getElem?_take]
 by_cases hi:i<1*4
 ·rw[if_pos hi,Array.getElem?_toList,h5 i Yo]
  have:=aIu [c] 0 c rfl i Yo
  rw[Nat.zero_mul,Nat.zero_add] at this
  exact this.symm
 ·rw[if_neg hi,List.getElem?_eq_none (by rw[aGj];exact Nat.le_of_not_lt hi)]
theorem aQg{w0 w w':World}{u:Value}{c:Lm}{l:List It}{x:It}(H:Cx w0 w (x::pG w0.heap.size u [c]::l))(k:Below w.heap.size w w')(m:Vh 69 w' w.heap.size 4 4 (sW c)):Cx w0 w' (x::pG w0.heap.size (.slice (some ⟨w.heap.size,0,none⟩) 1 1) [c]::l):=by
 have hM:OwnM w w0.heap.size u [c]:=H.o1
 refine H.p1 k.os k.tape k.output k.size (λj h5 _=>k.block j h5) (pG w0.heap.size (.slice (some ⟨w.heap.size,0,none⟩) 1 1) [c]) ⟨aDO m H.size,λd hd=>bG (hM.2 d hd) k⟩ (λj hj=>?_)
 rcases hj with hj|hj
 ·cases hj;exact Or.inr (Nat.le_refl _)
 ·exact Or.inl (Or.inr hj)
structure Lj where
 y:Ly
 ao:Option Addr
 cap:Nat
def ljV(c:Lj):Value:=.slice c.ao c.y.n c.cap
def ljF(c:Lj):Nat→Value:=lyF c.y.ph c.y.wo (ljV c)
def aTC(w:World)(ao:Option Addr)(L:List Lj):Prop:=0<L.length→∃b o,ao=some ⟨b,o,none⟩∧∀i c,L[i]?=some c→∀k,k<3→w.cell? ⟨b,o+i*3+k,none⟩=some (ljF c k)
def aTR(w:World)(c:Lj):Prop:=Sr w c.ao c.y.n c.cap (bF c.y.g)∧c.y.n≤c.cap∧c.y.n≤140737488351232∧∀i,c.y.g i<256
def JRd(w:World)(ao:Option Addr)(L:List Lj):Prop:=aTC w ao L∧∀c,c∈L→aTR w c
theorem JRd.below{w w':World}{ao:Option Addr}{L:List Lj}(h:JRd w ao L)(k:Below w.heap.size w w'):JRd w' ao L:=⟨λhl=>by
 obtain⟨b,o,e,hc⟩:=h.1 hl
 exact⟨b,o,e,λi c hi j hj=>bE (hc i c hi j hj) k⟩,λc hc=>⟨(h.2 c hc).1.below k,(h.2 c hc).2⟩⟩
theorem lN{g f:Nat→Value}{o n:Nat}(h:∀j,j<n→g (o+j)=f j):aV g o n=aV f 0 n:=by
 unfold aV
 congr 2
 refine List.map_congr_left λj hj=>?_
 rw[h j (List.mem_range.1 hj),Nat.zero_add]
section
variable {P:Program} {Q:Exit→Act→World→Prop} {a:Act} {w:World} {y:Code} {id id2:Nat} {ops:Array Oper}
theorem aRM(h:CodI P y Q a w):CodI P .skip (Exit.inBlock id (Exit.inBlock id2 (Nx P y Q))) a w:=rA h
theorem aIm(h:CodI P y Q a w):LstI P ops (Exit.inBlock id (Exit.inBlock id2 (Nx P y Q))) [] a w:=⟨wpList_nil h⟩
end
section
variable {n:Nd} {s:Nat} {kind:Int} {many:Nat}
theorem aKh(a b:List Ms):iI n (a++b) s kind many=(iI n a s kind many).or (iI n b s kind many):=by
 unfold iI
 rw[List.find?_append]
 cases List.find? _ a<;>rfl
theorem aOf{l:List Ms}(h:∀m,m∈l→m.F≠(s:Int)):iI n l s kind many=none:=by
 unfold iI
 rw[Option.map_eq_none_iff,List.find?_eq_none]
 intro m hm c
 simp only[Bool.and_eq_true,decide_eq_true_eq] at c
 exact h m hm c.1.1.1.1
theorem aAP{m:Ms}(h1:m.F=(s:Int))(h2:n.id≠(s:Int))(h3:m.K=kind)(h4:m.R=n.fr)(h5:m.L.length=many)(h6:dD m.K m.F m.R m.L.length=0):iI n (yD m) s kind many=some m.L:=by
 unfold iI yD
 rw[if_pos h6,List.find?_cons]
 have e:(decide (m.F=(s:Int))&&decide (m.F≠n.id)&&decide (m.K=kind)&&decide (m.R=n.fr)&&decide (m.L.length=many))=true:=by
  rw[decide_eq_true h1,decide_eq_true (by rw[h1];exact λe=>h2 e.symm),decide_eq_true h3,decide_eq_true h4,decide_eq_true h5];rfl
 rw[e]
 rfl
end
theorem aTw{bad wo ph:Int}{l:List Ly}{m:Ms}(h:m∈uF bad wo ph l):m.F=bad:=by
 unfold uF at h
 obtain⟨y,_,h2⟩:=List.mem_flatMap.1 h
 split at h2
 ·simpa using (List.mem_filter.1 h2).2
 ·cases h2
theorem aNB{m m':Ms}(h:m'∈yD m):m'=m:=by
 unfold yD at h
 split at h
 ·simpa using h
 ·cases h
theorem yO {x : Ip} {told : Nat → Ms} {n : Nd} {s wo ph : Nat} {kind : Int} {many : Nat} (hF : ∀ j : Nat, j < 4 → (j : Int) ≠ x.bad → (told j).F = (j : Nat)) (hs : s ≠ wo) :
  ∀k,k≤4→iI n (oP x told wo ph k) s kind many=if s<k then (if (s:Int)=x.bad then iI n (uF x.bad wo ph x.ly) s kind many else iI n (yD (told s)) s kind many) else none
 |0,_=>by rw[if_neg Yo];rfl
 |k+1,hk=>by
  have ih:=yO (n:=n) (ph:=ph) (kind:=kind) (many:=many) hF hs k Yo
  show iI n (oP x told wo ph k++_) s kind many=_
  rw[aKh,ih]
  by_cases c:s=k
  ·subst c
   rw[if_neg (Nat.lt_irrefl s),if_neg hs,if_pos (Nat.lt_succ_self s)]
   split
   ·rw[Option.none_or]
   ·rw[Option.none_or]
  ·have e:iI n (if k=wo then [] else if (k:Int)=x.bad then uF x.bad wo ph x.ly else yD (told k)) s kind many=none:=by
    refine aOf λm hm=>?_
    split at hm
    ·cases hm
    ·split at hm
     ·rename_i h;rw[aTw hm, ←h];omega
     ·rename_i h;rw[aNB hm,hF k Yo h];omega
   rw[e,Option.or_none]
   by_cases d:s<k
   ·rw[if_pos d,if_pos (show s<k+1 by omega)]
   ·rw[if_neg d,if_neg (show ¬s<k+1 by omega)]
def tkH(H:Nat→Nat→Int)(T:Nat→Nat→Nat→Int)(i s:Nat):Int:=if s=i then H i s else nD (H i s) (T i (o1 i s) s) (T i (o2 i s) s)
theorem four{i:Nat}(h:i<4):i=0∨i=1∨i=2∨i=3:=Yo
theorem aSp(a c:Int):nD a c a=a:=by unfold nD;split;rfl;rw[if_pos rfl]
theorem aAs{i s:Nat}(hi:i<4)(hs:s<4)(h:s≠i):o1 i s<4∧o2 i s<4∧o1 i s≠i∧o1 i s≠s∧o2 i s≠i∧o2 i s≠s∧o1 i s≠o2 i s:=by
 rcases four hi with rfl|rfl|rfl|rfl<;>rcases four hs with rfl|rfl|rfl|rfl<;>first|(exact absurd rfl h)|decide
section
variable {H:Nat→Nat→Int} {T:Nat→Nat→Nat→Int} {bad:Int}
theorem zF(hT:∀i j s:Nat,i<4→j<4→s<4→(i:Int)≠bad→(j:Int)≠bad→j≠i→j≠s→s≠i→T i j s=H j s){i s:Nat}{v:Int}(hi:i<4)(hs:s<4)(gi:(i:Int)≠bad)(hv:∀j:Nat,j<4→(j:Int)≠bad→H j s=v):tkH H T i s=v:=by
 unfold tkH
 by_cases e:s=i
 ·rw[if_pos e];exact hv i hi gi
 ·rw[if_neg e,hv i hi gi]
  obtain⟨a1,a2,a3,a4,a5,a6,a7⟩:=aAs hi hs e
  by_cases c:((o1 i s:Nat):Int)=bad
  ·have c2:((o2 i s:Nat):Int)≠bad:=Yo
   rw[hT i (o2 i s) s hi a2 hs gi c2 a5 a6 e,hv _ a2 c2,aSp]
  ·rw[hT i (o1 i s) s hi a1 hs gi c a3 a4 e,hv _ a1 c,aPh]
theorem aNP(a b c:Int):nD a b c=nD c a b:=by rw[aCg,aBJ]
theorem aPv(a b c:Int):nD a b c=nD b c a:=by rw[aBJ,aCg]
theorem aOx(a b c:Int):nD a b c=nD c b a:=by rw[aCg,aBJ,aCg]
theorem aNT(hT:∀i j s:Nat,i<4→j<4→s<4→(i:Int)≠bad→(j:Int)≠bad→j≠i→j≠s→s≠i→T i j s=H j s){i k s:Nat}(hi:i<4)(hk:k<4)(hs:s<4)(gi:(i:Int)≠bad)(gk:(k:Int)≠bad)(hb:(s:Int)=bad):tkH H T i s=tkH H T k s:=by
 by_cases e0:i=k
 ·rw[e0]
 have ei:s≠i:=Yo
 have ek:s≠k:=Yo
 unfold tkH
 rw[if_neg ei,if_neg ek]
 obtain⟨a1,a2,a3,a4,a5,a6,a7⟩:=aAs hi hs ei
 obtain⟨b1,b2,b3,b4,b5,b6,b7⟩:=aAs hk hs ek
 rw[hT i _ s hi a1 hs gi Yo a3 a4 ei,hT i _ s hi a2 hs gi Yo a5 a6 ei,hT k _ s hk b1 hs gk Yo b3 b4 ek,hT k _ s hk b2 hs gk Yo b5 b6 ek]
 have h1:o1 i s=k∨o2 i s=k:=Yo
 have h2:o1 k s=i∨o2 k s=i:=Yo
 rcases h1 with h1|h1<;>rcases h2 with h2|h2
 ·have h3:o2 i s=o2 k s:=Yo
  rw[h1,h2,h3,aBJ]
 ·have h3:o2 i s=o1 k s:=Yo
  rw[h1,h2,h3,aPv]
 ·have h3:o1 i s=o2 k s:=Yo
  rw[h1,h2,h3,aNP]
 ·have h3:o1 i s=o1 k s:=Yo
  rw[h1,h2,h3,aOx]
theorem aLs(hT:∀i j s:Nat,i<4→j<4→s<4→(i:Int)≠bad→(j:Int)≠bad→j≠i→j≠s→s≠i→T i j s=H j s)(V:Nat→Int)(hV:∀j s:Nat,j<4→s<4→(j:Int)≠bad→(s:Int)≠bad→H j s=V s){i k s:Nat}(hi:i<4)(hk:k<4)(hs:s<4)(gi:(i:Int)≠bad)(gk:(k:Int)≠bad):tkH H T i s=tkH H T k s:=by
 by_cases hb:(s:Int)=bad
 ·exact aNT hT hi hk hs gi gk hb
 ·rw[zF hT hi hs gi (λj hj g=>hV j s hj hs g hb),zF hT hk hs gk (λj hj g=>hV j s hj hs g hb)]
end
theorem xD{K F R:Int}{n:Nat}(h1:1≤K∧K≤5)(h2:0≤F∧F≤3)(h3:0≤R∧R≤2147483647)(h4:n≤24):dD K F R n=0:=by
 unfold dD;rw[if_neg Yo,if_neg Yo,if_neg Yo]
section
variable {x:Ip} {c:Cl}
def ndK(x:Ip)(c:Cl)(k i:Nat):Nd:=(nE x c k).nd i
def bxK(x:Ip)(c:Cl)(k i:Nat):List Ms:=(nE x c k).bx i
def mgK(x:Ip)(c:Cl)(k i:Nat):Ms:=wkM x c.fr (nE x c k) k i
theorem sD{k i:Nat}(h:(i:Int)≠x.bad):ndK x c (k+1) i=phN k (ndK x c k i) c.fr (x.rd i) (bxK x c k i):=by
 show (if (i:Int)=x.bad then _ else _)=_
 rw[if_neg h];rfl
theorem yY{k i:Nat}(h:(i:Int)≠x.bad):mgK x c k i=phM k (ndK x c k i) c.fr (x.rd i) (bxK x c k i):=by
 show (if (i:Int)=x.bad then _ else _)=_
 rw[if_neg h];rfl
theorem aAd{k i:Nat}:bxK x c (k+1) i=oP x (mgK x c k) i k 4:=rfl
theorem nd1{i:Nat}(h:(i:Int)≠x.bad):ndK x c 1 i=pR (c.nd i) c.fr (x.rd i):=sD h
theorem nd2{i:Nat}(h:(i:Int)≠x.bad):ndK x c 2 i=relN (ndK x c 1 i) (bxK x c 1 i):=sD h
theorem nd3{i:Nat}(h:(i:Int)≠x.bad):ndK x c 3 i=decN (ndK x c 2 i) (bxK x c 2 i):=sD h
theorem nd4{i:Nat}(h:(i:Int)≠x.bad):ndK x c 4 i=pasN (ndK x c 3 i) (bxK x c 3 i):=sD h
theorem nd5{i:Nat}(h:(i:Int)≠x.bad):ndK x c 5 i=judN (ndK x c 4 i) (bxK x c 4 i):=sD h
theorem mg0{i:Nat}(h:(i:Int)≠x.bad):mgK x c 0 i=oV (c.nd i) c.fr (x.rd i):=yY h
theorem mg1{i:Nat}(h:(i:Int)≠x.bad):mgK x c 1 i=vZ (ndK x c 1 i) (bxK x c 1 i):=yY h
theorem mg2{i:Nat}(h:(i:Int)≠x.bad):mgK x c 2 i=uW (ndK x c 2 i) (bxK x c 2 i):=yY h
theorem mg3{i:Nat}(h:(i:Int)≠x.bad):mgK x c 3 i=vR (ndK x c 3 i) (bxK x c 3 i):=yY h
theorem id0(hE:dH x c=0){i:Nat}(hi:i<4):(c.nd i).id=(i:Nat):=(aEl hE).2.2.2 i hi
theorem vY(hE:dH x c=0){i:Nat}(hi:i<4)(g:(i:Int)≠x.bad):ndK x c 1 i={ c.nd i with fr:=c.fr,di:=λs a=>if (s:Int)=(c.nd i).id then x.rd i a else 0,he:=λ_=>0 }:=by
 rw[nd1 g];unfold pR;rw[if_neg (by rw[id0 hE hi,lW hi];decide)]
theorem sF(hE:dH x c=0){i:Nat}(hi:i<4)(g:(i:Int)≠x.bad):ndK x c 2 i={ ndK x c 1 i with di:=relD (ndK x c 1 i) (bxK x c 1 i) }:=by
 rw[nd2 g];unfold relN;rw[if_neg (by rw[vY hE hi g];show ¬jR (c.nd i).id=true;rw[id0 hE hi,lW hi];decide)]
theorem id1(hE:dH x c=0){i:Nat}(hi:i<4)(g:(i:Int)≠x.bad):(ndK x c 1 i).id=(i:Nat):=by rw[vY hE hi g];exact id0 hE hi
theorem id2(hE:dH x c=0){i:Nat}(hi:i<4)(g:(i:Int)≠x.bad):(ndK x c 2 i).id=(i:Nat):=by rw[sF hE hi g];exact id1 hE hi g
theorem rD(hE:dH x c=0){i:Nat}(hi:i<4)(g:(i:Int)≠x.bad):ndK x c 3 i={ ndK x c 2 i with ag:=decG (ndK x c 2 i) (bxK x c 2 i),us:=decU (ndK x c 2 i) (bxK x c 2 i),ax:=decA (ndK x c 2 i) (bxK x c 2 i),dg:=decD (ndK x c 2 i) (bxK x c 2 i),he:=λs=>if (s:Int)=(ndK x c 2 i).id then decD (ndK x c 2 i) (bxK x c 2 i) else (ndK x c 2 i).he s }:=by
 rw[nd3 g];unfold decN;rw[if_neg (by rw[id2 hE hi g,lW hi];decide)]
theorem id3(hE:dH x c=0){i:Nat}(hi:i<4)(g:(i:Int)≠x.bad):(ndK x c 3 i).id=(i:Nat):=by rw[rD hE hi g];exact id2 hE hi g
theorem sV(hE:dH x c=0){i:Nat}(hi:i<4)(g:(i:Int)≠x.bad):ndK x c 4 i={ ndK x c 3 i with he:=pasH (ndK x c 3 i) (bxK x c 3 i) }:=by
 rw[nd4 g];unfold pasN;rw[if_neg (by rw[id3 hE hi g,lW hi];decide)]
theorem id4(hE:dH x c=0){i:Nat}(hi:i<4)(g:(i:Int)≠x.bad):(ndK x c 4 i).id=(i:Nat):=by rw[sV hE hi g];exact id3 hE hi g
theorem yH(hE:dH x c=0){i:Nat}(hi:i<4)(g:(i:Int)≠x.bad):ndK x c 5 i={ ndK x c 4 i with vX:=judX (ndK x c 4 i) (bxK x c 4 i),vS:=judS (ndK x c 4 i) (bxK x c 4 i),vA:=(List.range 4).map (judA (ndK x c 4 i) (bxK x c 4 i)),rl:=judR (ndK x c 4 i) (bxK x c 4 i) }:=by
 rw[nd5 g];unfold judN;rw[if_neg (by rw[id4 hE hi g,lW hi];decide)]
theorem id5(hE:dH x c=0){i:Nat}(hi:i<4)(g:(i:Int)≠x.bad):(ndK x c 5 i).id=(i:Nat):=by rw[yH hE hi g];exact id4 hE hi g
theorem fr1(hE:dH x c=0){i:Nat}(hi:i<4)(g:(i:Int)≠x.bad):(ndK x c 1 i).fr=c.fr:=by rw[vY hE hi g]
theorem fr2(hE:dH x c=0){i:Nat}(hi:i<4)(g:(i:Int)≠x.bad):(ndK x c 2 i).fr=c.fr:=by rw[sF hE hi g];exact fr1 hE hi g
theorem fr3(hE:dH x c=0){i:Nat}(hi:i<4)(g:(i:Int)≠x.bad):(ndK x c 3 i).fr=c.fr:=by rw[rD hE hi g];exact fr2 hE hi g
theorem fr4(hE:dH x c=0){i:Nat}(hi:i<4)(g:(i:Int)≠x.bad):(ndK x c 4 i).fr=c.fr:=by rw[sV hE hi g];exact fr3 hE hi g
theorem ms0(hE:dH x c=0){i:Nat}(hi:i<4)(g:(i:Int)≠x.bad):mgK x c 0 i=⟨1,(i:Nat),c.fr,[x.rd i 0,x.rd i 1,x.rd i 2]⟩:=by
 rw[mg0 g];unfold oV;rw[if_neg (by rw[id0 hE hi,lW hi];decide),id0 hE hi]
theorem ms1(hE:dH x c=0){i:Nat}(hi:i<4)(g:(i:Int)≠x.bad):mgK x c 1 i=⟨2,(i:Nat),c.fr,(List.range 12).map λk=>(ndK x c 2 i).di (k/3) (k%3)⟩:=by
 rw[mg1 g,sF hE hi g];unfold vZ;rw[if_neg (by rw[id1 hE hi g,lW hi];decide),id1 hE hi g,fr1 hE hi g]
theorem ms2(hE:dH x c=0){i:Nat}(hi:i<4)(g:(i:Int)≠x.bad):mgK x c 2 i=⟨3,(i:Nat),c.fr,[(ndK x c 3 i).dg]⟩:=by
 rw[mg2 g,rD hE hi g];unfold uW;rw[if_neg (by rw[id2 hE hi g,lW hi];decide),id2 hE hi g,fr2 hE hi g]
theorem ms3(hE:dH x c=0){i:Nat}(hi:i<4)(g:(i:Int)≠x.bad):mgK x c 3 i=⟨2,(i:Nat),c.fr,(List.range 4).map (ndK x c 4 i).he⟩:=by
 rw[mg3 g,sV hE hi g];unfold vR;rw[if_neg (by rw[id3 hE hi g,lW hi];decide),id3 hE hi g,fr3 hE hi g]
theorem aDJ(hE:dH x c=0):0≤c.fr∧c.fr≤2147483647:=by have:=(aEl hE).2.1;omega
theorem aSL(hE:dH x c=0){i s:Nat}(hi:i<4)(hs:s<4)(g:(i:Int)≠x.bad)(gs:(s:Int)≠x.bad)(h:s≠i):iI (ndK x c 1 i) (bxK x c 1 i) s 1 3=some [x.rd s 0,x.rd s 1,x.rd s 2]:=by
 rw[aAd,yO (λj hj gj=>by rw[ms0 hE hj gj]) h 4 (Nat.le_refl _),if_pos hs,if_neg gs,ms0 hE hs gs]
 exact aAP rfl (by rw[id1 hE hi g];omega) rfl (by rw[fr1 hE hi g]) rfl (xD (show 1≤(1:Int)∧(1:Int)≤5 by decide) ⟨by show 0≤((s:Nat):Int);omega,by show ((s:Nat):Int)≤3;omega⟩ (aDJ hE) (by show 3≤24;decide))
theorem aTl(hE:dH x c=0){i s:Nat}(hi:i<4)(hs:s<4)(g:(i:Int)≠x.bad)(gs:(s:Int)≠x.bad)(h:s≠i):iI (ndK x c 2 i) (bxK x c 2 i) s 2 12=some ((List.range 12).map λk=>(ndK x c 2 s).di (k/3) (k%3)):=by
 rw[aAd,yO (λj hj gj=>by rw[ms1 hE hj gj]) h 4 (Nat.le_refl _),if_pos hs,if_neg gs,ms1 hE hs gs]
 exact aAP rfl (by rw[id2 hE hi g];omega) rfl (by rw[fr2 hE hi g]) (by simp) (xD (show 1≤(2:Int)∧(2:Int)≤5 by decide) ⟨by show 0≤((s:Nat):Int);omega,by show ((s:Nat):Int)≤3;omega⟩ (aDJ hE) (by simp))
theorem aSQ(hE:dH x c=0){i s:Nat}(hi:i<4)(hs:s<4)(g:(i:Int)≠x.bad)(gs:(s:Int)≠x.bad)(h:s≠i):iI (ndK x c 3 i) (bxK x c 3 i) s 3 1=some [(ndK x c 3 s).dg]:=by
 rw[aAd,yO (λj hj gj=>by rw[ms2 hE hj gj]) h 4 (Nat.le_refl _),if_pos hs,if_neg gs,ms2 hE hs gs]
 exact aAP rfl (by rw[id3 hE hi g];omega) rfl (by rw[fr3 hE hi g]) rfl (xD (show 1≤(3:Int)∧(3:Int)≤5 by decide) ⟨by show 0≤((s:Nat):Int);omega,by show ((s:Nat):Int)≤3;omega⟩ (aDJ hE) (by show 1≤24;decide))
theorem aSY(hE:dH x c=0){i s:Nat}(hi:i<4)(hs:s<4)(g:(i:Int)≠x.bad)(gs:(s:Int)≠x.bad)(h:s≠i):iI (ndK x c 4 i) (bxK x c 4 i) s 2 4=some ((List.range 4).map (ndK x c 4 s).he):=by
 rw[aAd,yO (λj hj gj=>by rw[ms3 hE hj gj]) h 4 (Nat.le_refl _),if_pos hs,if_neg gs,ms3 hE hs gs]
 exact aAP rfl (by rw[id4 hE hi g];omega) rfl (by rw[fr4 hE hi g]) (by simp) (xD (show 1≤(2:Int)∧(2:Int)≤5 by decide) ⟨by show 0≤((s:Nat):Int);omega,by show ((s:Nat):Int)≤3;omega⟩ (aDJ hE) (by simp))
theorem aGx(hE:dH x c=0){j s a:Nat}(hj:j<4)(hs:s<4)(gj:(j:Int)≠x.bad)(gs:(s:Int)≠x.bad)(ha:a<3):(ndK x c 2 j).di s a=x.rd s a:=by
 rw[sF hE hj gj]
 show relD (ndK x c 1 j) (bxK x c 1 j) s a=_
 unfold relD
 by_cases e:s=j
 ·subst e
  rw[aEM (by rw[id1 hE hj gj])]
  dsimp only
  rw[vY hE hj gj]
  show (if (s:Int)=(c.nd s).id then x.rd s a else 0)=_
  rw[if_pos (id0 hE hj).symm]
 ·rw[aSL hE hj hs gj gs e]
  dsimp only
  have:a=0∨a=1∨a=2:=Yo
  rcases this with rfl|rfl|rfl<;>rfl
theorem aPW(hE:dH x c=0){j s:Nat}(hj:j<4)(hs:s<4)(gj:(j:Int)≠x.bad)(gs:(s:Int)≠x.bad):(ndK x c 4 j).he s=(ndK x c 3 s).dg:=by
 rw[sV hE hj gj]
 show pasH (ndK x c 3 j) (bxK x c 3 j) s=_
 unfold pasH
 by_cases e:s=j
 ·subst e
  rw[aEM (by rw[id3 hE hj gj])]
  dsimp only
  rw[rD hE hj gj]
  show (if (s:Int)=(ndK x c 2 s).id then decD (ndK x c 2 s) (bxK x c 2 s) else (ndK x c 2 s).he s)=_
  rw[if_pos (id2 hE hj gj).symm]
 ·rw[aSQ hE hj hs gj gs e]
  rfl
def tdG(x:Ip)(c:Cl)(a i j s:Nat):Int:=iX (ndK x c 2 i) (bxK x c 2 i) j (3*s+a) 12
theorem aHH(hE:dH x c=0){i s a:Nat}(hi:i<4)(g:(i:Int)≠x.bad):(ndK x c 3 i).ag s a=tkH (λi s=>(ndK x c 2 i).di s a) (tdG x c a) i s:=by
 rw[rD hE hi g]
 show xN (ndK x c 2 i) (bxK x c 2 i) s ((ndK x c 2 i).di s a) (3*s+a) 12=_
 unfold xN tkH tdG
 rw[id2 hE hi g]
 by_cases e:s=i
 ·rw[if_pos e,if_pos (by rw[e])]
 ·rw[if_neg e,if_neg Yo];rfl
theorem aEs(hE:dH x c=0){a:Nat}(ha:a<3):∀i j s:Nat,i<4→j<4→s<4→(i:Int)≠x.bad→(j:Int)≠x.bad→j≠i→j≠s→s≠i→tdG x c a i j s=(ndK x c 2 j).di s a:=λi j s hi hj hs gi gj h1 _ _=>by
 unfold tdG iX
 rw[aTl hE hi hj gi gj h1]
 dsimp only
 rw[List.getD_eq_getElem?_getD,List.getElem?_map,List.getElem?_range Yo]
 show (ndK x c 2 j).di ((3*s+a)/3) ((3*s+a)%3)=_
 rw[show (3*s+a)/3=s by omega,show (3*s+a)%3=a by omega]
theorem aPF(hE:dH x c=0){i s a:Nat}(hi:i<4)(hs:s<4)(gi:(i:Int)≠x.bad)(gs:(s:Int)≠x.bad)(ha:a<3):(ndK x c 3 i).ag s a=x.rd s a:=by
 rw[aHH hE hi gi]
 exact zF (aEs hE ha) hi hs gi (λj hj gj=>aGx hE hj hs gj gs ha)
theorem aQF(hE:dH x c=0){i k s a:Nat}(hi:i<4)(hk:k<4)(hs:s<4)(gi:(i:Int)≠x.bad)(gk:(k:Int)≠x.bad)(ha:a<3):(ndK x c 3 i).ag s a=(ndK x c 3 k).ag s a:=by
 rw[aHH hE hi gi,aHH hE hk gk]
 exact aLs (aEs hE ha) (λs=>x.rd s a) (λj s hj hs gj gs=>aGx hE hj hs gj gs ha) hi hk hs gi gk
def vtK(x:Ip)(c:Cl)(i s:Nat):Int:=rP (ndK x c 4 i) (bxK x c 4 i) s
theorem aSO(hE:dH x c=0){i s:Nat}(hi:i<4)(g:(i:Int)≠x.bad):vtK x c i s=tkH (λi s=>(ndK x c 4 i).he s) (λi j s=>iX (ndK x c 4 i) (bxK x c 4 i) j s 4) i s:=by
 unfold vtK rP xN tkH
 rw[id4 hE hi g]
 by_cases e:s=i
 ·rw[if_pos e,if_pos (by rw[e])]
 ·rw[if_neg e,if_neg Yo];rfl
theorem aPT(hE:dH x c=0):∀i j s:Nat,i<4→j<4→s<4→(i:Int)≠x.bad→(j:Int)≠x.bad→j≠i→j≠s→s≠i→iX (ndK x c 4 i) (bxK x c 4 i) j s 4=(ndK x c 4 j).he s:=λi j s hi hj hs gi gj h1 _ _=>by
 unfold iX
 rw[aSY hE hi hj gi gj h1]
 dsimp only
 rw[List.getD_eq_getElem?_getD,List.getElem?_map,List.getElem?_range hs]
 rfl
theorem aPE(hE:dH x c=0){i s:Nat}(hi:i<4)(hs:s<4)(gi:(i:Int)≠x.bad)(gs:(s:Int)≠x.bad):vtK x c i s=(ndK x c 3 s).dg:=by
 rw[aSO hE hi gi]
 exact zF (aPT hE) hi hs gi (λj hj gj=>aPW hE hj hs gj gs)
end
theorem R64_zero:R64 0:=⟨by decide,by decide⟩
theorem xW{l:List Int}(h:∀x,x∈l→R64 x)(i:Nat):R64 (gL l i):=by
 unfold gL
 rw[List.getD_eq_getElem?_getD]
 rcases Nat.lt_or_ge i l.length with c|c
 ·rw[List.getElem?_eq_getElem c]
  exact h _ (List.getElem_mem c)
 ·rw[List.getElem?_eq_none c]
  exact R64_zero
theorem aNo{a b c:Int}(ha:R64 a)(hb:R64 b):R64 (nD a b c):=by
 unfold nD
 split
 ·exact ha
 ·split
  ·exact ha
  ·split
   ·exact hb
   ·exact R64_zero
theorem aMa{n:Nd}{L:List Lm}{s:Nat}{kind:Int}{many:Nat}{v:List Int}(h:iI n (L.map Lm.m) s kind many=some v):∃c,c∈L∧c.m.L=v:=by
 rw[←oG] at h
 obtain⟨c,h1,h2⟩:=Option.map_eq_some_iff.1 h
 exact⟨c,List.mem_of_find?_eq_some h1,h2⟩
theorem aGG{n:Nd}{L:List Lm}(hRL:∀m,m∈L→∀i,R64 (gL m.m.L i))(i k many:Nat):R64 (iX n (L.map Lm.m) i k many):=by
 unfold iX
 cases e:iI n (L.map Lm.m) i 2 many with
 |none=>exact R64_zero
 |some v=>
  obtain⟨c,h1,rfl⟩:=aMa e
  exact hRL c h1 k
theorem aHO{n:Nd}{L:List Lm}(hRL:∀m,m∈L→∀i,R64 (gL m.m.L i)){s:Nat}{h:Int}{k many:Nat}(hh:R64 h):R64 (xN n (L.map Lm.m) s h k many):=by
 unfold xN
 split
 ·exact hh
 ·exact aNo hh (aGG hRL _ _ _)
theorem aQQ(n:Nd)(v:Value){a:Nat}(ha:a<3):ndF n v (0+67+a*1)=.int .i64 (n.us a):=by
 unfold ndF
 rw[if_neg Yo,if_neg Yo,if_neg Yo,if_neg Yo,if_neg Yo,if_neg Yo,if_neg Yo,if_pos Yo,show 0+67+a*1-67=a by omega]
 rfl
def NA(n:Nd)(ag:Nat→Nat→Int)(us:Nat→Int)(ax:Nat→St):Nd:={ n with ag:=ag,us:=us,ax:=ax }
def tK(n:Nd)(l:List Ms)(x k:Nat):Int:=if k<x then decU n l k else n.us k
def wX(n:Nd)(l:List Ms)(x k:Nat):St:=if k<x then decA n l k else n.ax k
theorem aQr{n:Nd}{l:List Ms}{x:Nat}:(λk=>if k=x then qL (jK n.rl.I (λs=>decG n l s x) 4) else tK n l x k)=tK n l (x+1):=by
 funext k
 unfold tK
 by_cases c:k=x
 ·subst c
  rw[if_pos rfl,if_pos Yo]
  rfl
 ·rw[if_neg c]
  by_cases c2:k<x
  ·rw[if_pos c2,if_pos Yo]
  ·rw[if_neg c2,if_neg Yo]
theorem aSy{n:Nd}{l:List Ms}{x:Nat}:tK n l (x+1) x=decU n l x:=by
 unfold tK
 rw[if_pos Yo]
theorem aQh{n:Nd}{l:List Ms}{x:Nat}:(λk=>if k=x then decA n l x else wX n l x k)=wX n l (x+1):=by
 funext k
 unfold wX
 by_cases c:k=x
 ·subst c
  rw[if_pos rfl,if_pos Yo]
 ·rw[if_neg c]
  by_cases c2:k<x
  ·rw[if_pos c2,if_pos Yo]
  ·rw[if_neg c2,if_neg Yo]
theorem dec_he{n:Nd}{I:Nat}{x:Int}(h:n.id=(I:Int)):(λs:Nat=>if (s:Int)=n.id then x else n.he s)=λs=>if s=I then x else n.he s:=by
 funext s
 rw[h]
 by_cases e:s=I
 ·rw[if_pos Yo,if_pos e]
 ·rw[if_neg Yo,if_neg e]
theorem aST{b:Nat→Bool}{f:Nat→Int}{i:Nat}(h:b i=true):jK b f (i+1)=jK b f i++[f i]:=by
 show jK b f i++_=_
 rw[h];rfl
theorem aSK{b:Nat→Bool}{f:Nat→Int}{i:Nat}(h:b i=false):jK b f (i+1)=jK b f i:=by
 show jK b f i++_=_
 rw[h]
 exact List.append_nil _
theorem aIa{n:Nd}{L:List Lm}(hok:NdOK n)(hRL:∀m,m∈L→∀i,R64 (gL m.m.L i))(s a:Nat):R64 (decG n (L.map Lm.m) s a):=aHO hRL (hok.di s a)
theorem aNs{l:List Int}(h:∀x,x∈l→R64 x)(i:Nat):R64 ((gZ l).getD i 0):=by
 refine xW (l:=gZ l) (λx hx=>h x ?_) i
 unfold gZ at hx
 exact (List.mem_mergeSort).1 hx
theorem aJx{l:List Int}(h:∀x,x∈l→R64 x):R64 (qL l):=by
 unfold qL
 split
 ·have h1:=aNs h ((l.length-1)/3)
  have h2:=aNs h (l.length-1-(l.length-1)/3)
  unfold R64 at h1 h2 ⊢
  omega
 ·exact R64_zero
theorem aBi{b:Nat→Bool}{f:Nat→Int}(h:∀s,R64 (f s))(k:Nat):∀x,x∈jK b f k→R64 x:=by
 induction k with
 |zero=>intro x hx;exact absurd hx (List.not_mem_nil)
 |succ k ih=>
  intro x hx
  rcases List.mem_append.1 hx with c|c
  ·exact ih x c
  ·split at c
   ·rw[List.mem_singleton.1 c];exact h k
   ·exact absurd c (List.not_mem_nil)
theorem aSw{n:Nd}{L:List Lm}(hok:NdOK n)(hRL:∀m,m∈L→∀i,R64 (gL m.m.L i))(a:Nat):R64 (decU n (L.map Lm.m) a):=aJx (aBi (λs=>aIa hok hRL s a) 4)
theorem aSr(l:List Int):jA (gL l) l.length=l:=by
 unfold jA
 apply List.ext_getElem?
 intro i
 rcases Nat.lt_or_ge i l.length with c|c
 ·rw[List.getElem?_map,List.getElem?_range c,List.getElem?_eq_getElem c]
  show some (gL l i)=_
  unfold gL
  rw[List.getD_eq_getElem?_getD,List.getElem?_eq_getElem c]
  rfl
 ·rw[List.getElem?_eq_none c,List.getElem?_eq_none (by simpa using c)]
def rH(l:List Ms):Prop:=∀m,m∈l→∀i,R64 (gL m.L i)
structure MsOK (m:Ms):Prop where
 K:R64 m.K
 F:R64 m.F
 R:R64 m.R
 L:∀i,R64 (gL m.L i)
 n:m.L.length≤24
theorem aEA{n:Nd}{l:List Ms}{s:Nat}{kind:Int}{many:Nat}{v:List Int}(h:rH l)(hv:iI n l s kind many=some v)(i:Nat):R64 (v.getD i 0):=by
 unfold iI at hv
 obtain⟨m,h1,rfl⟩:=Option.map_eq_some_iff.1 hv
 exact h m (List.mem_of_find?_eq_some h1) i
theorem aQU{n:Nd}{l:List Ms}(h:rH l){s:Nat}{v:Int}{k many:Nat}(hv:R64 v):R64 (xN n l s v k many):=by
 unfold xN
 split
 ·exact hv
 ·refine aNo hv ?_
  unfold iX
  split
  ·rename_i u e;exact aEA h e k
  ·exact R64_zero
theorem aNZ{x:Nat}(h:x≤4294967295):R64 ((x:Nat):Int):=by unfold R64;omega
theorem aGT(ax:Nat→St)(r:Rl):R64 (dgN ax r):=aNZ (Nat.sub_le _ _)
theorem aPP{ax:Nat→St}{r:Rl}(h:∀a,(ax a).Ok):∀x,x∈qZ ax r→R64 x:=by
 have h1:∀a x,x∈axL (ax a)→R64 x:=λa x hx=>by
  unfold axL at hx
  simp only[List.mem_cons,List.not_mem_nil,or_false] at hx
  rcases hx with rfl|rfl|rfl|rfl|rfl|rfl|rfl
  ·exact (h a).X
  ·exact (h a).V
  ·exact (h a).P00
  ·exact (h a).P01
  ·exact (h a).P11
  ·unfold R64;split<;>omega
  ·exact (h a).M
 have h2:∀(f:Nat→Int) k,R64 (oQ f (k+1)):=λf k=>by
  show R64 (wrap64 _)
  unfold R64 wrap64;omega
 intro x hx
 unfold qZ at hx
 simp only[List.mem_append,List.mem_cons,List.not_mem_nil,or_false] at hx
 rcases hx with ((hx|hx)|hx)|rfl|rfl|rfl
 ·exact h1 0 x hx
 ·exact h1 1 x hx
 ·exact h1 2 x hx
 ·unfold inN R64;split<;>split<;>split<;>split<;>omega
 ·exact h2 _ 3
 ·exact h2 _ 3
theorem zN:MsOK jI:=⟨R64_zero,R64_zero,R64_zero,λi=>xW (λx hx=>by cases hx) i,Nat.zero_le _⟩
section
variable {n:Nd} {l:List Ms}
theorem aQx(h:NdOK n){fr:Int}{rd:Nat→Int}(hf:R64 fr)(hr:∀a,R64 (rd a)):NdOK (pR n fr rd):=by
 unfold pR
 split
 ·exact h
 ·exact⟨h.id,hf,h.tn,h.ax,h.rM,h.rJ,λs a=>by show R64 (if _ then _ else _);split;exact hr a;exact R64_zero,λ_=>R64_zero,h.ag,h.us,h.dg,h.vX,h.vA⟩
theorem aPc(h:NdOK n){fr:Int}{rd:Nat→Int}(hf:R64 fr)(hr:∀a,R64 (rd a)):MsOK (oV n fr rd):=by
 unfold oV
 split
 ·exact⟨R64_zero,R64_zero,R64_zero,λi=>xW (λx hx=>by cases hx) i,Nat.zero_le _⟩
 ·refine⟨(show R64 1 by unfold R64;decide),h.id,hf,λi=>xW (λx hx=>?_) i,by show 3≤24;decide⟩
  simp only[List.mem_cons,List.not_mem_nil,or_false] at hx
  rcases hx with rfl|rfl|rfl<;>exact hr _
theorem aIA(h:NdOK n)(hl:rH l)(s a:Nat):R64 (relD n l s a):=by
 unfold relD
 split
 ·rename_i v e;exact aEA hl e a
 ·exact h.di s a
theorem aOk(h:NdOK n)(hl:rH l):NdOK (relN n l):=by
 unfold relN
 split
 ·exact h
 ·exact⟨h.id,h.fr,h.tn,h.ax,h.rM,h.rJ,aIA h hl,h.he,h.ag,h.us,h.dg,h.vX,h.vA⟩
theorem aQc(h:NdOK n)(hl:rH l):MsOK (vZ n l):=by
 unfold vZ
 split
 ·exact zN
 ·refine⟨(show R64 2 by unfold R64;decide),h.id,h.fr,λi=>xW (λx hx=>?_) i,by simp⟩
  obtain⟨q,_,rfl⟩:=List.mem_map.1 hx
  exact aIA h hl _ _
theorem aGE(h:NdOK n)(hl:rH l)(s a:Nat):R64 (decG n l s a):=aQU hl (h.di s a)
theorem aPV(h:NdOK n)(hl:rH l)(a:Nat):R64 (decU n l a):=aJx (aBi (λs=>aGE h hl s a) 4)
theorem aPM(h:NdOK n)(hl:rH l):NdOK (decN n l):=by
 unfold decN
 split
 ·exact h
 ·exact⟨h.id,h.fr,h.tn,λa=>aLj (h.ax a) _ _,h.rM,h.rJ,h.di,λs=>by show R64 (if _ then _ else _);split;exact aGT _ _;exact h.he s,aGE h hl,aPV h hl,aGT _ _,h.vX,h.vA⟩
theorem aOI(h:NdOK n)(_:rH l):MsOK (uW n l):=by
 unfold uW
 split
 ·exact zN
 ·refine⟨(show R64 3 by unfold R64;decide),h.id,h.fr,λi=>xW (λx hx=>?_) i,by show 1≤24;decide⟩
  simp only[List.mem_cons,List.not_mem_nil,or_false] at hx
  rw[hx];exact aGT _ _
theorem aJI(h:NdOK n)(hl:rH l)(s:Nat):R64 (pasH n l s):=by
 unfold pasH
 split
 ·rename_i v e;exact aEA hl e 0
 ·exact h.he s
theorem aPK(h:NdOK n)(hl:rH l):NdOK (pasN n l):=by
 unfold pasN
 split
 ·exact h
 ·exact⟨h.id,h.fr,h.tn,h.ax,h.rM,h.rJ,h.di,aJI h hl,h.ag,h.us,h.dg,h.vX,h.vA⟩
theorem aOy(h:NdOK n)(hl:rH l):MsOK (vR n l):=by
 unfold vR
 split
 ·exact zN
 ·refine⟨(show R64 2 by unfold R64;decide),h.id,h.fr,λi=>xW (λx hx=>?_) i,by simp⟩
  obtain⟨q,_,rfl⟩:=List.mem_map.1 hx
  exact aJI h hl _
theorem aOK(h:NdOK n)(hl:rH l):R64 (judX n l):=by
 have hv:∀s,R64 (rP n l s):=λs=>aQU hl (h.he s)
 have:∀k,R64 (vtX (rP n l) n.rl.I k):=by
  intro k
  induction k with
  |zero=>exact R64_zero
  |succ k ih=>
   show R64 (if _ then _ else _)
   split
   ·exact hv k
   ·exact ih
 exact this 4
theorem aTL(h:NdOK n){A:Nat→Bool}(hg:nK n.rl=true):∀k,k≤4→∀i,R64 ((rnN A n.rl k).1.M i)∧R64 ((rnN A n.rl k).1.J i):=λk hk i=>by
 rcases Nat.lt_or_ge i 4 with c|c
 ·have g:=yS.1 (aCu (A:=A) hg k) i c
  cases e:(rnN A n.rl k).1.I i with
  |true=>have:=(gd_in e).1 g;unfold R64;omega
  |false=>have:=(tO e).1 g;unfold R64;omega
 ·obtain⟨_,h2,h3⟩:=aGv (A:=A) (r:=n.rl) k (j:=i) Yo
  rw[h2,h3];exact⟨h.rM i,h.rJ i⟩
theorem aJT(h:NdOK n)(l:List Ms)(i:Nat):R64 ((judR n l).M i)∧R64 ((judR n l).J i):=by
 unfold judR
 split
 ·unfold stR
  split
  ·exact⟨R64_zero,R64_zero⟩
  ·split
   ·exact⟨R64_zero,R64_zero⟩
   ·rename_i hg
    split
    ·exact aTL h (by simpa using hg) 4 (Nat.le_refl _) i
    ·exact⟨h.rM i,h.rJ i⟩
 ·exact⟨h.rM i,h.rJ i⟩
theorem aPo(h:NdOK n)(hl:rH l):NdOK (judN n l):=by
 unfold judN
 split
 ·exact h
 ·exact⟨h.id,h.fr,h.tn,h.ax,λi=>(aJT h l i).1,λi=>(aJT h l i).2,h.di,h.he,h.ag,h.us,h.dg,aOK h hl,by show ((List.range 4).map _).length≤_;rw[List.length_map,List.length_range];decide⟩
theorem aPR(h:NdOK n)(_:rH l):MsOK (uY n l):=by
 unfold uY
 split
 ·exact zN
 ·exact⟨(show R64 5 by unfold R64;decide),h.id,h.fr,λi=>xW (aPP h.ax) i,by rw[aPY];decide⟩
end
theorem aSf{n:Nd}{l:List Ms}{fr:Int}{rd:Nat→Int}(k:Nat)(h:NdOK n)(hl:rH l)(hf:R64 fr)(hr:∀a,R64 (rd a)):NdOK (phN k n fr rd l):=by
 unfold phN
 split
 ·exact aQx h hf hr
 ·split
  ·exact aOk h hl
  ·split
   ·exact aPM h hl
   ·split
    ·exact aPK h hl
    ·exact aPo h hl
theorem aIK{n:Nd}{l:List Ms}{fr:Int}{rd:Nat→Int}(k:Nat)(h:NdOK n)(hl:rH l)(hf:R64 fr)(hr:∀a,R64 (rd a)):MsOK (phM k n fr rd l):=by
 unfold phM
 split
 ·exact aPc h hf hr
 ·split
  ·exact aQc h hl
  ·split
   ·exact aOI h hl
   ·split
    ·exact aOy h hl
    ·exact aPR h hl
structure IpOK (x:Ip):Prop where
 rd:∀s a,R64 (x.rd s a)
 bad:R64 x.bad
 g:∀y,y∈x.ly→∀i,y.g i<256
def aDF(c:Cl):Prop:=R64 c.fr∧∀i,i<4→NdOK (c.nd i)
theorem aIF{n:Nat}{g:Nat→Nat}(hg:∀i,g i<256):∀m,m∈sU n g→MsOK m:=λm hm=>by
 unfold sU at hm
 split at hm
 ·rename_i e
  obtain⟨h1,h2,h3,h4,h5,h6,h7⟩:=aAw (aAU.1 e)
  simp only[List.mem_cons,List.not_mem_nil,or_false] at hm
  subst hm
  have a1:=hg 1;have a2:=hg 2;have a3:=aNq hg
  refine⟨?_,?_,?_,λi=>xW (λx hx=>?_) i,?_⟩
  ·show R64 ((g 1:Nat):Int);unfold R64;omega
  ·show R64 ((g 2:Nat):Int);unfold R64;omega
  ·show R64 ((dR g:Nat):Int);unfold R64;omega
  ·obtain⟨q,_,rfl⟩:=List.mem_map.1 hx
   exact aSH hg q
  ·show ((List.range (g 7)).map (dV g)).length≤24
   rw[List.length_map,List.length_range];exact h5
 ·cases hm
theorem aSF{x:Ip}(h:IpOK x){wo ph:Int}:∀m,m∈uF x.bad wo ph x.ly→MsOK m:=λm hm=>by
 unfold uF at hm
 obtain⟨y,hy,h2⟩:=List.mem_flatMap.1 hm
 split at h2
 ·exact aIF (h.g y hy) m (List.mem_filter.1 h2).1
 ·cases h2
theorem aId{x:Ip}(h:IpOK x){told:Nat→Ms}{wo ph:Nat}:∀k:Nat,(∀j:Nat,j<k→(j:Int)≠x.bad→MsOK (told j))→∀m,m∈oP x told wo ph k→MsOK m
 |0,_,m,hm=>by cases hm
 |k+1,ht,m,hm=>by
  rcases List.mem_append.1 hm with c|c
  ·exact aId h k (λj hj g=>ht j Yo g) m c
  ·split at c
   ·cases c
   ·split at c
    ·exact aSF h m c
    ·rename_i g;rw[aNB c];exact ht k Yo g
theorem MsOK.R'{l:List Ms}(h:∀m,m∈l→MsOK m):rH l:=λm hm=>(h m hm).L
theorem aBZ{x:Ip}{c:Cl}(hx:IpOK x)(hc:aDF c):∀k,(∀i,i<4→NdOK (ndK x c k i))∧(∀i,i<4→∀m,m∈bxK x c k i→MsOK m)
 |0=>⟨hc.2,λi hi m hm=>by cases hm⟩
 |k+1=>by
  obtain⟨h1,h2⟩:=aBZ hx hc k
  refine⟨λi hi=>?_,λi hi m hm=>?_⟩
  ·by_cases g:(i:Int)=x.bad
   ·show NdOK (if (i:Int)=x.bad then _ else _)
    rw[if_pos g];exact h1 i hi
   ·rw[sD g]
    exact aSf k (h1 i hi) (MsOK.R' (h2 i hi)) hc.1 (hx.rd i)
  ·refine aId hx 4 (λj hj g=>?_) m hm
   show MsOK (mgK x c k j)
   rw[yY g]
   exact aIK k (h1 j hj) (MsOK.R' (h2 j hj)) hc.1 (hx.rd j)
theorem aLN{t:Tn}(h:t.Ok){i:Nat}(hi:i<4):NdOK (jE (i:Nat) t):=by
 have e:R64 ((i:Nat):Int):=by unfold R64;omega
 have b:St.beg0.Ok:=⟨R64_zero,R64_zero,by unfold R64;decide,R64_zero,by unfold R64;decide,R64_zero⟩
 unfold jE
 rw[if_neg (by rw[lW hi];decide)]
 exact⟨e,R64_zero,h,λ_=>b,λ_=>R64_zero,λ_=>R64_zero,λ_ _=>R64_zero,λ_=>R64_zero,λ_ _=>R64_zero,λ_=>R64_zero,R64_zero,R64_zero,by show 0≤_;decide⟩
theorem aTb {fn : Nat} (hD : aRh fn) {K F R : Int} {n : Nat} {f : Nat → Int} (h : dD K F R n = 0) (hf : ∀ i, R64 (f i)) (ao : Option Addr) (cap : Nat) (w : World) (hc : 12 + 8 * n ≤ cap) (hs : Sr w ao (12 + 8 * n) cap (bF (enS K F R n f))) :
  Calls Tryz.prog fn #[.slice ao (12+8*n) cap] w λe w'=>∃(bo:Option Addr) (bc:Nat),e=.returned (.tuple #[kX K F R (.slice bo n bc),.int .i64 0])∧w'.ownsRow w.heap.size 3 1 (.slice bo n bc) n (rowV (iF f) n)∧Below w.heap.size w w':=by
 have hn:=(nV h).2.2.2.2.2.2
 refine (hD ao (12+8*n) cap (enS K F R n f) w (yJ K F R n f) Yo hc hs).mono ?_
 rintro e w' ⟨E,v,hE,rfl,o,k⟩
 have e0:E=0:=aGd hE (aJC h)
 subst e0
 obtain⟨e1,e2,eR,e7,eV⟩:=aDS (f:=f) h hf
 have d7:dN 0 (enS K F R n f 7)=n:=e7
 rw[d7,iB (f:=iF f) (λi hi=>by unfold iF;rw[eV i hi])] at o
 obtain⟨bo,bc,rfl⟩:=jO o
 refine⟨bo,bc,?_,o,k⟩
 show Ending.returned (.tuple #[kX (enS K F R n f 1:Nat) (enS K F R n f 2:Nat) (dR (enS K F R n f):Nat) (.slice bo n bc),.int .i64 0])=_
 rw[e1,e2,eR]
end Go.Proofs.YtdhblehhgpdpdacGreat
