import Derived.Test.YtdhblehhgpdpdacGreatAutI
import Derived.Test.YtdhblehhgpdpdacGreatClSpec
import Derived.Test.YtdhblehhgpdpdacGreatNear152
namespace Go.Proofs.YtdhblehhgpdpdacGreat
open Go.RowKit
def nO(fr:Int)(nd:Nat→Nd)(v:Nat→Value)(j:Nat):Value:=if j=0 then iV fr else ndF (nd ((j-1)/74)) (v ((j-1)/74)) ((j-1)%74)
def ipF(rd:Nat→Nat→Int)(bad:Int)(lv:Value)(j:Nat):Value:=if j<12 then iV (rd (j/3) (j%3)) else if j=12 then iV bad else lv
def lyF(ph wo:Int)(v:Value)(j:Nat):Value:=if j=0 then iV ph else if j=1 then iV wo else v
def vJ(m:Nat→Ms)(v:Nat→Value)(j:Nat):Value:=iP (m (j/4)).K (m (j/4)).F (m (j/4)).R (v (j/4)) (j%4)
def pG(fr:Int)(nd:Nat→Nd)(v:Nat→Value)(bad:Int)(lv:Value)(bx:Nat→Value)(j:Nat):Value:=if j<297 then nO fr nd v j else if j=297 then iV bad else if j=298 then lv else bx (j-299)
def fJ(a:Option Addr×Nat)(n:Nat):Value:=.slice a.1 n a.2
theorem aMx(fr:Int)(nd:Nat→Nd)(v:Nat→Value){i j:Nat}(hj:j<74):nO fr nd v (1+i*74+j)=ndF (nd i) (v i) j:=by
 unfold nO
 rw[if_neg Yo,show (1+i*74+j-1)/74=i by omega,show (1+i*74+j-1)%74=j by omega]
theorem aDz(fr:Int)(nd:Nat→Nd)(v:Nat→Value)(i:Nat)(n:Nd)(u:Value):∀j,j<297→dY (nO fr nd v) (1+i*74) 74 (ndF n u) j=nO fr (cJ nd i n) (cJ v i u) j:=by
 intro j hj
 unfold dY
 by_cases c:1+i*74≤j∧j<1+i*74+74
 ·rw[if_pos c]
  unfold nO
  rw[if_neg Yo,show (j-1)/74=i by omega,show (j-1)%74=j-(1+i*74) by omega,bZ,bZ]
 ·rw[if_neg c]
  unfold nO
  by_cases c0:j=0
  ·rw[if_pos c0,if_pos c0]
  ·rw[if_neg c0,if_neg c0]
   have:(j-1)/74≠i:=Yo
   rw[upM_other _ _ this,upM_other _ _ this]
theorem aDV(fr:Int)(nd:Nat→Nd)(a:Nat→Option Addr×Nat)(n:Nat→Nat):∀j,j<297→(nO fr nd (λi=>fJ (a i) (n i)) j).oneCell'=true:=by
 intro j _
 unfold nO
 split
 ·rfl
 ·exact cB _ _ _ _ _ (Nat.mod_lt _ Yc)
theorem aKA(ph wo:Int)(ao:Option Addr)(n c:Nat):∀j,j<3→(lyF ph wo (.slice ao n c) j).oneCell'=true:=by
 intro j _
 unfold lyF
 split
 ·rfl
 ·split<;>rfl
theorem aNM(m:Nat→Ms)(v:Nat→Value){i j:Nat}(hj:j<4):vJ m v (i*4+j)=iP (m i).K (m i).F (m i).R (v i) j:=by
 unfold vJ
 rw[show (i*4+j)/4=i by omega,show (i*4+j)%4=j by omega]
theorem aLt(m:Nat→Ms)(a:Nat→Option Addr×Nat)(n:Nat→Nat):∀j,j<16→(vJ m (λi=>fJ (a i) (n i)) j).oneCell'=true:=by
 intro j _
 exact eP _ _ _ _ _ _ _ (Nat.mod_lt _ Yc)
theorem aLT(m:Nat→Ms)(v:Nat→Value)(i:Nat)(n:Ms)(u:Value):∀j,j<16→dY (vJ m v) (i*4) 4 (iP n.K n.F n.R u) j=vJ (cJ m i n) (cJ v i u) j:=by
 intro j hj
 unfold dY
 by_cases c:i*4≤j∧j<i*4+4
 ·rw[if_pos c]
  unfold vJ
  rw[show j/4=i by omega,show j%4=j-i*4 by omega,bZ,bZ]
 ·rw[if_neg c]
  unfold vJ
  have:j/4≠i:=Yo
  rw[upM_other _ _ this,upM_other _ _ this]
theorem tS{fr:Int}{nd:Nat→Nd}{v:Nat→Value}{bad:Int}{lv:Value}{bx:Nat→Value}{j:Nat}(hj:j<297):pG fr nd v bad lv bx j=nO fr nd v j:=if_pos hj
theorem aL2(fr:Int)(nd:Nat→Nd)(v:Nat→Value)(bad:Int)(lv:Value)(bx:Nat→Value){i:Nat}(hi:i<4)(n:Nd)(u:Value):∀j,j<303→dY (pG fr nd v bad lv bx) (1+i*74) 74 (ndF n u) j=pG fr (cJ nd i n) (cJ v i u) bad lv bx j:=by
 intro j hj
 by_cases c:j<297
 ·rw[tS c,←aDz fr nd v i n u j c]
  unfold dY
  split
  ·rfl
  ·exact tS c
 ·rw[jO _ _ Yo]
  unfold pG
  rw[if_neg c,if_neg c]
theorem aNp(fr:Int)(nd:Nat→Nd)(v:Nat→Value)(bad:Int)(lv:Value)(bx:Nat→Value)(i:Nat)(u:Value):∀j,j<303→fW (pG fr nd v bad lv bx) (299+i) u j=pG fr nd v bad lv (cJ bx i u) j:=by
 intro j hj
 by_cases c:j=299+i
 ·subst c
  rw[iG]
  unfold pG
  rw[if_neg Yo,if_neg Yo,if_neg Yo,Nat.add_sub_cancel_left,bZ]
 ·rw[fG _ _ c]
  unfold pG
  by_cases c1:j<297
  ·rw[if_pos c1,if_pos c1]
  ·rw[if_neg c1,if_neg c1]
   by_cases c2:j=297
   ·rw[if_pos c2,if_pos c2]
   ·rw[if_neg c2,if_neg c2]
    by_cases c3:j=298
    ·rw[if_pos c3,if_pos c3]
    ·rw[if_neg c3,if_neg c3,upM_other _ _ Yo]
theorem cW{g f:Nat→Value}{n:Nat}:∀j,j<n→dY g 0 n f j=f j:=λj hj=>by
 have:=jN g (o:=0) (n:=n) f hj
 rwa [Nat.zero_add] at this
instance:ZerK Tryz.prog 58 297 (nO 0 (λ_=>dW) (λ_=>fJ (none,0) 0)):=⟨λw=>by kernel_rfl⟩
instance:ZerK Tryz.prog 31 14 (ipF (λ_ _=>0) 0 (.slice none 0 0)):=⟨λw=>by kernel_rfl⟩
instance:ZerK Tryz.prog 35 3 (lyF 0 0 (.slice none 0 0)):=⟨λw=>by kernel_rfl⟩
instance:ZerK Tryz.prog 61 14 (sB dW):=⟨zT⟩
instance:ZerK Tryz.prog 110 16 (vJ (λ_=>gU) (λ_=>fJ (none,0) 0)):=⟨λw=>by kernel_rfl⟩
theorem aGO{f:Operand→Value}{o:Oper}(ho:o.op=.build 58 #[])(w:World):(execOp f o).run Tryz.prog w=.ok (.value (aU (nO 0 (λ_=>dW) (λ_=>fJ (none,0) 0)) 0 297)) w:=by
 unfold execOp
 rw[ho]
 kernel_rfl
def lX(B:Nat)(v:Value)(L:List Lm):It:=⟨λw=>OwnM w B v L,λk=>v.ownBlock=some k∨∃c,c∈L∧(lmV c).ownBlock=some k,
 λh e=>⟨sY h.1 (λk hk=>e k (h.1.lt k hk).2 (Or.inl hk)),λc hc=>sY (h.2 c hc) (λk hk=>e k ((h.2 c hc).lt k hk).2 (Or.inr ⟨c,hc,hk⟩))⟩,
 λh e=>by
  rcases e with e|⟨c,hc,e⟩
  ·exact (h.1.lt _ e).2
  ·exact ((h.2 c hc).lt _ e).2⟩
theorem uT{B:Nat}{v:Value}{L:List Lm}{w:World}(h:OwnM w B v L):∀j,(lX B v L).foot j→B≤j:=λj e=>by
 rcases e with e|⟨c,hc,e⟩
 ·exact (h.1.lt _ e).1
 ·exact ((h.2 c hc).lt _ e).1
theorem OwnM.base{w:World}{B C:Nat}{v:Value}{L:List Lm}(h:OwnM w B v L)(e:C≤B):OwnM w C v L:=⟨cR h.1 e,λc hc=>cR (h.2 c hc) e⟩
theorem aLx{w0 w w':World}{v u v':Value}{L M:List Lm}{l:List It}(H:Cx w0 w (lX w0.heap.size v L::lX w0.heap.size u M::l))(h2:w'.ownsRow w0.heap.size 69 4 v' (L.length+M.length) (pH L++pH M))(h3:w.grownBy w' v.ownBlock)(h4:∀k,v'.ownBlock=some k→v.ownBlock=some k∨w.heap.size≤k):Cx w0 w' (lX w0.heap.size v' (L++M)::l):=by
 have hL:OwnM w w0.heap.size v L:=H.o0
 have hM:OwnM w w0.heap.size u M:=H.o1
 have apart:∀c,aCI w w0.heap.size c→∀k,(lmV c).ownBlock=some k→some k≠v.ownBlock:=λc hc k hk e=>by
  obtain⟨u1,hu1⟩:=nV hc hk
  obtain⟨u2,hu2⟩:=nV hL.1 e.symm
  rw[hu1] at hu2
  cases hu2
 have kp:∀c,aCI w w0.heap.size c→aCI w' w0.heap.size c:=λc hc=>sY hc (λk hk=>h3.block k (hc.lt k hk).2 (apart c hc k hk))
 have hn:OwnM w' w0.heap.size v' (L++M):=⟨by rw[List.length_append,aEZ];exact h2,λc hc=>by
  rcases List.mem_append.1 hc with hc|hc
  ·exact kp c (hL.2 c hc)
  ·exact kp c (hM.2 c hc)⟩
 refine H.merge.p0 h3.os h3.tape h3.output h3.size (λj h5 h6=>h3.block j h5 (λe=>h6 (Or.inl (Or.inl e.symm)))) (lX w0.heap.size v' (L++M)) hn (λj hj=>?_)
 rcases hj with hj|⟨c,hc,hj⟩
 ·rcases h4 j hj with h|h
  ·exact Or.inl (Or.inl (Or.inl h))
  ·exact Or.inr h
 ·rcases List.mem_append.1 hc with hc|hc
  ·exact Or.inl (Or.inl (Or.inr ⟨c,hc,hj⟩))
  ·exact Or.inl (Or.inr (Or.inr ⟨c,hc,hj⟩))
theorem aE3 {ops : Array Oper} {Q : Exit → Act → World → Prop} {A : Act} {L' : List (Nat × Value)} {w0 w : World} {rest : List Oper} {o : Oper} {d : Nat} {l : List It} {L M : List Lm} {v u : Value} {s x : Operand} (H : Cx w0 w (lX w0.heap.size v L :: lX w0.heap.size u M :: l)) (hl : L.length + M.length ≤ 2932031007401)
  (h:∀v' w',Cx w0 w' (lX w0.heap.size v' (L++M)::l)→LstI Tryz.prog ops Q rest (aL A ((d,v')::L')) w')
  (ho:o.op=.call { callee:=.builtin .append,args:=#[s,x],argTypes:=#[113,113] }:=by rfl) (hs:(aL A L').eval s=v:=by exact Qv) (hx:(aL A L').eval x=u:=by exact Qv) (hd:o.dst=some d:=by rfl) (hw:Region.wanted o (yielded ops (aL A L').tmps)=true:=by exact cC rfl):LstI Tryz.prog ops Q (o::rest) (aL A L') w:=by
 have hL:OwnM w w0.heap.size v L:=H.o0
 have hM:OwnM w w0.heap.size u M:=H.o1
 exact aR hd hw (λ_ hK=>y7 ho inferInstance H.size hs hx hL.1 (aDJ hM.1) aKc (by unfold maxLen;omega) Yo (λv' w' h2 h3 h4=>hK _ _ (h v' w' (aLx H h2 h3 h4))))
theorem aCX{w:World}{b B:Nat}{c:Lm}(h:Vh 69 w b 4 4 (oS c))(hb:B≤b):w.ownsRow B 69 4 (.slice (some ⟨b,0,none⟩) 1 1) 1 (pH [c]):=by
 obtain⟨cur,h1,h2,h3,h4,h5⟩:=h
 refine⟨rfl,Or.inr ⟨b,1,cur,rfl,hb,h1,Nat.le_refl _,by decide,Yo,?_⟩⟩
 apply List.ext_getElem?
 intro i
 rw[List.getElem?_take]
 by_cases hi:i<1*4
 ·rw[if_pos hi,Array.getElem?_toList,h5 i Yo]
  have:=aFH [c] 0 c rfl i Yo
  rw[Nat.zero_mul,Nat.zero_add] at this
  exact this.symm
 ·rw[if_neg hi,List.getElem?_eq_none (by rw[aDR];exact Nat.le_of_not_lt hi)]
theorem aL9{w0 w w':World}{u:Value}{c:Lm}{l:List It}{x:It}(H:Cx w0 w (x::lX w0.heap.size u [c]::l))(k:Below w.heap.size w w')(m:Vh 69 w' w.heap.size 4 4 (oS c)):Cx w0 w' (x::lX w0.heap.size (.slice (some ⟨w.heap.size,0,none⟩) 1 1) [c]::l):=by
 have hM:OwnM w w0.heap.size u [c]:=H.o1
 refine H.p1 k.os k.tape k.output k.size (λj h5 _=>k.block j h5) (lX w0.heap.size (.slice (some ⟨w.heap.size,0,none⟩) 1 1) [c]) ⟨aCX m H.size,λd hd=>bE (hM.2 d hd) k⟩ (λj hj=>?_)
 rcases hj with hj|hj
 ·cases hj;exact Or.inr (Nat.le_refl _)
 ·exact Or.inl (Or.inr hj)
structure Lj where
 y:Ly
 ao:Option Addr
 cap:Nat
def ljV(c:Lj):Value:=.slice c.ao c.y.n c.cap
def ljF(c:Lj):Nat→Value:=lyF c.y.ph c.y.wo (ljV c)
def aO5(w:World)(ao:Option Addr)(L:List Lj):Prop:=0<L.length→∃b o,ao=some ⟨b,o,none⟩∧∀i c,L[i]?=some c→∀k,k<3→w.cell? ⟨b,o+i*3+k,none⟩=some (ljF c k)
def aOW(w:World)(c:Lj):Prop:=Sr w c.ao c.y.n c.cap (bF c.y.g)∧c.y.n≤c.cap∧c.y.n≤140737488351232∧∀i,c.y.g i<256
def JRd(w:World)(ao:Option Addr)(L:List Lj):Prop:=aO5 w ao L∧∀c,c∈L→aOW w c
theorem JRd.below{w w':World}{ao:Option Addr}{L:List Lj}(h:JRd w ao L)(k:Below w.heap.size w w'):JRd w' ao L:=⟨λhl=>by
 obtain⟨b,o,e,hc⟩:=h.1 hl
 exact⟨b,o,e,λi c hi j hj=>bD (hc i c hi j hj) k⟩,λc hc=>⟨(h.2 c hc).1.below k,(h.2 c hc).2⟩⟩
theorem jG{g f:Nat→Value}{o n:Nat}(h:∀j,j<n→g (o+j)=f j):aU g o n=aU f 0 n:=by
 unfold aU
 congr 2
 refine List.map_congr_left λj hj=>?_
 rw[h j (List.mem_range.1 hj),Nat.zero_add]
section
variable {P:Program} {Q:Exit→Act→World→Prop} {a:Act} {w:World} {y:Code} {id id2:Nat} {ops:Array Oper}
theorem aM2(h:CodI P y Q a w):CodI P .skip (Exit.inBlock id (Exit.inBlock id2 (Nx P y Q))) a w:=nF h
theorem aFK(h:CodI P y Q a w):LstI P ops (Exit.inBlock id (Exit.inBlock id2 (Nx P y Q))) [] a w:=⟨wpList_nil h⟩
end
section
variable {n:Nd} {s:Nat} {kind:Int} {many:Nat}
theorem aIr(a b:List Ms):fV n (a++b) s kind many=(fV n a s kind many).or (fV n b s kind many):=by
 unfold fV
 rw[List.find?_append]
 cases List.find? _ a<;>rfl
theorem aKC{l:List Ms}(h:∀m,m∈l→m.F≠(s:Int)):fV n l s kind many=none:=by
 unfold fV
 rw[Option.map_eq_none_iff,List.find?_eq_none]
 intro m hm c
 simp only[Bool.and_eq_true,decide_eq_true_eq] at c
 exact h m hm c.1.1.1.1
theorem xM{m:Ms}(h1:m.F=(s:Int))(h2:n.id≠(s:Int))(h3:m.K=kind)(h4:m.R=n.fr)(h5:m.L.length=many)(h6:cI m.K m.F m.R m.L.length=0):fV n (tA m) s kind many=some m.L:=by
 unfold fV tA
 rw[if_pos h6,List.find?_cons]
 have e:(decide (m.F=(s:Int))&&decide (m.F≠n.id)&&decide (m.K=kind)&&decide (m.R=n.fr)&&decide (m.L.length=many))=true:=by
  rw[decide_eq_true h1,decide_eq_true (by rw[h1];exact λe=>h2 e.symm),decide_eq_true h3,decide_eq_true h4,decide_eq_true h5];rfl
 rw[e]
 rfl
end
theorem aOy{bad wo ph:Int}{l:List Ly}{m:Ms}(h:m∈pF bad wo ph l):m.F=bad:=by
 unfold pF at h
 obtain⟨y,_,h2⟩:=List.mem_flatMap.1 h
 split at h2
 ·simpa using (List.mem_filter.1 h2).2
 ·cases h2
theorem aJX{m m':Ms}(h:m'∈tA m):m'=m:=by
 unfold tA at h
 split at h
 ·simpa using h
 ·cases h
theorem t7 {x : Ip} {told : Nat → Ms} {n : Nd} {s wo ph : Nat} {kind : Int} {many : Nat} (hF : ∀ j : Nat, j < 4 → (j : Int) ≠ x.bad → (told j).F = (j : Nat)) (hs : s ≠ wo) :
  ∀k,k≤4→fV n (lP x told wo ph k) s kind many=if s<k then (if (s:Int)=x.bad then fV n (pF x.bad wo ph x.ly) s kind many else fV n (tA (told s)) s kind many) else none
 |0,_=>by rw[if_neg Yo];rfl
 |k+1,hk=>by
  have ih:=t7 (n:=n) (ph:=ph) (kind:=kind) (many:=many) hF hs k Yo
  show fV n (lP x told wo ph k++_) s kind many=_
  rw[aIr,ih]
  by_cases c:s=k
  ·subst c
   rw[if_neg (Nat.lt_irrefl s),if_neg hs,if_pos (Nat.lt_succ_self s)]
   split
   ·rw[Option.none_or]
   ·rw[Option.none_or]
  ·have e:fV n (if k=wo then [] else if (k:Int)=x.bad then pF x.bad wo ph x.ly else tA (told k)) s kind many=none:=by
    refine aKC λm hm=>?_
    split at hm
    ·cases hm
    ·split at hm
     ·rename_i h;rw[aOy hm,←h];omega
     ·rename_i h;rw[aJX hm,hF k Yo h];omega
   rw[e,Option.or_none]
   by_cases d:s<k
   ·rw[if_pos d,if_pos (show s<k+1 by omega)]
   ·rw[if_neg d,if_neg (show ¬s<k+1 by omega)]
def wZ(H:Nat→Nat→Int)(T:Nat→Nat→Nat→Int)(i s:Nat):Int:=if s=i then H i s else kK (H i s) (T i (o1 i s) s) (T i (o2 i s) s)
theorem four{i:Nat}(h:i<4):i=0∨i=1∨i=2∨i=3:=Yo
theorem aNX(a c:Int):kK a c a=a:=by unfold kK;split;rfl;rw[if_pos rfl]
theorem wO{i s:Nat}(hi:i<4)(hs:s<4)(h:s≠i):o1 i s<4∧o2 i s<4∧o1 i s≠i∧o1 i s≠s∧o2 i s≠i∧o2 i s≠s∧o1 i s≠o2 i s:=by
 rcases four hi with rfl|rfl|rfl|rfl<;>rcases four hs with rfl|rfl|rfl|rfl<;>first|(exact absurd rfl h)|decide
section
variable {H:Nat→Nat→Int} {T:Nat→Nat→Nat→Int} {bad:Int}
theorem uX(hT:∀i j s:Nat,i<4→j<4→s<4→(i:Int)≠bad→(j:Int)≠bad→j≠i→j≠s→s≠i→T i j s=H j s){i s:Nat}{v:Int}(hi:i<4)(hs:s<4)(gi:(i:Int)≠bad)(hv:∀j:Nat,j<4→(j:Int)≠bad→H j s=v):wZ H T i s=v:=by
 unfold wZ
 by_cases e:s=i
 ·rw[if_pos e];exact hv i hi gi
 ·rw[if_neg e,hv i hi gi]
  obtain⟨a1,a2,a3,a4,a5,a6,a7⟩:=wO hi hs e
  by_cases c:((o1 i s:Nat):Int)=bad
  ·have c2:((o2 i s:Nat):Int)≠bad:=Yo
   rw[hT i (o2 i s) s hi a2 hs gi c2 a5 a6 e,hv _ a2 c2,aNX]
  ·rw[hT i (o1 i s) s hi a1 hs gi c a3 a4 e,hv _ a1 c,aLX]
theorem aKS(a b c:Int):kK a b c=kK c a b:=by rw[aAa,aAe]
theorem aLP(a b c:Int):kK a b c=kK b c a:=by rw[aAe,aAa]
theorem aKa(a b c:Int):kK a b c=kK c b a:=by rw[aAa,aAe,aAa]
theorem aLK(hT:∀i j s:Nat,i<4→j<4→s<4→(i:Int)≠bad→(j:Int)≠bad→j≠i→j≠s→s≠i→T i j s=H j s){i k s:Nat}(hi:i<4)(hk:k<4)(hs:s<4)(gi:(i:Int)≠bad)(gk:(k:Int)≠bad)(hb:(s:Int)=bad):wZ H T i s=wZ H T k s:=by
 by_cases e0:i=k
 ·rw[e0]
 have ei:s≠i:=Yo
 have ek:s≠k:=Yo
 unfold wZ
 rw[if_neg ei,if_neg ek]
 obtain⟨a1,a2,a3,a4,a5,a6,a7⟩:=wO hi hs ei
 obtain⟨b1,b2,b3,b4,b5,b6,b7⟩:=wO hk hs ek
 rw[hT i _ s hi a1 hs gi Yo a3 a4 ei,hT i _ s hi a2 hs gi Yo a5 a6 ei,hT k _ s hk b1 hs gk Yo b3 b4 ek,hT k _ s hk b2 hs gk Yo b5 b6 ek]
 have h1:o1 i s=k∨o2 i s=k:=Yo
 have h2:o1 k s=i∨o2 k s=i:=Yo
 rcases h1 with h1|h1<;>rcases h2 with h2|h2
 ·have h3:o2 i s=o2 k s:=Yo
  rw[h1,h2,h3,aAe]
 ·have h3:o2 i s=o1 k s:=Yo
  rw[h1,h2,h3,aLP]
 ·have h3:o1 i s=o2 k s:=Yo
  rw[h1,h2,h3,aKS]
 ·have h3:o1 i s=o1 k s:=Yo
  rw[h1,h2,h3,aKa]
theorem aIn(hT:∀i j s:Nat,i<4→j<4→s<4→(i:Int)≠bad→(j:Int)≠bad→j≠i→j≠s→s≠i→T i j s=H j s)(V:Nat→Int)(hV:∀j s:Nat,j<4→s<4→(j:Int)≠bad→(s:Int)≠bad→H j s=V s){i k s:Nat}(hi:i<4)(hk:k<4)(hs:s<4)(gi:(i:Int)≠bad)(gk:(k:Int)≠bad):wZ H T i s=wZ H T k s:=by
 by_cases hb:(s:Int)=bad
 ·exact aLK hT hi hk hs gi gk hb
 ·rw[uX hT hi hs gi (λj hj g=>hV j s hj hs g hb),uX hT hk hs gk (λj hj g=>hV j s hj hs g hb)]
end
theorem sE{K F R:Int}{n:Nat}(h1:1≤K∧K≤5)(h2:0≤F∧F≤3)(h3:0≤R∧R≤2147483647)(h4:n≤24):cI K F R n=0:=by
 unfold cI;rw[if_neg Yo,if_neg Yo,if_neg Yo]
section
variable {x:Ip} {c:Cl}
def ndK(x:Ip)(c:Cl)(k i:Nat):Nd:=(kI x c k).nd i
def bxK(x:Ip)(c:Cl)(k i:Nat):List Ms:=(kI x c k).bx i
def vI(x:Ip)(c:Cl)(k i:Nat):Ms:=xY x c.fr (kI x c k) k i
theorem oA{k i:Nat}(h:(i:Int)≠x.bad):ndK x c (k+1) i=phN k (ndK x c k i) c.fr (x.rd i) (bxK x c k i):=by
 show (if (i:Int)=x.bad then _ else _)=_
 rw[if_neg h];rfl
theorem tZ{k i:Nat}(h:(i:Int)≠x.bad):vI x c k i=phM k (ndK x c k i) c.fr (x.rd i) (bxK x c k i):=by
 show (if (i:Int)=x.bad then _ else _)=_
 rw[if_neg h];rfl
theorem uI{k i:Nat}:bxK x c (k+1) i=lP x (vI x c k) i k 4:=rfl
theorem nd1{i:Nat}(h:(i:Int)≠x.bad):ndK x c 1 i=mI (c.nd i) c.fr (x.rd i):=oA h
theorem nd2{i:Nat}(h:(i:Int)≠x.bad):ndK x c 2 i=relN (ndK x c 1 i) (bxK x c 1 i):=oA h
theorem nd3{i:Nat}(h:(i:Int)≠x.bad):ndK x c 3 i=decN (ndK x c 2 i) (bxK x c 2 i):=oA h
theorem nd4{i:Nat}(h:(i:Int)≠x.bad):ndK x c 4 i=pasN (ndK x c 3 i) (bxK x c 3 i):=oA h
theorem nd5{i:Nat}(h:(i:Int)≠x.bad):ndK x c 5 i=judN (ndK x c 4 i) (bxK x c 4 i):=oA h
theorem mg0{i:Nat}(h:(i:Int)≠x.bad):vI x c 0 i=lR (c.nd i) c.fr (x.rd i):=tZ h
theorem mg1{i:Nat}(h:(i:Int)≠x.bad):vI x c 1 i=qM (ndK x c 1 i) (bxK x c 1 i):=tZ h
theorem mg2{i:Nat}(h:(i:Int)≠x.bad):vI x c 2 i=qT (ndK x c 2 i) (bxK x c 2 i):=tZ h
theorem mg3{i:Nat}(h:(i:Int)≠x.bad):vI x c 3 i=qD (ndK x c 3 i) (bxK x c 3 i):=tZ h
theorem id0(hE:cL x c=0){i:Nat}(hi:i<4):(c.nd i).id=(i:Nat):=(aCJ hE).2.2.2 i hi
theorem qJ(hE:cL x c=0){i:Nat}(hi:i<4)(g:(i:Int)≠x.bad):ndK x c 1 i={ c.nd i with fr:=c.fr,di:=λs a=>if (s:Int)=(c.nd i).id then x.rd i a else 0,he:=λ_=>0 }:=by
 rw[nd1 g];unfold mI;rw[if_neg (by rw[id0 hE hi,jQ hi];decide)]
theorem nR(hE:cL x c=0){i:Nat}(hi:i<4)(g:(i:Int)≠x.bad):ndK x c 2 i={ ndK x c 1 i with di:=relD (ndK x c 1 i) (bxK x c 1 i) }:=by
 rw[nd2 g];unfold relN;rw[if_neg (by rw[qJ hE hi g];show ¬iB (c.nd i).id=true;rw[id0 hE hi,jQ hi];decide)]
theorem id1(hE:cL x c=0){i:Nat}(hi:i<4)(g:(i:Int)≠x.bad):(ndK x c 1 i).id=(i:Nat):=by rw[qJ hE hi g];exact id0 hE hi
theorem id2(hE:cL x c=0){i:Nat}(hi:i<4)(g:(i:Int)≠x.bad):(ndK x c 2 i).id=(i:Nat):=by rw[nR hE hi g];exact id1 hE hi g
theorem mY(hE:cL x c=0){i:Nat}(hi:i<4)(g:(i:Int)≠x.bad):ndK x c 3 i={ ndK x c 2 i with ag:=decG (ndK x c 2 i) (bxK x c 2 i),us:=decU (ndK x c 2 i) (bxK x c 2 i),ax:=decA (ndK x c 2 i) (bxK x c 2 i),dg:=decD (ndK x c 2 i) (bxK x c 2 i),he:=λs=>if (s:Int)=(ndK x c 2 i).id then decD (ndK x c 2 i) (bxK x c 2 i) else (ndK x c 2 i).he s }:=by
 rw[nd3 g];unfold decN;rw[if_neg (by rw[id2 hE hi g,jQ hi];decide)]
theorem id3(hE:cL x c=0){i:Nat}(hi:i<4)(g:(i:Int)≠x.bad):(ndK x c 3 i).id=(i:Nat):=by rw[mY hE hi g];exact id2 hE hi g
theorem oN(hE:cL x c=0){i:Nat}(hi:i<4)(g:(i:Int)≠x.bad):ndK x c 4 i={ ndK x c 3 i with he:=pasH (ndK x c 3 i) (bxK x c 3 i) }:=by
 rw[nd4 g];unfold pasN;rw[if_neg (by rw[id3 hE hi g,jQ hi];decide)]
theorem id4(hE:cL x c=0){i:Nat}(hi:i<4)(g:(i:Int)≠x.bad):(ndK x c 4 i).id=(i:Nat):=by rw[oN hE hi g];exact id3 hE hi g
theorem tH(hE:cL x c=0){i:Nat}(hi:i<4)(g:(i:Int)≠x.bad):ndK x c 5 i={ ndK x c 4 i with vX:=judX (ndK x c 4 i) (bxK x c 4 i),vS:=judS (ndK x c 4 i) (bxK x c 4 i),vA:=(List.range 4).map (judA (ndK x c 4 i) (bxK x c 4 i)),rl:=judR (ndK x c 4 i) (bxK x c 4 i) }:=by
 rw[nd5 g];unfold judN;rw[if_neg (by rw[id4 hE hi g,jQ hi];decide)]
theorem id5(hE:cL x c=0){i:Nat}(hi:i<4)(g:(i:Int)≠x.bad):(ndK x c 5 i).id=(i:Nat):=by rw[tH hE hi g];exact id4 hE hi g
theorem fr1(hE:cL x c=0){i:Nat}(hi:i<4)(g:(i:Int)≠x.bad):(ndK x c 1 i).fr=c.fr:=by rw[qJ hE hi g]
theorem fr2(hE:cL x c=0){i:Nat}(hi:i<4)(g:(i:Int)≠x.bad):(ndK x c 2 i).fr=c.fr:=by rw[nR hE hi g];exact fr1 hE hi g
theorem fr3(hE:cL x c=0){i:Nat}(hi:i<4)(g:(i:Int)≠x.bad):(ndK x c 3 i).fr=c.fr:=by rw[mY hE hi g];exact fr2 hE hi g
theorem fr4(hE:cL x c=0){i:Nat}(hi:i<4)(g:(i:Int)≠x.bad):(ndK x c 4 i).fr=c.fr:=by rw[oN hE hi g];exact fr3 hE hi g
theorem ms0(hE:cL x c=0){i:Nat}(hi:i<4)(g:(i:Int)≠x.bad):vI x c 0 i=⟨1,(i:Nat),c.fr,[x.rd i 0,x.rd i 1,x.rd i 2]⟩:=by
 rw[mg0 g];unfold lR;rw[if_neg (by rw[id0 hE hi,jQ hi];decide),id0 hE hi]
theorem ms1(hE:cL x c=0){i:Nat}(hi:i<4)(g:(i:Int)≠x.bad):vI x c 1 i=⟨2,(i:Nat),c.fr,(List.range 12).map λk=>(ndK x c 2 i).di (k/3) (k%3)⟩:=by
 rw[mg1 g,nR hE hi g];unfold qM;rw[if_neg (by rw[id1 hE hi g,jQ hi];decide),id1 hE hi g,fr1 hE hi g]
theorem ms2(hE:cL x c=0){i:Nat}(hi:i<4)(g:(i:Int)≠x.bad):vI x c 2 i=⟨3,(i:Nat),c.fr,[(ndK x c 3 i).dg]⟩:=by
 rw[mg2 g,mY hE hi g];unfold qT;rw[if_neg (by rw[id2 hE hi g,jQ hi];decide),id2 hE hi g,fr2 hE hi g]
theorem ms3(hE:cL x c=0){i:Nat}(hi:i<4)(g:(i:Int)≠x.bad):vI x c 3 i=⟨2,(i:Nat),c.fr,(List.range 4).map (ndK x c 4 i).he⟩:=by
 rw[mg3 g,oN hE hi g];unfold qD;rw[if_neg (by rw[id3 hE hi g,jQ hi];decide),id3 hE hi g,fr3 hE hi g]
theorem aBt(hE:cL x c=0):0≤c.fr∧c.fr≤2147483647:=by have:=(aCJ hE).2.1;omega
theorem aOM(hE:cL x c=0){i s:Nat}(hi:i<4)(hs:s<4)(g:(i:Int)≠x.bad)(gs:(s:Int)≠x.bad)(h:s≠i):fV (ndK x c 1 i) (bxK x c 1 i) s 1 3=some [x.rd s 0,x.rd s 1,x.rd s 2]:=by
 rw[uI,t7 (λj hj gj=>by rw[ms0 hE hj gj]) h 4 (Nat.le_refl _),if_pos hs,if_neg gs,ms0 hE hs gs]
 exact xM rfl (by rw[id1 hE hi g];omega) rfl (by rw[fr1 hE hi g]) rfl (sE (show 1≤(1:Int)∧(1:Int)≤5 by decide) ⟨by show 0≤((s:Nat):Int);omega,by show ((s:Nat):Int)≤3;omega⟩ (aBt hE) (by show 3≤24;decide))
theorem aOK(hE:cL x c=0){i s:Nat}(hi:i<4)(hs:s<4)(g:(i:Int)≠x.bad)(gs:(s:Int)≠x.bad)(h:s≠i):fV (ndK x c 2 i) (bxK x c 2 i) s 2 12=some ((List.range 12).map λk=>(ndK x c 2 s).di (k/3) (k%3)):=by
 rw[uI,t7 (λj hj gj=>by rw[ms1 hE hj gj]) h 4 (Nat.le_refl _),if_pos hs,if_neg gs,ms1 hE hs gs]
 exact xM rfl (by rw[id2 hE hi g];omega) rfl (by rw[fr2 hE hi g]) (by simp) (sE (show 1≤(2:Int)∧(2:Int)≤5 by decide) ⟨by show 0≤((s:Nat):Int);omega,by show ((s:Nat):Int)≤3;omega⟩ (aBt hE) (by simp))
theorem aOq(hE:cL x c=0){i s:Nat}(hi:i<4)(hs:s<4)(g:(i:Int)≠x.bad)(gs:(s:Int)≠x.bad)(h:s≠i):fV (ndK x c 3 i) (bxK x c 3 i) s 3 1=some [(ndK x c 3 s).dg]:=by
 rw[uI,t7 (λj hj gj=>by rw[ms2 hE hj gj]) h 4 (Nat.le_refl _),if_pos hs,if_neg gs,ms2 hE hs gs]
 exact xM rfl (by rw[id3 hE hi g];omega) rfl (by rw[fr3 hE hi g]) rfl (sE (show 1≤(3:Int)∧(3:Int)≤5 by decide) ⟨by show 0≤((s:Nat):Int);omega,by show ((s:Nat):Int)≤3;omega⟩ (aBt hE) (by show 1≤24;decide))
theorem aOD(hE:cL x c=0){i s:Nat}(hi:i<4)(hs:s<4)(g:(i:Int)≠x.bad)(gs:(s:Int)≠x.bad)(h:s≠i):fV (ndK x c 4 i) (bxK x c 4 i) s 2 4=some ((List.range 4).map (ndK x c 4 s).he):=by
 rw[uI,t7 (λj hj gj=>by rw[ms3 hE hj gj]) h 4 (Nat.le_refl _),if_pos hs,if_neg gs,ms3 hE hs gs]
 exact xM rfl (by rw[id4 hE hi g];omega) rfl (by rw[fr4 hE hi g]) (by simp) (sE (show 1≤(2:Int)∧(2:Int)≤5 by decide) ⟨by show 0≤((s:Nat):Int);omega,by show ((s:Nat):Int)≤3;omega⟩ (aBt hE) (by simp))
theorem aDP(hE:cL x c=0){j s a:Nat}(hj:j<4)(hs:s<4)(gj:(j:Int)≠x.bad)(gs:(s:Int)≠x.bad)(ha:a<3):(ndK x c 2 j).di s a=x.rd s a:=by
 rw[nR hE hj gj]
 show relD (ndK x c 1 j) (bxK x c 1 j) s a=_
 unfold relD
 by_cases e:s=j
 ·subst e
  rw[aCT (by rw[id1 hE hj gj])]
  dsimp only
  rw[qJ hE hj gj]
  show (if (s:Int)=(c.nd s).id then x.rd s a else 0)=_
  rw[if_pos (id0 hE hj).symm]
 ·rw[aOM hE hj hs gj gs e]
  dsimp only
  have:a=0∨a=1∨a=2:=Yo
  rcases this with rfl|rfl|rfl<;>rfl
theorem aKz(hE:cL x c=0){j s:Nat}(hj:j<4)(hs:s<4)(gj:(j:Int)≠x.bad)(gs:(s:Int)≠x.bad):(ndK x c 4 j).he s=(ndK x c 3 s).dg:=by
 rw[oN hE hj gj]
 show pasH (ndK x c 3 j) (bxK x c 3 j) s=_
 unfold pasH
 by_cases e:s=j
 ·subst e
  rw[aCT (by rw[id3 hE hj gj])]
  dsimp only
  rw[mY hE hj gj]
  show (if (s:Int)=(ndK x c 2 s).id then decD (ndK x c 2 s) (bxK x c 2 s) else (ndK x c 2 s).he s)=_
  rw[if_pos (id2 hE hj gj).symm]
 ·rw[aOq hE hj hs gj gs e]
  rfl
def tdG(x:Ip)(c:Cl)(a i j s:Nat):Int:=gJ (ndK x c 2 i) (bxK x c 2 i) j (3*s+a) 12
theorem aEX(hE:cL x c=0){i s a:Nat}(hi:i<4)(g:(i:Int)≠x.bad):(ndK x c 3 i).ag s a=wZ (λi s=>(ndK x c 2 i).di s a) (tdG x c a) i s:=by
 rw[mY hE hi g]
 show sH (ndK x c 2 i) (bxK x c 2 i) s ((ndK x c 2 i).di s a) (3*s+a) 12=_
 unfold sH wZ tdG
 rw[id2 hE hi g]
 by_cases e:s=i
 ·rw[if_pos e,if_pos (by rw[e])]
 ·rw[if_neg e,if_neg Yo];rfl
theorem aCC(hE:cL x c=0){a:Nat}(ha:a<3):∀i j s:Nat,i<4→j<4→s<4→(i:Int)≠x.bad→(j:Int)≠x.bad→j≠i→j≠s→s≠i→tdG x c a i j s=(ndK x c 2 j).di s a:=λi j s hi hj hs gi gj h1 _ _=>by
 unfold tdG gJ
 rw[aOK hE hi hj gi gj h1]
 dsimp only
 rw[List.getD_eq_getElem?_getD,List.getElem?_map,List.getElem?_range Yo]
 show (ndK x c 2 j).di ((3*s+a)/3) ((3*s+a)%3)=_
 rw[show (3*s+a)/3=s by omega,show (3*s+a)%3=a by omega]
theorem aK0(hE:cL x c=0){i s a:Nat}(hi:i<4)(hs:s<4)(gi:(i:Int)≠x.bad)(gs:(s:Int)≠x.bad)(ha:a<3):(ndK x c 3 i).ag s a=x.rd s a:=by
 rw[aEX hE hi gi]
 exact uX (aCC hE ha) hi hs gi (λj hj gj=>aDP hE hj hs gj gs ha)
theorem aKt(hE:cL x c=0){i k s a:Nat}(hi:i<4)(hk:k<4)(hs:s<4)(gi:(i:Int)≠x.bad)(gk:(k:Int)≠x.bad)(ha:a<3):(ndK x c 3 i).ag s a=(ndK x c 3 k).ag s a:=by
 rw[aEX hE hi gi,aEX hE hk gk]
 exact aIn (aCC hE ha) (λs=>x.rd s a) (λj s hj hs gj gs=>aDP hE hj hs gj gs ha) hi hk hs gi gk
def vtK(x:Ip)(c:Cl)(i s:Nat):Int:=oC (ndK x c 4 i) (bxK x c 4 i) s
theorem aOu(hE:cL x c=0){i s:Nat}(hi:i<4)(g:(i:Int)≠x.bad):vtK x c i s=wZ (λi s=>(ndK x c 4 i).he s) (λi j s=>gJ (ndK x c 4 i) (bxK x c 4 i) j s 4) i s:=by
 unfold vtK oC sH wZ
 rw[id4 hE hi g]
 by_cases e:s=i
 ·rw[if_pos e,if_pos (by rw[e])]
 ·rw[if_neg e,if_neg Yo];rfl
theorem aLH(hE:cL x c=0):∀i j s:Nat,i<4→j<4→s<4→(i:Int)≠x.bad→(j:Int)≠x.bad→j≠i→j≠s→s≠i→gJ (ndK x c 4 i) (bxK x c 4 i) j s 4=(ndK x c 4 j).he s:=λi j s hi hj hs gi gj h1 _ _=>by
 unfold gJ
 rw[aOD hE hi hj gi gj h1]
 dsimp only
 rw[List.getD_eq_getElem?_getD,List.getElem?_map,List.getElem?_range hs]
 rfl
theorem aKO(hE:cL x c=0){i s:Nat}(hi:i<4)(hs:s<4)(gi:(i:Int)≠x.bad)(gs:(s:Int)≠x.bad):vtK x c i s=(ndK x c 3 s).dg:=by
 rw[aOu hE hi gi]
 exact uX (aLH hE) hi hs gi (λj hj gj=>aKz hE hj hs gj gs)
end
theorem R64_zero:R64 0:=⟨by decide,by decide⟩
theorem sU{l:List Int}(h:∀x,x∈l→R64 x)(i:Nat):R64 (gL l i):=by
 unfold gL
 rw[List.getD_eq_getElem?_getD]
 rcases Nat.lt_or_ge i l.length with c|c
 ·rw[List.getElem?_eq_getElem c]
  exact h _ (List.getElem_mem c)
 ·rw[List.getElem?_eq_none c]
  exact R64_zero
theorem aJK{a b c:Int}(ha:R64 a)(hb:R64 b):R64 (kK a b c):=by
 unfold kK
 split
 ·exact ha
 ·split
  ·exact ha
  ·split
   ·exact hb
   ·exact R64_zero
theorem aHW{n:Nd}{L:List Lm}{s:Nat}{kind:Int}{many:Nat}{v:List Int}(h:fV n (L.map Lm.m) s kind many=some v):∃c,c∈L∧c.m.L=v:=by
 rw[←lH] at h
 obtain⟨c,h1,h2⟩:=Option.map_eq_some_iff.1 h
 exact⟨c,List.mem_of_find?_eq_some h1,h2⟩
theorem aEi{n:Nd}{L:List Lm}(hRL:∀m,m∈L→∀i,R64 (gL m.m.L i))(i k many:Nat):R64 (gJ n (L.map Lm.m) i k many):=by
 unfold gJ
 cases e:fV n (L.map Lm.m) i 2 many with
 |none=>exact R64_zero
 |some v=>
  obtain⟨c,h1,rfl⟩:=aHW e
  exact hRL c h1 k
theorem aEw{n:Nd}{L:List Lm}(hRL:∀m,m∈L→∀i,R64 (gL m.m.L i)){s:Nat}{h:Int}{k many:Nat}(hh:R64 h):R64 (sH n (L.map Lm.m) s h k many):=by
 unfold sH
 split
 ·exact hh
 ·exact aJK hh (aEi hRL _ _ _)
theorem aMA(n:Nd)(v:Value){a:Nat}(ha:a<3):ndF n v (0+67+a*1)=.int .i64 (n.us a):=by
 unfold ndF
 rw[if_neg Yo,if_neg Yo,if_neg Yo,if_neg Yo,if_neg Yo,if_neg Yo,if_neg Yo,if_pos Yo,show 0+67+a*1-67=a by omega]
 rfl
def NA(n:Nd)(ag:Nat→Nat→Int)(us:Nat→Int)(ax:Nat→St):Nd:={ n with ag:=ag,us:=us,ax:=ax }
def oY(n:Nd)(l:List Ms)(x k:Nat):Int:=if k<x then decU n l k else n.us k
def r6(n:Nd)(l:List Ms)(x k:Nat):St:=if k<x then decA n l k else n.ax k
theorem aLj{n:Nd}{l:List Ms}{x:Nat}:(λk=>if k=x then nG (gW n.rl.I (λs=>decG n l s x) 4) else oY n l x k)=oY n l (x+1):=by
 funext k
 unfold oY
 by_cases c:k=x
 ·subst c
  rw[if_pos rfl,if_pos Yo]
  rfl
 ·rw[if_neg c]
  by_cases c2:k<x
  ·rw[if_pos c2,if_pos Yo]
  ·rw[if_neg c2,if_neg Yo]
theorem aMY{n:Nd}{l:List Ms}{x:Nat}:oY n l (x+1) x=decU n l x:=by
 unfold oY
 rw[if_pos Yo]
theorem aKT{n:Nd}{l:List Ms}{x:Nat}:(λk=>if k=x then decA n l x else r6 n l x k)=r6 n l (x+1):=by
 funext k
 unfold r6
 by_cases c:k=x
 ·subst c
  rw[if_pos rfl,if_pos Yo]
 ·rw[if_neg c]
  by_cases c2:k<x
  ·rw[if_pos c2,if_pos Yo]
  ·rw[if_neg c2,if_neg Yo]
theorem dec_he{n:Nd}{I:Nat}{x:Int}(h:n.id=(I:Int)):(λs:Nat=>if (s:Int)=n.id then x else n.he s)=λs=>if s=I then x else n.he s:=by
 funext s
 rw[h]
 by_cases e:s=I
 ·rw[if_pos Yo,if_pos e]
 ·rw[if_neg Yo,if_neg e]
theorem aOp{b:Nat→Bool}{f:Nat→Int}{i:Nat}(h:b i=true):gW b f (i+1)=gW b f i++[f i]:=by
 show gW b f i++_=_
 rw[h];rfl
theorem aOj{b:Nat→Bool}{f:Nat→Int}{i:Nat}(h:b i=false):gW b f (i+1)=gW b f i:=by
 show gW b f i++_=_
 rw[h]
 exact List.append_nil _
theorem aGe{n:Nd}{L:List Lm}(hok:NdOK n)(hRL:∀m,m∈L→∀i,R64 (gL m.m.L i))(s a:Nat):R64 (decG n (L.map Lm.m) s a):=aEw hRL (hok.di s a)
theorem aJA{l:List Int}(h:∀x,x∈l→R64 x)(i:Nat):R64 ((fO l).getD i 0):=by
 refine sU (l:=fO l) (λx hx=>h x ?_) i
 unfold fO at hx
 exact (List.mem_mergeSort).1 hx
theorem aFL{l:List Int}(h:∀x,x∈l→R64 x):R64 (nG l):=by
 unfold nG
 split
 ·have h1:=aJA h ((l.length-1)/3)
  have h2:=aJA h (l.length-1-(l.length-1)/3)
  unfold R64 at h1 h2 ⊢
  omega
 ·exact R64_zero
theorem yN{b:Nat→Bool}{f:Nat→Int}(h:∀s,R64 (f s))(k:Nat):∀x,x∈gW b f k→R64 x:=by
 induction k with
 |zero=>intro x hx;exact absurd hx (List.not_mem_nil)
 |succ k ih=>
  intro x hx
  rcases List.mem_append.1 hx with c|c
  ·exact ih x c
  ·split at c
   ·rw[List.mem_singleton.1 c];exact h k
   ·exact absurd c (List.not_mem_nil)
theorem aMO{n:Nd}{L:List Lm}(hok:NdOK n)(hRL:∀m,m∈L→∀i,R64 (gL m.m.L i))(a:Nat):R64 (decU n (L.map Lm.m) a):=aFL (yN (λs=>aGe hok hRL s a) 4)
theorem aNv(l:List Int):gM (gL l) l.length=l:=by
 unfold gM
 apply List.ext_getElem?
 intro i
 rcases Nat.lt_or_ge i l.length with c|c
 ·rw[List.getElem?_map,List.getElem?_range c,List.getElem?_eq_getElem c]
  show some (gL l i)=_
  unfold gL
  rw[List.getD_eq_getElem?_getD,List.getElem?_eq_getElem c]
  rfl
 ·rw[List.getElem?_eq_none c,List.getElem?_eq_none (by simpa using c)]
def nQ(l:List Ms):Prop:=∀m,m∈l→∀i,R64 (gL m.L i)
structure MsOK (m:Ms):Prop where
 K:R64 m.K
 F:R64 m.F
 R:R64 m.R
 L:∀i,R64 (gL m.L i)
 n:m.L.length≤24
theorem aCE{n:Nd}{l:List Ms}{s:Nat}{kind:Int}{many:Nat}{v:List Int}(h:nQ l)(hv:fV n l s kind many=some v)(i:Nat):R64 (v.getD i 0):=by
 unfold fV at hv
 obtain⟨m,h1,rfl⟩:=Option.map_eq_some_iff.1 hv
 exact h m (List.mem_of_find?_eq_some h1) i
theorem aNY{n:Nd}{l:List Ms}(h:nQ l){s:Nat}{v:Int}{k many:Nat}(hv:R64 v):R64 (sH n l s v k many):=by
 unfold sH
 split
 ·exact hv
 ·refine aJK hv ?_
  unfold gJ
  split
  ·rename_i u e;exact aCE h e k
  ·exact R64_zero
theorem aMs{x:Nat}(h:x≤4294967295):R64 ((x:Nat):Int):=by unfold R64;omega
theorem aEe(ax:Nat→St)(r:Rl):R64 (dgN ax r):=aMs (Nat.sub_le _ _)
theorem aLI{ax:Nat→St}{r:Rl}(h:∀a,(ax a).Ok):∀x,x∈mX ax r→R64 x:=by
 have h1:∀a x,x∈axL (ax a)→R64 x:=λa x hx=>by
  unfold axL at hx
  simp only[List.mem_cons,List.not_mem_nil,or_false] at hx
  rcases hx with rfl|rfl|rfl|rfl|rfl|rfl|rfl
  ·exact (h a).X
  ·exact (h a).V
  ·exact (h a).P00
  ·exact (h a).P01
  ·exact (h a).P11
  ·unfold R64;split<;>omega
  ·exact (h a).M
 have h2:∀(f:Nat→Int) k,R64 (lT f (k+1)):=λf k=>by
  show R64 (wrap64 _)
  unfold R64 wrap64;omega
 intro x hx
 unfold mX at hx
 simp only[List.mem_append,List.mem_cons,List.not_mem_nil,or_false] at hx
 rcases hx with ((hx|hx)|hx)|rfl|rfl|rfl
 ·exact h1 0 x hx
 ·exact h1 1 x hx
 ·exact h1 2 x hx
 ·unfold inN R64;split<;>split<;>split<;>split<;>omega
 ·exact h2 _ 3
 ·exact h2 _ 3
theorem u9:MsOK gU:=⟨R64_zero,R64_zero,R64_zero,λi=>sU (λx hx=>by cases hx) i,Nat.zero_le _⟩
section
variable {n:Nd} {l:List Ms}
theorem aKP(h:NdOK n){fr:Int}{rd:Nat→Int}(hf:R64 fr)(hr:∀a,R64 (rd a)):NdOK (mI n fr rd):=by
 unfold mI
 split
 ·exact h
 ·exact⟨h.id,hf,h.tn,h.ax,h.rM,h.rJ,λs a=>by show R64 (if _ then _ else _);split;exact hr a;exact R64_zero,λ_=>R64_zero,h.ag,h.us,h.dg,h.vX,h.vA⟩
theorem aKx(h:NdOK n){fr:Int}{rd:Nat→Int}(hf:R64 fr)(hr:∀a,R64 (rd a)):MsOK (lR n fr rd):=by
 unfold lR
 split
 ·exact⟨R64_zero,R64_zero,R64_zero,λi=>sU (λx hx=>by cases hx) i,Nat.zero_le _⟩
 ·refine⟨(show R64 1 by unfold R64;decide),h.id,hf,λi=>sU (λx hx=>?_) i,by show 3≤24;decide⟩
  simp only[List.mem_cons,List.not_mem_nil,or_false] at hx
  rcases hx with rfl|rfl|rfl<;>exact hr _
theorem aF5(h:NdOK n)(hl:nQ l)(s a:Nat):R64 (relD n l s a):=by
 unfold relD
 split
 ·rename_i v e;exact aCE hl e a
 ·exact h.di s a
theorem aMg(h:NdOK n)(hl:nQ l):NdOK (relN n l):=by
 unfold relN
 split
 ·exact h
 ·exact⟨h.id,h.fr,h.tn,h.ax,h.rM,h.rJ,aF5 h hl,h.he,h.ag,h.us,h.dg,h.vX,h.vA⟩
theorem aLr(h:NdOK n)(hl:nQ l):MsOK (qM n l):=by
 unfold qM
 split
 ·exact u9
 ·refine⟨(show R64 2 by unfold R64;decide),h.id,h.fr,λi=>sU (λx hx=>?_) i,by simp⟩
  obtain⟨q,_,rfl⟩:=List.mem_map.1 hx
  exact aF5 h hl _ _
theorem aDK(h:NdOK n)(hl:nQ l)(s a:Nat):R64 (decG n l s a):=aNY hl (h.di s a)
theorem aLV(h:NdOK n)(hl:nQ l)(a:Nat):R64 (decU n l a):=aFL (yN (λs=>aDK h hl s a) 4)
theorem aMn(h:NdOK n)(hl:nQ l):NdOK (decN n l):=by
 unfold decN
 split
 ·exact h
 ·exact⟨h.id,h.fr,h.tn,λa=>aHo (h.ax a) _ _,h.rM,h.rJ,h.di,λs=>by show R64 (if _ then _ else _);split;exact aEe _ _;exact h.he s,aDK h hl,aLV h hl,aEe _ _,h.vX,h.vA⟩
theorem aLh(h:NdOK n)(_:nQ l):MsOK (qT n l):=by
 unfold qT
 split
 ·exact u9
 ·refine⟨(show R64 3 by unfold R64;decide),h.id,h.fr,λi=>sU (λx hx=>?_) i,by show 1≤24;decide⟩
  simp only[List.mem_cons,List.not_mem_nil,or_false] at hx
  rw[hx];exact aEe _ _
theorem aGU(h:NdOK n)(hl:nQ l)(s:Nat):R64 (pasH n l s):=by
 unfold pasH
 split
 ·rename_i v e;exact aCE hl e 0
 ·exact h.he s
theorem aMo(h:NdOK n)(hl:nQ l):NdOK (pasN n l):=by
 unfold pasN
 split
 ·exact h
 ·exact⟨h.id,h.fr,h.tn,h.ax,h.rM,h.rJ,h.di,aGU h hl,h.ag,h.us,h.dg,h.vX,h.vA⟩
theorem aLO(h:NdOK n)(hl:nQ l):MsOK (qD n l):=by
 unfold qD
 split
 ·exact u9
 ·refine⟨(show R64 2 by unfold R64;decide),h.id,h.fr,λi=>sU (λx hx=>?_) i,by simp⟩
  obtain⟨q,_,rfl⟩:=List.mem_map.1 hx
  exact aGU h hl _
theorem aL4(h:NdOK n)(hl:nQ l):R64 (judX n l):=by
 have hv:∀s,R64 (oC n l s):=λs=>aNY hl (h.he s)
 have:∀k,R64 (xX (oC n l) n.rl.I k):=by
  intro k
  induction k with
  |zero=>exact R64_zero
  |succ k ih=>
   show R64 (if _ then _ else _)
   split
   ·exact hv k
   ·exact ih
 exact this 4
theorem aO8(h:NdOK n){A:Nat→Bool}(hg:kP n.rl=true):∀k,k≤4→∀i,R64 ((rnN A n.rl k).1.M i)∧R64 ((rnN A n.rl k).1.J i):=λk hk i=>by
 rcases Nat.lt_or_ge i 4 with c|c
 ·have g:=tG.1 (aAn (A:=A) hg k) i c
  cases e:(rnN A n.rl k).1.I i with
  |true=>have:=(gd_in e).1 g;unfold R64;omega
  |false=>have:=(oV e).1 g;unfold R64;omega
 ·obtain⟨_,h2,h3⟩:=aDI (A:=A) (r:=n.rl) k (j:=i) Yo
  rw[h2,h3];exact⟨h.rM i,h.rJ i⟩
theorem aGc(h:NdOK n)(l:List Ms)(i:Nat):R64 ((judR n l).M i)∧R64 ((judR n l).J i):=by
 unfold judR
 split
 ·unfold stR
  split
  ·exact⟨R64_zero,R64_zero⟩
  ·split
   ·exact⟨R64_zero,R64_zero⟩
   ·rename_i hg
    split
    ·exact aO8 h (by simpa using hg) 4 (Nat.le_refl _) i
    ·exact⟨h.rM i,h.rJ i⟩
 ·exact⟨h.rM i,h.rJ i⟩
theorem aLa(h:NdOK n)(hl:nQ l):NdOK (judN n l):=by
 unfold judN
 split
 ·exact h
 ·exact⟨h.id,h.fr,h.tn,h.ax,λi=>(aGc h l i).1,λi=>(aGc h l i).2,h.di,h.he,h.ag,h.us,h.dg,aL4 h hl,by show ((List.range 4).map _).length≤_;rw[List.length_map,List.length_range];decide⟩
theorem aLo(h:NdOK n)(_:nQ l):MsOK (qV n l):=by
 unfold qV
 split
 ·exact u9
 ·exact⟨(show R64 5 by unfold R64;decide),h.id,h.fr,λi=>sU (aLI h.ax) i,by rw[aKI];decide⟩
end
theorem aMU{n:Nd}{l:List Ms}{fr:Int}{rd:Nat→Int}(k:Nat)(h:NdOK n)(hl:nQ l)(hf:R64 fr)(hr:∀a,R64 (rd a)):NdOK (phN k n fr rd l):=by
 unfold phN
 split
 ·exact aKP h hf hr
 ·split
  ·exact aMg h hl
  ·split
   ·exact aMn h hl
   ·split
    ·exact aMo h hl
    ·exact aLa h hl
theorem aF9{n:Nd}{l:List Ms}{fr:Int}{rd:Nat→Int}(k:Nat)(h:NdOK n)(hl:nQ l)(hf:R64 fr)(hr:∀a,R64 (rd a)):MsOK (phM k n fr rd l):=by
 unfold phM
 split
 ·exact aKx h hf hr
 ·split
  ·exact aLr h hl
  ·split
   ·exact aLh h hl
   ·split
    ·exact aLO h hl
    ·exact aLo h hl
structure IpOK (x:Ip):Prop where
 rd:∀s a,R64 (x.rd s a)
 bad:R64 x.bad
 g:∀y,y∈x.ly→∀i,y.g i<256
def aBC(c:Cl):Prop:=R64 c.fr∧∀i,i<4→NdOK (c.nd i)
theorem aF4{n:Nat}{g:Nat→Nat}(hg:∀i,g i<256):∀m,m∈oR n g→MsOK m:=λm hm=>by
 unfold oR at hm
 split at hm
 ·rename_i e
  obtain⟨h1,h2,h3,h4,h5,h6,h7⟩:=wT (xL.1 e)
  simp only[List.mem_cons,List.not_mem_nil,or_false] at hm
  subst hm
  have a1:=hg 1;have a2:=hg 2;have a3:=aJG hg
  refine⟨?_,?_,?_,λi=>sU (λx hx=>?_) i,?_⟩
  ·show R64 ((g 1:Nat):Int);unfold R64;omega
  ·show R64 ((g 2:Nat):Int);unfold R64;omega
  ·show R64 ((dR g:Nat):Int);unfold R64;omega
  ·obtain⟨q,_,rfl⟩:=List.mem_map.1 hx
   exact aND hg q
  ·show ((List.range (g 7)).map (dV g)).length≤24
   rw[List.length_map,List.length_range];exact h5
 ·cases hm
theorem aNZ{x:Ip}(h:IpOK x){wo ph:Int}:∀m,m∈pF x.bad wo ph x.ly→MsOK m:=λm hm=>by
 unfold pF at hm
 obtain⟨y,hy,h2⟩:=List.mem_flatMap.1 hm
 split at h2
 ·exact aF4 (h.g y hy) m (List.mem_filter.1 h2).1
 ·cases h2
theorem aGt{x:Ip}(h:IpOK x){told:Nat→Ms}{wo ph:Nat}:∀k:Nat,(∀j:Nat,j<k→(j:Int)≠x.bad→MsOK (told j))→∀m,m∈lP x told wo ph k→MsOK m
 |0,_,m,hm=>by cases hm
 |k+1,ht,m,hm=>by
  rcases List.mem_append.1 hm with c|c
  ·exact aGt h k (λj hj g=>ht j Yo g) m c
  ·split at c
   ·cases c
   ·split at c
    ·exact aNZ h m c
    ·rename_i g;rw[aJX c];exact ht k Yo g
theorem MsOK.R'{l:List Ms}(h:∀m,m∈l→MsOK m):nQ l:=λm hm=>(h m hm).L
theorem zR{x:Ip}{c:Cl}(hx:IpOK x)(hc:aBC c):∀k,(∀i,i<4→NdOK (ndK x c k i))∧(∀i,i<4→∀m,m∈bxK x c k i→MsOK m)
 |0=>⟨hc.2,λi hi m hm=>by cases hm⟩
 |k+1=>by
  obtain⟨h1,h2⟩:=zR hx hc k
  refine⟨λi hi=>?_,λi hi m hm=>?_⟩
  ·by_cases g:(i:Int)=x.bad
   ·show NdOK (if (i:Int)=x.bad then _ else _)
    rw[if_pos g];exact h1 i hi
   ·rw[oA g]
    exact aMU k (h1 i hi) (MsOK.R' (h2 i hi)) hc.1 (hx.rd i)
  ·refine aGt hx 4 (λj hj g=>?_) m hm
   show MsOK (vI x c k j)
   rw[tZ g]
   exact aF9 k (h1 j hj) (MsOK.R' (h2 j hj)) hc.1 (hx.rd j)
theorem aHE{t:Tn}(h:t.Ok){i:Nat}(hi:i<4):NdOK (gS (i:Nat) t):=by
 have e:R64 ((i:Nat):Int):=by unfold R64;omega
 have b:St.beg0.Ok:=⟨R64_zero,R64_zero,by unfold R64;decide,R64_zero,by unfold R64;decide,R64_zero⟩
 unfold gS
 rw[if_neg (by rw[jQ hi];decide)]
 exact⟨e,R64_zero,h,λ_=>b,λ_=>R64_zero,λ_=>R64_zero,λ_ _=>R64_zero,λ_=>R64_zero,λ_ _=>R64_zero,λ_=>R64_zero,R64_zero,R64_zero,by show 0≤_;decide⟩
theorem aOA {fn : Nat} (hD : aN6 fn) {K F R : Int} {n : Nat} {f : Nat → Int} (h : cI K F R n = 0) (hf : ∀ i, R64 (f i)) (ao : Option Addr) (cap : Nat) (w : World) (hc : 12 + 8 * n ≤ cap) (hs : Sr w ao (12 + 8 * n) cap (bF (enS K F R n f))) :
  Calls Tryz.prog fn #[.slice ao (12+8*n) cap] w λe w'=>∃(bo:Option Addr) (bc:Nat),e=.returned (.tuple #[iY K F R (.slice bo n bc),.int .i64 0])∧w'.ownsRow w.heap.size 3 1 (.slice bo n bc) n (rowV (iF f) n)∧Below w.heap.size w w':=by
 have hn:=(kS h).2.2.2.2.2.2
 refine (hD ao (12+8*n) cap (enS K F R n f) w (tK K F R n f) Yo hc hs).mono ?_
 rintro e w' ⟨E,v,hE,rfl,o,k⟩
 have e0:E=0:=aDL hE (aF8 h)
 subst e0
 obtain⟨e1,e2,eR,e7,eV⟩:=aCx (f:=f) h hf
 have d7:dN 0 (enS K F R n f 7)=n:=e7
 rw[d7,fP (f:=iF f) (λi hi=>by unfold iF;rw[eV i hi])] at o
 obtain⟨bo,bc,rfl⟩:=g8 o
 refine⟨bo,bc,?_,o,k⟩
 show Ending.returned (.tuple #[iY (enS K F R n f 1:Nat) (enS K F R n f 2:Nat) (dR (enS K F R n f):Nat) (.slice bo n bc),.int .i64 0])=_
 rw[e1,e2,eR]
end Go.Proofs.YtdhblehhgpdpdacGreat
namespace Go.Proofs.YtdhblehhgpdpdacGreat
open Go.RowKit
end Go.Proofs.YtdhblehhgpdpdacGreat
namespace Go.Proofs.YtdhblehhgpdpdacGreat
open Go.RowKit
end Go.Proofs.YtdhblehhgpdpdacGreat
