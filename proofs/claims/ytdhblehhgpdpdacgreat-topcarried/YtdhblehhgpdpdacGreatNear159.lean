import Derived.Test.YtdhblehhgpdpdacGreatNear122
namespace Go.Proofs.YtdhblehhgpdpdacGreat
open Go.RowKit
theorem aLW{f:Nat→Int}{n i:Nat}(hi:i<n):gL ((List.range n).map f) i=f i:=by
 unfold gL
 rw[List.getD_eq_getElem?_getD,List.getElem?_map,List.getElem?_range hi]
 rfl
theorem aBd (ao : Option Addr) (len cap : Nat) (g : Nat → Nat) (w : World) (hg : ∀ i, g i < 256) (hl : len ≤ 140737488351232) (hc : len ≤ cap) (hr : Sr w ao len cap (bF g)) :
  Calls Tryz.prog 100 #[.slice ao len cap] w λe w'=>∃mo mc M,e=.returned (.slice mo M.length mc)∧M.map Lm.m=sU len g∧OwnM w' w.heap.size (.slice mo M.length mc) M∧Below w.heap.size w w':=by
 refine bX Tryz.func100 rfl 14 rfl Yd (λA hs hd hb=>?_)
 have b0:A.eval (.tmp 0)=.slice ao len cap:=hb 0 _ rfl
 clear hb
 have H:=Cx.start w
 refine aD (aJ ?_)
 repeat first|refine qa ?_|refine aF ?_|refine aD ?_
 refine xU (tZ ao len cap g w hg hl hc hr) ?_
 rintro e w1 ⟨E,v,hE,rfl,o1,k1⟩
 obtain⟨a1,c1,rfl,hc1⟩:=gG o1
 refine⟨.tuple #[aV (kK (dN E (g 1):Nat) (dN E (g 2):Nat) (dN E (dR g):Nat) (.slice a1 (dN E (g 7)) c1)) 0 4,.int .i64 E],rfl,?_⟩
 replace H:=H.add k1 (oU _ _ _ _ _ _) o1 (λj e=>(o1.lt j e).1)
 repeat refine qa ?_
 refine lY H ?_
 intro w2 H z2
 refine mR H dO (gB _ _ _ _ _ _) ?_
 intro w3 H z3
 repeat first|refine qa ?_|refine aF ?_|refine aD ?_|refine aK ?_
 refine lK (λh=>?_) (λh=>?_)
 ·have hE0:E≠0:=of_decide_eq_true h
  repeat first|refine qa ?_|refine aF ?_|refine aD ?_|refine aK ?_
  exact bD (uT (bB ((aO _ _).trans hd) (dW rfl Qv) ⟨none,0,[],rfl,by unfold sU;rw[aRi hE hE0];rfl,OwnM.nil _ _,H.bel⟩))
 ·have hE0:E=0:=by simpa using h
  subst hE0
  repeat first|refine qa ?_|refine aF ?_|refine aD ?_|refine aK ?_|refine bL ?_
  have hdc:=aAU.2 hE
  refine aS rfl Yw (λK hK=>?_)
  have hln:((List.range (g 7)).map (dV g)).length=g 7:=by rw[List.length_map,List.length_range]
  refine aDM _ _ rfl (c:=⟨⟨(g 1:Nat),(g 2:Nat),(dR g:Nat),(List.range (g 7)).map (dV g)⟩,a1,c1⟩) (Eq.trans Qv (by unfold sW lmV;rw[hln];rfl)) ?_
  intro w4 m4 k4 z4
  refine hK _ _ ?_
  clear hK K
  have ho:=bG H.o1 k4
  repeat first|refine qa ?_|refine aF ?_
  refine bD (bB ((aO _ _).trans hd) (dW rfl Qv) ⟨_,_,[⟨⟨(g 1:Nat),(g 2:Nat),(dR g:Nat),(List.range (g 7)).map (dV g)⟩,a1,c1⟩],rfl,by unfold sU;rw[hdc];rfl,⟨?_,λc hc=>?_⟩,(H.call k4).bel⟩)
  ·exact aDO m4 (by have:=H.size;omega)
  ·simp only[List.mem_cons,List.not_mem_nil,or_false] at hc
   subst hc
   unfold aFa lmV
   dsimp only
   rw[hln,iB (λi hi=>show iF (gL ((List.range (g 7)).map (dV g))) i=iF (dV g) i by unfold iF;rw[aLW hi])]
   exact ho
theorem aCE(bad wo ph:Int)(l:List Ly):(uF bad wo ph l).length≤l.length:=by
 unfold uF
 induction l with
 |nil=>exact Nat.le_refl _
 |cons y l ih=>
  rw[List.flatMap_cons,List.length_append,List.length_cons]
  have:(if y.ph=ph∧y.wo=wo then (sU y.n y.g).filter λm=>decide (m.F=bad) else []).length≤1:=by
   split
   ·refine Nat.le_trans (List.length_filter_le _ _) ?_
    unfold sU
    split<;>simp
   ·exact Nat.zero_le _
  omega
theorem aFS (m : Ms) (ao : Option Addr) (cap : Nat) (w : World) (hm : MsOK m) (hc : m.L.length ≤ cap) (hr : Sr w ao m.L.length cap (iF (gL m.L))) :
  Calls Tryz.prog 83 #[lsV m (.slice ao m.L.length cap)] w λe w'=>∃mo mc M,e=.returned (.slice mo M.length mc)∧M.map Lm.m=yD m∧OwnM w' w.heap.size (.slice mo M.length mc) M∧Below w.heap.size w w':=by
 refine bX Tryz.func83 rfl 14 rfl Yd (λA hs hd hb=>?_)
 have b0:A.eval (.tmp 0)=aV (kK m.K m.F m.R (.slice ao m.L.length cap)) 0 4:=hb 0 _ rfl
 clear hb
 have hn:=hm.n
 have H:=Cx.start w
 refine aD (aJ ?_)
 refine oF H ?_
 intro w1 H z1
 repeat first|refine qa ?_|refine aF ?_|refine aD ?_
 refine xU (aAk m.K m.F m.R ao m.L.length cap (gL m.L) w1 hm.K hm.F hm.R hm.L Yo hc (hr.below H.bel)) ?_
 rintro e w2 ⟨v,rfl,o2,k2⟩
 obtain⟨a2,c2,rfl,hc2⟩:=gG o2
 refine⟨_,rfl,?_⟩
 replace H:=H.add k2 (oU _ _ _ _ _ _) o2 (λj e=>(o2.lt j e).1)
 repeat first|refine qa ?_|refine aF ?_|refine aD ?_|refine aK ?_
 refine lK (λh=>?_) (λh=>?_)
 ·have hE0:dD m.K m.F m.R m.L.length≠0:=of_decide_eq_true h
  repeat first|refine qa ?_|refine aF ?_|refine aD ?_|refine aK ?_
  exact bD (uT (bB ((aO _ _).trans hd) (dW rfl Qv) ⟨none,0,[],rfl,by unfold yD;rw[if_neg hE0];rfl,OwnM.nil _ _,H.bel⟩))
 ·have hE0:dD m.K m.F m.R m.L.length=0:=by simpa using h
  have eL:enL m.K m.F m.R m.L.length=12+8*m.L.length:=by unfold enL;rw[if_pos hE0]
  repeat first|refine qa ?_|refine aF ?_|refine aD ?_|refine aK ?_|refine bL ?_
  have hsr:Sr w2 a2 (enL m.K m.F m.R m.L.length) c2 (bF (enS m.K m.F m.R m.L.length (gL m.L))):=by
   obtain⟨a3,c3,e,hs3,_⟩:=kN o2
   cases e
   exact hs3
  refine xU (aBd a2 (enL m.K m.F m.R m.L.length) c2 _ w2 (yJ _ _ _ _ _) Yo hc2 hsr) ?_
  rintro e w3 ⟨mo,mc,M,rfl,hM,oM,k3⟩
  refine⟨_,rfl,?_⟩
  replace H:=H.call k3
  repeat first|refine qa ?_|refine aF ?_|refine aD ?_
  refine bD (bB ((aO _ _).trans hd) (dW rfl Qv) ⟨mo,mc,M,rfl,?_,oM.base (by have:=k2.size;omega),H.bel⟩)
  rw[hM]
  unfold sU yD
  obtain⟨e1,e2,e3,e4,e5⟩:=aDS (f:=gL m.L) hE0 hm.L
  rw[eL,aAU.2 (aJC hE0),if_pos rfl,if_pos hE0,e1,e2,e3,e4]
  obtain⟨K,F,R,L⟩:=m
  congr 2
  refine List.ext_getElem? (λi=>?_)
  rw[List.getElem?_map]
  rcases Nat.lt_or_ge i L.length with c|c
  ·rw[List.getElem?_range c,List.getElem?_eq_getElem c]
   show some (dV _ i)=_
   rw[e5 i c]
   unfold gL
   rw[List.getD_eq_getElem?_getD,List.getElem?_eq_getElem c]
   rfl
  ·rw[List.getElem?_eq_none c,List.getElem?_eq_none (by simpa using c)]
   rfl
theorem aBp{bad wo ph:Int}{l:List Ly}{i:Nat}{y:Ly}(h:l[i]?=some y):uF bad wo ph (l.take (i+1))=uF bad wo ph (l.take i)++(if y.ph=ph∧y.wo=wo then (sU y.n y.g).filter λm=>decide (m.F=bad) else []):=by
 unfold uF
 rw[List.take_add_one,h,List.flatMap_append]
 simp
theorem aGs(n:Nat)(g:Nat→Nat):(sU n g).length≤1:=by
 unfold sU
 split<;>simp
theorem aHM (b : Nat) (fr : Int) (nd : Nat → Nd) (v : Nat → Value) (bad : Int) (lo : Option Addr) (lc : Nat) (LL : List Lj) (bx : Nat → Value) (wo ph : Int) (w : World) (G0 : Vh 116 w b 303 303 (uG fr nd v bad (.slice lo LL.length lc) bx)) (hj : JRd w lo LL) (hl : LL.length ≤ 400) :
  Calls Tryz.prog 82 #[.pointer (some ⟨b,0,none⟩),.int .i64 wo,.int .i64 ph] w λe w'=>∃mo mc M,e=.returned (.slice mo M.length mc)∧M.map Lm.m=uF bad wo ph (LL.map Lj.y)∧OwnM w' w.heap.size (.slice mo M.length mc) M∧Below w.heap.size w w':=by
 refine bX Tryz.func82 rfl 53 rfl Yd (λA hs hd hb=>?_)
 have b0:A.eval (.tmp 0)=.pointer (some ⟨b,0,none⟩):=hb 0 _ rfl
 have b1:A.eval (.tmp 1)=.int .i64 wo:=hb 1 _ rfl
 have b2:A.eval (.tmp 2)=.int .i64 ph:=hb 2 _ rfl
 clear hb
 have H:=Cx.start w
 refine aD (aJ ?_)
 repeat first|refine qa ?_|refine aF ?_|refine aD ?_|refine aK ?_
 refine aU ?_
 refine dY (λr A W=>∃(i:Nat) (u:Value) (M:List Lm),i≤LL.length∧LL.length-i≤r∧A.tmps.size=53∧A.defers=[]∧A.eval (.tmp 0)=.pointer (some ⟨b,0,none⟩)∧A.eval (.tmp 1)=.int .i64 wo∧A.eval (.tmp 2)=.int .i64 ph∧A.eval (.tmp 15)=.slice lo LL.length lc∧A.eval (.tmp 16)=.int .i64 (LL.length:Int)∧A.eval (.tmp 17)=.int .i64 (i:Int)∧A.eval (.tmp 7)=u∧M.map Lm.m=uF bad wo ph ((LL.map Lj.y).take i)∧Cx w W [pG w.heap.size u M]) LL.length
  ⟨0,_,[],Nat.zero_le _,Yo,(bZ _ _).trans hs,(aO _ _).trans hd,Qv,Qv,Qv,Qv,Qv,Qv,Qv,rfl,H.add (Below.refl _ _) (pG _ _ _) (OwnM.nil _ _) (zR (OwnM.nil w _))⟩ (λr B W hI=>?_)
 clear b0 b1 b2 hs hd H
 obtain⟨i,u,M,hi,hr,hs,hd,b0,b1,b2,b15,b16,b17,b7,hM,H⟩:=hI
 have hMl:M.length≤400:=by
  have h1:=congrArg List.length hM
  have h2:=aCE bad wo ph ((LL.map Lj.y).take i)
  rw[List.length_map] at h1
  rw[List.length_take,List.length_map] at h2
  omega
 refine aD (aJ ?_)
 repeat first|refine qa ?_|refine aF ?_|refine aD ?_|refine aK ?_
 refine lK (λh=>?_) (λh=>?_)
 ·have hin:i<LL.length:=by have:=of_decide_eq_true h;omega
  have hc:=List.getElem?_eq_getElem hin
  obtain⟨cc,ec⟩:∃cc,cc=LL[i]:=⟨_,rfl⟩
  rw[←ec] at hc
  have hy:(LL.map Lj.y)[i]?=some cc.y:=by rw[List.getElem?_map,hc];rfl
  obtain⟨pb,po,rfl,hcell⟩:=hj.1 Yo
  have hcell:=hcell i cc hc
  have hlb:=hj.2 cc (by rw[ec];exact List.getElem_mem hin)
  refine bL ?_
  refine aK (aU ?_)
  refine aD ?_
  refine qa ?_
  refine qg (aAy (g:=ljF cc) ManyK.out (λk hk=>bE (hcell k hk) H.bel) rfl Qv) ?_
  refine lY H ?_
  intro w1 H z1
  refine mR H dO (aPs _ _ _ _ _) ?_
  intro w2 H z2
  refine aF ?_
  refine aK ?_
  refine aD ?_
  iterate 3 refine qa ?_
  by_cases h1:cc.y.ph=ph
  ·refine qg (eQ (b:=false) _ _ rfl Qv Qv (decide_eq_false (λe=>e h1)) _) ?_
   iterate 4 refine qa ?_
   by_cases h2:cc.y.wo=wo
   ·refine qg (eQ (b:=false) _ _ rfl Qv Qv (decide_eq_false (λe=>e h2)) _) ?_
    refine qg (bI _ _ _ rfl Qv Qv _) ?_
    refine aF ?_
    refine aEC rfl (bL ?_)
    refine aD ?_
    iterate 2 refine qa ?_
    refine xU (aBd cc.ao cc.y.n cc.cap cc.y.g _ hlb.2.2.2 hlb.2.2.1 hlb.2.1 (hlb.1.below H.bel)) ?_
    rintro e w3 ⟨mo,mc,M1,rfl,hM1,oM1,k3⟩
    refine⟨_,rfl,?_⟩
    have hs2:=H.size
    replace H:=H.tl.add k3 (pG w.heap.size _ M1) (oM1.base hs2) (λj e=>zR oM1 j e)
    repeat first|refine qa ?_|refine aF ?_|refine aD ?_
    have hl1:M1.length≤1:=by
     have h3:=congrArg List.length hM1
     rw[List.length_map] at h3
     have:=aGs cc.y.n cc.y.g
     omega
    refine aU ?_
    refine dY (λr A W=>∃(j:Nat) (u:Value) (M2:List Lm),j≤M1.length∧M1.length-j≤r∧A.tmps.size=53∧A.defers=[]∧A.eval (.tmp 0)=.pointer (some ⟨b,0,none⟩)∧A.eval (.tmp 1)=.int .i64 wo∧A.eval (.tmp 2)=.int .i64 ph∧A.eval (.tmp 15)=.slice (some ⟨pb,po,none⟩) LL.length lc∧A.eval (.tmp 16)=.int .i64 (LL.length:Int)∧A.eval (.tmp 17)=.int .i64 (i:Int)∧A.eval (.tmp 33)=.slice mo M1.length mc∧A.eval (.tmp 34)=.int .i64 (M1.length:Int)∧A.eval (.tmp 35)=.int .i64 (j:Int)∧A.eval (.tmp 7)=u∧M2.map Lm.m=uF bad wo ph ((LL.map Lj.y).take i)++((sU cc.y.n cc.y.g).take j).filter (λm=>decide (m.F=bad))∧Cx w W (pG w.heap.size u M2::if j=0 then [pG w.heap.size (.slice mo M1.length mc) M1] else [])) M1.length
     ⟨0,_,M,Nat.zero_le _,Yo,(bZ _ _).trans hs,(aO _ _).trans hd,Qv,Qv,Qv,Qv,Qv,Qv,Qv,Qv,Qv,Qv,by rw[hM];exact (List.append_nil _).symm,H.perm (List.Perm.swap _ _ _)⟩ (λr2 B2 W2 hI=>?_)
    clear b0 b1 b2 b15 b16 b17 b7 hs hd H
    obtain⟨j,u2,M2,hj1,hr2,hs,hd,b0,b1,b2,b15,b16,b17,b33,b34,b35,b7,hM2,H⟩:=hI
    have hM2l:M2.length≤400+1:=by
     have h3:=congrArg List.length hM2
     rw[List.length_append,List.length_map, ←hM,List.length_map] at h3
     have h4:=List.length_filter_le (λm:Ms=>decide (m.F=bad)) ((sU cc.y.n cc.y.g).take j)
     rw[List.length_take] at h4
     have:=aGs cc.y.n cc.y.g
     omega
    refine aD (aJ ?_)
    repeat first|refine qa ?_|refine aF ?_|refine aD ?_|refine aK ?_
    refine lK (λh=>?_) (λh=>?_)
    ·have hjn:j<M1.length:=by have:=of_decide_eq_true h;omega
     obtain rfl:j=0:=Yo
     obtain⟨c1,rfl⟩:∃c1,M1=[c1]:=by
      match M1,hjn,hl1 with
      |[c1],_,_=>exact⟨c1,rfl⟩
     have hdm:sU cc.y.n cc.y.g=[c1.m]:=hM1.symm
     rw[if_pos rfl] at H
     have hO:OwnM W2 w.heap.size (.slice mo 1 mc) [c1]:=H.o1
     have hln:c1.m.L.length≤24:=by
      have:=(aIF hlb.2.2.2 c1.m (by rw[hdm];exact List.mem_cons_self)).n
      exact this
     obtain⟨pm,qm,rfl,hcm⟩:=(hO.rd (λc hc=>by simp at hc;subst hc;omega)).1 (Nat.succ_pos 0)
     have hcm:=hcm 0 c1 rfl
     refine bL ?_
     refine aK (aU ?_)
     refine aD ?_
     refine qa ?_
     refine qg (aAy (g:=sW c1) ManyK.out hcm rfl Qv) ?_
     refine lY H ?_
     intro w5 H z5
     refine mR H dO (qJ _) ?_
     intro w6 H z6
     refine aF ?_
     refine aK ?_
     replace H:=H.drew
     have hS:Its [bJ 69 W2.heap.size 4 4 (sW c1),bJ 116 b 303 303 (uG fr nd v bad (.slice (some ⟨pb,po,none⟩) LL.length lc) bx)] w6.drew:=Its.cons H.o0 (Its.cons (Vh.below G0 H.bel) (Its.nil _))
     refine fZ (S:=Its [bJ 69 W2.heap.size 4 4 (sW c1),bJ 116 b 303 303 (uG fr nd v bad (.slice (some ⟨pb,po,none⟩) LL.length lc) bx)]) (.mv 0 (.rd 1 (.mv 2 (.mv 3 (.mv 4 (.rd 5 (.mv 6 .fin))))))) [] (by kernel_rfl) (by kernel_rfl) ?_
     repeat first|refine qj ?_|refine qr hS ?_
     refine iA ?_
     refine lK (λhq=>?_) (λhq=>?_)
     ·have hF:c1.m.F=bad:=of_decide_eq_true hq
      refine aR ?_
      iterate 2 refine qa ?_
      refine aS rfl Yw (λK hK=>?_)
      refine aDM _ _ rfl (c:=c1) Qv ?_
      intro w7 m7 k7 z7
      refine hK _ _ ?_
      clear hK K
      replace H:=aQg H.tl k7 m7
      refine aGY H (by show M2.length+1≤_;omega) ?_
      intro u8 w8 H
      refine qa ?_
      refine iE ?_
      refine aR ?_
      repeat refine qa ?_
      exact bQ ⟨0,Yo,1,_,M2++[c1],Nat.le_refl _,Nat.le_of_eq (Nat.sub_self _),(bZ _ _).trans hs,(aO _ _).trans hd,Qv,Qv,Qv,Qv,Qv,Qv,Qv,Qv,Qv,Qv,by rw[List.map_append,hM2,hdm,List.append_assoc];simp[hF],H⟩
     ·have hF:c1.m.F≠bad:=of_decide_eq_false hq
      refine iW ?_
      refine aR ?_
      repeat refine qa ?_
      exact bQ ⟨0,Yo,1,_,M2,Nat.le_refl _,Nat.le_of_eq (Nat.sub_self _),(bZ _ _).trans hs,(aO _ _).trans hd,Qv,Qv,Qv,Qv,Qv,Qv,Qv,Qv,Qv,Qv,by rw[hM2,hdm];simp[hF],H.tl.sub (List.Sublist.cons_cons _ (List.nil_sublist _))⟩
    ·obtain rfl:j=M1.length:=by have:=of_decide_eq_false h;omega
     refine dS (aFi ?_)
     refine aR ?_
     repeat refine qa ?_
     exact bQ ⟨LL.length-(i+1),Yo,i+1,_,M2,Yo,Yo,(bZ _ _).trans hs,(aO _ _).trans hd,Qv,Qv,Qv,Qv,Qv,Eq.trans Qv (by rw[Int.natCast_add];rfl),Qv,by
      have e:(sU cc.y.n cc.y.g).take M1.length=sU cc.y.n cc.y.g:=List.take_of_length_le (by rw[←hM1,List.length_map];exact Nat.le_refl _)
      rw[aBp hy,if_pos ⟨h1,h2⟩,hM2,e],H.sub (List.Sublist.cons_cons _ (List.nil_sublist _))⟩
   ·refine qg (eQ (b:=true) _ _ rfl Qv Qv (decide_eq_true h2) _) ?_
    refine qg (bI _ _ _ rfl Qv Qv _) ?_
    refine aF ?_
    refine aAO rfl ?_
    refine dS (aSE ?_)
    refine aR ?_
    repeat refine qa ?_
    exact bQ ⟨LL.length-(i+1),Yo,i+1,_,M,Yo,Yo,(bZ _ _).trans hs,(aO _ _).trans hd,Qv,Qv,Qv,Qv,Qv,Eq.trans Qv (by rw[Int.natCast_add];rfl),Qv,by rw[aBp hy,if_neg (λe=>h2 e.2),List.append_nil];exact hM,H.tl⟩
  ·refine qg (eQ (b:=true) _ _ rfl Qv Qv (decide_eq_true h1) _) ?_
   refine qa ?_
   iterate 4 refine uZ ?_
   refine qg (aX _ _ _ rfl Qv Qv _) ?_
   refine aF ?_
   refine aAO rfl ?_
   refine dS (aSE ?_)
   refine aR ?_
   repeat refine qa ?_
   exact bQ ⟨LL.length-(i+1),Yo,i+1,_,M,Yo,Yo,(bZ _ _).trans hs,(aO _ _).trans hd,Qv,Qv,Qv,Qv,Qv,Eq.trans Qv (by rw[Int.natCast_add];rfl),Qv,by rw[aBp hy,if_neg (λe=>h1 e.1),List.append_nil];exact hM,H.tl⟩
 ·obtain rfl:i=LL.length:=by have:=of_decide_eq_false h;omega
  refine dS (fU ?_)
  refine aD ?_
  repeat first|refine qa ?_|refine aF ?_|refine aD ?_|refine aK ?_
  have hO:OwnM W w.heap.size u M:=H.o0
  obtain⟨mo,mc,rfl,hmc⟩:=gG hO.1
  rw[List.take_of_length_le (by rw[List.length_map];exact Nat.le_refl _)] at hM
  exact bD (bB ((aO _ _).trans hd) (dW rfl Qv) ⟨mo,mc,M,rfl,hM,hO,H.bel⟩)
theorem aGz(m:Ms):(yD m).length≤1:=by
 unfold yD
 split<;>simp
theorem aCC{x:Ip}(h:x.ly.length≤400)(told:Nat→Ms)(wo ph:Nat):∀k,(oP x told wo ph k).length≤400*k
 |0=>Nat.le_refl _
 |k+1=>by
  have ih:=aCC h told wo ph k
  show (oP x told wo ph k++_).length≤_
  rw[List.length_append]
  have:(if k=wo then [] else if (k:Int)=x.bad then uF x.bad wo ph x.ly else yD (told k)).length≤400:=by
   split
   ·exact Nat.zero_le _
   ·split
    ·exact Nat.le_trans (aCE _ _ _ _) h
    ·exact Nat.le_trans (aGz _) Yc
  omega
theorem aHy (x : Ip) (b : Nat) (fr : Int) (nd : Nat → Nd) (v : Nat → Value) (lo : Option Addr) (lc : Nat) (LL : List Lj) (bx : Nat → Value) (wo ph : Nat) (told : Nat → Ms) (ta : Nat → Option Addr × Nat) (w : World) (G0 : Vh 116 w b 303 303 (uG fr nd v x.bad (.slice lo LL.length lc) bx)) (hx : x.ly = LL.map Lj.y) (hj : JRd w lo LL) (hl : LL.length ≤ 400) (_ : wo < 4)
  (ht:∀j:Nat,j<4→(j:Int)≠x.bad→MsOK (told j)∧(told j).L.length≤(ta j).2∧Sr w (ta j).1 (told j).L.length (ta j).2 (iF (gL (told j).L))):
  Calls Tryz.prog 61 #[.pointer (some ⟨b,0,none⟩),.int .i64 (wo:Int),.int .i64 (ph:Int),aV (m4F told (λj=>gW (ta j) (told j).L.length)) 0 16] w λe w'=>∃mo mc M,e=.returned (.slice mo M.length mc)∧M.map Lm.m=oP x told wo ph 4∧OwnM w' w.heap.size (.slice mo M.length mc) M∧Below w.heap.size w w':=by
 refine bX Tryz.func61 rfl 39 rfl Yd (λA hs hd hb=>?_)
 have b0:A.eval (.tmp 0)=.pointer (some ⟨b,0,none⟩):=hb 0 _ rfl
 have b1:A.eval (.tmp 1)=.int .i64 (wo:Int):=hb 1 _ rfl
 have b2:A.eval (.tmp 2)=.int .i64 (ph:Int):=hb 2 _ rfl
 have b3:A.eval (.tmp 3)=aV (m4F told (λj=>gW (ta j) (told j).L.length)) 0 16:=hb 3 _ rfl
 clear hb
 have H:=Cx.start w
 refine aD (aJ ?_)
 refine oF H ?_
 intro w1 H z1
 repeat first|refine qa ?_|refine aF ?_|refine aD ?_|refine aK ?_
 refine aU ?_
 refine dY (λr A W=>∃(i:Nat) (u:Value) (M:List Lm),i≤4∧4-i≤r∧A.tmps.size=39∧A.defers=[]∧A.eval (.tmp 0)=.pointer (some ⟨b,0,none⟩)∧A.eval (.tmp 1)=.int .i64 (wo:Int)∧A.eval (.tmp 2)=.int .i64 (ph:Int)∧A.eval (.tmp 12)=aV (m4F told (λj=>gW (ta j) (told j).L.length)) 0 16∧A.eval (.tmp 13)=.int .i64 (i:Int)∧A.eval (.tmp 9)=u∧M.map Lm.m=oP x told wo ph i∧Cx w W [pG w.heap.size u M]) 4
  ⟨0,_,[],Nat.zero_le _,Yo,(bZ _ _).trans hs,(aO _ _).trans hd,Qv,Qv,Qv,Qv,Qv,Qv,rfl,H.tl.add (Below.refl _ _) (pG _ _ _) (OwnM.nil _ _) (λj e=>zR (OwnM.nil w1 w1.heap.size) j e)⟩ (λr B W hI=>?_)
 clear b0 b1 b2 b3 hs hd H
 obtain⟨i,u,M,hi,hr,hs,hd,b0,b1,b2,b12,b13,b9,hM,H⟩:=hI
 have hMl:M.length≤400*i:=by
  have h1:=congrArg List.length hM
  rw[List.length_map] at h1
  rw[h1]
  exact aCC (by rw[hx,List.length_map];exact hl) told wo ph i
 refine aD (aJ ?_)
 repeat first|refine qa ?_|refine aF ?_|refine aD ?_|refine aK ?_
 refine lK (λh=>?_) (λh=>?_)
 ·have hin:i<4:=by have:=of_decide_eq_true h;omega
  refine bL ?_
  refine aK (aU ?_)
  refine aD ?_
  refine qa ?_
  refine qg (Eq.trans (jJ _ _ _ _ rfl ArrK.out ManyK.out Qv rfl Qv rfl hin _) (by rw[lN (λj hj=>aSh told (λj=>gW (ta j) (told j).L.length) hj)])) ?_
  refine lY H ?_
  intro w2 H z2
  refine qa ?_
  refine mR H dO (gB _ _ _ _ _ _) ?_
  intro w3 H z3
  repeat first|refine qa ?_|refine aF ?_|refine aD ?_
  refine aU ?_
  refine aD ?_
  repeat first|refine qa ?_|refine aF ?_
  refine lK (λh1=>?_) (λh1=>?_)
  ·have e1:i=wo:=by have:=of_decide_eq_true h1;omega
   refine aRM ?_
   refine aR ?_
   repeat refine qa ?_
   exact bQ ⟨4-(i+1),Yo,i+1,_,M,Yo,Yo,(bZ _ _).trans hs,(aO _ _).trans hd,Qv,Qv,Qv,Qv,Eq.trans Qv (by rw[Int.natCast_add];rfl),Qv,by rw[hM];show _=oP x told wo ph i++_;rw[if_pos e1,List.append_nil],H.tl⟩
  ·have e1:i≠wo:=by have:=of_decide_eq_false h1;omega
   refine aD ?_
   repeat first|refine qa ?_|refine aF ?_
   refine lK (λh2=>?_) (λh2=>?_)
   ·have e2:(i:Int)=x.bad:=of_decide_eq_true h2
    refine aR ?_
    iterate 4 refine qa ?_
    have hsz:=H.size
    refine aQZ (aHM b fr nd v x.bad lo lc LL bx (wo:Int) (ph:Int) _ (Vh.below G0 H.bel) (hj.below H.bel) hl) ?_
    rintro e w4 ⟨mo,mc,M1,rfl,hM1,oM1,k4⟩
    refine⟨_,rfl,?_⟩
    replace H:=(H.tl.add k4 (pG w.heap.size _ M1) (oM1.base hsz) (λj e=>zR oM1 j e)).perm (List.Perm.swap _ _ _)
    have hl1:M1.length≤400:=by
     have h3:=congrArg List.length hM1
     rw[List.length_map] at h3
     have h4:=aCE x.bad wo ph (LL.map Lj.y)
     rw[List.length_map] at h4
     omega
    refine aGY H Yo ?_
    intro u5 w5 H
    refine qa ?_
    refine aIm ?_
    refine aR ?_
    repeat refine qa ?_
    exact bQ ⟨4-(i+1),Yo,i+1,_,M++M1,Yo,Yo,(bZ _ _).trans hs,(aO _ _).trans hd,Qv,Qv,Qv,Qv,Eq.trans Qv (by rw[Int.natCast_add];rfl),Qv,by rw[List.map_append,hM,hM1];show _=oP x told wo ph i++_;rw[if_neg e1,if_pos e2,hx],H⟩
   ·have e2:(i:Int)≠x.bad:=of_decide_eq_false h2
    obtain⟨t1,t2,t3⟩:=ht i hin e2
    refine aR ?_
    iterate 2 refine qa ?_
    have hsz:=H.size
    refine xU (aFS (told i) (ta i).1 (ta i).2 _ t1 t2 (t3.below H.bel)) ?_
    rintro e w4 ⟨mo,mc,M1,rfl,hM1,oM1,k4⟩
    refine⟨_,rfl,?_⟩
    replace H:=(H.tl.add k4 (pG w.heap.size _ M1) (oM1.base hsz) (λj e=>zR oM1 j e)).perm (List.Perm.swap _ _ _)
    have hl1:M1.length≤1:=by
     have h3:=congrArg List.length hM1
     rw[List.length_map] at h3
     have h4:=aGz (told i)
     omega
    refine aGY H Yo ?_
    intro u5 w5 H
    refine qa ?_
    refine aIm ?_
    refine aR ?_
    repeat refine qa ?_
    exact bQ ⟨4-(i+1),Yo,i+1,_,M++M1,Yo,Yo,(bZ _ _).trans hs,(aO _ _).trans hd,Qv,Qv,Qv,Qv,Eq.trans Qv (by rw[Int.natCast_add];rfl),Qv,by rw[List.map_append,hM,hM1];show _=oP x told wo ph i++_;rw[if_neg e1,if_neg e2],H⟩
 ·obtain rfl:i=4:=by have:=of_decide_eq_false h;omega
  refine dS (fU ?_)
  refine aD ?_
  repeat first|refine qa ?_|refine aF ?_|refine aD ?_|refine aK ?_
  have hO:OwnM W w.heap.size u M:=H.o0
  obtain⟨mo,mc,rfl,hmc⟩:=gG hO.1
  exact bD (bB ((aO _ _).trans hd) (dW rfl Qv) ⟨mo,mc,M,rfl,hM,hO,H.bel⟩)
def aCe(f:Nat→It):It:=⟨λw=>∀i,i<4→(f i).p w,λk=>∃i,i<4∧(f i).foot k,λh e i hi=>(f i).ok (h i hi) (λk h1 h2=>e k h1 ⟨i,hi,h2⟩),λh ⟨i,hi,e⟩=>(f i).lt (h i hi) e⟩
theorem Cx.wk{w0 w:World}{x y:It}{l:List It}(H:Cx w0 w (x::l))(h1:x.p w→y.p w)(h2:∀k,y.foot k→x.foot k):Cx w0 w (y::l):=by
 obtain⟨d1,d2⟩:=List.pairwise_cons.1 H.dis
 refine⟨H.bel,λz hz=>?_,λz hz j hj=>?_,List.pairwise_cons.2 ⟨λz hz j h3=>d1 z hz j (h2 j h3),d2⟩⟩
 ·rcases List.mem_cons.1 hz with rfl|hz
  ·exact h1 H.o0
  ·exact H.it z (List.mem_cons_of_mem _ hz)
 ·rcases List.mem_cons.1 hz with rfl|hz
  ·exact H.up x List.mem_cons_self j (h2 j hj)
  ·exact H.up z (List.mem_cons_of_mem _ hz) j hj
theorem vI{w0 w:World}{α:Type}{g:α→It}{D:Nat→α}{y:α}{l:List It}(i:Nat)(H:Cx w0 w (g y::aCe (λj=>g (D j))::l)):Cx w0 w (aCe (λj=>g (dF D i y j))::l):=by
 refine H.merge.wk (λh j hj=>?_) (λk hk=>?_)
 ·show (g (dF D i y j)).p w
  by_cases e:j=i
  ·rw[e,cB];exact h.1
  ·rw[upM_other _ _ e];exact h.2 j hj
 ·obtain⟨j,hj,hk⟩:=hk
  have hk:(g (dF D i y j)).foot k:=hk
  by_cases e:j=i
  ·rw[e,cB] at hk;exact Or.inl hk
  ·rw[upM_other _ _ e] at hk;exact Or.inr ⟨j,hj,hk⟩
abbrev Ad:=Option Addr×Nat
def agJ(B:Nat)(d:Nd×Ad):It:=oU B 4 1 (gW d.2 d.1.vA.length) d.1.vA.length (rowV (tF (bA d.1)) d.1.vA.length)
def tlJ(B:Nat)(d:Ms×Ad):It:=oU B 3 1 (gW d.2 d.1.L.length) d.1.L.length (rowV (iF (gL d.1.L)) d.1.L.length)
def bxJ(B:Nat)(d:List Lm×Ad):It:=pG B (gW d.2 d.1.length) d.1
def tH(B:Nat)(D:Nat→Nd×Ad):It:=aCe (λi=>agJ B (D i))
def tlI(B:Nat)(T:Nat→Ms×Ad):It:=aCe (λi=>tlJ B (T i))
def yX(B:Nat)(X:Nat→List Lm×Ad):It:=aCe (λi=>bxJ B (X i))
def iT(fr:Int)(D:Nat→Nd×Ad)(bad:Int)(lv:Value)(X:Nat→List Lm×Ad):Nat→Value:=uG fr (λi=>(D i).1) (λi=>gW (D i).2 (D i).1.vA.length) bad lv (λi=>gW (X i).2 (X i).1.length)
def xL(T:Nat→Ms×Ad):Nat→Value:=m4F (λi=>(T i).1) (λi=>gW (T i).2 (T i).1.L.length)
def rE(fr:Int)(D:Nat→Nd×Ad):Nat→Value:=rO fr (λi=>(D i).1) (λi=>gW (D i).2 (D i).1.vA.length)
theorem uS{α β:Type}(f:α→β)(D:Nat→α)(i:Nat)(y:α):(λj=>f (dF D i y j))=dF (λj=>f (D j)) i (f y):=by
 funext j
 unfold dF
 split<;>rfl
theorem aIe(fr:Int)(D:Nat→Nd×Ad)(bad:Int)(lv:Value)(X:Nat→List Lm×Ad){i:Nat}(hi:i<4)(d:Nd×Ad):∀j,j<303→fG (iT fr D bad lv X) (1+i*74) 74 (ndF d.1 (gW d.2 d.1.vA.length)) j=iT fr (dF D i d) bad lv X j:=by
 unfold iT
 rw[uS (λd:Nd×Ad=>d.1),uS (λd:Nd×Ad=>gW d.2 d.1.vA.length)]
 exact aQB _ _ _ _ _ _ hi _ _
theorem aRK(fr:Int)(D:Nat→Nd×Ad)(bad:Int)(lv:Value)(X:Nat→List Lm×Ad)(i:Nat)(d:List Lm×Ad):∀j,j<303→iJ (iT fr D bad lv X) (299+i) (gW d.2 d.1.length) j=iT fr D bad lv (dF X i d) j:=by
 unfold iT
 rw[uS (λd:List Lm×Ad=>gW d.2 d.1.length)]
 exact aRs _ _ _ _ _ _ _ _
theorem aPA(T:Nat→Ms×Ad)(i:Nat)(d:Ms×Ad):∀j,j<16→fG (xL T) (i*4) 4 (kK d.1.K d.1.F d.1.R (gW d.2 d.1.L.length)) j=xL (dF T i d) j:=by
 unfold xL
 rw[uS (λd:Ms×Ad=>d.1),uS (λd:Ms×Ad=>gW d.2 d.1.L.length)]
 exact aQq _ _ _ _ _
theorem aPH(fr:Int)(D:Nat→Nd×Ad)(i:Nat)(d:Nd×Ad):∀j,j<297→fG (rE fr D) (1+i*74) 74 (ndF d.1 (gW d.2 d.1.vA.length)) j=rE fr (dF D i d) j:=by
 unfold rE
 rw[uS (λd:Nd×Ad=>d.1),uS (λd:Nd×Ad=>gW d.2 d.1.vA.length)]
 exact aGD _ _ _ _ _ _
theorem aCo(fr:Int)(D:Nat→Nd×Ad):∀j,j<297→(rE fr D j).oneCell'=true:=aGf _ _ _ _
theorem aOh(T:Nat→Ms×Ad):∀j,j<16→(xL T j).oneCell'=true:=aOu _ _ _
section
variable {P:Program} {Q:Exit→Act→World→Prop} {J:Act→World→Prop} {a:Act} {w:World} {x:Code} {id:Nat} {fn:Func} {R:Ending→World→Prop}
theorem aTz(h:Q .normal a w):Nx P x (Exit.then J (Exit.inBlock id Q)) (.exit id) a w:=by
 show (if id=id then _ else _)
 rw[if_pos rfl]
 exact h
theorem aSn(hd:a.defers=[])(hr:fn.results=#[])(h:R (.returned (.tuple #[])) w):bodyPost P fn R .normal a w:=⟨hd,.tuple #[],by simp[results,hr],h⟩
theorem aMA {o : Oper} {K : Act → World → Prop} (c x y : Operand) (T : Array TypeId) (ho : o.op = .call { callee := .value c, args := #[x, y], argTypes := T }) (n : Nat) [E : EntK P n] {caps : Array Value} {u v : Value} (hc : a.eval c = .func (.func n) #[] caps) (hx : a.eval x = u) (hy : a.eval y = v) (hk : Calls P n (#[u, v] ++ caps) w R)
  (h:∀e w',R e w'→∃r,e=.returned r∧K (a.put o.dst r) w'):WpI P o a w K Q:=by
 refine⟨?_⟩
 have e:(execOp a.eval o).run P w=.ok (.enter n (#[u,v]++caps)) w:=by
  unfold execOp
  rw[ho]
  simp only[resolve,invoke,Sem.run_bind,List.map_toArray,List.map_cons,List.map_nil,hc,hx,hy]
  have:=E.out (#[u,v]++caps) w
  go_simp
 unfold Oper.wp
 rw[e,Oper.upon_enter]
 refine hk.mono ?_
 intro e w' hr
 obtain⟨r,rfl,hh⟩:=h e w' hr
 exact hh
end
theorem aKT (x : Ip) (b : Nat) (fr : Int) (D : Nat → Nd × Ad) (lo : Option Addr) (lc : Nat) (LL : List Lj) (X : Nat → List Lm × Ad) (ph : Nat) (T : Nat → Ms × Ad) (w0 w : World) (l : List It) (H : Cx w0 w (bJ 116 b 303 303 (iT fr D x.bad (.slice lo LL.length lc) X) :: yX w0.heap.size X :: tlI w0.heap.size T :: l)) (hx : x.ly = LL.map Lj.y) (hj : JRd w0 lo LL) (hl : LL.length ≤ 400)
  (hT:∀j:Nat,j<4→(j:Int)≠x.bad→MsOK (T j).1):
  Calls Tryz.prog 40 #[.pointer (some ⟨b,0,none⟩),.int .i64 (ph:Int),aV (xL T) 0 16] w λe w'=>e=.returned (.tuple #[])∧∃X',(∀i,i<4→(X' i).1.map Lm.m=oP x (λj=>(T j).1) i ph 4)∧Cx w0 w' (bJ 116 b 303 303 (iT fr D x.bad (.slice lo LL.length lc) X')::yX w0.heap.size X'::tlI w0.heap.size T::l):=by
 refine bX Tryz.func40 rfl 21 rfl Yd (λA hs hd hb=>?_)
 have b0:A.eval (.tmp 0)=.pointer (some ⟨b,0,none⟩):=hb 0 _ rfl
 have b1:A.eval (.tmp 1)=.int .i64 (ph:Int):=hb 1 _ rfl
 have b2:A.eval (.tmp 2)=aV (xL T) 0 16:=hb 2 _ rfl
 clear hb
 refine aD (aJ ?_)
 refine oF H ?_
 intro w1 H z1
 repeat first|refine qa ?_|refine aF ?_|refine aD ?_
 refine aU ?_
 refine dY (λr A W=>∃(i:Nat) (X':Nat→List Lm×Ad),i≤4∧4-i≤r∧A.tmps.size=21∧A.defers=[]∧A.eval (.tmp 0)=.pointer (some ⟨b,0,none⟩)∧A.eval (.tmp 1)=.int .i64 (ph:Int)∧A.eval (.tmp 5)=.pointer (some ⟨w.heap.size,0,none⟩)∧A.eval (.tmp 7)=.int .i64 (i:Int)∧(∀j,j<i→(X' j).1.map Lm.m=oP x (λj=>(T j).1) j ph 4)∧Cx w0 W (bJ 110 w.heap.size 16 16 (xL T)::bJ 116 b 303 303 (iT fr D x.bad (.slice lo LL.length lc) X')::yX w0.heap.size X'::tlI w0.heap.size T::l)) 4
  ⟨0,X,Nat.zero_le _,Yo,(bZ _ _).trans hs,(aO _ _).trans hd,Qv,Qv,Qv,Qv,λj h=>absurd h (Nat.not_lt_zero j),H⟩ (λr B W hI=>?_)
 clear b0 b1 b2 hs hd H
 obtain⟨i,X',hi,hr,hs,hd,b0,b1,b5,b7,hX,H⟩:=hI
 refine aD (aJ ?_)
 repeat first|refine qa ?_|refine aF ?_|refine aD ?_|refine aK ?_
 refine lK (λh=>?_) (λh=>?_)
 ·have hin:i<4:=by have:=of_decide_eq_true h;omega
  refine bL ?_
  refine aK (aU ?_)
  refine aD ?_
  repeat first|refine qa ?_|refine aF ?_
  replace H:=H.drew
  have hS:Its [bJ 110 w.heap.size 16 16 (xL T)] W.drew:=Its.cons H.o0 (Its.nil _)
  refine fZ (S:=Its [bJ 110 w.heap.size 16 16 (xL T)]) (.mv 0 (.mv 1 (.mv 2 (.mv 3 (.mv 4 (.rd 5 (.mv 7 (.mv 8 (.go 6 (.mv 9 (.go 10 .fin))))))))))) [10] (by kernel_rfl) (by kernel_rfl) ?_
  repeat first|refine qj ?_|refine qr hS ?_
  refine dI rfl rfl Yw (λK hK=>?_)
  have hsz:=H.size
  refine jQ _ 61 _ _ _ _ _ rfl Qv Qv Qv Qv (EntK.out _ _) (aHy x b fr _ _ lo lc LL _ i ph (λj=>(T j).1) (λj=>(T j).2) _ H.v1 hx (hj.below H.bel) hl hin (λj h4 hb=>?_)) ?_
  ·have ho:World.ownsRow _ _ _ _ _ _ _:=H.o3 j h4
   obtain⟨a3,c3,e,hs3,hc3⟩:=kN ho
   obtain⟨e1,e2⟩:(T j).2.1=a3∧(T j).2.2=c3:=by cases e;exact⟨rfl,rfl⟩
   exact⟨hT j h4 hb,by rw[e2];exact hc3,by rw[e1,e2];exact hs3⟩
  ·rintro e w2 ⟨mo,mc,M1,rfl,hM1,oM1,k2⟩
   replace H:=H.add k2 (bxJ w0.heap.size (M1,(mo,mc))) (oM1.base hsz) (λj e=>zR oM1 j e)
   refine⟨_,rfl,hK _ _ (λ_ _=>Its.cons H.o1 (Its.nil _)) ?_⟩
   clear hK K
   repeat refine qj ?_
   refine eU rfl Yw (λK hK=>?_)
   refine iH _ _ _ _ rfl OneK.out Qv Qv H.v2 Yo rfl rfl rfl ?_
   intro w3 m3 k3 z3
   replace H:=H.s2 k3 (m3.congr (λj hj=>Eq.trans (by rw[show 0+299+i*1=299+i by omega];rfl) (aRK fr D x.bad (.slice lo LL.length lc) X' i (M1,(mo,mc)) j hj)))
   refine hK _ (λh=>absurd h Yc) ?_
   clear hK K
   refine yN ?_
   refine aR ?_
   repeat refine qa ?_
   exact bQ ⟨4-(i+1),Yo,i+1,_,Yo,Yo,(bZ _ _).trans hs,(aO _ _).trans hd,Qv,Qv,Qv,Eq.trans Qv (by rw[Int.natCast_add];rfl),λj hj=>(by
    by_cases e:j=i
    ·rw[e,cB];exact hM1
    ·rw[upM_other _ _ e];exact hX j Yo),(vI (g:=bxJ w0.heap.size) i H.f3.f1).b2⟩
 ·obtain rfl:i=4:=by have:=of_decide_eq_false h;omega
  refine dS (aTz ?_)
  exact aSn ((aO _ _).trans hd) rfl ⟨rfl,X',hX,H.tl⟩
def aAe(D:Nat→Nd×Ad)(j:Nat):Value:=ndF (D (j/74)).1 (gW (D (j/74)).2 (D (j/74)).1.vA.length) (j%74)
theorem aCF(D:Nat→Nd×Ad){i j:Nat}(hj:j<74):aAe D (i*74+j)=ndF (D i).1 (gW (D i).2 (D i).1.vA.length) j:=by
 unfold aAe
 rw[show (i*74+j)/74=i by omega,show (i*74+j)%74=j by omega]
theorem aQk(fr:Int)(D:Nat→Nd×Ad)(bad:Int)(lv:Value)(X:Nat→List Lm×Ad){j:Nat}(hj:j<296):iT fr D bad lv X (0+0+1+j)=aAe D j:=by
 unfold iT
 rw[xZ Yo]
 unfold rO aAe
 rw[if_neg Yo,show 0+0+1+j-1=j by omega]
theorem aGo(fr:Int)(D:Nat→Nd×Ad){j:Nat}(hj:j<296):rE fr D (0+1+j)=aAe D j:=by
 unfold rE rO aAe
 rw[if_neg Yo,show 0+1+j-1=j by omega]
theorem aRv(fr:Int)(D:Nat→Nd×Ad)(bad:Int)(lv:Value)(X:Nat→List Lm×Ad){i:Nat}(_:i<4):iT fr D bad lv X (299+i)=gW (X i).2 (X i).1.length:=by
 unfold iT uG
 rw[if_neg Yo,if_neg Yo,if_neg Yo,Nat.add_sub_cancel_left]
def emI:It:=⟨λ_=>True,λ_=>False,λh _=>h,λ_ e=>e.elim⟩
theorem Cx.add2{w0 w w':World}{l:List It}(H:Cx w0 w l)(k:Below w.heap.size w w')(x y:It)(hx:x.p w')(hy:y.p w')(fx:∀j,x.foot j→w.heap.size≤j)(fy:∀j,y.foot j→w.heap.size≤j)(hd:∀j,x.foot j→¬y.foot j):Cx w0 w' (x::y::l):=by
 have H2:=H.add k y hy fy
 have hs:=H.size
 refine⟨H2.bel,λz hz=>?_,λz hz j hj=>?_,List.pairwise_cons.2 ⟨λz hz j h1 h2=>?_,H2.dis⟩⟩
 ·rcases List.mem_cons.1 hz with rfl|hz
  ·exact hx
  ·exact H2.it z hz
 ·rcases List.mem_cons.1 hz with rfl|hz
  ·have:=fx j hj;omega
  ·exact H2.up z hz j hj
 ·rcases List.mem_cons.1 hz with rfl|hz
  ·exact hd j h1 h2
  ·have h3:=fx j h1
   have h4:=z.lt (H.it z hz) h2
   omega
def PvC(w0:World)(bad:Int)(n:Nat)(caps:Array Value)(N:Nat→Nd→List Ms→Nd)(M:Nat→Nd→List Ms→Ms)(Ys:Nat→It→Prop)(Dn:Nat→Nd)(Bn:Nat→List Ms):Prop:=∀(i:Nat) (nd:Nd) (ao:Option Addr) (c:Nat) (mo:Option Addr) (mc:Nat) (L:List Lm) (w:World) (y:It) (l:List It),i<4→(i:Int)≠bad→nd=Dn i→L.map Lm.m=Bn i→nd.id=(i:Nat)→NdOK nd→aAJ w nd ao c→MRd w mo L→L.length≤1600→L.length≤mc→(∀m,m∈L→MsOK m.m)→Ys i y→Cx w0 w (y::l)→
 Calls Tryz.prog n (#[kT nd (.slice ao nd.vA.length c),.slice mo L.length mc]++caps) w λe w'=>∃(a1 a2:Ad) (y':It),Ys (i+1) y'∧e=.returned (.tuple #[kT (N i nd (L.map Lm.m)) (gW a1 (N i nd (L.map Lm.m)).vA.length),lsV (M i nd (L.map Lm.m)) (gW a2 (M i nd (L.map Lm.m)).L.length)])∧Cx w0 w' (agJ w0.heap.size (N i nd (L.map Lm.m),a1)::tlJ w0.heap.size (M i nd (L.map Lm.m),a2)::y'::l)
theorem aFk{w0 w w':World}{l:List It}(H:Cx w0 w l)(k:Below w.heap.size w w'){n:Nd}{m:Ms}{a1 a2:Ad}(h1:oI w.heap.size w' n a1.1 a1.2)(h2:aDE w.heap.size w' m a2.1 a2.2):Cx w0 w' (agJ w0.heap.size (n,a1)::tlJ w0.heap.size (m,a2)::l):=by
 have hs:=H.size
 refine H.add2 k _ _ (dL h1 hs) (dL h2 hs) (λj e=>(h1.lt j e).1) (λj e=>(h2.lt j e).1) (λj e1 e2=>?_)
 obtain⟨u1,g1⟩:=rV h1 e1
 obtain⟨u2,g2⟩:=rV h2 e2
 rw[g1] at g2
 cases g2
theorem aLC{w0:World}{bad:Int}{fn:Nat}{N:Nd→List Ms→Nd}{M:Nd→List Ms→Ms}{Dn:Nat→Nd}{Bn:Nat→List Ms}(h:aCD N M fn):PvC w0 bad fn #[] (λ_=>N) (λ_=>M) (λ_ y=>y=emI) Dn Bn:=by
 intro i nd ao c mo mc L w y l hi _ _ _ _ hok hag hmr hl hlc hms hy H
 refine (h nd ao c mo mc L w hok hag hmr Yo hlc (λm hm=>(hms m hm).L)).mono ?_
 rintro e w' ⟨a',c',a2,c2,rfl,g1,g2,g3⟩
 exact⟨(a',c'),(a2,c2),y,hy,rfl,aFk H g3 g1 g2⟩
def doN(bad:Int)(N:Nat→Nd→List Ms→Nd)(D:Nat→Nd×Ad)(X:Nat→List Lm×Ad)(i:Nat):Nd:=if (i:Int)=bad then (D i).1 else N i (D i).1 ((X i).1.map Lm.m)
def doM(bad:Int)(M:Nat→Nd→List Ms→Ms)(D:Nat→Nd×Ad)(X:Nat→List Lm×Ad)(i:Nat):Ms:=if (i:Int)=bad then jI else M i (D i).1 ((X i).1.map Lm.m)
set_option maxHeartbeats 1000000 in
theorem aFc (b : Nat) (fr : Int) (D : Nat → Nd × Ad) (bad : Int) (lv : Value) (X : Nat → List Lm × Ad) (n : Nat) (caps : Array Value) (N : Nat → Nd → List Ms → Nd) (M : Nat → Nd → List Ms → Ms) (Ys : Nat → It → Prop) (w0 w : World) (y0 : It) (l : List It) [EntK Tryz.prog n] (hp : PvC w0 bad n caps N M Ys (λi => (D i).1) (λi => (X i).1.map Lm.m)) (hy0 : Ys 0 y0) (hXp : ∀ i : Nat, (i : Int) = bad → ∀ y, Ys i y → Ys (i + 1) y)
  (hid:∀i,i<4→(D i).1.id=(i:Nat)) (hok:∀i,i<4→NdOK (D i).1) (hX:∀i,i<4→(X i).1.length≤1600∧∀c,c∈(X i).1→MsOK c.m)
  (H:Cx w0 w (tH w0.heap.size D::y0::bJ 116 b 303 303 (iT fr D bad lv X)::yX w0.heap.size X::l)):
  Calls Tryz.prog 41 #[.pointer (some ⟨b,0,none⟩),.func (.func n) #[] caps] w λe w'=>∃(D':Nat→Nd×Ad) (T:Nat→Ms×Ad) (y':It),Ys 4 y'∧e=.returned (aV (xL T) 0 16)∧(∀i,i<4→(D' i).1=doN bad N D X i)∧(∀i,i<4→(T i).1=doM bad M D X i)∧
   Cx w0 w' (tlI w0.heap.size T::tH w0.heap.size D'::y'::bJ 116 b 303 303 (iT fr D' bad lv X)::yX w0.heap.size X::l):=by
 refine bX Tryz.func41 rfl 45 rfl Yd (λA hs hd hb=>?_)
 have b0:A.eval (.tmp 0)=.pointer (some ⟨b,0,none⟩):=hb 0 _ rfl
 have b1:A.eval (.tmp 1)=.func (.func n) #[] caps:=hb 1 _ rfl
 clear hb
 refine aD (aJ ?_)
 refine lY H ?_
 intro w1 H z1
 refine aF ?_
 refine aD ?_
 refine lY H ?_
 intro w2 H z2
 refine aF ?_
 refine aK ?_
 refine aD ?_
 iterate 4 refine qa ?_
 refine qg (Eq.trans (aP _ _ rfl ManyK.out Qv H.v4 Yo) (by rw[lN (λj hj=>aQk fr D bad lv X hj)])) ?_
 repeat first|refine qa ?_|refine aF ?_
 refine aU ?_
 refine dY (λr A W => ∃ (i : Nat) (D' : Nat → Nd × Ad) (T : Nat → Ms × Ad) (y : It), Ys i y ∧ i ≤ 4 ∧ 4 - i ≤ r ∧ A.tmps.size = 45 ∧ A.defers = [] ∧ A.eval (.tmp 0) = .pointer (some ⟨b, 0, none⟩) ∧ A.eval (.tmp 1) = .func (.func n) #[] caps ∧ A.eval (.tmp 4) = .pointer (some ⟨w.heap.size, 0, none⟩) ∧ A.eval (.tmp 5) = .pointer (some ⟨w1.heap.size, 0, none⟩) ∧ A.eval (.tmp 12) = aV (aAe D) 0 296 ∧ A.eval (.tmp 13) = .int .i64 (i : Int) ∧
   (∀j,j<4→(D' j).1=if j<i then doN bad N D X j else (D j).1)∧(∀j,i≤j→D' j=D j)∧(∀j,j<4→(T j).1=if j<i then doM bad M D X j else jI)∧
   Cx w0 W (tlI w0.heap.size T::tH w0.heap.size D'::y::bJ 110 w1.heap.size 16 16 (xL T)::bJ 110 w.heap.size 16 16 (xL (λ_=>(jI,(none,0))))::bJ 116 b 303 303 (iT fr D' bad lv X)::yX w0.heap.size X::l)) 4
  ⟨0,D,λ_=>(jI,(none,0)),y0,hy0,Nat.zero_le _,Yo,(bZ _ _).trans hs,(aO _ _).trans hd,Qv,Qv,Qv,Qv,Qv,Qv,λj _=>(if_neg (Nat.not_lt_zero j)).symm,λ_ _=>rfl,λj _=>(if_neg (Nat.not_lt_zero j)).symm,
   (H.add (Below.refl _ _) (tlI w0.heap.size (λ_=>(jI,(none,0)))) (λ_ _=>World.ownsRow_nil _ _ _ _) (λj ⟨_,_,e⟩=>absurd e (λe=>nomatch e))).f4.f4.f2⟩ (λr B W hI=>?_)
 clear b0 b1 hs hd H
 obtain⟨i,D',T,y,hy,hi,hr,hs,hd,b0,b1,b4,b5,b12,b13,hD,hDr,hT,H⟩:=hI
 refine aD (aJ ?_)
 repeat first|refine qa ?_|refine aF ?_|refine aD ?_|refine aK ?_
 refine lK (λh=>?_) (λh=>?_)
 ·have hin:i<4:=by have:=of_decide_eq_true h;omega
  refine bL ?_
  refine aK (aU ?_)
  refine aD ?_
  refine qa ?_
  refine qg (Eq.trans (jJ _ _ _ _ rfl ArrK.out ManyK.out Qv rfl Qv rfl hin _) (by rw[lN (λj hj=>aCF D hj)])) ?_
  refine lY H ?_
  intro w3 H z3
  refine qa ?_
  refine mR H dO (cK _ _ _ _) ?_
  intro w4 H z4
  repeat first|refine qa ?_|refine aF ?_|refine aD ?_
  refine lK (λh1=>?_) (λh1=>?_)
  ·have e1:(i:Int)≠bad:=of_decide_eq_true h1
   replace H:=H.drew
   have hS:Its [bJ 55 W.heap.size 74 74 (ndF (D i).1 (gW (D i).2 (D i).1.vA.length)),bJ 116 b 303 303 (iT fr D' bad lv X)] w4.drew:=Its.cons H.o0 (Its.cons H.o6 (Its.nil _))
   have hXi:=hX i hin
   have hAg:aAJ w4.drew (D i).1 (D i).2.1 (D i).2.2:=by
    have ho:World.ownsRow _ _ _ _ _ _ _:=H.o2 i hin
    obtain⟨a3,c3,e,hs3,_⟩:=kN ho
    rw[hDr i (Nat.le_refl _)] at e hs3
    cases e
    exact hs3
   have hBx:OwnM w4.drew w0.heap.size (gW (X i).2 (X i).1.length) (X i).1:=H.o7 i hin
   have hBc:(X i).1.length≤(X i).2.2:=by
    obtain⟨a3,c3,e,h3⟩:=gG hBx.1
    cases e
    exact h3
   refine fZ (S:=Its [bJ 55 W.heap.size 74 74 (ndF (D i).1 (gW (D i).2 (D i).1.vA.length)),bJ 116 b 303 303 (iT fr D' bad lv X)]) (.mv 0 (.mv 1 (.mv 2 (.mv 3 (.rd 4 (.mv 5 (.mv 6 (.mv 7 (.mv 8 (.mv 9 (.rd 10 (.mv 15 (.mv 16 (.mv 17 (.go 11 (.mv 12 (.mv 13 (.mv 14 (.mv 18 (.go 19 (.mv 20 (.go 21 .fin)))))))))))))))))))))) [19,21] (by kernel_rfl) (by kernel_rfl) ?_
   iterate 10 first|refine qj ?_|refine qr hS ?_
   refine Yr rfl hS (λ_ H=>Eq.trans (aN _ _ rfl OneK.out Qv H.v1 Yo rfl) (by rw[show 0+299+i*1=299+i by omega,aRv _ _ _ _ _ hin])) ?_
   repeat refine qj ?_
   refine dI rfl rfl Yw (λK hK=>?_)
   refine aMA _ _ _ _ rfl n Qv Qv Qv (hp i (D i).1 (D i).2.1 (D i).2.2 (X i).2.1 (X i).2.2 (X i).1 _ _ _ hin e1 rfl rfl (hid i hin) (hok i hin) hAg (hBx.rd (λc hc=>by have:=(hXi.2 c hc).n;omega)) hXi.1 hBc hXi.2 hy H.f3) ?_
   rintro e w5 ⟨a1,a2,y2,hy2,rfl,H⟩
   refine⟨_,rfl,hK _ _ (λ_ _=>Its.cons H.o3 (Its.cons H.o8 (Its.nil _))) ?_⟩
   clear hK K
   repeat refine qj ?_
   refine eU rfl Yw (λK hK=>?_)
   refine aI _ _ _ _ rfl ManyK.out Qv Qv H.v8 Yo (cK _ _ _ _) rfl ?_
   intro w6 m6 k6 z6
   replace H:=H.s8 k6 (m6.congr (λj hj=>Eq.trans (by rw[show 0+0+1+i*74=1+i*74 by omega];rfl) (aIe fr D' bad lv X hin (N i (D i).1 ((X i).1.map Lm.m),a1) j hj)))
   refine hK _ (λh=>absurd h Yc) ?_
   clear hK K
   repeat refine qj ?_
   refine eU rfl Yw (λK hK=>?_)
   refine aI _ _ _ _ rfl ManyK.out Qv Qv H.v6 Yo (gB _ _ _ _ _ _) rfl ?_
   intro w7 m7 k7 z7
   replace H:=H.s6 k7 (m7.congr (λj hj=>Eq.trans (by rw[show 0+i*4=i*4 by omega];rfl) (aPA T i (M i (D i).1 ((X i).1.map Lm.m),a2) j hj)))
   refine hK _ (λh=>absurd h Yc) ?_
   clear hK K
   refine yN ?_
   refine aR ?_
   repeat refine qa ?_
   refine bQ ⟨4-(i+1),Yo,i+1,dF D' i (N i (D i).1 ((X i).1.map Lm.m),a1),dF T i (M i (D i).1 ((X i).1.map Lm.m),a2),y2,hy2,Yo,Yo,(bZ _ _).trans hs,(aO _ _).trans hd,Qv,Qv,Qv,Qv,Qv,Eq.trans Qv (by rw[Int.natCast_add];rfl),λj hj=>?_,λj hj=>(upM_other _ _ Yo).trans (hDr j Yo),λj hj=>?_,
    (vI (g:=tlJ w0.heap.size) i (vI (g:=agJ w0.heap.size) i H.f5.f1).f4.f2).f3.tl⟩
   ·by_cases e:j=i
    ·rw[e,cB,if_pos Yo]
     unfold doN
     rw[if_neg e1]
    ·rw[upM_other _ _ e,hD j hj]
     by_cases e2:j<i
     ·rw[if_pos e2,if_pos Yo]
     ·rw[if_neg e2,if_neg Yo]
   ·by_cases e:j=i
    ·rw[e,cB,if_pos Yo]
     unfold doM
     rw[if_neg e1]
    ·rw[upM_other _ _ e,hT j hj]
     by_cases e2:j<i
     ·rw[if_pos e2,if_pos Yo]
     ·rw[if_neg e2,if_neg Yo]
  ·have e1:(i:Int)=bad:=by have:=of_decide_eq_false h1;omega
   refine iW ?_
   refine aR ?_
   repeat refine qa ?_
   refine bQ ⟨4-(i+1),Yo,i+1,D',T,y,hXp i e1 y hy,Yo,Yo,(bZ _ _).trans hs,(aO _ _).trans hd,Qv,Qv,Qv,Qv,Qv,Eq.trans Qv (by rw[Int.natCast_add];rfl),λj hj=>?_,λj hj=>hDr j Yo,λj hj=>?_,H.tl⟩
   ·rw[hD j hj]
    by_cases e:j=i
    ·rw[if_neg Yo,if_pos Yo]
     unfold doN
     rw[e,if_pos e1]
    ·by_cases e2:j<i
     ·rw[if_pos e2,if_pos Yo]
     ·rw[if_neg e2,if_neg Yo]
   ·rw[hT j hj]
    by_cases e:j=i
    ·rw[if_neg Yo,if_pos Yo]
     unfold doM
     rw[e,if_pos e1]
    ·by_cases e2:j<i
     ·rw[if_pos e2,if_pos Yo]
     ·rw[if_neg e2,if_neg Yo]
 ·obtain rfl:i=4:=by have:=of_decide_eq_false h;omega
  refine dS (fU ?_)
  refine aD ?_
  refine qa ?_
  refine aNm H dO (aOh T) ?_
  intro w5 H z5
  refine aF ?_
  refine bD (bB ((aO _ _).trans hd) (qN rfl Qv ManyK.out H.v4 (Nat.le_refl _)) ⟨D',T,y,hy,rfl,λj hj=>?_,λj hj=>?_,H.f4.tl.f3.tl⟩)
  ·rw[hD j hj,if_pos hj]
  ·rw[hT j hj,if_pos hj]
theorem aJi{f:Operand→Value}{o:Oper}(ho:o.op=.build 28 #[])(w:World):(execOp f o).run Tryz.prog w=.ok (.value (aV (λ_=>iV 0) 0 12)) w:=by
 unfold execOp
 rw[ho]
 go_simp
 rfl
set_option maxHeartbeats 2000000 in
theorem aDV:aTP 56:=by
 intro n ao c frame rd w hok hag hfr hrd
 have hag:Sr w ao n.vA.length c (tF (bA n)):=hag
 refine bX Tryz.func56 rfl 31 rfl Yd (λA hs hd hb=>?_)
 have b0:A.eval (.tmp 0)=kT n (.slice ao n.vA.length c):=hb 0 _ rfl
 have b1:A.eval (.tmp 1)=.int .i64 frame:=hb 1 _ rfl
 have b2:A.eval (.tmp 2)=aV (λa=>iV (rd a)) 0 3:=hb 2 _ rfl
 clear hb
 refine aD (aJ ?_)
 refine aS rfl Yw (λK hK=>?_)
 refine dX _ _ _ rfl (aB rfl b0) Yd ?_
 intro w1 m1 k1 z1
 have sr1:=hag.below k1
 refine hK _ _ ?_
 clear hK K
 refine aS rfl Yw (λK hK=>?_)
 refine dX _ _ _ rfl (aB rfl b2) Yd ?_
 intro w2 m2 k2 z2
 have mn2:=m1.below k2
 have sr2:=sr1.below k2
 refine hK _ _ ?_
 clear hK K
 refine aS rfl Yw (λK hK=>?_)
 refine aT _ _ rfl nA Yd ?_
 intro w3 m3 k3 z3
 have mn3:=mn2.below k3
 have mrd3:=m2.below k3
 have sr3:=sr2.below k3
 refine hK _ _ ?_
 clear hK K
 refine aS rfl Yw (λK hK=>?_)
 refine aT _ _ rfl lX Yd ?_
 intro w4 m4 k4 z4
 have mn4:=mn3.below k4
 have mrd4:=mrd3.below k4
 have mr4:=m3.below k4
 have sr4:=sr3.below k4
 refine hK _ _ ?_
 clear hK K
 refine aF ?_
 refine aD ?_
 refine Yq (aP _ _ rfl aW (Ye rfl) mn4 Yc) ?_
 refine aS rfl Yw (λK hK=>?_)
 refine bN _ 70 _ _ rfl (Ye rfl) (oN _ _) (uL n ao c _ sr4 hok.vA) ?_
 rintro e w5 ⟨a3,c3,rfl,o5,k5⟩
 have n5:=k5.size
 have mn5:=mn4.below k5
 have mrd5:=mrd4.below k5
 have mr5:=mr4.below k5
 have mq5:=m4.below k5
 refine⟨_,rfl,?_⟩
 refine hK _ _ ?_
 clear hK K
 refine bS Yw (λK hK=>?_)
 refine aI _ _ _ _ rfl aW (Ye rfl) (Ye rfl) mn5 Yc (cK _ _ _ _) rfl ?_
 intro w6 mm6 k6 z6
 have mn6:=Vh.congr mm6 (dU _ _)
 have mrd6:=mrd5.kept k6 Yo
 have mr6:=mr5.kept k6 Yo
 have mq6:=mq5.kept k6 Yo
 have ow6:=bK o5 k6 (λe=>by have e1:=(o5.lt _ e).1;have e2:=(o5.lt _ e).2;omega)
 refine hK _ ?_
 clear hK K
 refine aF ?_
 refine aK ?_
 refine aD ?_
 refine Yq (kE rfl (Ye rfl) _) ?_
 refine Yq (aN _ _ rfl bT (Ye rfl) mn6 Yc rfl) ?_
 refine aS rfl Yw (λK hK=>?_)
 refine bN _ 52 _ _ rfl (Ye rfl) (fO _ _) (iO n.id _) ?_
 rintro e w7 ⟨rfl,k7⟩
 have n7:=k7.size
 have mn7:=mn6.below k7
 have mrd7:=mrd6.below k7
 have mr7:=mr6.below k7
 have mq7:=mq6.below k7
 have ow7:=bG ow6 k7
 refine⟨_,rfl,?_⟩
 refine hK _ _ ?_
 clear hK K
 refine Yq (dQ _ _ rfl (Ye rfl) _) ?_
 refine aF ?_
 have kA:Below w.heap.size w w7:=(aC (((((k1).trans (k2.mono Yo)).trans (k3.mono Yo)).trans (k4.mono Yo)).trans (k5.mono Yo)) k6 Yo Yo).trans (k7.mono Yo)
 refine oW (t:=jR n.id) ((Ye rfl).trans (by rw[Bool.not_not])) (λhno=>?_) (λhno=>?_)
 ·refine aD ?_
  refine Yq (aP _ _ rfl aW (Ye rfl) mn7 Yc) ?_
  refine Yq (sJ rfl _) ?_
  refine bS Yw (λK hK=>?_)
  refine aI _ _ _ _ rfl aW (Ye rfl) (Ye rfl) mr7 Yc (cK _ _ _ _) rfl ?_
  intro w8 mm8 k8 z8
  have mr8:=Vh.congr mm8 (dU _ _)
  have mn8:=mn7.kept k8 Yo
  have mrd8:=mrd7.kept k8 Yo
  have mq8:=mq7.kept k8 Yo
  have ow8:=bK ow7 k8 (λe=>by have e1:=(o5.lt _ e).1;have e2:=(o5.lt _ e).2;omega)
  refine hK _ ?_
  clear hK K
  refine bS Yw (λK hK=>?_)
  refine aI _ _ _ _ rfl eD (Ye rfl) (Ye rfl) mq8 Yc (gB _ _ _ _ _ _) rfl ?_
  intro w9 mm9 k9 z9
  have mq9:=Vh.congr mm9 (fA _ _)
  have mn9:=mn8.kept k9 Yo
  have mrd9:=mrd8.kept k9 Yo
  have mr9:=mr8.kept k9 Yo
  have ow9:=bK ow8 k9 (λe=>by have e1:=(o5.lt _ e).1;have e2:=(o5.lt _ e).2;omega)
  refine hK _ ?_
  clear hK K
  refine aF ?_
  refine bD ?_
  simp only[Nx,Exit.then]
  refine bB ((aO _ _).trans hd) (jC rfl (Ye rfl) (Ye rfl) aW eD mr9 (Nat.le_refl _) mq9 (Nat.le_refl _)) ⟨a3,c3,none,0,?_,dL ow9 Yo,?_,?_⟩
  ·unfold pR oV
   rw[if_pos hno,if_pos hno]
   rfl
  ·unfold aDE oV
   rw[if_pos hno]
   exact World.ownsRow_nil _ _ _ _
  ·exact aC (aC kA k8 Yo Yo) k9 Yo Yo
 ·obtain⟨h0,h3⟩:=uU hno
  obtain⟨I,hI⟩:∃I:Nat,n.id=(I:Int):=⟨n.id.toNat,Yo⟩
  have hi4:I<4:=Yo
  refine bL ?_
  refine aD ?_
  refine Yp ?_
  refine Yq (qV rfl (Ye rfl) _) ?_
  refine bS Yw (λK hK=>?_)
  refine iH _ _ _ _ rfl bT (Ye rfl) (Ye rfl) mn7 Yc rfl rfl rfl ?_
  intro w8 mm8 k8 z8
  have mn8:=Vh.congr mm8 (aSo _ _ _)
  have mrd8:=mrd7.kept k8 Yo
  have mr8:=mr7.kept k8 Yo
  have mq8:=mq7.kept k8 Yo
  have ow8:=bK ow7 k8 (λe=>by have e1:=(o5.lt _ e).1;have e2:=(o5.lt _ e).2;omega)
  refine hK _ ?_
  clear hK K
  refine aF ?_
  refine aD ?_
  refine Yq (aJi rfl _) ?_
  refine Yq (wG rfl (Ye rfl) _) ?_
  refine bS Yw (λK hK=>?_)
  refine aI _ _ _ _ rfl pE (Ye rfl) (Ye rfl) mn8 Yc (λj hj=>rfl) rfl ?_
  intro w9 mm9 k9 z9
  have mn9:=Vh.congr mm9 (aSl _ _ (λ_ _=>0))
  have mrd9:=mrd8.kept k9 Yo
  have mr9:=mr8.kept k9 Yo
  have mq9:=mq8.kept k9 Yo
  have ow9:=bK ow8 k9 (λe=>by have e1:=(o5.lt _ e).1;have e2:=(o5.lt _ e).2;omega)
  refine hK _ ?_
  clear hK K
  refine aF ?_
  refine aD ?_
  refine Yq (kE rfl (Ye rfl) _) ?_
  refine Yq (aN _ _ rfl bT (Ye rfl) mn9 Yc rfl) ?_
  refine Yq (aP _ _ rfl lT (Ye rfl) mrd9 Yc) ?_
  refine Yq (wG rfl (Ye rfl) _) ?_
  refine Yq (dP _ _ _ _ rfl Tryz.underlying28 lT.size (Ye rfl) (Ye rfl) hI hi4 _) ?_
  refine bS Yw (λK hK=>?_)
  refine aI _ _ _ _ rfl lT (Ye rfl) (Ye rfl) mn9 Yo (λj hj=>rfl) rfl ?_
  intro w10 mm10 k10 z10
  have mn10:=Vh.congr mm10 (aEW _ _ rd I hi4)
  have mrd10:=mrd9.kept k10 Yo
  have mr10:=mr9.kept k10 Yo
  have mq10:=mq9.kept k10 Yo
  have ow10:=bK ow9 k10 (λe=>by have e1:=(o5.lt _ e).1;have e2:=(o5.lt _ e).2;omega)
  refine hK _ ?_
  clear hK K
  refine aF ?_
  refine aD ?_
  refine Yq (aKF rfl _) ?_
  refine Yq (zA rfl (Ye rfl) _) ?_
  refine bS Yw (λK hK=>?_)
  refine aI _ _ _ _ rfl sP (Ye rfl) (Ye rfl) mn10 Yc (λj hj=>rfl) rfl ?_
  intro w11 mm11 k11 z11
  have mn11:=Vh.congr mm11 (aSa _ _ (λ_=>0))
  have mrd11:=mrd10.kept k11 Yo
  have mr11:=mr10.kept k11 Yo
  have mq11:=mq10.kept k11 Yo
  have ow11:=bK ow10 k11 (λe=>by have e1:=(o5.lt _ e).1;have e2:=(o5.lt _ e).2;omega)
  refine hK _ ?_
  clear hK K
  refine aF ?_
  refine aK ?_
  have hS0:(λW=>Vh 55 W w.heap.size 74 74 (ndF { n with fr:=frame,di:=λs a=>if s=I then rd a else 0,he:=λ_=>0 } (.slice a3 n.vA.length c3))) w11.drew:=mn11
  have mn0:Vh _ w11.drew _ _ _ _:=mn11
  have mrd0:Vh _ w11.drew _ _ _ _:=mrd11
  have mr0:Vh _ w11.drew _ _ _ _:=mr11
  have mq0:Vh _ w11.drew _ _ _ _:=mq11
  have ow0:=(show World.ownsRow w11.drew _ _ _ _ _ _ from ow11)
  have ez:w11.drew.heap.size=w11.heap.size:=rfl
  refine fZ (S:=λW=>Vh 55 W w.heap.size 74 74 (ndF { n with fr:=frame,di:=λs a=>if s=I then rd a else 0,he:=λ_=>0 } (.slice a3 n.vA.length c3))) (.rd 0 (.rd 1 (.mv 2 (.go 3 (.go 4 (.go 5 .fin)))))) [] (by kernel_rfl) (by kernel_rfl) ?_
  refine Yr rfl hS0 (λ_ hS=>aP _ _ rfl aW (Ye rfl) hS Yc) ?_
  refine Yr rfl hS0 (λ_ hS=>aP _ _ rfl aW (Ye rfl) hS Yc) ?_
  refine Yk rfl (λ_=>xG _ rfl (Ye rfl) _) ?_
  refine dI rfl rfl Yw (λK hK=>?_)
  refine gQ _ 71 _ _ _ _ rfl (Ye rfl) (aG _ _) (Ye rfl) (nH _ _ _ _) (rZ { n with fr:=frame,di:=λs a=>if s=I then rd a else 0,he:=λ_=>0 } (.slice a3 n.vA.length c3) 1 (some ⟨w1.heap.size,0,none⟩) 3 3 rd _ (Or.inr ⟨_,rfl,λi hi=>by rw[add_at,Nat.zero_add];exact mrd0.cell hi⟩) Yc) ?_
  rintro e w12 ⟨a2,c2,rfl,ov12,k12⟩
  have n12:=k12.size
  have mn12:=hS0.below k12
  have mrd12:=mrd0.below k12
  have mr12:=mr0.below k12
  have mq12:=mq0.below k12
  have ow12:=bG ow0 k12
  have hS12:(λW=>Vh 55 W w.heap.size 74 74 (ndF { n with fr:=frame,di:=λs a=>if s=I then rd a else 0,he:=λ_=>0 } (.slice a3 n.vA.length c3))) w12:=mn12
  refine⟨_,rfl,?_⟩
  refine hK _ _ (λ_ _=>hS12) ?_
  clear hK K
  refine eU rfl Yw (λK hK=>?_)
  refine aI _ _ _ _ rfl aW (Ye rfl) (Ye rfl) mr12 Yc (cK _ _ _ _) rfl ?_
  intro w13 mm13 k13 z13
  have mr13:=Vh.congr mm13 (dU _ _)
  have mn13:=mn12.kept k13 Yo
  have mrd13:=mrd12.kept k13 Yo
  have mq13:=mq12.kept k13 Yo
  have ow13:=bK ow12 k13 (λe=>by have e1:=(o5.lt _ e).1;have e2:=(o5.lt _ e).2;omega)
  have ov13:=iC ov12 k13 Yo
  have hS13:(λW=>Vh 55 W w.heap.size 74 74 (ndF { n with fr:=frame,di:=λs a=>if s=I then rd a else 0,he:=λ_=>0 } (.slice a3 n.vA.length c3))) w13:=mn13
  refine hK _ (λ_ _=>hS13) ?_
  clear hK K
  refine eU rfl Yw (λK hK=>?_)
  refine aI _ _ _ _ rfl eD (Ye rfl) (Ye rfl) mq13 Yc (gB _ _ _ _ _ _) rfl ?_
  intro w14 mm14 k14 z14
  have mq14:=Vh.congr mm14 (fA _ _)
  have mn14:=mn13.kept k14 Yo
  have mrd14:=mrd13.kept k14 Yo
  have mr14:=mr13.kept k14 Yo
  have ow14:=bK ow13 k14 (λe=>by have e1:=(o5.lt _ e).1;have e2:=(o5.lt _ e).2;omega)
  have ov14:=iC ov13 k14 Yo
  have hS14:(λW=>Vh 55 W w.heap.size 74 74 (ndF { n with fr:=frame,di:=λs a=>if s=I then rd a else 0,he:=λ_=>0 } (.slice a3 n.vA.length c3))) w14:=mn14
  refine hK _ (λ_ _=>hS14) ?_
  clear hK K
  refine iA ?_
  refine bD ?_
  have e1:pR n frame rd={ n with fr:=frame,di:=λs a=>if s=I then rd a else 0,he:=λ_=>0 }:=by
   unfold pR
   rw[if_neg (by rw[hno];decide)]
   congr 1
   funext s a
   rw[hI]
   by_cases c:s=I
   ·rw[if_pos c,if_pos Yo]
   ·rw[if_neg c,if_neg Yo]
  have e2:oV n frame rd=⟨1,n.id,frame,[rd 0,rd 1,rd 2]⟩:=by unfold oV;rw[if_neg (by rw[hno];decide)]
  rw[e1,e2]
  refine bB ((aO _ _).trans hd) (jC rfl (Ye rfl) (Ye rfl) aW eD mr14 (Nat.le_refl _) mq14 (Nat.le_refl _)) ⟨a3,c3,a2,c2,rfl,dL ow14 Yo,dL ov14 Yo,aC (aC ((aQ (aC (aC (aC (aC (kA) k8 Yo Yo) k9 Yo Yo) k10 Yo Yo) k11 Yo Yo)).trans (k12.mono Yo)) k13 Yo Yo) k14 Yo Yo⟩
theorem aRJ{k l:List Int}(h:k.length=l.length)(hg:∀j,j<k.length→gL k j=gL l j):k=l:=by
 refine List.ext_getElem h (λj h1 h2=>?_)
 have:=hg j h1
 unfold gL at this
 rw[List.getD_eq_getElem?_getD,List.getElem?_eq_getElem h1,List.getD_eq_getElem?_getD,List.getElem?_eq_getElem h2] at this
 exact this
theorem wM(x y:Value)(w:World):(callFunc 102 #[x,y]).run Tryz.prog w=.ok (.enter 102 #[x,y]) w:=by go_simp
set_option maxHeartbeats 1000000 in
theorem aAa (k l : List Int) (ao bo : Option Addr) (ac bc : Nat) (w : World) (hk : k.length ≤ 140737488351232) (hka : Sr w ao k.length ac (iF (gL k))) (hlb : Sr w bo l.length bc (iF (gL l))) :
  Calls Tryz.prog 102 #[.slice ao k.length ac,.slice bo l.length bc] w λe w'=>e=.returned (.bool (decide (k=l)))∧Below w.heap.size w w':=by
 refine bX Tryz.func102 rfl 26 rfl Yd (λA hs hd hb=>?_)
 have b0:A.eval (.tmp 0)=.slice ao k.length ac:=hb 0 _ rfl
 have b1:A.eval (.tmp 1)=.slice bo l.length bc:=hb 1 _ rfl
 clear hb
 refine aD (aJ ?_)
 refine Yp ?_
 refine aF ?_
 refine aK ?_
 refine aD ?_
 by_cases hne:k.length=l.length
 ·refine Yp ?_
  refine Yq (eP _ rfl (Ye rfl) _) ?_
  refine Yp ?_
  refine Yq (eP _ rfl (Ye rfl) _) ?_
  refine Yq (eQ (b:=false) _ _ rfl (Ye rfl) (Ye rfl) (decide_eq_false Yo) _) ?_
  refine aF ?_
  refine bM (Ye rfl) (bL ?_)
  refine aK ?_
  refine aD ?_
  refine Yp ?_
  refine Yq (eP _ rfl (Ye rfl) _) ?_
  refine Yp ?_
  refine aF ?_
  refine aU ?_
  refine dY (λq A W=>∃i:Nat,i≤k.length∧k.length-i≤q∧A.tmps.size=26∧A.defers=[]∧A.eval (.tmp 0)=.slice ao k.length ac∧A.eval (.tmp 1)=.slice bo l.length bc∧A.eval (.tmp 12)=.int .i64 ((k.length:Nat):Int)∧A.eval (.tmp 13)=.int .i64 (i:Int)∧(∀j,j<i→gL k j=gL l j)∧Below w.heap.size w W) k.length ⟨0,Nat.zero_le _,Yo,(bZ _ _).trans hs,(aO _ _).trans hd,(aB rfl b0),(aB rfl b1),(Ye rfl),(Ye rfl),λj h=>absurd h Yo,Below.refl _ _⟩ (λq B W hI2=>?_)
  clear b0 b1 hs hd
  obtain⟨i,hi,hr2,hs,hd,b0,b1,b12,b13,hal,kB⟩:=hI2
  by_cases hin:i<k.length
  ·obtain⟨x,rfl,hx⟩:∃x,ao=some x∧∀i,i<k.length→w.cell? (x.add i)=some (.int .i64 (gL k i)):=by
    rcases hka with ⟨_,e,_⟩|⟨x,e,hc⟩
    ·omega
    ·exact⟨x,e,λi hi=>hc i hi⟩
   obtain⟨y,rfl,hy⟩:∃y,bo=some y∧∀i,i<l.length→w.cell? (y.add i)=some (.int .i64 (gL l i)):=by
    rcases hlb with ⟨_,e,_⟩|⟨y,e,hc⟩
    ·omega
    ·exact⟨y,e,λi hi=>hc i hi⟩
   by_cases hd2:gL k i=gL l i
   ·refine aD (aJ ?_)
    refine Yq (aZ (b:=true) _ _ rfl (aB rfl b13) (aB rfl b12) (decide_eq_true Yo) _) ?_
    refine aF ?_
    refine aK (bP (Ye rfl) (bL ?_))
    refine aK (aU ?_)
    refine aD ?_
    iterate 2 refine Yp ?_
    refine aF ?_
    refine aK ?_
    have hS0:(λZ=>Z.cell? (x.add i)=some (.int .i64 (gL k i))∧Z.cell? (y.add i)=some (.int .i64 (gL l i))) W.drew:=⟨bE (hx i hin) (aQ kB),bE (hy i Yo) (aQ kB)⟩
    have ez:W.drew.heap.size=W.heap.size:=rfl
    refine fZ (S:=λZ=>Z.cell? (x.add i)=some (.int .i64 (gL k i))∧Z.cell? (y.add i)=some (.int .i64 (gL l i))) (.mv 0 (.mv 1 (.mv 2 (.rd 3 (.mv 4 (.mv 5 (.mv 6 (.rd 7 (.mv 8 .fin))))))))) [] (by kernel_rfl) (by kernel_rfl) ?_
    iterate 2 refine Yj ?_
    refine Yk rfl (λ_=>fT _ _ rfl (a:=x) (n:=k.length) (cap:=ac) (Ye rfl) (Ye rfl) (i:=i) rfl Yo _) ?_
    refine Yr rfl hS0 (λ_ hS=>fQ _ rfl (Ye rfl) hS.1) ?_
    iterate 2 refine Yj ?_
    refine Yk rfl (λ_=>fT _ _ rfl (a:=y) (n:=l.length) (cap:=bc) (Ye rfl) (Ye rfl) (i:=i) rfl Yo _) ?_
    refine Yr rfl hS0 (λ_ hS=>fQ _ rfl (Ye rfl) hS.2) ?_
    refine Yk rfl (λ_=>eQ (b:=false) _ _ rfl (Ye rfl) (Ye rfl) (decide_eq_false (λe=>e hd2)) _) ?_
    refine iA ?_
    refine bM (Ye rfl) (iW ?_)
    refine aR ?_
    refine Yq (bW _ _ rfl (aB rfl b13) (aG _ _) Yo Yo _) ?_
    refine Yp ?_
    exact bQ ⟨k.length-(i+1),Yo,i+1,Yo,Yo,(bZ _ _).trans hs,(aO _ _).trans hd,(aB rfl b0),(aB rfl b1),(aB rfl b12),(Ye rfl).trans (by rw[Int.natCast_add];rfl),(λj hj=>by
     by_cases e:j=i
     ·rw[e];exact hd2
     ·exact hal j Yo),aQ kB⟩
   ·refine aD (aJ ?_)
    refine Yq (aZ (b:=true) _ _ rfl (aB rfl b13) (aB rfl b12) (decide_eq_true Yo) _) ?_
    refine aF ?_
    refine aK (bP (Ye rfl) (bL ?_))
    refine aK (aU ?_)
    refine aD ?_
    iterate 2 refine Yp ?_
    refine aF ?_
    refine aK ?_
    have hS0:(λZ=>Z.cell? (x.add i)=some (.int .i64 (gL k i))∧Z.cell? (y.add i)=some (.int .i64 (gL l i))) W.drew:=⟨bE (hx i hin) (aQ kB),bE (hy i Yo) (aQ kB)⟩
    have ez:W.drew.heap.size=W.heap.size:=rfl
    refine fZ (S:=λZ=>Z.cell? (x.add i)=some (.int .i64 (gL k i))∧Z.cell? (y.add i)=some (.int .i64 (gL l i))) (.mv 0 (.mv 1 (.mv 2 (.rd 3 (.mv 4 (.mv 5 (.mv 6 (.rd 7 (.mv 8 .fin))))))))) [] (by kernel_rfl) (by kernel_rfl) ?_
    iterate 2 refine Yj ?_
    refine Yk rfl (λ_=>fT _ _ rfl (a:=x) (n:=k.length) (cap:=ac) (Ye rfl) (Ye rfl) (i:=i) rfl Yo _) ?_
    refine Yr rfl hS0 (λ_ hS=>fQ _ rfl (Ye rfl) hS.1) ?_
    iterate 2 refine Yj ?_
    refine Yk rfl (λ_=>fT _ _ rfl (a:=y) (n:=l.length) (cap:=bc) (Ye rfl) (Ye rfl) (i:=i) rfl Yo _) ?_
    refine Yr rfl hS0 (λ_ hS=>fQ _ rfl (Ye rfl) hS.2) ?_
    refine Yk rfl (λ_=>eQ (b:=true) _ _ rfl (Ye rfl) (Ye rfl) (decide_eq_true hd2) _) ?_
    refine iA ?_
    refine bP (Ye rfl) ?_
    refine aD ?_
    refine Yp ?_
    refine aF ?_
    refine bD ?_
    simp only[Nx,Exit.inBlock,Exit.then]
    refine bB ((aO _ _).trans hd) (dW rfl (Ye rfl)) ⟨?_,aQ kB⟩
    rw[decide_eq_false (λe=>hd2 (by rw[e]))]
  ·refine aD (aJ ?_)
   refine Yq (aZ (b:=false) _ _ rfl (aB rfl b13) (aB rfl b12) (decide_eq_false Yo) _) ?_
   refine aF ?_
   refine aK (bM (Ye rfl) (dS (fU ?_)))
   refine aD ?_
   refine Yp ?_
   refine aF ?_
   refine bD (bB ((aO _ _).trans hd) (dW rfl (Ye rfl)) ⟨?_,kB⟩)
   rw[decide_eq_true (aRJ hne (λj hj=>hal j Yo))]
 ·refine Yp ?_
  refine Yq (eP _ rfl (Ye rfl) _) ?_
  refine Yp ?_
  refine Yq (eP _ rfl (Ye rfl) _) ?_
  refine Yq (eQ (b:=true) _ _ rfl (Ye rfl) (Ye rfl) (decide_eq_true Yo) _) ?_
  refine aF ?_
  refine bP (Ye rfl) ?_
  refine aD ?_
  refine Yp ?_
  refine aF ?_
  refine bD ?_
  simp only[Nx,Exit.then]
  refine bB ((aO _ _).trans hd) (dW rfl (Ye rfl)) ⟨?_,Below.refl _ _⟩
  rw[decide_eq_false (λe=>hne (by rw[e]))]
def fE(id fr:Int)(L:List Lm)(kind many:Int)(s:Nat):Value:=match fL id fr L (s:Int) kind many with|some c=>lmV c|none=>.slice none 0 0
theorem aPn(id fr:Int)(L:List Lm)(kind many:Int):∀j,j<4→(fE id fr L kind many j).oneCell'=true:=by
 intro j _
 unfold fE lmV
 split<;>rfl
theorem nP{L:List Lm}{i:Nat}{c:Lm}(hc:L[i]?=some c):L.take (i+1)=L.take i++[c]:=by rw[List.take_add_one,hc];rfl
theorem aCO{id fr s kind many:Int}{L:List Lm}{c:Lm}:fL id fr (L++[c]) s kind many=(fL id fr L s kind many).or (if jF id fr s kind many c.m then some c else none):=by
 unfold fL
 rw[List.find?_append,List.find?_cons]
 congr 1
 cases h:jF id fr s kind many c.m
 ·rfl
 ·rfl
theorem uM{id fr kind many:Int}{L:List Lm}{c:Lm}(h:∀s:Nat,s<4→jF id fr (s:Int) kind many c.m=false∨(fL id fr L (s:Int) kind many).isSome=true):∀j,j<4→fE id fr L kind many j=fE id fr (L++[c]) kind many j:=by
 intro j hj
 unfold fE
 rw[aCO]
 rcases h j hj with e|e
 ·rw[e]
  cases fL id fr L (j:Int) kind many<;>rfl
 ·cases h2:fL id fr L (j:Int) kind many with
  |none=>rw[h2] at e;cases e
  |some x=>rfl
theorem aRW{id fr kind many:Int}{L:List Lm}{c:Lm}{f:Nat}(hF:c.m.F=(f:Int))(hn:fL id fr L (f:Int) kind many=none)(hfit:jF id fr (f:Int) kind many c.m=true):∀j,j<4→iJ (fE id fr L kind many) (0+f*1) (lmV c) j=fE id fr (L++[c]) kind many j:=by
 intro j hj
 by_cases e:j=0+f*1
 ·subst e
  rw[kF]
  unfold fE
  rw[aCO,Nat.zero_add,Nat.mul_one,hn,hfit]
  rfl
 ·rw[gT _ _ e]
  unfold fE
  rw[aCO]
  have e2:jF id fr (j:Int) kind many c.m=false:=by unfold jF;rw[decide_eq_false (show ¬c.m.F=(j:Int) by omega)];simp
  rw[e2]
  cases fL id fr L (j:Int) kind many<;>rfl
set_option maxHeartbeats 2000000 in
theorem vT (n : Nd) (nv : Value) (mo : Option Addr) (mc : Nat) (L : List Lm) (kind many : Int) (w : World) (hr : MRd w mo L) (hN : L.length ≤ 140737488351232) (hm : 0 < many) :
  Calls Tryz.prog 72 #[kT n nv,.slice mo L.length mc,.int .i64 kind,.int .i64 many] w λe w'=>e=.returned (aV (fE n.id n.fr L kind many) 0 4)∧Below w.heap.size w w':=by
 refine bX Tryz.func72 rfl 65 rfl Yd (λA hs hd hb=>?_)
 have b0:=hb 0 _ rfl
 have b1:=hb 1 _ rfl
 have b2:=hb 2 _ rfl
 have b3:=hb 3 _ rfl
 clear hb
 refine aD (aJ ?_)
 refine aS rfl Yw (λK hK=>?_)
 refine dX _ _ _ rfl (aB rfl b0) Yd ?_
 intro w1 m1 k1 z1
 refine hK _ _ ?_
 clear hK K
 refine aS rfl Yw (λK hK=>?_)
 refine aT _ _ rfl aJj Yd ?_
 intro w2 m2 k2 z2
 have mn2:=m1.below k2
 refine hK _ _ ?_
 clear hK K
 refine aF ?_
 refine aD ?_
 refine aS rfl Yw (λK hK=>?_)
 refine aT _ _ rfl aJj Yd ?_
 intro w3 m3 k3 z3
 have mn3:=mn2.below k3
 have mr3:=m2.below k3
 refine hK _ _ ?_
 clear hK K
 refine aF ?_
 refine aK ?_
 refine aD ?_
 refine Yp ?_
 refine Yq (aMw _ rfl (Ye rfl) _) ?_
 refine Yp ?_
 refine aF ?_
 refine aU ?_
 refine dY (λr a W=>∃i:Nat,i≤L.length∧L.length-i≤r∧a.tmps.size=65∧a.defers=[]∧a.eval (.tmp 2)=.int .i64 kind∧a.eval (.tmp 3)=.int .i64 many∧a.eval (.tmp 4)=.pointer (some ⟨w.heap.size,0,none⟩)∧a.eval (.tmp 8)=.pointer (some ⟨w1.heap.size,0,none⟩)∧a.eval (.tmp 9)=.pointer (some ⟨w2.heap.size,0,none⟩)∧a.eval (.tmp 13)=.slice mo L.length mc∧a.eval (.tmp 14)=.int .i64 (L.length:Int)∧a.eval (.tmp 15)=.int .i64 (i:Int)∧Vh 55 W w.heap.size 74 74 (ndF n nv)∧Vh 147 W w1.heap.size 4 4 (λ_=>.slice none 0 0)∧Vh 147 W w2.heap.size 4 4 (fE n.id n.fr (L.take i) kind many)∧Below w.heap.size w W∧w3.heap.size≤W.heap.size) L.length ⟨0,Nat.zero_le _,Yo,(bZ _ _).trans hs,(aO _ _).trans hd,(aB rfl b2),(aB rfl b3),(Ye rfl),(Ye rfl),(Ye rfl),(Ye rfl),(Ye rfl),(Ye rfl),mn3,mr3,m3,(k1.trans (k2.mono Yo)).trans (k3.mono Yo),Yo⟩ (λr B W hI=>?_)
 clear b0 b1 b2 b3 hs hd
 obtain⟨i,hi,hr2,hs,hd,b2,b3,b4,b8,b9,b13,b14,b15,mn,mr,mh,kB,hW⟩:=hI
 by_cases hin:i<L.length
 ·have hc:=List.getElem?_eq_getElem hin
  obtain⟨c,ec⟩:∃c,c=L[i]:=⟨_,rfl⟩
  rw[←ec] at hc
  obtain⟨bl,of,rfl,hq⟩:=(hr.below kB).1 Yo
  have hcell:=hq i c hc
  by_cases h1:c.m.K=kind
  ·by_cases h2:c.m.R=n.fr
   ·by_cases h3:(c.m.L.length:Int)=many
    ·rcases h4:jR c.m.F with _|_
     ·obtain⟨f,hF,hf4⟩:∃f:Nat,c.m.F=(f:Int)∧f<4:=⟨c.m.F.toNat,by have:=uU h4;omega,by have:=uU h4;omega⟩
      by_cases h5:c.m.F≠n.id
      ·rcases hfl:fL n.id n.fr (L.take i) (f:Int) kind many with _|c2
       ·have hfit:jF n.id n.fr (f:Int) kind many c.m=true:=by unfold jF;rw[decide_eq_true hF,decide_eq_true h5,decide_eq_true h1,decide_eq_true h2,decide_eq_true h3];rfl
        have hho:fE n.id n.fr (L.take i) kind many (0+f*1)=.slice none 0 0:=by unfold fE;rw[Nat.zero_add,Nat.mul_one,hfl]
        refine aD (aJ ?_)
        refine Yq (aZ (b:=true) _ _ rfl (aB rfl b15) (aB rfl b14) (decide_eq_true Yo) _) ?_
        refine aF ?_
        refine aK (bP (Ye rfl) (bL ?_))
        refine aK (aU ?_)
        refine aD ?_
        refine Yq (sI _ _ rfl (aB rfl b13) (aB rfl b15) rfl hin _) ?_
        refine Yq (pY _ rfl (Ye rfl) hcell) ?_
        refine aS rfl Yw (λK hK=>?_)
        refine aT _ _ rfl lX Yd ?_
        intro w4 m4 k4 z4
        have mn4:=mn.below k4
        have mr4:=mr.below k4
        have mh4:=mh.below k4
        refine hK _ _ ?_
        clear hK K
        refine bS Yw (λK hK=>?_)
        refine aI _ _ _ _ rfl eD (Ye rfl) (Ye rfl) m4 Yc (qJ _) rfl ?_
        intro w5 mm5 k5 z5
        have mm5:=Vh.congr mm5 (fA _ _)
        have mn5:=mn4.kept k5 Yo
        have mr5:=mr4.kept k5 Yo
        have mh5:=mh4.kept k5 Yo
        refine hK _ ?_
        clear hK K
        refine aF ?_
        refine aD ?_
        refine Yq (wL rfl (Ye rfl) _) ?_
        refine Yq (aN _ _ rfl bT (Ye rfl) mm5 Yc rfl) ?_
        refine Yp ?_
        refine Yq (dA (b:=true) _ _ rfl (Ye rfl) (Ye rfl) (decide_eq_true h1) _) ?_
        refine Yp ?_
        refine Yq (yF rfl (Ye rfl) _) ?_
        refine Yq (aN _ _ rfl bT (Ye rfl) mm5 Yc rfl) ?_
        refine Yq (qV rfl (aB rfl b4) _) ?_
        refine Yq (aN _ _ rfl bT (Ye rfl) mn5 Yc rfl) ?_
        refine Yq (dA (b:=true) _ _ rfl (Ye rfl) (Ye rfl) (decide_eq_true h2) _) ?_
        refine Yq (aX _ _ _ rfl (Ye rfl) (Ye rfl) _) ?_
        refine Yp ?_
        refine Yq (yL rfl (Ye rfl) _) ?_
        refine Yq (aN _ _ rfl gI (Ye rfl) mm5 Yc rfl) ?_
        refine Yq (eP _ rfl (Ye rfl) _) ?_
        refine Yp ?_
        refine Yq (dA (b:=true) _ _ rfl (Ye rfl) (Ye rfl) (decide_eq_true h3) _) ?_
        refine Yq (aX _ _ _ rfl (Ye rfl) (Ye rfl) _) ?_
        refine Yp ?_
        refine aF ?_
        refine aD ?_
        iterate 2 refine Yp ?_
        refine Yq (pJ rfl (Ye rfl) _) ?_
        refine Yq (aN _ _ rfl bT (Ye rfl) mm5 Yc rfl) ?_
        refine aS rfl (bC (j:=1) rfl rfl rfl (Ye rfl)) (λK hK=>?_)
        have C1:=iO c.m.F w5
        rw[h4] at C1
        refine bN _ 52 _ _ rfl (Ye rfl) (fO _ _) C1 ?_
        rintro e w6 ⟨rfl,k6⟩
        have n6:=k6.size
        have mn6:=mn5.below k6
        have mr6:=mr5.below k6
        have mh6:=mh5.below k6
        have mm6:=mm5.below k6
        refine⟨_,rfl,?_⟩
        refine hK _ _ ?_
        clear hK K
        refine Yq (aX _ _ _ rfl (Ye rfl) (Ye rfl) _) ?_
        refine Yp ?_
        refine Yq (pJ rfl (Ye rfl) _) ?_
        refine Yq (aN _ _ rfl bT (Ye rfl) mm6 Yc rfl) ?_
        refine Yq (kE rfl (aB rfl b4) _) ?_
        refine Yq (aN _ _ rfl bT (Ye rfl) mn6 Yc rfl) ?_
        refine Yq (eQ (b:=true) _ _ rfl (Ye rfl) (Ye rfl) (decide_eq_true h5) _) ?_
        refine Yq (aX _ _ _ rfl (Ye rfl) (Ye rfl) _) ?_
        refine Yp ?_
        refine Yq (pJ rfl (Ye rfl) _) ?_
        refine Yq (aN _ _ rfl bT (Ye rfl) mm6 Yc rfl) ?_
        refine Yq (dP _ _ _ _ rfl Tryz.underlying147 gI.size (aB rfl b9) (Ye rfl) hF hf4 _) ?_
        refine Yq (aN _ _ rfl gI (Ye rfl) mh6 Yo hho) ?_
        refine Yq (eP _ rfl (Ye rfl) _) ?_
        refine Yq (dA (b:=true) _ _ rfl (Ye rfl) (aG _ _) (decide_eq_true rfl) _) ?_
        refine Yq (aX _ _ _ rfl (Ye rfl) (Ye rfl) _) ?_
        refine aF ?_
        refine bP (Ye rfl) ?_
        refine aR ?_
        refine Yq (pJ rfl (Ye rfl) _) ?_
        refine Yq (aN _ _ rfl bT (Ye rfl) mm6 Yc rfl) ?_
        refine Yq (yL rfl (Ye rfl) _) ?_
        refine Yq (aN _ _ rfl gI (Ye rfl) mm6 Yc rfl) ?_
        refine Yq (dP _ _ _ _ rfl Tryz.underlying147 gI.size (aB rfl b9) (Ye rfl) hF hf4 _) ?_
        refine bS Yw (λK hK=>?_)
        refine iH _ _ _ _ rfl gI (Ye rfl) (Ye rfl) mh6 Yo rfl rfl rfl ?_
        intro w7 mm7 k7 z7
        have mh7:=Vh.congr mm7 (aRW hF hfl hfit)
        have mn7:=mn6.kept k7 Yo
        have mr7:=mr6.kept k7 Yo
        have mm7:=mm6.kept k7 Yo
        refine hK _ ?_
        clear hK K
        refine iE ?_
        refine aR ?_
        refine Yq (bW _ _ rfl (aB rfl b15) (aG _ _) Yo Yo _) ?_
        refine Yp ?_
        exact bQ ⟨L.length-(i+1),Yo,i+1,Yo,Yo,(bZ _ _).trans hs,(aO _ _).trans hd,(aB rfl b2),(aB rfl b3),(aB rfl b4),(aB rfl b8),(aB rfl b9),(aB rfl b13),(aB rfl b14),(Ye rfl).trans (by rw[Int.natCast_add];rfl),mn7,mr7,by rw[nP hc];exact mh7,aC ((aC (kB.trans (k4.mono Yo)) k5 Yo Yo).trans (k6.mono Yo)) k7 Yo Yo,Yo⟩
       ·have hkeep:∀s:Nat,s<4→jF n.id n.fr (s:Int) kind many c.m=false∨(fL n.id n.fr (L.take i) (s:Int) kind many).isSome=true:=λs hs=>by
         by_cases e:s=f
         ·right;rw[e,hfl];rfl
         ·left;unfold jF;rw[decide_eq_false (show ¬c.m.F=(s:Int) by omega)];simp
        obtain⟨_,cfit⟩:=uX hfl
        have clen:=uO cfit
        have hho:fE n.id n.fr (L.take i) kind many (0+f*1)=.slice c2.ao c2.m.L.length c2.cap:=by unfold fE;rw[Nat.zero_add,Nat.mul_one,hfl];rfl
        refine aD (aJ ?_)
        refine Yq (aZ (b:=true) _ _ rfl (aB rfl b15) (aB rfl b14) (decide_eq_true Yo) _) ?_
        refine aF ?_
        refine aK (bP (Ye rfl) (bL ?_))
        refine aK (aU ?_)
        refine aD ?_
        refine Yq (sI _ _ rfl (aB rfl b13) (aB rfl b15) rfl hin _) ?_
        refine Yq (pY _ rfl (Ye rfl) hcell) ?_
        refine aS rfl Yw (λK hK=>?_)
        refine aT _ _ rfl lX Yd ?_
        intro w4 m4 k4 z4
        have mn4:=mn.below k4
        have mr4:=mr.below k4
        have mh4:=mh.below k4
        refine hK _ _ ?_
        clear hK K
        refine bS Yw (λK hK=>?_)
        refine aI _ _ _ _ rfl eD (Ye rfl) (Ye rfl) m4 Yc (qJ _) rfl ?_
        intro w5 mm5 k5 z5
        have mm5:=Vh.congr mm5 (fA _ _)
        have mn5:=mn4.kept k5 Yo
        have mr5:=mr4.kept k5 Yo
        have mh5:=mh4.kept k5 Yo
        refine hK _ ?_
        clear hK K
        refine aF ?_
        refine aD ?_
        refine Yq (wL rfl (Ye rfl) _) ?_
        refine Yq (aN _ _ rfl bT (Ye rfl) mm5 Yc rfl) ?_
        refine Yp ?_
        refine Yq (dA (b:=true) _ _ rfl (Ye rfl) (Ye rfl) (decide_eq_true h1) _) ?_
        refine Yp ?_
        refine Yq (yF rfl (Ye rfl) _) ?_
        refine Yq (aN _ _ rfl bT (Ye rfl) mm5 Yc rfl) ?_
        refine Yq (qV rfl (aB rfl b4) _) ?_
        refine Yq (aN _ _ rfl bT (Ye rfl) mn5 Yc rfl) ?_
        refine Yq (dA (b:=true) _ _ rfl (Ye rfl) (Ye rfl) (decide_eq_true h2) _) ?_
        refine Yq (aX _ _ _ rfl (Ye rfl) (Ye rfl) _) ?_
        refine Yp ?_
        refine Yq (yL rfl (Ye rfl) _) ?_
        refine Yq (aN _ _ rfl gI (Ye rfl) mm5 Yc rfl) ?_
        refine Yq (eP _ rfl (Ye rfl) _) ?_
        refine Yp ?_
        refine Yq (dA (b:=true) _ _ rfl (Ye rfl) (Ye rfl) (decide_eq_true h3) _) ?_
        refine Yq (aX _ _ _ rfl (Ye rfl) (Ye rfl) _) ?_
        refine Yp ?_
        refine aF ?_
        refine aD ?_
        iterate 2 refine Yp ?_
        refine Yq (pJ rfl (Ye rfl) _) ?_
        refine Yq (aN _ _ rfl bT (Ye rfl) mm5 Yc rfl) ?_
        refine aS rfl (bC (j:=1) rfl rfl rfl (Ye rfl)) (λK hK=>?_)
        have C1:=iO c.m.F w5
        rw[h4] at C1
        refine bN _ 52 _ _ rfl (Ye rfl) (fO _ _) C1 ?_
        rintro e w6 ⟨rfl,k6⟩
        have n6:=k6.size
        have mn6:=mn5.below k6
        have mr6:=mr5.below k6
        have mh6:=mh5.below k6
        have mm6:=mm5.below k6
        refine⟨_,rfl,?_⟩
        refine hK _ _ ?_
        clear hK K
        refine Yq (aX _ _ _ rfl (Ye rfl) (Ye rfl) _) ?_
        refine Yp ?_
        refine Yq (pJ rfl (Ye rfl) _) ?_
        refine Yq (aN _ _ rfl bT (Ye rfl) mm6 Yc rfl) ?_
        refine Yq (kE rfl (aB rfl b4) _) ?_
        refine Yq (aN _ _ rfl bT (Ye rfl) mn6 Yc rfl) ?_
        refine Yq (eQ (b:=true) _ _ rfl (Ye rfl) (Ye rfl) (decide_eq_true h5) _) ?_
        refine Yq (aX _ _ _ rfl (Ye rfl) (Ye rfl) _) ?_
        refine Yp ?_
        refine Yq (pJ rfl (Ye rfl) _) ?_
        refine Yq (aN _ _ rfl bT (Ye rfl) mm6 Yc rfl) ?_
        refine Yq (dP _ _ _ _ rfl Tryz.underlying147 gI.size (aB rfl b9) (Ye rfl) hF hf4 _) ?_
        refine Yq (aN _ _ rfl gI (Ye rfl) mh6 Yo hho) ?_
        refine Yq (eP _ rfl (Ye rfl) _) ?_
        refine Yq (dA (b:=false) _ _ rfl (Ye rfl) (aG _ _) (decide_eq_false Yo) _) ?_
        refine Yq (aX _ _ _ rfl (Ye rfl) (Ye rfl) _) ?_
        refine aF ?_
        refine bM (Ye rfl) (iW ?_)
        refine aR ?_
        refine Yq (bW _ _ rfl (aB rfl b15) (aG _ _) Yo Yo _) ?_
        refine Yp ?_
        exact bQ ⟨L.length-(i+1),Yo,i+1,Yo,Yo,(bZ _ _).trans hs,(aO _ _).trans hd,(aB rfl b2),(aB rfl b3),(aB rfl b4),(aB rfl b8),(aB rfl b9),(aB rfl b13),(aB rfl b14),(Ye rfl).trans (by rw[Int.natCast_add];rfl),mn6,mr6,by rw[nP hc];exact Vh.congr mh6 (uM hkeep),(aC (kB.trans (k4.mono Yo)) k5 Yo Yo).trans (k6.mono Yo),Yo⟩
      ·have hkeep:∀s:Nat,s<4→jF n.id n.fr (s:Int) kind many c.m=false∨(fL n.id n.fr (L.take i) (s:Int) kind many).isSome=true:=λs hs=>Or.inl (by unfold jF;rw[decide_eq_false (show ¬c.m.F≠n.id from h5)];simp)
       refine aD (aJ ?_)
       refine Yq (aZ (b:=true) _ _ rfl (aB rfl b15) (aB rfl b14) (decide_eq_true Yo) _) ?_
       refine aF ?_
       refine aK (bP (Ye rfl) (bL ?_))
       refine aK (aU ?_)
       refine aD ?_
       refine Yq (sI _ _ rfl (aB rfl b13) (aB rfl b15) rfl hin _) ?_
       refine Yq (pY _ rfl (Ye rfl) hcell) ?_
       refine aS rfl Yw (λK hK=>?_)
       refine aT _ _ rfl lX Yd ?_
       intro w4 m4 k4 z4
       have mn4:=mn.below k4
       have mr4:=mr.below k4
       have mh4:=mh.below k4
       refine hK _ _ ?_
       clear hK K
       refine bS Yw (λK hK=>?_)
       refine aI _ _ _ _ rfl eD (Ye rfl) (Ye rfl) m4 Yc (qJ _) rfl ?_
       intro w5 mm5 k5 z5
       have mm5:=Vh.congr mm5 (fA _ _)
       have mn5:=mn4.kept k5 Yo
       have mr5:=mr4.kept k5 Yo
       have mh5:=mh4.kept k5 Yo
       refine hK _ ?_
       clear hK K
       refine aF ?_
       refine aD ?_
       refine Yq (wL rfl (Ye rfl) _) ?_
       refine Yq (aN _ _ rfl bT (Ye rfl) mm5 Yc rfl) ?_
       refine Yp ?_
       refine Yq (dA (b:=true) _ _ rfl (Ye rfl) (Ye rfl) (decide_eq_true h1) _) ?_
       refine Yp ?_
       refine Yq (yF rfl (Ye rfl) _) ?_
       refine Yq (aN _ _ rfl bT (Ye rfl) mm5 Yc rfl) ?_
       refine Yq (qV rfl (aB rfl b4) _) ?_
       refine Yq (aN _ _ rfl bT (Ye rfl) mn5 Yc rfl) ?_
       refine Yq (dA (b:=true) _ _ rfl (Ye rfl) (Ye rfl) (decide_eq_true h2) _) ?_
       refine Yq (aX _ _ _ rfl (Ye rfl) (Ye rfl) _) ?_
       refine Yp ?_
       refine Yq (yL rfl (Ye rfl) _) ?_
       refine Yq (aN _ _ rfl gI (Ye rfl) mm5 Yc rfl) ?_
       refine Yq (eP _ rfl (Ye rfl) _) ?_
       refine Yp ?_
       refine Yq (dA (b:=true) _ _ rfl (Ye rfl) (Ye rfl) (decide_eq_true h3) _) ?_
       refine Yq (aX _ _ _ rfl (Ye rfl) (Ye rfl) _) ?_
       refine Yp ?_
       refine aF ?_
       refine aD ?_
       iterate 2 refine Yp ?_
       refine Yq (pJ rfl (Ye rfl) _) ?_
       refine Yq (aN _ _ rfl bT (Ye rfl) mm5 Yc rfl) ?_
       refine aS rfl (bC (j:=1) rfl rfl rfl (Ye rfl)) (λK hK=>?_)
       have C1:=iO c.m.F w5
       rw[h4] at C1
       refine bN _ 52 _ _ rfl (Ye rfl) (fO _ _) C1 ?_
       rintro e w6 ⟨rfl,k6⟩
       have n6:=k6.size
       have mn6:=mn5.below k6
       have mr6:=mr5.below k6
       have mh6:=mh5.below k6
       have mm6:=mm5.below k6
       refine⟨_,rfl,?_⟩
       refine hK _ _ ?_
       clear hK K
       refine Yq (aX _ _ _ rfl (Ye rfl) (Ye rfl) _) ?_
       refine Yp ?_
       refine Yq (pJ rfl (Ye rfl) _) ?_
       refine Yq (aN _ _ rfl bT (Ye rfl) mm6 Yc rfl) ?_
       refine Yq (kE rfl (aB rfl b4) _) ?_
       refine Yq (aN _ _ rfl bT (Ye rfl) mn6 Yc rfl) ?_
       refine Yq (eQ (b:=false) _ _ rfl (Ye rfl) (Ye rfl) (decide_eq_false h5) _) ?_
       refine Yq (aX _ _ _ rfl (Ye rfl) (Ye rfl) _) ?_
       refine Yp ?_
       iterate 6 refine Yu ?_
       refine Yq (bI _ _ _ rfl (Ye rfl) (aG _ _) _) ?_
       refine aF ?_
       refine bM (Ye rfl) (iW ?_)
       refine aR ?_
       refine Yq (bW _ _ rfl (aB rfl b15) (aG _ _) Yo Yo _) ?_
       refine Yp ?_
       exact bQ ⟨L.length-(i+1),Yo,i+1,Yo,Yo,(bZ _ _).trans hs,(aO _ _).trans hd,(aB rfl b2),(aB rfl b3),(aB rfl b4),(aB rfl b8),(aB rfl b9),(aB rfl b13),(aB rfl b14),(Ye rfl).trans (by rw[Int.natCast_add];rfl),mn6,mr6,by rw[nP hc];exact Vh.congr mh6 (uM hkeep),(aC (kB.trans (k4.mono Yo)) k5 Yo Yo).trans (k6.mono Yo),Yo⟩
     ·have hkeep:∀s:Nat,s<4→jF n.id n.fr (s:Int) kind many c.m=false∨(fL n.id n.fr (L.take i) (s:Int) kind many).isSome=true:=λs hs=>Or.inl (by unfold jF;rw[decide_eq_false (show ¬c.m.F=(s:Int) from λe=>by rw[e] at h4;unfold jR at h4;simp at h4;omega)];simp)
      refine aD (aJ ?_)
      refine Yq (aZ (b:=true) _ _ rfl (aB rfl b15) (aB rfl b14) (decide_eq_true Yo) _) ?_
      refine aF ?_
      refine aK (bP (Ye rfl) (bL ?_))
      refine aK (aU ?_)
      refine aD ?_
      refine Yq (sI _ _ rfl (aB rfl b13) (aB rfl b15) rfl hin _) ?_
      refine Yq (pY _ rfl (Ye rfl) hcell) ?_
      refine aS rfl Yw (λK hK=>?_)
      refine aT _ _ rfl lX Yd ?_
      intro w4 m4 k4 z4
      have mn4:=mn.below k4
      have mr4:=mr.below k4
      have mh4:=mh.below k4
      refine hK _ _ ?_
      clear hK K
      refine bS Yw (λK hK=>?_)
      refine aI _ _ _ _ rfl eD (Ye rfl) (Ye rfl) m4 Yc (qJ _) rfl ?_
      intro w5 mm5 k5 z5
      have mm5:=Vh.congr mm5 (fA _ _)
      have mn5:=mn4.kept k5 Yo
      have mr5:=mr4.kept k5 Yo
      have mh5:=mh4.kept k5 Yo
      refine hK _ ?_
      clear hK K
      refine aF ?_
      refine aD ?_
      refine Yq (wL rfl (Ye rfl) _) ?_
      refine Yq (aN _ _ rfl bT (Ye rfl) mm5 Yc rfl) ?_
      refine Yp ?_
      refine Yq (dA (b:=true) _ _ rfl (Ye rfl) (Ye rfl) (decide_eq_true h1) _) ?_
      refine Yp ?_
      refine Yq (yF rfl (Ye rfl) _) ?_
      refine Yq (aN _ _ rfl bT (Ye rfl) mm5 Yc rfl) ?_
      refine Yq (qV rfl (aB rfl b4) _) ?_
      refine Yq (aN _ _ rfl bT (Ye rfl) mn5 Yc rfl) ?_
      refine Yq (dA (b:=true) _ _ rfl (Ye rfl) (Ye rfl) (decide_eq_true h2) _) ?_
      refine Yq (aX _ _ _ rfl (Ye rfl) (Ye rfl) _) ?_
      refine Yp ?_
      refine Yq (yL rfl (Ye rfl) _) ?_
      refine Yq (aN _ _ rfl gI (Ye rfl) mm5 Yc rfl) ?_
      refine Yq (eP _ rfl (Ye rfl) _) ?_
      refine Yp ?_
      refine Yq (dA (b:=true) _ _ rfl (Ye rfl) (Ye rfl) (decide_eq_true h3) _) ?_
      refine Yq (aX _ _ _ rfl (Ye rfl) (Ye rfl) _) ?_
      refine Yp ?_
      refine aF ?_
      refine aD ?_
      iterate 2 refine Yp ?_
      refine Yq (pJ rfl (Ye rfl) _) ?_
      refine Yq (aN _ _ rfl bT (Ye rfl) mm5 Yc rfl) ?_
      refine aS rfl (bC (j:=1) rfl rfl rfl (Ye rfl)) (λK hK=>?_)
      have C1:=iO c.m.F w5
      rw[h4] at C1
      refine bN _ 52 _ _ rfl (Ye rfl) (fO _ _) C1 ?_
      rintro e w6 ⟨rfl,k6⟩
      have n6:=k6.size
      have mn6:=mn5.below k6
      have mr6:=mr5.below k6
      have mh6:=mh5.below k6
      have mm6:=mm5.below k6
      refine⟨_,rfl,?_⟩
      refine hK _ _ ?_
      clear hK K
      refine Yq (aX _ _ _ rfl (Ye rfl) (Ye rfl) _) ?_
      refine Yp ?_
      iterate 5 refine Yu ?_
      refine Yq (bI _ _ _ rfl (Ye rfl) (aG _ _) _) ?_
      refine Yp ?_
      iterate 6 refine Yu ?_
      refine Yq (bI _ _ _ rfl (Ye rfl) (aG _ _) _) ?_
      refine aF ?_
      refine bM (Ye rfl) (iW ?_)
      refine aR ?_
      refine Yq (bW _ _ rfl (aB rfl b15) (aG _ _) Yo Yo _) ?_
      refine Yp ?_
      exact bQ ⟨L.length-(i+1),Yo,i+1,Yo,Yo,(bZ _ _).trans hs,(aO _ _).trans hd,(aB rfl b2),(aB rfl b3),(aB rfl b4),(aB rfl b8),(aB rfl b9),(aB rfl b13),(aB rfl b14),(Ye rfl).trans (by rw[Int.natCast_add];rfl),mn6,mr6,by rw[nP hc];exact Vh.congr mh6 (uM hkeep),(aC (kB.trans (k4.mono Yo)) k5 Yo Yo).trans (k6.mono Yo),Yo⟩
    ·have hkeep:∀s:Nat,s<4→jF n.id n.fr (s:Int) kind many c.m=false∨(fL n.id n.fr (L.take i) (s:Int) kind many).isSome=true:=λs hs=>Or.inl (by unfold jF;rw[decide_eq_false (show ¬(c.m.L.length:Int)=many from h3)];simp)
     refine aD (aJ ?_)
     refine Yq (aZ (b:=true) _ _ rfl (aB rfl b15) (aB rfl b14) (decide_eq_true Yo) _) ?_
     refine aF ?_
     refine aK (bP (Ye rfl) (bL ?_))
     refine aK (aU ?_)
     refine aD ?_
     refine Yq (sI _ _ rfl (aB rfl b13) (aB rfl b15) rfl hin _) ?_
     refine Yq (pY _ rfl (Ye rfl) hcell) ?_
     refine aS rfl Yw (λK hK=>?_)
     refine aT _ _ rfl lX Yd ?_
     intro w4 m4 k4 z4
     have mn4:=mn.below k4
     have mr4:=mr.below k4
     have mh4:=mh.below k4
     refine hK _ _ ?_
     clear hK K
     refine bS Yw (λK hK=>?_)
     refine aI _ _ _ _ rfl eD (Ye rfl) (Ye rfl) m4 Yc (qJ _) rfl ?_
     intro w5 mm5 k5 z5
     have mm5:=Vh.congr mm5 (fA _ _)
     have mn5:=mn4.kept k5 Yo
     have mr5:=mr4.kept k5 Yo
     have mh5:=mh4.kept k5 Yo
     refine hK _ ?_
     clear hK K
     refine aF ?_
     refine aD ?_
     refine Yq (wL rfl (Ye rfl) _) ?_
     refine Yq (aN _ _ rfl bT (Ye rfl) mm5 Yc rfl) ?_
     refine Yp ?_
     refine Yq (dA (b:=true) _ _ rfl (Ye rfl) (Ye rfl) (decide_eq_true h1) _) ?_
     refine Yp ?_
     refine Yq (yF rfl (Ye rfl) _) ?_
     refine Yq (aN _ _ rfl bT (Ye rfl) mm5 Yc rfl) ?_
     refine Yq (qV rfl (aB rfl b4) _) ?_
     refine Yq (aN _ _ rfl bT (Ye rfl) mn5 Yc rfl) ?_
     refine Yq (dA (b:=true) _ _ rfl (Ye rfl) (Ye rfl) (decide_eq_true h2) _) ?_
     refine Yq (aX _ _ _ rfl (Ye rfl) (Ye rfl) _) ?_
     refine Yp ?_
     refine Yq (yL rfl (Ye rfl) _) ?_
     refine Yq (aN _ _ rfl gI (Ye rfl) mm5 Yc rfl) ?_
     refine Yq (eP _ rfl (Ye rfl) _) ?_
     refine Yp ?_
     refine Yq (dA (b:=false) _ _ rfl (Ye rfl) (Ye rfl) (decide_eq_false h3) _) ?_
     refine Yq (aX _ _ _ rfl (Ye rfl) (Ye rfl) _) ?_
     refine Yp ?_
     refine aF ?_
     refine aD ?_
     iterate 2 refine Yp ?_
     iterate 3 refine Yu ?_
     refine Yq (bI _ _ _ rfl (Ye rfl) (aG _ _) _) ?_
     refine Yp ?_
     iterate 5 refine Yu ?_
     refine Yq (bI _ _ _ rfl (Ye rfl) (aG _ _) _) ?_
     refine Yp ?_
     iterate 6 refine Yu ?_
     refine Yq (bI _ _ _ rfl (Ye rfl) (aG _ _) _) ?_
     refine aF ?_
     refine bM (Ye rfl) (iW ?_)
     refine aR ?_
     refine Yq (bW _ _ rfl (aB rfl b15) (aG _ _) Yo Yo _) ?_
     refine Yp ?_
     exact bQ ⟨L.length-(i+1),Yo,i+1,Yo,Yo,(bZ _ _).trans hs,(aO _ _).trans hd,(aB rfl b2),(aB rfl b3),(aB rfl b4),(aB rfl b8),(aB rfl b9),(aB rfl b13),(aB rfl b14),(Ye rfl).trans (by rw[Int.natCast_add];rfl),mn5,mr5,by rw[nP hc];exact Vh.congr mh5 (uM hkeep),aC (kB.trans (k4.mono Yo)) k5 Yo Yo,Yo⟩
   ·have hkeep:∀s:Nat,s<4→jF n.id n.fr (s:Int) kind many c.m=false∨(fL n.id n.fr (L.take i) (s:Int) kind many).isSome=true:=λs hs=>Or.inl (by unfold jF;rw[decide_eq_false (show ¬c.m.R=n.fr from h2)];simp)
    refine aD (aJ ?_)
    refine Yq (aZ (b:=true) _ _ rfl (aB rfl b15) (aB rfl b14) (decide_eq_true Yo) _) ?_
    refine aF ?_
    refine aK (bP (Ye rfl) (bL ?_))
    refine aK (aU ?_)
    refine aD ?_
    refine Yq (sI _ _ rfl (aB rfl b13) (aB rfl b15) rfl hin _) ?_
    refine Yq (pY _ rfl (Ye rfl) hcell) ?_
    refine aS rfl Yw (λK hK=>?_)
    refine aT _ _ rfl lX Yd ?_
    intro w4 m4 k4 z4
    have mn4:=mn.below k4
    have mr4:=mr.below k4
    have mh4:=mh.below k4
    refine hK _ _ ?_
    clear hK K
    refine bS Yw (λK hK=>?_)
    refine aI _ _ _ _ rfl eD (Ye rfl) (Ye rfl) m4 Yc (qJ _) rfl ?_
    intro w5 mm5 k5 z5
    have mm5:=Vh.congr mm5 (fA _ _)
    have mn5:=mn4.kept k5 Yo
    have mr5:=mr4.kept k5 Yo
    have mh5:=mh4.kept k5 Yo
    refine hK _ ?_
    clear hK K
    refine aF ?_
    refine aD ?_
    refine Yq (wL rfl (Ye rfl) _) ?_
    refine Yq (aN _ _ rfl bT (Ye rfl) mm5 Yc rfl) ?_
    refine Yp ?_
    refine Yq (dA (b:=true) _ _ rfl (Ye rfl) (Ye rfl) (decide_eq_true h1) _) ?_
    refine Yp ?_
    refine Yq (yF rfl (Ye rfl) _) ?_
    refine Yq (aN _ _ rfl bT (Ye rfl) mm5 Yc rfl) ?_
    refine Yq (qV rfl (aB rfl b4) _) ?_
    refine Yq (aN _ _ rfl bT (Ye rfl) mn5 Yc rfl) ?_
    refine Yq (dA (b:=false) _ _ rfl (Ye rfl) (Ye rfl) (decide_eq_false h2) _) ?_
    refine Yq (aX _ _ _ rfl (Ye rfl) (Ye rfl) _) ?_
    refine Yp ?_
    iterate 5 refine Yu ?_
    refine Yq (bI _ _ _ rfl (Ye rfl) (aG _ _) _) ?_
    refine Yp ?_
    refine aF ?_
    refine aD ?_
    iterate 2 refine Yp ?_
    iterate 3 refine Yu ?_
    refine Yq (bI _ _ _ rfl (Ye rfl) (aG _ _) _) ?_
    refine Yp ?_
    iterate 5 refine Yu ?_
    refine Yq (bI _ _ _ rfl (Ye rfl) (aG _ _) _) ?_
    refine Yp ?_
    iterate 6 refine Yu ?_
    refine Yq (bI _ _ _ rfl (Ye rfl) (aG _ _) _) ?_
    refine aF ?_
    refine bM (Ye rfl) (iW ?_)
    refine aR ?_
    refine Yq (bW _ _ rfl (aB rfl b15) (aG _ _) Yo Yo _) ?_
    refine Yp ?_
    exact bQ ⟨L.length-(i+1),Yo,i+1,Yo,Yo,(bZ _ _).trans hs,(aO _ _).trans hd,(aB rfl b2),(aB rfl b3),(aB rfl b4),(aB rfl b8),(aB rfl b9),(aB rfl b13),(aB rfl b14),(Ye rfl).trans (by rw[Int.natCast_add];rfl),mn5,mr5,by rw[nP hc];exact Vh.congr mh5 (uM hkeep),aC (kB.trans (k4.mono Yo)) k5 Yo Yo,Yo⟩
  ·have hkeep:∀s:Nat,s<4→jF n.id n.fr (s:Int) kind many c.m=false∨(fL n.id n.fr (L.take i) (s:Int) kind many).isSome=true:=λs hs=>Or.inl (by unfold jF;rw[decide_eq_false (show ¬c.m.K=kind from h1)];simp)
   refine aD (aJ ?_)
   refine Yq (aZ (b:=true) _ _ rfl (aB rfl b15) (aB rfl b14) (decide_eq_true Yo) _) ?_
   refine aF ?_
   refine aK (bP (Ye rfl) (bL ?_))
   refine aK (aU ?_)
   refine aD ?_
   refine Yq (sI _ _ rfl (aB rfl b13) (aB rfl b15) rfl hin _) ?_
   refine Yq (pY _ rfl (Ye rfl) hcell) ?_
   refine aS rfl Yw (λK hK=>?_)
   refine aT _ _ rfl lX Yd ?_
   intro w4 m4 k4 z4
   have mn4:=mn.below k4
   have mr4:=mr.below k4
   have mh4:=mh.below k4
   refine hK _ _ ?_
   clear hK K
   refine bS Yw (λK hK=>?_)
   refine aI _ _ _ _ rfl eD (Ye rfl) (Ye rfl) m4 Yc (qJ _) rfl ?_
   intro w5 mm5 k5 z5
   have mm5:=Vh.congr mm5 (fA _ _)
   have mn5:=mn4.kept k5 Yo
   have mr5:=mr4.kept k5 Yo
   have mh5:=mh4.kept k5 Yo
   refine hK _ ?_
   clear hK K
   refine aF ?_
   refine aD ?_
   refine Yq (wL rfl (Ye rfl) _) ?_
   refine Yq (aN _ _ rfl bT (Ye rfl) mm5 Yc rfl) ?_
   refine Yp ?_
   refine Yq (dA (b:=false) _ _ rfl (Ye rfl) (Ye rfl) (decide_eq_false h1) _) ?_
   refine Yp ?_
   iterate 5 refine Yu ?_
   refine Yq (bI _ _ _ rfl (Ye rfl) (aG _ _) _) ?_
   refine Yp ?_
   iterate 5 refine Yu ?_
   refine Yq (bI _ _ _ rfl (Ye rfl) (aG _ _) _) ?_
   refine Yp ?_
   refine aF ?_
   refine aD ?_
   iterate 2 refine Yp ?_
   iterate 3 refine Yu ?_
   refine Yq (bI _ _ _ rfl (Ye rfl) (aG _ _) _) ?_
   refine Yp ?_
   iterate 5 refine Yu ?_
   refine Yq (bI _ _ _ rfl (Ye rfl) (aG _ _) _) ?_
   refine Yp ?_
   iterate 6 refine Yu ?_
   refine Yq (bI _ _ _ rfl (Ye rfl) (aG _ _) _) ?_
   refine aF ?_
   refine bM (Ye rfl) (iW ?_)
   refine aR ?_
   refine Yq (bW _ _ rfl (aB rfl b15) (aG _ _) Yo Yo _) ?_
   refine Yp ?_
   exact bQ ⟨L.length-(i+1),Yo,i+1,Yo,Yo,(bZ _ _).trans hs,(aO _ _).trans hd,(aB rfl b2),(aB rfl b3),(aB rfl b4),(aB rfl b8),(aB rfl b9),(aB rfl b13),(aB rfl b14),(Ye rfl).trans (by rw[Int.natCast_add];rfl),mn5,mr5,by rw[nP hc];exact Vh.congr mh5 (uM hkeep),aC (kB.trans (k4.mono Yo)) k5 Yo Yo,Yo⟩
 ·refine aD (aJ ?_)
  refine Yq (aZ (b:=false) _ _ rfl (aB rfl b15) (aB rfl b14) (decide_eq_false Yo) _) ?_
  obtain rfl:i=L.length:=Yo
  rw[List.take_length] at mh
  refine aF ?_
  refine aK (bM (Ye rfl) (dS (fU ?_)))
  refine aD ?_
  refine Yq (aP _ _ rfl vM (aB rfl b9) mh Yc) ?_
  refine bS Yw (λK hK=>?_)
  refine aI _ _ _ _ rfl vM (aB rfl b8) (Ye rfl) mr Yc (aPn _ _ _ _ _) rfl ?_
  intro w4 mm4 k4 z4
  have mr4:=Vh.congr mm4 (fA _ _)
  have mn4:=mn.kept k4 Yo
  have mh4:=mh.kept k4 Yo
  refine hK _ ?_
  clear hK K
  refine aF ?_
  refine bD (bB ((aO _ _).trans hd) (qN rfl (aB rfl b8) vM mr4 (Nat.le_refl _)) ⟨rfl,aC kB k4 Yo Yo⟩)
theorem aFs(x:Value)(w:World):(callFunc 85 #[x]).run Tryz.prog w=.ok (.enter 85 #[x]) w:=by go_simp
def kI(n:Nd)(L:List Lm)(p q:Nat):Option Lm:=match fL n.id n.fr L (p:Int) 5 24,fL n.id n.fr L (q:Int) 5 24 with|some a,some b=>if a.m.L=b.m.L then some a else none|_,_=>none
def yI(n:Nd)(L:List Lm):Option Lm:=prs.findSome? λp=>kI n L p.1 p.2
def aHw:Option Lm→Value
 |some c=>lmV c
 |none=>.slice none 0 0
theorem aLD{n:Nd}{L:List Lm}(h:∀p q,p<q→q<4→kI n L p q=none):yI n L=none:=by
 unfold yI
 rw[List.findSome?_eq_none_iff]
 intro p hp
 unfold prs at hp
 simp only[List.mem_cons,List.not_mem_nil,or_false] at hp
 rcases hp with rfl|rfl|rfl|rfl|rfl|rfl<;>exact h _ _ Yc Yc
theorem aJF{n:Nd}{L:List Lm}{i k:Nat}{c:Lm}(hik:i<k)(hk:k<4)(h:kI n L i k=some c)(hb:∀p q,p<q→q<4→(p<i∨(p=i∧q<k))→kI n L p q=none):yI n L=some c:=by
 unfold yI prs
 match i,k,hik,hk with
 |0,1,_,_=>simp only[List.findSome?,h]
 |0,2,_,_=>simp only[List.findSome?,hb 0 1 Yc Yc Yo,h]
 |0,3,_,_=>simp only[List.findSome?,hb 0 1 Yc Yc Yo,hb 0 2 Yc Yc Yo,h]
 |1,2,_,_=>simp only[List.findSome?,hb 0 1 Yc Yc Yo,hb 0 2 Yc Yc Yo,hb 0 3 Yc Yc Yo,h]
 |1,3,_,_=>simp only[List.findSome?,hb 0 1 Yc Yc Yo,hb 0 2 Yc Yc Yo,hb 0 3 Yc Yc Yo,hb 1 2 Yc Yc Yo,h]
 |2,3,_,_=>simp only[List.findSome?,hb 0 1 Yc Yc Yo,hb 0 2 Yc Yc Yo,hb 0 3 Yc Yc Yo,hb 1 2 Yc Yc Yo,hb 1 3 Yc Yc Yo,h]
 |i+3,k,h1,h2=>exact absurd h1 Yo
def sO(i:Nat):Nat:=if 4=i then 0 else i
theorem aBS{i:Nat}(h:i≠4):sO i=i:=if_neg (Ne.symm h)
section
variable {f:Operand→Value} {o:Oper}
theorem aMr (x y : Operand) (ho : o.op = .slice 147 x (some y) none none) {b i : Nat} {z : Int} (hx : f x = .pointer (some ⟨b, 0, none⟩)) (hy : f y = .int .i64 z) (hz : z = (i : Int)) (hi : i ≤ 4) (w : World) :
  (execOp f o).run Tryz.prog w=.ok (.value (.slice (some ⟨b,sO i,none⟩) (4-i) (4-i))) w:=by
 subst hz
 have:i=0∨i=1∨i=2∨i=3∨i=4:=Yo
 unfold execOp
 rw[ho]
 simp only[Option.map_some,Option.map_none]
 rw[hx,hy]
 clear hx hy ho hi
 rcases this with rfl|rfl|rfl|rfl|rfl<;>go_simp<;>rfl
theorem aJl(x:Operand)(ho:o.op=.call { callee:=.builtin .len,args:=#[x],argTypes:=#[184] }){ao:Option Addr}{n c:Nat}(hx:f x=.slice ao n c)(w:World):(execOp f o).run Tryz.prog w=.ok (.value (.int .i64 ((n:Nat):Int))) w:=by
 unfold execOp
 rw[ho]
 dsimp only
 go_simp
theorem zL (x y : Operand) (ho : o.op = .indexAddr 184 x y) {b off n cap i : Nat} {z : Int} (hx : f x = .slice (some ⟨b, off, none⟩) n cap) (hy : f y = .int .i64 z) (hz : z = (i : Int)) (hi : i < n) (w : World) :
  (execOp f o).run Tryz.prog w=.ok (.value (.pointer (some ⟨b,off+i,none⟩))) w:=by
 subst hz
 have hi2:(i:Int)<n:=Yo
 unfold execOp
 rw[ho]
 dsimp only
 rw[hx,hy]
 go_simp
end
set_option maxHeartbeats 4000000 in
theorem aIQ (n : Nd) (mo : Option Addr) (L : List Lm) (w : World) (hmr : MRd w mo L) :
  Calls Tryz.prog 85 #[aV (fE n.id n.fr L 5 24) 0 4] w λe w'=>e=.returned (aHw (yI n L))∧Below w.heap.size w w':=by
 refine bX Tryz.func85 rfl 31 rfl Yd (λA hs hd hb=>?_)
 have b0:A.eval (.tmp 0)=aV (fE n.id n.fr L 5 24) 0 4:=hb 0 _ rfl
 clear hb
 refine aD (aJ ?_)
 refine aS rfl Yw (λK hK=>?_)
 refine dX _ _ _ rfl (aB rfl b0) Yd ?_
 intro w1 m1 k1 z1
 refine hK _ _ ?_
 clear hK K
 refine Yp ?_
 refine aF ?_
 refine aK ?_
 refine aD ?_
 refine Yq (aP _ _ rfl vM (Ye rfl) m1 Yc) ?_
 refine Yp ?_
 refine aF ?_
 refine aU ?_
 refine dY (λq A W=>∃i:Nat,i≤4∧4-i≤q∧A.tmps.size=31∧A.defers=[]∧A.eval (.tmp 1)=.pointer (some ⟨w.heap.size,0,none⟩)∧A.eval (.tmp 7)=aV (fE n.id n.fr L 5 24) 0 4∧A.eval (.tmp 8)=.int .i64 (i:Int)∧(∀p q,p<q→q<4→p<i→kI n L p q=none)∧Vh 147 W w.heap.size 4 4 (fE n.id n.fr L 5 24)∧Below w.heap.size w W∧w1.heap.size≤W.heap.size) 4 ⟨0,Yo,Yo,(bZ _ _).trans hs,(aO _ _).trans hd,(Ye rfl),(Ye rfl),(Ye rfl),λp q _ _ h=>absurd h Yo,m1,k1,Yo⟩ (λq B W hI2=>?_)
 clear b0 hs hd
 obtain⟨i,hi,hr2,hs,hd,b1,b7,b8,hno,mh,kB,hW⟩:=hI2
 by_cases hin:i<4
 ·refine aD (aJ ?_)
  refine Yq (aZ (b:=true) _ _ rfl (aB rfl b8) (aG _ _) (decide_eq_true Yo) _) ?_
  refine aF ?_
  refine aK (bP (Ye rfl) (bL ?_))
  refine aK (aU ?_)
  refine aD ?_
  refine Yp ?_
  refine Yq (mV _ _ _ _ rfl Tryz.underlying147 gI (aB rfl b7) (aB rfl b8) rfl hin _) ?_
  iterate 2 refine Yp ?_
  refine aF ?_
  refine aD ?_
  refine Yp ?_
  refine Yq (bW _ _ rfl (Ye rfl) (aG _ _) Yo Yo _) ?_
  refine Yq (aMr (i:=i+1) _ _ rfl (aB rfl b1) (Ye rfl) (by rw[Int.natCast_add];rfl) Yo _) ?_
  refine Yq (aJl _ rfl (Ye rfl) _) ?_
  refine Yp ?_
  refine aF ?_
  refine aU ?_
  refine dY (λq A W=>∃x:Nat,x≤3-i∧3-i-x≤q∧A.tmps.size=31∧A.defers=[]∧A.eval (.tmp 1)=.pointer (some ⟨w.heap.size,0,none⟩)∧A.eval (.tmp 7)=aV (fE n.id n.fr L 5 24) 0 4∧A.eval (.tmp 8)=.int .i64 (i:Int)∧A.eval (.tmp 3)=.int .i64 (i:Int)∧A.eval (.tmp 4)=fE n.id n.fr L 5 24 i∧A.eval (.tmp 14)=.slice (some ⟨w.heap.size,sO (i+1),none⟩) (4-(i+1)) (4-(i+1))∧A.eval (.tmp 15)=.int .i64 ((4-(i+1):Nat):Int)∧A.eval (.tmp 16)=.int .i64 (x:Int)∧(∀p q,p<q→q<4→(p<i∨(p=i∧q<i+1+x))→kI n L p q=none)∧Vh 147 W w.heap.size 4 4 (fE n.id n.fr L 5 24)∧Below w.heap.size w W∧w1.heap.size≤W.heap.size) (3-i) ⟨0,Yo,Yo,(bZ _ _).trans hs,(aO _ _).trans hd,(aB rfl b1),(aB rfl b7),(aB rfl b8),(Ye rfl),(Ye rfl),(Ye rfl),(Ye rfl),(Ye rfl),(λp q h1 h2 h3=>hno p q h1 h2 Yo),mh,kB,hW⟩ (λq3 B3 W3 hI3=>?_)
  clear b1 b7 b8 hs hd mh hno
  obtain⟨x,hx,hr3,hs,hd,b1,b7,b8,b3,b4,b14,b15,b16,hno,mh,kB3,hW3⟩:=hI3
  by_cases hin3:x<3-i
  ·have hi3:i+1≠4:=Yo
   have hin3b:x<4-(i+1):=Yo
   have esO:sO (i+1)+x=i+1+x:=by rw[aBS hi3]
   have b4r:=b4
   rcases hfi:fL n.id n.fr L (i:Int) 5 24 with _|ci
   ·have b4:B3.eval (.tmp 4)=.slice none 0 0:=b4.trans (by unfold fE;rw[hfi])
    have hpk:kI n L i (i+1+x)=none:=by unfold kI;rw[hfi]
    obtain⟨ok,hok⟩:∃v,fE n.id n.fr L 5 24 (sO (i+1)+x)=v:=⟨_,rfl⟩
    refine aD (aJ ?_)
    refine Yq (aZ (b:=true) _ _ rfl (aB rfl b16) (aB rfl b15) (decide_eq_true Yo) _) ?_
    refine aF ?_
    refine aK (bP (Ye rfl) (bL ?_))
    refine aK (aU ?_)
    refine aD ?_
    refine Yq (zL _ _ rfl (aB rfl b14) (aB rfl b16) rfl hin3b _) ?_
    refine Yq (aN _ _ rfl gI (Ye rfl) mh (by rw[aBS hi3];omega) hok) ?_
    refine Yp ?_
    refine aF ?_
    refine aD ?_
    refine Yp ?_
    refine Yq (eP _ rfl (Ye rfl) _) ?_
    refine Yq (kG (b:=false) _ _ rfl (Ye rfl) (aG _ _) (decide_eq_false Yo) _) ?_
    refine Yp ?_
    iterate 3 refine Yu ?_
    refine Yq (bI _ _ _ rfl (Ye rfl) (aG _ _) _) ?_
    refine aF ?_
    refine bM (Ye rfl) (iW ?_)
    refine aR ?_
    refine Yq (bW _ _ rfl (aB rfl b16) (aG _ _) Yo Yo _) ?_
    refine Yp ?_
    exact bQ ⟨3-i-(x+1),Yo,x+1,Yo,Yo,(bZ _ _).trans hs,(aO _ _).trans hd,(aB rfl b1),(aB rfl b7),(aB rfl b8),(aB rfl b3),(aB rfl b4r),(aB rfl b14),(aB rfl b15),(Ye rfl).trans (by rw[Int.natCast_add];rfl),(λp q h1 h2 h3=>by
     by_cases e:p=i∧q=i+1+x
     ·rw[e.1,e.2];exact hpk
     ·exact hno p q h1 h2 Yo),mh,kB3,Yo⟩
   ·obtain⟨mci,fci⟩:=uX hfi
    have lci:=uO fci
    have b4:B3.eval (.tmp 4)=.slice ci.ao ci.m.L.length ci.cap:=b4.trans (by unfold fE;rw[hfi];rfl)
    rcases hfk:fL n.id n.fr L ((i+1+x:Nat):Int) 5 24 with _|ck
    ·have hok:fE n.id n.fr L 5 24 (sO (i+1)+x)=.slice none 0 0:=by rw[esO];unfold fE;rw[hfk]
     have hpk:kI n L i (i+1+x)=none:=by unfold kI;rw[hfi,hfk]
     have hnil:¬ci.m.L=[]:=λe=>by rw[e] at lci;exact absurd lci Yc
     refine aD (aJ ?_)
     refine Yq (aZ (b:=true) _ _ rfl (aB rfl b16) (aB rfl b15) (decide_eq_true Yo) _) ?_
     refine aF ?_
     refine aK (bP (Ye rfl) (bL ?_))
     refine aK (aU ?_)
     refine aD ?_
     refine Yq (zL _ _ rfl (aB rfl b14) (aB rfl b16) rfl hin3b _) ?_
     refine Yq (aN _ _ rfl gI (Ye rfl) mh (by rw[aBS hi3];omega) hok) ?_
     refine Yp ?_
     refine aF ?_
     refine aD ?_
     refine Yp ?_
     refine Yq (eP _ rfl (Ye rfl) _) ?_
     refine Yq (kG (b:=true) _ _ rfl (Ye rfl) (aG _ _) (decide_eq_true Yo) _) ?_
     iterate 3 refine Yp ?_
     refine aS rfl (bC (j:=3) rfl rfl rfl (Ye rfl)) (λK hK=>?_)
     have C21:=aAa ci.m.L [] ci.ao none ci.cap 0 W3 (by have:=(hmr.2 ci mci).2.2;omega) ((hmr.2 ci mci).below kB3).1 (Or.inl ⟨rfl,rfl,rfl⟩)
     rw[decide_eq_false hnil] at C21
     refine dB _ 102 _ _ _ rfl (Ye rfl) (Ye rfl) (wM _ _ _) C21 ?_
     rintro e w21 ⟨rfl,k21⟩
     have n21:=k21.size
     have mh21:=mh.below k21
     refine⟨_,rfl,?_⟩
     refine hK _ _ ?_
     clear hK K
     refine Yq (aX _ _ _ rfl (Ye rfl) (Ye rfl) _) ?_
     refine aF ?_
     refine bM (Ye rfl) (iW ?_)
     refine aR ?_
     refine Yq (bW _ _ rfl (aB rfl b16) (aG _ _) Yo Yo _) ?_
     refine Yp ?_
     exact bQ ⟨3-i-(x+1),Yo,x+1,Yo,Yo,(bZ _ _).trans hs,(aO _ _).trans hd,(aB rfl b1),(aB rfl b7),(aB rfl b8),(aB rfl b3),(aB rfl b4r),(aB rfl b14),(aB rfl b15),(Ye rfl).trans (by rw[Int.natCast_add];rfl),(λp q h1 h2 h3=>by
      by_cases e:p=i∧q=i+1+x
      ·rw[e.1,e.2];exact hpk
      ·exact hno p q h1 h2 Yo),mh21,kB3.trans (k21.mono Yo),Yo⟩
    ·obtain⟨mck,fck⟩:=uX hfk
     have hok:fE n.id n.fr L 5 24 (sO (i+1)+x)=.slice ck.ao ck.m.L.length ck.cap:=by rw[esO];unfold fE;rw[hfk];rfl
     by_cases he:ci.m.L=ck.m.L
     ·have hpk:kI n L i (i+1+x)=some ci:=by unfold kI;rw[hfi,hfk];exact if_pos he
      refine aD (aJ ?_)
      refine Yq (aZ (b:=true) _ _ rfl (aB rfl b16) (aB rfl b15) (decide_eq_true Yo) _) ?_
      refine aF ?_
      refine aK (bP (Ye rfl) (bL ?_))
      refine aK (aU ?_)
      refine aD ?_
      refine Yq (zL _ _ rfl (aB rfl b14) (aB rfl b16) rfl hin3b _) ?_
      refine Yq (aN _ _ rfl gI (Ye rfl) mh (by rw[aBS hi3];omega) hok) ?_
      refine Yp ?_
      refine aF ?_
      refine aD ?_
      refine Yp ?_
      refine Yq (eP _ rfl (Ye rfl) _) ?_
      refine Yq (kG (b:=true) _ _ rfl (Ye rfl) (aG _ _) (decide_eq_true Yo) _) ?_
      iterate 3 refine Yp ?_
      refine aS rfl (bC (j:=3) rfl rfl rfl (Ye rfl)) (λK hK=>?_)
      have C21:=aAa ci.m.L ck.m.L ci.ao ck.ao ci.cap ck.cap W3 (by have:=(hmr.2 ci mci).2.2;omega) ((hmr.2 ci mci).below kB3).1 ((hmr.2 ck mck).below kB3).1
      rw[decide_eq_true he] at C21
      refine dB _ 102 _ _ _ rfl (Ye rfl) (Ye rfl) (wM _ _ _) C21 ?_
      rintro e w21 ⟨rfl,k21⟩
      have n21:=k21.size
      have mh21:=mh.below k21
      refine⟨_,rfl,?_⟩
      refine hK _ _ ?_
      clear hK K
      refine Yq (aX _ _ _ rfl (Ye rfl) (Ye rfl) _) ?_
      refine aF ?_
      refine bP (Ye rfl) ?_
      refine aD ?_
      iterate 2 refine Yp ?_
      refine aF ?_
      refine bD ?_
      simp only[Nx,Exit.inBlock,Exit.then]
      refine bB ((aO _ _).trans hd) (dW rfl (Ye rfl)) ⟨?_,kB3.trans (k21.mono Yo)⟩
      unfold aHw
      rw[aJF (show i<i+1+x by omega) Yo hpk (λp q h1 h2 h3=>hno p q h1 h2 h3)]
      rfl
     ·have hpk:kI n L i (i+1+x)=none:=by unfold kI;rw[hfi,hfk];exact if_neg he
      refine aD (aJ ?_)
      refine Yq (aZ (b:=true) _ _ rfl (aB rfl b16) (aB rfl b15) (decide_eq_true Yo) _) ?_
      refine aF ?_
      refine aK (bP (Ye rfl) (bL ?_))
      refine aK (aU ?_)
      refine aD ?_
      refine Yq (zL _ _ rfl (aB rfl b14) (aB rfl b16) rfl hin3b _) ?_
      refine Yq (aN _ _ rfl gI (Ye rfl) mh (by rw[aBS hi3];omega) hok) ?_
      refine Yp ?_
      refine aF ?_
      refine aD ?_
      refine Yp ?_
      refine Yq (eP _ rfl (Ye rfl) _) ?_
      refine Yq (kG (b:=true) _ _ rfl (Ye rfl) (aG _ _) (decide_eq_true Yo) _) ?_
      iterate 3 refine Yp ?_
      refine aS rfl (bC (j:=3) rfl rfl rfl (Ye rfl)) (λK hK=>?_)
      have C21:=aAa ci.m.L ck.m.L ci.ao ck.ao ci.cap ck.cap W3 (by have:=(hmr.2 ci mci).2.2;omega) ((hmr.2 ci mci).below kB3).1 ((hmr.2 ck mck).below kB3).1
      rw[decide_eq_false he] at C21
      refine dB _ 102 _ _ _ rfl (Ye rfl) (Ye rfl) (wM _ _ _) C21 ?_
      rintro e w21 ⟨rfl,k21⟩
      have n21:=k21.size
      have mh21:=mh.below k21
      refine⟨_,rfl,?_⟩
      refine hK _ _ ?_
      clear hK K
      refine Yq (aX _ _ _ rfl (Ye rfl) (Ye rfl) _) ?_
      refine aF ?_
      refine bM (Ye rfl) (iW ?_)
      refine aR ?_
      refine Yq (bW _ _ rfl (aB rfl b16) (aG _ _) Yo Yo _) ?_
      refine Yp ?_
      exact bQ ⟨3-i-(x+1),Yo,x+1,Yo,Yo,(bZ _ _).trans hs,(aO _ _).trans hd,(aB rfl b1),(aB rfl b7),(aB rfl b8),(aB rfl b3),(aB rfl b4r),(aB rfl b14),(aB rfl b15),(Ye rfl).trans (by rw[Int.natCast_add];rfl),(λp q h1 h2 h3=>by
       by_cases e:p=i∧q=i+1+x
       ·rw[e.1,e.2];exact hpk
       ·exact hno p q h1 h2 Yo),mh21,kB3.trans (k21.mono Yo),Yo⟩
  ·refine aD (aJ ?_)
   refine Yq (aZ (b:=false) _ _ rfl (aB rfl b16) (aB rfl b15) (decide_eq_false Yo) _) ?_
   refine aF ?_
   refine aK (bM (Ye rfl) (dS (aFi ?_)))
   refine aR ?_
   refine Yq (bW _ _ rfl (aB rfl b8) (aG _ _) Yo Yo _) ?_
   refine Yp ?_
   exact bQ ⟨4-(i+1),Yo,i+1,Yo,Yo,(bZ _ _).trans hs,(aO _ _).trans hd,(aB rfl b1),(aB rfl b7),(Ye rfl).trans (by rw[Int.natCast_add];rfl),(λp q h1 h2 h3=>hno p q h1 h2 Yo),mh,kB3,hW3⟩
 ·refine aD (aJ ?_)
  refine Yq (aZ (b:=false) _ _ rfl (aB rfl b8) (aG _ _) (decide_eq_false Yo) _) ?_
  refine aF ?_
  refine aK (bM (Ye rfl) (dS (fU ?_)))
  refine aD ?_
  refine Yp ?_
  refine aF ?_
  refine bD (bB ((aO _ _).trans hd) (dW rfl (Ye rfl)) ⟨?_,kB⟩)
  unfold aHw
  rw[aLD (λp q h1 h2=>hno p q h1 h2 Yo)]
def vG(n:Nd)(l:List Ms):Nd:=if jR n.id then fD else iP n l
def aTM(fn:Nat):Prop:=∀(n:Nd) (ao:Option Addr) (c:Nat) (mo:Option Addr) (mc:Nat) (L:List Lm) (w:World),NdOK n→aAJ w n ao c→MRd w mo L→L.length≤140737488351232→L.length≤mc→(∀m,m∈L→∀i,R64 (gL m.m.L i))→
 Calls Tryz.prog fn #[kT n (.slice ao n.vA.length c),.slice mo L.length mc] w λe w'=>∃a' c',e=.returned (.tuple #[kT (iP n (L.map Lm.m)) (.slice a' (iP n (L.map Lm.m)).vA.length c'),aV (xC (vG n (L.map Lm.m))) 0 14])∧oI w.heap.size w' (iP n (L.map Lm.m)) a' c'∧Below w.heap.size w w'
def cloT(n:Nd)(L:List Lm):Nd:=match yI n L with|some c=>if unOK c.m.L then { n with ax:=unA c.m.L,rl:=unR c.m.L } else n|none=>n
theorem aOO(n:Nd)(L:List Lm):(cloT n L).vA=n.vA:=by
 unfold cloT
 split
 ·split<;>rfl
 ·rfl
theorem aKo(n:Nd)(L:List Lm)(p:Nat×Nat):aDI n (L.map Lm.m) p=(kI n L p.1 p.2).map (λc=>c.m.L):=by
 unfold aDI kI
 have h1:=oG n L p.1 5 24
 have h2:=oG n L p.2 5 24
 rw[show ((24:Nat):Int)=24 from rfl] at h1 h2
 rw[←h1, ←h2]
 cases fL n.id n.fr L (p.1:Int) 5 24 with
 |none=>rfl
 |some a=>
  cases fL n.id n.fr L (p.2:Int) 5 24 with
  |none=>rfl
  |some b=>
   show (if a.m.L=b.m.L then some a.m.L else none)=Option.map _ (if a.m.L=b.m.L then some a else none)
   split<;>rfl
theorem aKN{α β γ:Type}(g:α→Option β)(f:β→γ)(l:List α):l.findSome? (λp=>(g p).map f)=(l.findSome? g).map f:=by
 induction l with
 |nil=>rfl
 |cons x l ih=>
  rw[List.findSome?_cons,List.findSome?_cons]
  cases g x with
  |none=>exact ih
  |some b=>rfl
theorem aOp(n:Nd)(L:List Lm):prs.findSome? (aDI n (L.map Lm.m))=(yI n L).map (λc=>c.m.L):=by
 unfold yI
 rw[←aKN]
 congr 1
 funext p
 exact aKo n L p
theorem aCT{n:Nd}{l:List Ms}(hno:jR n.id=false)(h:¬(n.vS=true∧n.vX≠n.dg)):iP n l=n:=by
 unfold iP aHt
 rw[if_neg (by rw[hno];decide),if_neg h]
theorem aLr{n:Nd}{L:List Lm}(hno:jR n.id=false)(h:n.vS=true∧n.vX≠n.dg):iP n (L.map Lm.m)=cloT n L:=by
 unfold iP aHt cloT
 rw[if_neg (by rw[hno];decide),if_pos h,aOp]
 cases yI n L<;>rfl
theorem aLX{n:Nd}{L:List Lm}{p q:Nat}{c:Lm}(h:kI n L p q=some c):c∈L∧c.m.L.length=24:=by
 unfold kI at h
 cases h1:fL n.id n.fr L (p:Int) 5 24 with
 |none=>rw[h1] at h;cases h
 |some a=>
  rw[h1] at h
  cases h2:fL n.id n.fr L (q:Int) 5 24 with
  |none=>rw[h2] at h;cases h
  |some b=>
   rw[h2] at h
   dsimp only at h
   split at h
   ·cases h
    obtain⟨m,f⟩:=uX h1
    exact⟨m,by have:=uO f;omega⟩
   ·cases h
theorem aPm{n:Nd}{L:List Lm}{c:Lm}(h:yI n L=some c):c∈L∧c.m.L.length=24:=by
 unfold yI at h
 obtain⟨p,_,hp⟩:=List.exists_of_findSome?_eq_some h
 exact aLX hp
theorem aOs{n:Nd}{L:List Lm}{mo:Option Addr}{w:World}(hmr:MRd w mo L):∃(to:Option Addr) (tc:Nat) (v:List Int),aHw (yI n L)=.slice to v.length tc∧Sr w to v.length tc (iF (gL v))∧v.length≤tc∧movN n v=cloT n L:=by
 cases h:yI n L with
 |none=>exact⟨none,0,[],rfl,Or.inl ⟨rfl,rfl,rfl⟩,Nat.le_refl _,by unfold movN cloT;rw[h];rfl⟩
 |some c=>
  obtain⟨m,hl⟩:=aPm h
  refine⟨c.ao,c.cap,c.m.L,rfl,(hmr.2 c m).1,(hmr.2 c m).2.1,?_⟩
  unfold movN cloT
  rw[h,decide_eq_true hl,Bool.true_and]
set_option maxHeartbeats 4000000 in
theorem aFn:aTM 63:=by
 intro n ao c mo mc L w hok hag hmr hN hmc hRL
 have hag:Sr w ao n.vA.length c (tF (bA n)):=hag
 refine bX Tryz.func63 rfl 34 rfl Yd (λA hs hd hb=>?_)
 have b0:A.eval (.tmp 0)=kT n (.slice ao n.vA.length c):=hb 0 _ rfl
 have b1:A.eval (.tmp 1)=.slice mo L.length mc:=hb 1 _ rfl
 clear hb
 refine aD (aJ ?_)
 refine aS rfl Yw (λK hK=>?_)
 refine dX _ _ _ rfl (aB rfl b0) Yd ?_
 intro w1 m1 k1 z1
 have sr1:=hag.below k1
 refine hK _ _ ?_
 clear hK K
 refine aS rfl Yw (λK hK=>?_)
 refine aT _ _ rfl nA Yd ?_
 intro w2 m2 k2 z2
 have mn2:=m1.below k2
 have sr2:=sr1.below k2
 refine hK _ _ ?_
 clear hK K
 refine aS rfl Yw (λK hK=>?_)
 refine aT _ _ rfl aBQ Yd ?_
 intro w3 m3 k3 z3
 have mn3:=mn2.below k3
 have mr3:=m2.below k3
 have sr3:=sr2.below k3
 refine hK _ _ ?_
 clear hK K
 refine aF ?_
 refine aD ?_
 refine Yq (aP _ _ rfl aW (Ye rfl) mn3 Yc) ?_
 refine aS rfl Yw (λK hK=>?_)
 refine bN _ 70 _ _ rfl (Ye rfl) (oN _ _) (uL n ao c _ sr3 hok.vA) ?_
 rintro e w4 ⟨a3,c3,rfl,o4,k4⟩
 have n4:=k4.size
 have mn4:=mn3.below k4
 have mr4:=mr3.below k4
 have mq4:=m3.below k4
 refine⟨_,rfl,?_⟩
 refine hK _ _ ?_
 clear hK K
 refine bS Yw (λK hK=>?_)
 refine aI _ _ _ _ rfl aW (Ye rfl) (Ye rfl) mn4 Yc (cK _ _ _ _) rfl ?_
 intro w5 mm5 k5 z5
 have mn5:=Vh.congr mm5 (dU _ _)
 have mr5:=mr4.kept k5 Yo
 have mq5:=mq4.kept k5 Yo
 have ow5:=bK o4 k5 (λe=>by have e1:=(o4.lt _ e).1;have e2:=(o4.lt _ e).2;omega)
 refine hK _ ?_
 clear hK K
 refine aF ?_
 refine aK ?_
 refine aD ?_
 refine Yq (kE rfl (Ye rfl) _) ?_
 refine Yq (aN _ _ rfl bT (Ye rfl) mn5 Yc rfl) ?_
 refine aS rfl Yw (λK hK=>?_)
 refine bN _ 52 _ _ rfl (Ye rfl) (fO _ _) (iO n.id _) ?_
 rintro e w6 ⟨rfl,k6⟩
 have n6:=k6.size
 have mn6:=mn5.below k6
 have mr6:=mr5.below k6
 have mq6:=mq5.below k6
 have ow6:=bG ow5 k6
 refine⟨_,rfl,?_⟩
 refine hK _ _ ?_
 clear hK K
 refine Yq (dQ _ _ rfl (Ye rfl) _) ?_
 refine aF ?_
 have kA:Below w.heap.size w w6:=(aC ((((k1).trans (k2.mono Yo)).trans (k3.mono Yo)).trans (k4.mono Yo)) k5 Yo Yo).trans (k6.mono Yo)
 refine oW (t:=jR n.id) ((Ye rfl).trans (by rw[Bool.not_not])) (λhno=>?_) (λhno=>?_)
 ·refine aD ?_
  refine Yq (aP _ _ rfl aW (Ye rfl) mn6 Yc) ?_
  refine Yq (aHf rfl _) ?_
  refine bS Yw (λK hK=>?_)
  refine aI _ _ _ _ rfl aW (Ye rfl) (Ye rfl) mr6 Yc (cK _ _ _ _) rfl ?_
  intro w7 mm7 k7 z7
  have mr7:=Vh.congr mm7 (dU _ _)
  have mn7:=mn6.kept k7 Yo
  have mq7:=mq6.kept k7 Yo
  have ow7:=bK ow6 k7 (λe=>by have e1:=(o4.lt _ e).1;have e2:=(o4.lt _ e).2;omega)
  refine hK _ ?_
  clear hK K
  refine bS Yw (λK hK=>?_)
  refine aI _ _ _ _ rfl mY (Ye rfl) (Ye rfl) mq7 Yc (qC _ _) rfl ?_
  intro w8 mm8 k8 z8
  have mq8:=Vh.congr mm8 (qB _ _)
  have mn8:=mn7.kept k8 Yo
  have mr8:=mr7.kept k8 Yo
  have ow8:=bK ow7 k8 (λe=>by have e1:=(o4.lt _ e).1;have e2:=(o4.lt _ e).2;omega)
  refine hK _ ?_
  clear hK K
  refine aF ?_
  refine bD ?_
  simp only[Nx,Exit.then]
  have e1:iP n (L.map Lm.m)=n:=by unfold iP;rw[if_pos hno]
  have e2:vG n (L.map Lm.m)=fD:=by unfold vG;rw[if_pos hno]
  rw[e1,e2]
  refine bB ((aO _ _).trans hd) (jC rfl (Ye rfl) (Ye rfl) aW mY mr8 (Nat.le_refl _) mq8 (Nat.le_refl _)) ⟨a3,c3,rfl,dL ow8 Yo,aC (aC kA k7 Yo Yo) k8 Yo Yo⟩
 ·rcases hvs:n.vS with _|_
  ·refine bL ?_
   refine aK ?_
   refine aD ?_
   refine Yq (nG rfl (Ye rfl) _) ?_
   refine Yq (aBI rfl (Ye rfl) _) ?_
   refine Yq (aN (v:=.bool false) _ _ rfl uD (Ye rfl) mn6 Yc (by show Value.bool n.vS=_;rw[hvs])) ?_
   refine Yp ?_
   iterate 6 refine Yu ?_
   refine Yq (bI _ _ _ rfl (Ye rfl) (aG _ _) _) ?_
   refine aF ?_
   refine bM (Ye rfl) (bL ?_)
   have eN:iP n (L.map Lm.m)=n:=aCT hno (by rintro⟨h,_⟩;rw[hvs] at h;cases h)
   have evA:n.vA=n.vA:=rfl
   refine aK ?_
   have kD:Below w.heap.size w w6.drew:=aQ (kA)
   have hS0:(λW=>Vh 55 W w.heap.size 74 74 (ndF n (.slice a3 n.vA.length c3))) w6.drew:=mn6
   have mn0:Vh _ w6.drew _ _ _ _:=mn6
   have mr0:Vh _ w6.drew _ _ _ _:=mr6
   have mq0:Vh _ w6.drew _ _ _ _:=mq6
   have ow0:=(show World.ownsRow w6.drew _ _ _ _ _ _ from ow6)
   have ez:w6.drew.heap.size=w6.heap.size:=rfl
   refine fZ (S:=λW=>Vh 55 W w.heap.size 74 74 (ndF n (.slice a3 n.vA.length c3))) (.rd 0 (.rd 1 (.go 2 (.go 3 (.go 4 .fin))))) [] (by kernel_rfl) (by kernel_rfl) ?_
   refine Yr rfl hS0 (λ_ hS=>aP _ _ rfl aW (Ye rfl) hS Yc) ?_
   refine Yr rfl hS0 (λ_ hS=>aP _ _ rfl aW (Ye rfl) hS Yc) ?_
   refine dI rfl rfl Yw (λK hK=>?_)
   refine bN _ 86 _ _ rfl (Ye rfl) (uA _ _) (aAb n (.slice a3 n.vA.length c3) _) ?_
   rintro e w7 ⟨rfl,k7⟩
   have n7:=k7.size
   have mn7:=hS0.below k7
   have mr7:=mr0.below k7
   have mq7:=mq0.below k7
   have ow7:=bG ow0 k7
   have hS7:(λW=>Vh 55 W w.heap.size 74 74 (ndF n (.slice a3 n.vA.length c3))) w7:=mn7
   refine⟨_,rfl,?_⟩
   refine hK _ _ (λ_ _=>hS7) ?_
   clear hK K
   refine eU rfl Yw (λK hK=>?_)
   refine aI _ _ _ _ rfl aW (Ye rfl) (Ye rfl) mr7 Yc (cK _ _ _ _) rfl ?_
   intro w8 mm8 k8 z8
   have mr8:=Vh.congr mm8 (dU _ _)
   have mn8:=mn7.kept k8 Yo
   have mq8:=mq7.kept k8 Yo
   have ow8:=bK ow7 k8 (λe=>by have e1:=(o4.lt _ e).1;have e2:=(o4.lt _ e).2;omega)
   have hS8:(λW=>Vh 55 W w.heap.size 74 74 (ndF n (.slice a3 n.vA.length c3))) w8:=mn8
   refine hK _ (λ_ _=>hS8) ?_
   clear hK K
   refine eU rfl Yw (λK hK=>?_)
   refine aI _ _ _ _ rfl mY (Ye rfl) (Ye rfl) mq8 Yc (qC _ _) rfl ?_
   intro w9 mm9 k9 z9
   have mq9:=Vh.congr mm9 (qB _ _)
   have mn9:=mn8.kept k9 Yo
   have mr9:=mr8.kept k9 Yo
   have ow9:=bK ow8 k9 (λe=>by have e1:=(o4.lt _ e).1;have e2:=(o4.lt _ e).2;omega)
   have hS9:(λW=>Vh 55 W w.heap.size 74 74 (ndF n (.slice a3 n.vA.length c3))) w9:=mn9
   refine hK _ (λ_ _=>hS9) ?_
   clear hK K
   have e2:vG n (L.map Lm.m)=iP n (L.map Lm.m):=by unfold vG;rw[if_neg (by rw[hno];decide)]
   refine iA ?_
   refine bD ?_
   rw[e2,eN]
   refine bB ((aO _ _).trans hd) (jC rfl (Ye rfl) (Ye rfl) aW mY mr9 (Nat.le_refl _) mq9 (Nat.le_refl _)) ⟨a3,c3,by rw[evA];rfl,?_,aC (aC (kD.trans (k7.mono Yo)) k8 Yo Yo) k9 Yo Yo⟩
   unfold oI bA
   rw[evA]
   exact dL ow9 Yo
  ·by_cases hvd:n.vX≠n.dg
   ·refine bL ?_
    refine aK ?_
    refine aD ?_
    refine Yq (nG rfl (Ye rfl) _) ?_
    refine Yq (aBI rfl (Ye rfl) _) ?_
    refine Yq (aN (v:=.bool true) _ _ rfl uD (Ye rfl) mn6 Yc (by show Value.bool n.vS=_;rw[hvs])) ?_
    refine Yp ?_
    refine Yq (nG rfl (Ye rfl) _) ?_
    refine Yq (aIC rfl (Ye rfl) _) ?_
    refine Yq (aN _ _ rfl bT (Ye rfl) mn6 Yc rfl) ?_
    refine Yq (yQ rfl (Ye rfl) _) ?_
    refine Yq (aN _ _ rfl bT (Ye rfl) mn6 Yc rfl) ?_
    refine Yq (eQ (b:=true) _ _ rfl (Ye rfl) (Ye rfl) (decide_eq_true hvd) _) ?_
    refine Yq (aX _ _ _ rfl (Ye rfl) (Ye rfl) _) ?_
    refine aF ?_
    refine bP (Ye rfl) ?_
    have kA0:Below w.heap.size w w6.drew:=aQ kA
    have hS0:(λW=>Vh 55 W w.heap.size 74 74 (ndF n (.slice a3 n.vA.length c3))) w6.drew:=mn6
    have mn0:Vh _ w6.drew _ _ _ _:=mn6
    have mr0:Vh _ w6.drew _ _ _ _:=mr6
    have mq0:Vh _ w6.drew _ _ _ _:=mq6
    have ow0:=(show World.ownsRow w6.drew _ _ _ _ _ _ from ow6)
    have ez:w6.drew.heap.size=w6.heap.size:=rfl
    refine fZ (S:=λW=>Vh 55 W w.heap.size 74 74 (ndF n (.slice a3 n.vA.length c3))) (.rd 0 (.rd 1 (.mv 2 (.go 3 (.go 4 (.go 5 (.go 6 .fin))))))) [6] (by kernel_rfl) (by kernel_rfl) ?_
    refine Yr rfl hS0 (λ_ hS=>aP _ _ rfl aW (Ye rfl) hS Yc) ?_
    refine Yr rfl hS0 (λ_ hS=>aP _ _ rfl aW (Ye rfl) hS Yc) ?_
    refine Yj ?_
    refine dI rfl rfl Yw (λK hK=>?_)
    refine jQ _ 72 _ _ _ _ _ rfl (Ye rfl) (Ye rfl) (aG _ _) (aG _ _) (oZ _ _ _ _ _) (vT n _ mo mc L 5 24 _ (hmr.below kA0) hN Yc) ?_
    rintro e w7 ⟨rfl,k7⟩
    have n7:=k7.size
    have mn7:=hS0.below k7
    have mr7:=mr0.below k7
    have mq7:=mq0.below k7
    have ow7:=bG ow0 k7
    have hS7:(λW=>Vh 55 W w.heap.size 74 74 (ndF n (.slice a3 n.vA.length c3))) w7:=mn7
    refine⟨_,rfl,?_⟩
    refine hK _ _ (λ_ _=>hS7) ?_
    clear hK K
    refine dI rfl rfl Yw (λK hK=>?_)
    refine bN _ 85 _ _ rfl (Ye rfl) (aFs _ _) (aIQ n mo L _ (hmr.below (kA0.trans (k7.mono Yo)))) ?_
    rintro e w8 ⟨rfl,k8⟩
    have n8:=k8.size
    have mn8:=mn7.below k8
    have mr8:=mr7.below k8
    have mq8:=mq7.below k8
    have ow8:=bG ow7 k8
    have hS8:(λW=>Vh 55 W w.heap.size 74 74 (ndF n (.slice a3 n.vA.length c3))) w8:=mn8
    obtain⟨to,tc,v,ev,hsr,htl,hmv⟩:=aOs (n:=n) (hmr.below ((kA0.trans (k7.mono Yo)).trans (k8.mono Yo)))
    refine⟨_,rfl,?_⟩
    refine hK _ _ (λ_ _=>hS8) ?_
    clear hK K
    refine dI rfl rfl Yw (λK hK=>?_)
    refine dB _ 84 _ _ _ rfl (Ye rfl) ((Ye rfl).trans ev) (aEq _ _ _) (aJw n (.slice a3 n.vA.length c3) v to tc _ rfl hsr htl) ?_
    rintro e w9 ⟨rfl,k9⟩
    have n9:=k9.size
    have mn9:=mn8.below k9
    have mr9:=mr8.below k9
    have mq9:=mq8.below k9
    have ow9:=bG ow8 k9
    have hS9:(λW=>Vh 55 W w.heap.size 74 74 (ndF n (.slice a3 n.vA.length c3))) w9:=mn9
    refine⟨_,rfl,?_⟩
    refine hK _ _ (λ_ _=>hS9) ?_
    clear hK K
    refine eU rfl Yw (λK hK=>?_)
    refine aI _ _ _ _ rfl aW (f:=ndF (movN n v) (.slice a3 n.vA.length c3)) (Ye rfl) (Ye rfl) mn9 Yc (cK _ _ _ _) rfl ?_
    intro w10 mm10 k10 z10
    have mn10:Vh 55 w10 w.heap.size 74 74 (ndF (cloT n L) (.slice a3 n.vA.length c3)):=by rw[←hmv];exact Vh.congr mm10 (dU _ _)
    have mr10:=mr9.kept k10 Yo
    have mq10:=mq9.kept k10 Yo
    have ow10:=bK ow9 k10 (λe=>by have e1:=(o4.lt _ e).1;have e2:=(o4.lt _ e).2;omega)
    refine hK _ (λh=>absurd h Yc) ?_
    clear hK K
    refine iA ?_
    clear hS0 mr0 mq0 ow0
    have eN:iP n (L.map Lm.m)=cloT n L:=aLr hno ⟨hvs,hvd⟩
    have evA:(cloT n L).vA=n.vA:=aOO n L
    refine aK ?_
    have kD:Below w.heap.size w w10.drew:=aQ (aC (((kA0.trans (k7.mono Yo)).trans (k8.mono Yo)).trans (k9.mono Yo)) k10 Yo Yo)
    have hS0:(λW=>Vh 55 W w.heap.size 74 74 (ndF (cloT n L) (.slice a3 n.vA.length c3))) w10.drew:=mn10
    have mn0:Vh _ w10.drew _ _ _ _:=mn10
    have mr0:Vh _ w10.drew _ _ _ _:=mr10
    have mq0:Vh _ w10.drew _ _ _ _:=mq10
    have ow0:=(show World.ownsRow w10.drew _ _ _ _ _ _ from ow10)
    have ez:w10.drew.heap.size=w10.heap.size:=rfl
    refine fZ (S:=λW=>Vh 55 W w.heap.size 74 74 (ndF (cloT n L) (.slice a3 n.vA.length c3))) (.rd 0 (.rd 1 (.go 2 (.go 3 (.go 4 .fin))))) [] (by kernel_rfl) (by kernel_rfl) ?_
    refine Yr rfl hS0 (λ_ hS=>aP _ _ rfl aW (Ye rfl) hS Yc) ?_
    refine Yr rfl hS0 (λ_ hS=>aP _ _ rfl aW (Ye rfl) hS Yc) ?_
    refine dI rfl rfl Yw (λK hK=>?_)
    refine bN _ 86 _ _ rfl (Ye rfl) (uA _ _) (aAb (cloT n L) (.slice a3 n.vA.length c3) _) ?_
    rintro e w11 ⟨rfl,k11⟩
    have n11:=k11.size
    have mn11:=hS0.below k11
    have mr11:=mr0.below k11
    have mq11:=mq0.below k11
    have ow11:=bG ow0 k11
    have hS11:(λW=>Vh 55 W w.heap.size 74 74 (ndF (cloT n L) (.slice a3 n.vA.length c3))) w11:=mn11
    refine⟨_,rfl,?_⟩
    refine hK _ _ (λ_ _=>hS11) ?_
    clear hK K
    refine eU rfl Yw (λK hK=>?_)
    refine aI _ _ _ _ rfl aW (Ye rfl) (Ye rfl) mr11 Yc (cK _ _ _ _) rfl ?_
    intro w12 mm12 k12 z12
    have mr12:=Vh.congr mm12 (dU _ _)
    have mn12:=mn11.kept k12 Yo
    have mq12:=mq11.kept k12 Yo
    have ow12:=bK ow11 k12 (λe=>by have e1:=(o4.lt _ e).1;have e2:=(o4.lt _ e).2;omega)
    have hS12:(λW=>Vh 55 W w.heap.size 74 74 (ndF (cloT n L) (.slice a3 n.vA.length c3))) w12:=mn12
    refine hK _ (λ_ _=>hS12) ?_
    clear hK K
    refine eU rfl Yw (λK hK=>?_)
    refine aI _ _ _ _ rfl mY (Ye rfl) (Ye rfl) mq12 Yc (qC _ _) rfl ?_
    intro w13 mm13 k13 z13
    have mq13:=Vh.congr mm13 (qB _ _)
    have mn13:=mn12.kept k13 Yo
    have mr13:=mr12.kept k13 Yo
    have ow13:=bK ow12 k13 (λe=>by have e1:=(o4.lt _ e).1;have e2:=(o4.lt _ e).2;omega)
    have hS13:(λW=>Vh 55 W w.heap.size 74 74 (ndF (cloT n L) (.slice a3 n.vA.length c3))) w13:=mn13
    refine hK _ (λ_ _=>hS13) ?_
    clear hK K
    have e2:vG n (L.map Lm.m)=iP n (L.map Lm.m):=by unfold vG;rw[if_neg (by rw[hno];decide)]
    refine iA ?_
    refine bD ?_
    rw[e2,eN]
    refine bB ((aO _ _).trans hd) (jC rfl (Ye rfl) (Ye rfl) aW mY mr13 (Nat.le_refl _) mq13 (Nat.le_refl _)) ⟨a3,c3,by rw[evA];rfl,?_,aC (aC (kD.trans (k11.mono Yo)) k12 Yo Yo) k13 Yo Yo⟩
    unfold oI bA
    rw[evA]
    exact dL ow13 Yo
   ·have hvd:n.vX=n.dg:=Classical.not_not.1 hvd
    refine bL ?_
    refine aK ?_
    refine aD ?_
    refine Yq (nG rfl (Ye rfl) _) ?_
    refine Yq (aBI rfl (Ye rfl) _) ?_
    refine Yq (aN (v:=.bool true) _ _ rfl uD (Ye rfl) mn6 Yc (by show Value.bool n.vS=_;rw[hvs])) ?_
    refine Yp ?_
    refine Yq (nG rfl (Ye rfl) _) ?_
    refine Yq (aIC rfl (Ye rfl) _) ?_
    refine Yq (aN _ _ rfl bT (Ye rfl) mn6 Yc rfl) ?_
    refine Yq (yQ rfl (Ye rfl) _) ?_
    refine Yq (aN _ _ rfl bT (Ye rfl) mn6 Yc rfl) ?_
    refine Yq (eQ (b:=false) _ _ rfl (Ye rfl) (Ye rfl) (decide_eq_false (λe=>e hvd)) _) ?_
    refine Yq (aX _ _ _ rfl (Ye rfl) (Ye rfl) _) ?_
    refine aF ?_
    refine bM (Ye rfl) (bL ?_)
    have eN:iP n (L.map Lm.m)=n:=aCT hno (by exact λh=>h.2 hvd)
    have evA:n.vA=n.vA:=rfl
    refine aK ?_
    have kD:Below w.heap.size w w6.drew:=aQ (kA)
    have hS0:(λW=>Vh 55 W w.heap.size 74 74 (ndF n (.slice a3 n.vA.length c3))) w6.drew:=mn6
    have mn0:Vh _ w6.drew _ _ _ _:=mn6
    have mr0:Vh _ w6.drew _ _ _ _:=mr6
    have mq0:Vh _ w6.drew _ _ _ _:=mq6
    have ow0:=(show World.ownsRow w6.drew _ _ _ _ _ _ from ow6)
    have ez:w6.drew.heap.size=w6.heap.size:=rfl
    refine fZ (S:=λW=>Vh 55 W w.heap.size 74 74 (ndF n (.slice a3 n.vA.length c3))) (.rd 0 (.rd 1 (.go 2 (.go 3 (.go 4 .fin))))) [] (by kernel_rfl) (by kernel_rfl) ?_
    refine Yr rfl hS0 (λ_ hS=>aP _ _ rfl aW (Ye rfl) hS Yc) ?_
    refine Yr rfl hS0 (λ_ hS=>aP _ _ rfl aW (Ye rfl) hS Yc) ?_
    refine dI rfl rfl Yw (λK hK=>?_)
    refine bN _ 86 _ _ rfl (Ye rfl) (uA _ _) (aAb n (.slice a3 n.vA.length c3) _) ?_
    rintro e w7 ⟨rfl,k7⟩
    have n7:=k7.size
    have mn7:=hS0.below k7
    have mr7:=mr0.below k7
    have mq7:=mq0.below k7
    have ow7:=bG ow0 k7
    have hS7:(λW=>Vh 55 W w.heap.size 74 74 (ndF n (.slice a3 n.vA.length c3))) w7:=mn7
    refine⟨_,rfl,?_⟩
    refine hK _ _ (λ_ _=>hS7) ?_
    clear hK K
    refine eU rfl Yw (λK hK=>?_)
    refine aI _ _ _ _ rfl aW (Ye rfl) (Ye rfl) mr7 Yc (cK _ _ _ _) rfl ?_
    intro w8 mm8 k8 z8
    have mr8:=Vh.congr mm8 (dU _ _)
    have mn8:=mn7.kept k8 Yo
    have mq8:=mq7.kept k8 Yo
    have ow8:=bK ow7 k8 (λe=>by have e1:=(o4.lt _ e).1;have e2:=(o4.lt _ e).2;omega)
    have hS8:(λW=>Vh 55 W w.heap.size 74 74 (ndF n (.slice a3 n.vA.length c3))) w8:=mn8
    refine hK _ (λ_ _=>hS8) ?_
    clear hK K
    refine eU rfl Yw (λK hK=>?_)
    refine aI _ _ _ _ rfl mY (Ye rfl) (Ye rfl) mq8 Yc (qC _ _) rfl ?_
    intro w9 mm9 k9 z9
    have mq9:=Vh.congr mm9 (qB _ _)
    have mn9:=mn8.kept k9 Yo
    have mr9:=mr8.kept k9 Yo
    have ow9:=bK ow8 k9 (λe=>by have e1:=(o4.lt _ e).1;have e2:=(o4.lt _ e).2;omega)
    have hS9:(λW=>Vh 55 W w.heap.size 74 74 (ndF n (.slice a3 n.vA.length c3))) w9:=mn9
    refine hK _ (λ_ _=>hS9) ?_
    clear hK K
    have e2:vG n (L.map Lm.m)=iP n (L.map Lm.m):=by unfold vG;rw[if_neg (by rw[hno];decide)]
    refine iA ?_
    refine bD ?_
    rw[e2,eN]
    refine bB ((aO _ _).trans hd) (jC rfl (Ye rfl) (Ye rfl) aW mY mr9 (Nat.le_refl _) mq9 (Nat.le_refl _)) ⟨a3,c3,by rw[evA];rfl,?_,aC (aC (kD.trans (k7.mono Yo)) k8 Yo Yo) k9 Yo Yo⟩
    unfold oI bA
    rw[evA]
    exact dL ow9 Yo
theorem aBF(o:Nat):∀(l:List Value) (k:Nat) (ds:Array Value),o+k+l.length≤ds.size→((l.zipIdx k).foldl (λa p=>a.setIfInBounds (o+p.2) p.1) ds).size=ds.size∧∀i,((l.zipIdx k).foldl (λa p=>a.setIfInBounds (o+p.2) p.1) ds)[i]?=if o+k≤i∧i<o+k+l.length then l[i-(o+k)]? else ds[i]?
 |[],k,ds,_=>⟨rfl,λi=>by rw[if_neg (by simp only[List.length_nil];omega)];rfl⟩
 |v::l,k,ds,h=>by
  rw[List.length_cons] at h
  obtain⟨h1,h2⟩:=aBF o l (k+1) (ds.setIfInBounds (o+k) v) (by rw[Array.size_setIfInBounds];omega)
  rw[Array.size_setIfInBounds] at h1
  refine⟨h1,λi=>?_⟩
  show ((l.zipIdx (k+1)).foldl (λa p=>a.setIfInBounds (o+p.2) p.1) (ds.setIfInBounds (o+k) v))[i]?=_
  rw[h2 i,List.length_cons]
  by_cases c:o+(k+1)≤i∧i<o+(k+1)+l.length
  ·rw[if_pos c,if_pos Yo,show i-(o+k)=(i-(o+(k+1)))+1 by omega,List.getElem?_cons_succ]
  ·rw[if_neg c]
   by_cases d:i=o+k
   ·subst d
    rw[if_pos Yo,Nat.sub_self,Array.getElem?_setIfInBounds,if_pos rfl,if_pos Yo]
    rfl
   ·rw[if_neg Yo,Array.getElem?_setIfInBounds,if_neg (λe=>d e.symm)]
section
variable {P:Program} {Q:Exit→Act→World→Prop} {o:Oper} {a:Act} {K:Act→World→Prop} {w:World}
theorem aQp {s e : TypeId} {x : Operand} {n : Nat} {f z : Nat → Value} (hu : P.underlying s = some (.slice e)) (T : Many P e n) (hz : ∀ w, (zeroValue e).run P w = .ok (aV z 0 n) w) (hn : n ≤ 16777216) (hp : 0 < n) (ho : o.op = .buildSlice s 1 #[(0, x)]) (hx : a.eval x = aV f 0 n)
  (h:∀w',Vh e w' w.heap.size n n f→Below w.heap.size w w'→w'.heap.size=w.heap.size+1→K (a.put o.dst (.slice (some ⟨w.heap.size,0,none⟩) 1 1)) w'):WpI P o a w K Q:=by
 refine⟨?_⟩
 have hh:=h (w.alloc (.cells ((List.range n).map f).toArray e)) (Vh.of_row f n (by unfold maxLen;omega) (by show (w.heap.push _)[w.heap.size]?=_;rw[Array.getElem?_push_size])) (bR _ _) (dC _ _)
 have hc:(aV f 0 n).cells=((List.range n).map f).toArray:=by
  unfold aV
  show ((List.range n).map λj=>f (0+j)).toArray=_
  congr 1
  exact List.map_congr_left λj _=>by rw[Nat.zero_add]
 have hf:∀ds:Array Value,ds.size=n→Instr.fill (λi=>some (i*n,n)) ds [(0,aV f 0 n)]=some ((List.range n).map f).toArray:=λds hds=>by
  unfold Instr.fill
  simp only[hc,List.size_toArray,List.length_map,List.length_range,Nat.zero_mul,Nat.zero_add,hds,ne_eq,not_true_eq_false,decide_false,Bool.false_or,decide_eq_true_eq]
  rw[if_neg Yo]
  unfold Instr.fill
  congr 1
  obtain⟨h1,h2⟩:=aBF 0 ((List.range n).map f) 0 ds (by rw[List.length_map,List.length_range];omega)
  have e1:Array.foldl (λcs x=>cs.setIfInBounds x.2 x.1) ds ((List.range n).map f).toArray.zipIdx=(((List.range n).map f).zipIdx 0).foldl (λa p=>a.setIfInBounds (0+p.2) p.1) ds:=by
   rw[←Array.foldl_toList]
   simp
  rw[e1]
  refine Array.ext_getElem? (λi=>?_)
  rw[h2 i,List.length_map,List.length_range]
  by_cases c:i<n
  ·rw[if_pos Yo]
   simp
  ·rw[if_neg Yo,Array.getElem?_eq_none (show ds.size≤i by omega),Array.getElem?_eq_none (by simpa using c)]
 unfold Oper.wp execOp
 simp only[ho,List.map_toArray,List.map_cons,List.map_nil,hx,Instr.buildSlice,Sem.run_bind,run_underlying hu,Result.andThen_ok,T.size,Nat.one_mul,gt_iff_lt]
 rw[if_neg Yo,if_neg Yo]
 simp only[Sem.run_bind,hz,Result.andThen_ok,Sem.run_pure]
 rw[hf _ (by simp)]
 simp only[newRow,newObj]
 go_simp
 exact hh
end
def tQ{α:Type}(F:α→Nat→Value)(s:Nat)(L:List α):List Value:=L.flatMap λx=>(List.range s).map (F x)
section
variable {α:Type} {F:α→Nat→Value} {s:Nat}
theorem aPU(L M:List α):tQ F s (L++M)=tQ F s L++tQ F s M:=List.flatMap_append
theorem aCA(L:List α):(tQ F s L).length=L.length*s:=by
 induction L with
 |nil=>show 0=0*s;omega
 |cons x L ih=>
  show ((List.range s).map (F x)++tQ F s L).length=(L.length+1)*s
  rw[List.length_append,ih,List.length_map,List.length_range,Nat.succ_mul]
  omega
theorem aOn{L:List α}(h:∀x,x∈L→∀k,k<s→(F x k).oneCell'=true):∀u,u∈tQ F s L→u.oneCell'=true:=λu hu=>by
 obtain⟨x,hx,hu⟩:=List.mem_flatMap.1 hu
 obtain⟨k,hk,rfl⟩:=List.mem_map.1 hu
 exact h x hx k (List.mem_range.1 hk)
theorem aDQ:∀(L:List α) (i:Nat) (x:α),L[i]?=some x→∀k,k<s→(tQ F s L)[i*s+k]?=some (F x k)
 |[],i,x,h,_,_=>by simp at h
 |y::L,0,x,h,k,hk=>by
  obtain rfl:y=x:=by simpa using h
  show ((List.range s).map (F y)++tQ F s L)[0*s+k]?=_
  rw[Nat.zero_mul,Nat.zero_add,List.getElem?_append_left (by rw[List.length_map,List.length_range];exact hk),List.getElem?_map,List.getElem?_range hk]
  rfl
 |y::L,i+1,x,h,k,hk=>by
  show ((List.range s).map (F y)++tQ F s L)[(i+1)*s+k]?=_
  have e:(i+1)*s+k-s=i*s+k:=by rw[Nat.succ_mul];omega
  rw[List.getElem?_append_right (by rw[List.length_map,List.length_range,Nat.succ_mul];omega),List.length_map,List.length_range,e]
  exact aDQ L i x (by simpa using h) k hk
theorem aKJ{e:TypeId}{w:World}{b B:Nat}{x:α}(h:Vh e w b s s (F x))(hb:B≤b):w.ownsRow B e s (.slice (some ⟨b,0,none⟩) 1 1) 1 (tQ F s [x]):=by
 obtain⟨cur,h1,h2,h3,h4,h5⟩:=h
 refine⟨by rw[aCA];rfl,Or.inr ⟨b,1,cur,rfl,hb,h1,Nat.le_refl _,by decide,Yo,?_⟩⟩
 apply List.ext_getElem?
 intro i
 rw[List.getElem?_take]
 by_cases hi:i<1*s
 ·rw[if_pos hi,Array.getElem?_toList,h5 i Yo]
  have:=aDQ (F:=F) (s:=s) [x] 0 x rfl i Yo
  rw[Nat.zero_mul,Nat.zero_add] at this
  exact this.symm
 ·rw[if_neg hi,List.getElem?_eq_none (by rw[aCA];exact Nat.le_of_not_lt hi)]
theorem aRO{e:TypeId}{w:World}{B n:Nat}{v:Value}{L:List α}(h:w.ownsRow B e s v n (tQ F s L))(hp:0<L.length)(hs:0<s):∃g cap,v=.slice (some ⟨g,0,none⟩) n cap∧B≤g∧∀i x,L[i]?=some x→∀k,k<s→w.cell? ⟨g,0+i*s+k,none⟩=some (F x k):=by
 have hl:=h.1
 rw[aCA] at hl
 rcases h.2 with ⟨rfl,rfl⟩|⟨g,cap,cur,rfl,hb,hg,hc,hm,hsz,hcur⟩
 ·have:=Nat.mul_pos hp hs
  omega
 ·refine⟨g,cap,rfl,hb,λi x hi k hk=>?_⟩
  have:=h.cells (g:=g) rfl (i*s+k) (F x k) (aDQ L i x hi k hk)
  rw[add_at, ←Nat.add_assoc] at this
  exact this
end
theorem aGw(n:Nd)(fr:Int)(rd:Nat→Int):(pR n fr rd).vA=n.vA:=by
 unfold pR
 split<;>rfl
theorem aTt{n m:Nd}(h:n.vA=m.vA):bA n=bA m:=by
 unfold bA
 rw[h]
theorem aMZ{B:Nat}{w:World}{n m:Nd}{ao:Option Addr}{c:Nat}(h:oI B w n ao c)(e:m.vA=n.vA):oI B w m ao c:=by
 unfold oI at h ⊢
 rw[e,aTt e]
 exact h
def xP(rd:Nat→Nat→Int)(j:Nat):Value:=iV (rd (j/3) (j%3))
theorem aPZ(rd:Nat→Nat→Int){i j:Nat}(hj:j<3):xP rd (0+i*3+j)=iV (rd i j):=by
 unfold xP
 rw[show (0+i*3+j)/3=i by omega,show (0+i*3+j)%3=j by omega]
def cpI(fb rb:Nat)(fr:Int)(rd:Nat→Nat→Int):It:=(bJ 3 fb 1 1 (λ_=>iV fr)).and (bJ 28 rb 12 12 (xP rd))
set_option maxHeartbeats 1000000 in
theorem aJA(w0:World)(bad:Int)(fb rb:Nat)(fr:Int)(rd:Nat→Nat→Int)(hfr:R64 fr)(hrd:∀s a,R64 (rd s a))(Dn:Nat→Nd)(Bn:Nat→List Ms):PvC w0 bad 55 #[.pointer (some ⟨fb,0,none⟩),.pointer (some ⟨rb,0,none⟩)] (λi n _=>pR n fr (rd i)) (λi n _=>oV n fr (rd i)) (λ_ y=>y=cpI fb rb fr rd) Dn Bn:=by
 intro i nd ao c mo mc L w y l hi _ _ _ hid hok hag _ _ _ _ hy H
 subst hy
 refine bX Tryz.func55 rfl 17 rfl Yd (λA hs hd hb=>?_)
 have b0:A.eval (.tmp 0)=aV (ndF nd (.slice ao nd.vA.length c)) 0 74:=hb 0 _ rfl
 have b2:A.eval (.tmp 2)=.pointer (some ⟨fb,0,none⟩):=hb 2 _ rfl
 have b3:A.eval (.tmp 3)=.pointer (some ⟨rb,0,none⟩):=hb 3 _ rfl
 clear hb
 refine aD (aJ ?_)
 refine aS rfl Yw (λK hK=>?_)
 refine dX _ _ _ rfl Qv Yd ?_
 intro w1 m1 k1 z1
 replace H:=H.add k1 (bJ _ _ _ _ _) m1 (λj e=>Nat.le_of_eq e.symm)
 refine hK _ _ ?_
 clear hK K
 refine aS rfl Yw (λK hK=>?_)
 refine aT _ _ rfl ZerK.out Yd ?_
 intro w2 m2 k2 z2
 replace H:=H.add k2 (bJ _ _ _ _ _) m2 (λj e=>Nat.le_of_eq e.symm)
 refine hK _ _ ?_
 clear hK K
 refine aS rfl Yw (λK hK=>?_)
 refine aT _ _ rfl ZerK.out Yd ?_
 intro w3 m3 k3 z3
 replace H:=H.add k3 (bJ _ _ _ _ _) m3 (λj e=>Nat.le_of_eq e.symm)
 refine hK _ _ ?_
 clear hK K
 refine aF ?_
 refine aK ?_
 have kA:Below w.heap.size w w3:=(k1.trans (k2.mono Yo)).trans (k3.mono Yo)
 replace H:=H.drew
 have hcp:(cpI fb rb fr rd).p w3.drew:=H.o3
 have hS:Its [bJ 55 w.heap.size 74 74 (ndF nd (.slice ao nd.vA.length c)),bJ 3 fb 1 1 (λ_=>iV fr),bJ 28 rb 12 12 (xP rd)] w3.drew:=Its.cons H.o2 (Its.cons hcp.1 (Its.cons hcp.2 (Its.nil _)))
 refine fZ (S:=Its [bJ 55 w.heap.size 74 74 (ndF nd (.slice ao nd.vA.length c)),bJ 3 fb 1 1 (λ_=>iV fr),bJ 28 rb 12 12 (xP rd)]) (.rd 0 (.rd 1 (.mv 2 (.rd 3 (.mv 4 (.rd 5 (.go 6 (.mv 7 (.mv 8 (.go 9 (.go 10 .fin))))))))))) [9,10] (by kernel_rfl) (by kernel_rfl) ?_
 iterate 4 first|refine qj ?_|refine qr hS ?_
 refine aBy rfl rfl (λ_ _ _ h=>h) Yw (λw=>dP _ _ _ _ rfl ArrK.out SizK.out Qv Qv hid hi w) ?_
 refine Yr rfl hS (λ_ H=>Eq.trans (aP _ _ rfl ManyK.out Qv H.v2 Yo) (by rw[lN (λj hj=>aPZ rd hj)])) ?_
 refine dI rfl rfl Yw (λK hK=>?_)
 refine gQ _ 56 _ _ _ _ rfl Qv Qv Qv (EntK.out _ _) (aDV nd ao c fr (rd i) _ hok (hag.below (aQ kA)) hfr (hrd i)) ?_
 rintro e w4 ⟨a',c',a2,c2,rfl,g1,g2,k4⟩
 replace H:=aFk (n:=pR nd fr (rd i)) (a1:=(a',c')) (a2:=(a2,c2)) H k4 (aMZ g1 (aGw _ _ _)) g2
 refine⟨.tuple #[kT (pR nd fr (rd i)) (gW (a',c') nd.vA.length),lsV (oV nd fr (rd i)) (gW (a2,c2) (oV nd fr (rd i)).L.length)],rfl,hK _ _ (λ_ _=>Its.cons H.o4 (Its.cons (show Vh _ _ _ _ _ _ from H.o5.1) (Its.cons (show Vh _ _ _ _ _ _ from H.o5.2) (Its.nil _)))) ?_⟩
 clear hK K
 repeat refine qj ?_
 refine eU rfl Yw (λK hK=>?_)
 refine aI _ _ _ _ rfl ManyK.out Qv Qv H.v3 Yo (cK _ _ _ _) rfl ?_
 intro w6 m6 k6 z6
 replace H:=H.s3 k6 (m6.congr dO)
 refine hK _ (λh=>absurd h Yc) ?_
 clear hK K
 refine eU rfl Yw (λK hK=>?_)
 refine aI _ _ _ _ rfl ManyK.out Qv Qv H.v2 Yo (gB _ _ _ _ _ _) rfl ?_
 intro w7 m7 k7 z7
 replace H:=H.s2 k7 (m7.congr dO)
 refine hK _ (λh=>absurd h Yc) ?_
 clear hK K
 refine iA ?_
 refine bD (bB ((aO _ _).trans hd) (jC rfl Qv Qv ManyK.out ManyK.out H.v3 (Nat.le_refl _) H.v2 (Nat.le_refl _)) ⟨(a',c'),(a2,c2),_,rfl,?_,H.f2.tl.f2.tl.f2.tl⟩)
 rw[aGw]
 rfl
theorem aEY(bad:Int)(i:Nat):gdL bad (i+1)=gdL bad i++(if (i:Int)=bad then [] else [i]):=by
 unfold gdL
 rw[List.range_succ,List.filter_append]
 congr 1
 by_cases h:(i:Int)=bad
 ·rw[if_pos h];simp[h]
 ·rw[if_neg h];simp[h]
def rvI(B rv:Nat)(v:Value)(L:List Nd):It:=(bJ 59 rv 1 1 (λ_=>v)).and (oU B 61 14 v L.length (tQ xC 14 L))
def mF(bad:Int)(Dn:Nat→Nd)(Bn:Nat→List Ms)(k:Nat):List Nd:=(gdL bad k).map λi=>iP (Dn i) (Bn i)
theorem aNR(bad:Int)(Dn:Nat→Nd)(Bn:Nat→List Ms)(k:Nat):(mF bad Dn Bn k).length≤k:=by
 unfold mF gdL
 rw[List.length_map]
 exact Nat.le_trans (List.length_filter_le _ _) (by rw[List.length_range];exact Nat.le_refl _)
theorem aKf{bad:Int}{Dn:Nat→Nd}{Bn:Nat→List Ms}{i:Nat}(h:(i:Int)≠bad):mF bad Dn Bn (i+1)=mF bad Dn Bn i++[iP (Dn i) (Bn i)]:=by
 unfold mF
 rw[aEY,if_neg h,List.map_append]
 rfl
theorem aPd{bad:Int}{Dn:Nat→Nd}{Bn:Nat→List Ms}{i:Nat}(h:(i:Int)=bad):mF bad Dn Bn (i+1)=mF bad Dn Bn i:=by
 unfold mF
 rw[aEY,if_pos h,List.append_nil]
set_option maxHeartbeats 1000000 in
theorem aJV(w0:World)(bad:Int)(rv:Nat)(Dn:Nat→Nd)(Bn:Nat→List Ms):PvC w0 bad 62 #[.pointer (some ⟨rv,0,none⟩)] (λ_ n l=>iP n l) (λ_ _ _=>jI) (λi y=>∃v,y=rvI w0.heap.size rv v (mF bad Dn Bn i)) Dn Bn:=by
 intro i nd ao c mo mc L w y l hi hbad hDn hBn hid hok hag hmr hl hlc hms ⟨v,hy⟩ H
 subst hy
 refine bX Tryz.func62 rfl 21 rfl Yd (λA hs hd hb=>?_)
 have b0:A.eval (.tmp 0)=aV (ndF nd (.slice ao nd.vA.length c)) 0 74:=hb 0 _ rfl
 have b1:A.eval (.tmp 1)=.slice mo L.length mc:=hb 1 _ rfl
 have b2:A.eval (.tmp 2)=.pointer (some ⟨rv,0,none⟩):=hb 2 _ rfl
 clear hb
 refine aD (aJ ?_)
 refine aS rfl Yw (λK hK=>?_)
 refine dX _ _ _ rfl Qv Yd ?_
 intro w1 m1 k1 z1
 replace H:=H.add k1 (bJ _ _ _ _ _) m1 (λj e=>Nat.le_of_eq e.symm)
 refine hK _ _ ?_
 clear hK K
 refine aS rfl Yw (λK hK=>?_)
 refine aT _ _ rfl ZerK.out Yd ?_
 intro w2 m2 k2 z2
 replace H:=H.add k2 (bJ _ _ _ _ _) m2 (λj e=>Nat.le_of_eq e.symm)
 refine hK _ _ ?_
 clear hK K
 refine aS rfl Yw (λK hK=>?_)
 refine aT _ _ rfl ZerK.out Yd ?_
 intro w3 m3 k3 z3
 replace H:=H.add k3 (bJ _ _ _ _ _) m3 (λj e=>Nat.le_of_eq e.symm)
 refine hK _ _ ?_
 clear hK K
 have kA:Below w.heap.size w w3:=(k1.trans (k2.mono Yo)).trans (k3.mono Yo)
 refine aF ?_
 refine aD ?_
 iterate 2 refine qa ?_
 refine uB (aFn nd ao c mo mc L w3 hok (hag.below kA) (hmr.below kA) Yo hlc (λm hm=>(hms m hm).L)) ?_
 rintro e w4 ⟨a',c',rfl,g1,k4⟩
 have hsz:=H.size
 replace H:=H.add k4 (agJ w0.heap.size (iP nd (L.map Lm.m),(a',c'))) (dL g1 hsz) (λj e=>(g1.lt j e).1)
 have ecr:vG nd (L.map Lm.m)=iP nd (L.map Lm.m):=by
  unfold vG
  rw[if_neg (by rw[hid,lW hi];decide)]
 rw[ecr]
 refine⟨_,rfl,?_⟩
 iterate 3 refine qa ?_
 refine lY H ?_
 intro w5 H z5
 refine lY H ?_
 intro w6 H z6
 refine aSS H dO (cK _ _ _ _) ?_
 intro w7 H z7
 refine mR H dO (qC _ _) ?_
 intro w8 H z8
 refine aF ?_
 refine aD ?_
 have hrv:(rvI w0.heap.size rv v (mF bad Dn Bn i)).p w8:=H.o6
 have hsz8:=H.size
 refine qg (aN _ _ rfl OneK.out Qv hrv.1 Yo rfl) ?_
 refine qa ?_
 refine aS rfl Yw (λK hK=>?_)
 refine aQp SlcK.out ManyK.out ZerK.out Yc Yc rfl Qv ?_
 intro w9 m9 k9 z9
 replace H:=H.call k9
 refine hK _ _ ?_
 clear hK K
 have hrv:(rvI w0.heap.size rv v (mF bad Dn Bn i)).p w9:=H.o6
 have hln:=aNR bad Dn Bn i
 refine aS rfl Yw (λK hK=>?_)
 refine aBh rfl inferInstance H.size Qv Qv hrv.2 (aGr (aKJ (B:=w0.heap.size) (F:=xC) (x:=iP nd (L.map Lm.m)) m9 Yo)) (aOn (λx _=>qC x 3)) (by unfold maxLen;omega) Yo ?_
 intro v' w10 o10 g10 f10
 have hvar:Vh 59 w9 rv 1 1 (λ_=>v):=hrv.1
 have napart:∀k,v.ownBlock=some k→k≠rv:=λk hk e=>by
  obtain⟨u1,hu1⟩:=rV hrv.2 hk
  obtain⟨u2,hu2,_⟩:=hvar
  rw[e,hu2] at hu1
  cases hu1
 have hvar10:Vh 59 w10 rv 1 1 (λ_=>v):=hvar.same (g10.block rv hvar.lt (λe=>napart rv e.symm rfl))
 replace H:=H.p6 g10.os g10.tape g10.output g10.size (λj h5 h6=>g10.block j h5 (λe=>h6 (Or.inr e.symm))) ((bJ 59 rv 1 1 (λ_=>v)).and (oU w0.heap.size 61 14 v' ((mF bad Dn Bn i).length+1) (tQ xC 14 (mF bad Dn Bn i)++tQ xC 14 [iP nd (L.map Lm.m)]))) ⟨hvar10,o10⟩ (λj hj=>by
  rcases hj with hj|hj
  ·exact Or.inl (Or.inl hj)
  ·rcases f10 j hj with h|h
   ·exact Or.inl (Or.inr h)
   ·exact Or.inr h)
 refine hK _ _ ?_
 clear hK K
 have napart2:∀k,v'.ownBlock=some k→k≠rv:=λk hk e=>by
  obtain⟨u1,hu1⟩:=rV o10 hk
  obtain⟨u2,hu2,_⟩:=hvar10
  rw[e,hu2] at hu1
  cases hu1
 obtain⟨va,vc,rfl,hvc⟩:=gG o10
 refine bS Yw (λK hK=>?_)
 refine iH _ _ _ _ rfl OneK.out Qv Qv hvar10 Yo rfl rfl rfl ?_
 intro w11 m11 k11 z11
 replace H:=H.p6 k11.os k11.tape k11.output k11.size (λj h5 h6=>k11.block j h5 (λe=>h6 (Or.inl e))) (rvI w0.heap.size rv (.slice va ((mF bad Dn Bn i).length+1) vc) (mF bad Dn Bn (i+1))) ⟨m11.congr (λj hj=>by
  obtain rfl:j=0:=Yo
  exact kF _ _ _),by
   have e1:mF bad Dn Bn (i+1)=mF bad Dn Bn i++[iP nd (L.map Lm.m)]:=by rw[aKf hbad,hDn,hBn]
   show World.ownsRow _ _ _ _ _ (mF bad Dn Bn (i+1)).length (tQ xC 14 (mF bad Dn Bn (i+1)))
   rw[e1,List.length_append,aPU]
   exact bK o10 k11 (λe=>napart2 rv e rfl)⟩ (λj hj=>Or.inl hj)
 refine hK _ ?_
 clear hK K
 refine aF ?_
 refine aD ?_
 refine qa ?_
 refine qg (sJ rfl _) ?_
 refine aNm H dO (cK _ _ _ _) ?_
 intro w12 H z12
 refine aTu H dO (gB _ _ _ _ _ _) ?_
 intro w13 H z13
 refine aF ?_
 refine bD (bB ((aO _ _).trans hd) (jC rfl Qv Qv ManyK.out ManyK.out H.v4 (Nat.le_refl _) H.v3 (Nat.le_refl _)) ⟨(a',c'),(none,0),rvI w0.heap.size rv (.slice va ((mF bad Dn Bn i).length+1) vc) (mF bad Dn Bn (i+1)),⟨_,rfl⟩,rfl,?_⟩)
 exact (H.tl.tl.f1.tl.f1.tl.f1.tl.add (Below.refl _ _) (tlJ w0.heap.size (jI,(none,0))) (World.ownsRow_nil _ _ _ _) (λj e=>nomatch e)).f1
theorem aKv{P:Program}{f:Operand→Value}{o:Oper}(fn:Fn)(x:Operand)(ho:o.op=.makeFunc fn #[] #[x]){u:Value}(hx:f x=u)(w:World):(execOp f o).run P w=.ok (.value (.func fn #[] #[u])) w:=aGe fn _ ho (by simp[hx]) w
theorem aNk{P:Program}{f:Operand→Value}{o:Oper}(fn:Fn)(x y:Operand)(ho:o.op=.makeFunc fn #[] #[x,y]){u v:Value}(hx:f x=u)(hy:f y=v)(w:World):(execOp f o).run P w=.ok (.value (.func fn #[] #[u,v])) w:=aGe fn _ ho (by simp[hx,hy]) w
theorem aHp (b : Nat) (fr : Int) (D : Nat → Nd × Ad) (bad : Int) (lv : Value) (X : Nat → List Lm × Ad) (w0 w : World) (l : List It)
  (hid:∀i,i<4→(D i).1.id=(i:Nat)) (hok:∀i,i<4→NdOK (D i).1) (hX:∀i,i<4→(X i).1.length≤1600∧∀c,c∈(X i).1→MsOK c.m)
  (H:Cx w0 w (tH w0.heap.size D::bJ 116 b 303 303 (iT fr D bad lv X)::yX w0.heap.size X::l)):
  Calls Tryz.prog 42 #[.pointer (some ⟨b,0,none⟩)] w λe w'=>∃(D':Nat→Nd×Ad) (v:Value),e=.returned v∧(∀i,i<4→(D' i).1=doN bad (λ_ n l=>iP n l) D X i)∧
   Cx w0 w' (oU w0.heap.size 61 14 v (mF bad (λi=>(D i).1) (λi=>(X i).1.map Lm.m) 4).length (tQ xC 14 (mF bad (λi=>(D i).1) (λi=>(X i).1.map Lm.m) 4))::tH w0.heap.size D'::bJ 116 b 303 303 (iT fr D' bad lv X)::yX w0.heap.size X::l):=by
 refine bX Tryz.func42 rfl 8 rfl Yd (λA hs hd hb=>?_)
 have b0:A.eval (.tmp 0)=.pointer (some ⟨b,0,none⟩):=hb 0 _ rfl
 clear hb
 refine aD (aJ ?_)
 repeat first|refine qa ?_|refine aF ?_|refine aD ?_
 refine aTn H ?_
 intro w1 H z1
 repeat first|refine qa ?_|refine aF ?_|refine aD ?_
 refine qg (aKv _ _ rfl Qv _) ?_
 replace H:=(H.add (Below.refl _ _) (oU w0.heap.size 61 14 (.slice none 0 0) 0 []) (World.ownsRow_nil _ _ _ _) (λj e=>nomatch e)).f1.merge
 refine uB (aFc b fr D bad lv X 62 #[.pointer (some ⟨w.heap.size,0,none⟩)] (λ_ n l=>iP n l) (λ_ _ _=>jI) (λi y=>∃v,y=rvI w0.heap.size w.heap.size v (mF bad (λi=>(D i).1) (λi=>(X i).1.map Lm.m) i)) w0 w1 _ l (aJV w0 bad w.heap.size _ _) ⟨.slice none 0 0,rfl⟩ (λi hi y hy=>by obtain⟨v,rfl⟩:=hy;exact⟨v,by rw[aPd hi]⟩) hid hok hX H.f1) ?_
 rintro e w2 ⟨D',T,y',⟨v,rfl⟩,rfl,hD,_,H⟩
 refine⟨_,rfl,?_⟩
 refine aF ?_
 refine aD ?_
 have hrv:(rvI w0.heap.size w.heap.size v (mF bad (λi=>(D i).1) (λi=>(X i).1.map Lm.m) 4)).p w2:=H.o2
 refine qg (aN _ _ rfl OneK.out Qv hrv.1 Yo rfl) ?_
 repeat first|refine qa ?_|refine aF ?_
 exact bD (bB ((aO _ _).trans hd) (dW rfl Qv) ⟨D',v,rfl,hD,H.tl.f1.wk (λh=>h.2) (λk hk=>Or.inr hk)⟩)
def iM(g:Nat→Value)(N:Nat):Array Value:=((List.range N).map g).toArray
theorem aAB(g:Nat→Value)(n:Nat):(aV g 0 n).cells=iM g n:=by
 unfold aV iM
 show ((List.range n).map λj=>g (0+j)).toArray=_
 congr 1
 exact List.map_congr_left λj _=>by rw[Nat.zero_add]
theorem aBc(g:Nat→Value)(N:Nat):(iM g N).size=N:=by simp[iM]
theorem aDg(g:Nat→Value)(N i:Nat):(iM g N)[i]?=if i<N then some (g i) else none:=by
 unfold iM
 by_cases h:i<N
 ·rw[if_pos h];simp[h]
 ·rw[if_neg h];simp[h]
theorem aHD{place:Nat→Option (Nat×Nat)}{i off n N:Nat}{v:Value}{g f:Nat→Value}(hp:place i=some (off,n))(hv:v.cells=iM f n)(hN:off+n≤N)(rest:List (Nat×Value)):Instr.fill place (iM g N) ((i,v)::rest)=Instr.fill place (iM (fG g off n f) N) rest:=by
 rw[Instr.fill]
 simp only[hp,hv,aBc]
 rw[if_neg (by simp;omega)]
 congr 1
 obtain⟨h1,h2⟩:=aBF off ((List.range n).map f) 0 (iM g N) (by rw[aBc,List.length_map,List.length_range];omega)
 have e1:Array.foldl (λcs x=>cs.setIfInBounds (off+x.2) x.1) (iM g N) (iM f n).zipIdx=(((List.range n).map f).zipIdx 0).foldl (λa p=>a.setIfInBounds (off+p.2) p.1) (iM g N):=by
  rw[←Array.foldl_toList]
  unfold iM
  simp
 rw[e1]
 refine Array.ext_getElem? (λj=>?_)
 rw[h2 j,aDg,aDg,List.length_map,List.length_range]
 unfold fG
 by_cases c:off+0≤j∧j<off+0+n
 ·rw[if_pos c,if_pos (show j<N by omega),if_pos Yo,List.getElem?_map,List.getElem?_range Yo,Nat.add_zero]
  rfl
 ·rw[if_neg c]
  by_cases d:j<N
  ·rw[if_pos d,if_pos d,if_neg Yo]
  ·rw[if_neg d,if_neg d]
theorem aNc {P : Program} {f : Operand → Value} {o : Oper} {t : TypeId} {fields : Array Field} {N : Nat} {z g : Nat → Value} {places : Array (Nat × Nat)} {parts : Array (Nat × Operand)} (hu : P.underlying t = some (.struct fields)) (hz : ∀ w, (zeroValue t).run P w = .ok (aV z 0 N) w)
  (hpl:∀w,(fields.mapM λ(f:Field)=>do pure (f.offset, ←sizeOf f.type):Sem (Array (Nat×Nat))).run P w=.ok places w) (ho:o.op=.build t parts) (hf:Instr.fill (places[·]?) (iM z N) (parts.map λp=>(p.1,f p.2)).toList=some (iM g N)) (w:World):(execOp f o).run P w=.ok (.value (aV g 0 N)) w:=by
 unfold execOp
 simp only[ho,Instr.build,Sem.run_bind,hz,Result.andThen_ok,run_underlying hu,hpl,aAB]
 rw[show (Array.map (λx=>match x with|(i,x)=>(i,f x)) parts).toList=(parts.map λp=>(p.1,f p.2)).toList from rfl,hf]
 show Result.ok (Next.value (Value.agg (iM g N))) w=_
 congr 3
 have:=aAB g N
 unfold aV iM at*
 exact this.symm
theorem aPG{D:Nat→Nd×Ad}{i:Nat}(hi:i<4)(h:(D i).1.id≠(i:Nat)):¬((D 0).1.id=0∧(D 1).1.id=1∧(D 2).1.id=2∧(D 3).1.id=3):=by
 rintro⟨h0,h1,h2,h3⟩
 rcases four hi with rfl|rfl|rfl|rfl
 ·exact h h0
 ·exact h h1
 ·exact h h2
 ·exact h h3
set_option maxHeartbeats 1000000 in
theorem aFx (x : Ip) (fr : Int) (D : Nat → Nd × Ad) (lo : Option Addr) (lc : Nat) (w : World) :
  Calls Tryz.prog 37 #[aV (rE fr D) 0 297,aV (ipF x.rd x.bad (.slice lo x.ly.length lc)) 0 14] w λe w'=>e=.returned (.int .i64 (dH x ⟨fr,λi=>(D i).1⟩))∧Below w.heap.size w w':=by
 refine bX Tryz.func37 rfl 40 rfl Yd (λA hs hd hb=>?_)
 have b0:A.eval (.tmp 0)=aV (rE fr D) 0 297:=hb 0 _ rfl
 have b1:A.eval (.tmp 1)=aV (ipF x.rd x.bad (.slice lo x.ly.length lc)) 0 14:=hb 1 _ rfl
 clear hb
 have H:=Cx.start w
 refine aD (aJ ?_)
 refine oF H ?_
 intro w1 H z1
 refine oF H ?_
 intro w2 H z2
 refine qa ?_
 refine aF ?_
 refine aK ?_
 refine aD ?_
 iterate 2 refine qa ?_
 by_cases c1:x.bad< -1
 ·refine qg (aZ (b:=true) _ _ rfl Qv Qv (decide_eq_true c1) _) ?_
  refine qa ?_
  iterate 3 refine uZ ?_
  refine qg (aX _ _ _ rfl Qv Qv _) ?_
  refine qa ?_
  iterate 3 refine uZ ?_
  refine qg (aX _ _ _ rfl Qv Qv _) ?_
  refine qa ?_
  iterate 3 refine uZ ?_
  refine qg (aX _ _ _ rfl Qv Qv _) ?_
  refine aF ?_
  refine aAO rfl ?_
  repeat first|refine qa ?_|refine aF ?_|refine aD ?_
  exact bD (uT (bB ((aO _ _).trans hd) (dW rfl Qv) ⟨by unfold dH;rw[if_pos (Or.inl c1)],H.bel⟩))
 refine qg (aZ (b:=false) _ _ rfl Qv Qv (decide_eq_false c1) _) ?_
 iterate 3 refine qa ?_
 by_cases c2:4≤x.bad
 ·refine qg (iR (b:=true) _ _ rfl Qv Qv (decide_eq_true c2) _) ?_
  refine qg (bI _ _ _ rfl Qv Qv _) ?_
  refine qa ?_
  iterate 3 refine uZ ?_
  refine qg (aX _ _ _ rfl Qv Qv _) ?_
  refine qa ?_
  iterate 3 refine uZ ?_
  refine qg (aX _ _ _ rfl Qv Qv _) ?_
  refine aF ?_
  refine aAO rfl ?_
  repeat first|refine qa ?_|refine aF ?_|refine aD ?_
  exact bD (uT (bB ((aO _ _).trans hd) (dW rfl Qv) ⟨by unfold dH;rw[if_pos (Or.inr (Or.inl c2))],H.bel⟩))
 refine qg (iR (b:=false) _ _ rfl Qv Qv (decide_eq_false c2) _) ?_
 refine qg (bI _ _ _ rfl Qv Qv _) ?_
 iterate 3 refine qa ?_
 by_cases c3:fr<0
 ·refine qg (aZ (b:=true) _ _ rfl Qv Qv (decide_eq_true c3) _) ?_
  refine qg (bI _ _ _ rfl Qv Qv _) ?_
  refine qa ?_
  iterate 3 refine uZ ?_
  refine qg (aX _ _ _ rfl Qv Qv _) ?_
  refine aF ?_
  refine aAO rfl ?_
  repeat first|refine qa ?_|refine aF ?_|refine aD ?_
  exact bD (uT (bB ((aO _ _).trans hd) (dW rfl Qv) ⟨by unfold dH;rw[if_pos (Or.inr (Or.inr (Or.inl c3)))],H.bel⟩))
 refine qg (aZ (b:=false) _ _ rfl Qv Qv (decide_eq_false c3) _) ?_
 refine qg (bI _ _ _ rfl Qv Qv _) ?_
 iterate 3 refine qa ?_
 by_cases c4:1073741823<fr
 ·refine qg (kG (b:=true) _ _ rfl Qv Qv (decide_eq_true c4) _) ?_
  refine qg (bI _ _ _ rfl Qv Qv _) ?_
  refine aF ?_
  refine aAO rfl ?_
  repeat first|refine qa ?_|refine aF ?_|refine aD ?_
  exact bD (uT (bB ((aO _ _).trans hd) (dW rfl Qv) ⟨by unfold dH;rw[if_pos (Or.inr (Or.inr (Or.inr c4)))],H.bel⟩))
 refine qg (kG (b:=false) _ _ rfl Qv Qv (decide_eq_false c4) _) ?_
 refine qg (bI _ _ _ rfl Qv Qv _) ?_
 refine aF ?_
 refine aEC rfl (bL ?_)
 have eR:¬(x.bad< -1∨4≤x.bad∨fr<0∨1073741823<fr):=Yo
 refine aK ?_
 refine aD ?_
 repeat first|refine qa ?_|refine aF ?_
 refine lK (λh=>?_) (λh=>?_)
 ·have c5:400<x.ly.length:=by have:=of_decide_eq_true h;omega
  repeat first|refine qa ?_|refine aF ?_|refine aD ?_
  exact bD (uT (bB ((aO _ _).trans hd) (dW rfl Qv) ⟨by unfold dH;rw[if_neg eR,if_pos c5],H.bel⟩))
 have c5:¬400<x.ly.length:=by have:=of_decide_eq_false h;omega
 refine bL ?_
 refine aK ?_
 refine aD ?_
 refine qa ?_
 refine qg (Eq.trans (aP _ _ rfl ManyK.out Qv H.v1 Yo) (by rw[lN (λj hj=>aGo fr D hj)])) ?_
 repeat first|refine qa ?_|refine aF ?_
 refine aU ?_
 refine dY (λr A W=>∃i:Nat,i≤4∧4-i≤r∧A.tmps.size=40∧A.defers=[]∧A.eval (.tmp 30)=aV (aAe D) 0 296∧A.eval (.tmp 31)=.int .i64 (i:Int)∧(∀j,j<i→(D j).1.id=(j:Nat))∧Cx w W []) 4
  ⟨0,Nat.zero_le _,Yo,(bZ _ _).trans hs,(aO _ _).trans hd,Qv,Qv,λj h=>absurd h (Nat.not_lt_zero j),H.tl.tl⟩ (λr B W hI=>?_)
 clear b0 b1 hs hd H
 obtain⟨i,hi,hr,hs,hd,b30,b31,hD,H⟩:=hI
 refine aD (aJ ?_)
 repeat first|refine qa ?_|refine aF ?_|refine aD ?_|refine aK ?_
 refine lK (λh=>?_) (λh=>?_)
 ·have hin:i<4:=by have:=of_decide_eq_true h;omega
  refine bL ?_
  refine aK (aU ?_)
  refine aD ?_
  refine qa ?_
  refine qg (Eq.trans (jJ _ _ _ _ rfl ArrK.out ManyK.out Qv rfl Qv rfl hin _) (by rw[lN (λj hj=>aCF D hj)])) ?_
  refine lY H ?_
  intro w3 H z3
  refine qa ?_
  refine mR H dO (cK _ _ _ _) ?_
  intro w4 H z4
  repeat first|refine qa ?_|refine aF ?_|refine aD ?_
  refine lK (λh1=>?_) (λh1=>?_)
  ·have e1:(D i).1.id≠(i:Nat):=of_decide_eq_true h1
   repeat first|refine qa ?_|refine aF ?_|refine aD ?_
   exact bD (aSu (uT (aTX (aSu (uT (bB ((aO _ _).trans hd) (dW rfl Qv) ⟨by unfold dH;rw[if_neg eR,if_neg c5,if_neg (aPG hin e1)],H.bel⟩))))))
  ·have e1:(D i).1.id=(i:Nat):=by have:=of_decide_eq_false h1;simpa using this
   refine iW ?_
   refine aR ?_
   repeat refine qa ?_
   exact bQ ⟨4-(i+1),Yo,i+1,Yo,Yo,(bZ _ _).trans hs,(aO _ _).trans hd,Qv,Eq.trans Qv (by rw[Int.natCast_add];rfl),λj hj=>(by
    by_cases e:j=i
    ·rw[e];exact e1
    ·exact hD j Yo),H.tl⟩
 ·obtain rfl:i=4:=by have:=of_decide_eq_false h;omega
  refine dS (fU ?_)
  refine aD ?_
  repeat first|refine qa ?_|refine aF ?_
  exact bD (bB ((aO _ _).trans hd) (dW rfl Qv) ⟨by unfold dH;rw[if_neg eR,if_neg c5,if_pos ⟨hD 0 Yo,hD 1 Yo,hD 2 Yo,hD 3 Yo⟩],H.bel⟩)
theorem aKk {f : Operand → Value} {o : Oper} {p q r : Operand} (ho : o.op = .build 116 #[(0, p), (1, q), (2, r)]) {fr : Int} {D : Nat → Nd × Ad} {bad : Int} {lo : Option Addr} {n lc : Nat} (hp : f p = aV (rE fr D) 0 297) (hq : f q = .int .i64 bad) (hr : f r = .slice lo n lc) (w : World) :
  (execOp f o).run Tryz.prog w=.ok (.value (aV (iT fr D bad (.slice lo n lc) (λ_=>([],(none,0)))) 0 303)) w:=by
 refine aNc (z:=iT 0 (λ_=>(fD,(none,0))) 0 (.slice none 0 0) (λ_=>([],(none,0)))) (places:=#[(0,297),(297,1),(298,1),(299,4)]) Tryz.underlying116 (λw=>by kernel_rfl) (λw=>by kernel_rfl) ho ?_ w
 rw[show (Array.map (λp:Nat×Operand=>(p.1,f p.2)) #[(0,p),(1,q),(2,r)]).toList=[(0,f p),(1,f q),(2,f r)] by simp]
 rw[hp,hq,hr,aHD (off:=0) (n:=297) rfl (aAB _ _) Yc,aHD (off:=297) (n:=1) (f:=λ_=>.int .i64 bad) rfl rfl Yc,aHD (off:=298) (n:=1) (f:=λ_=>.slice lo n lc) rfl rfl Yc]
 refine congrArg some ?_
 unfold iM
 refine congrArg List.toArray (List.map_congr_left λj hj=>?_)
 have hj:=List.mem_range.1 hj
 by_cases c1:j<297
 ·rw[mD _ _ Yo,mD _ _ Yo]
  have:=mE (iT 0 (λ_=>(fD,(none,0))) 0 (.slice none 0 0) (λ_=>([],(none,0)))) (o:=0) (rE fr D) c1
  rw[Nat.zero_add] at this
  rw[this]
  exact (xZ c1).symm
 ·by_cases c2:j=297
  ·subst c2
   rw[mD _ _ Yo]
   rfl
  ·by_cases c3:j=298
   ·subst c3
    rfl
   ·rw[mD _ _ Yo,mD _ _ Yo,mD _ _ Yo]
    unfold iT uG
    rw[if_neg c1,if_neg c1,if_neg c2,if_neg c2,if_neg c3,if_neg c3]
theorem aKC(fr:Int)(D:Nat→Nd×Ad)(bad:Int)(lv:Value)(X:Nat→List Lm×Ad){i:Nat}(hi:i<4)(a:Ad):∀j,j<303→iJ (iT fr D bad lv X) (1+i*74+73) (gW a (D i).1.vA.length) j=iT fr (dF D i ((D i).1,a)) bad lv X j:=by
 intro j hj
 rw[←aIe fr D bad lv X hi ((D i).1,a) j hj]
 unfold fG
 by_cases c:1+i*74≤j∧j<1+i*74+74
 ·rw[if_pos c]
  have e:=aEo (D i).1 (gW (D i).2 (D i).1.vA.length) (gW a (D i).1.vA.length) (j-(1+i*74)) Yo
  rw[←e]
  unfold iJ
  have hb:iT fr D bad lv X j=ndF (D i).1 (gW (D i).2 (D i).1.vA.length) (j-(1+i*74)):=by
   unfold iT
   rw[xZ Yo]
   have:=aSe fr (λi=>(D i).1) (λi=>gW (D i).2 (D i).1.vA.length) (i:=i) (j:=j-(1+i*74)) Yo
   rw[show 1+i*74+(j-(1+i*74))=j by omega] at this
   exact this
  by_cases d:j=1+i*74+73
  ·rw[if_pos d,if_pos Yo]
  ·rw[if_neg d,if_neg Yo,hb]
 ·rw[if_neg c,gT _ _ Yo]
theorem aQR{w:World}{ao:Option Addr}{n c:Nat}{g:Nat→Value}(h:Sr w ao n c g):Rdc w 1 (.slice ao n c) n (rowV g n):=by
 rcases h with ⟨rfl,rfl,rfl⟩|⟨y,rfl,hc⟩
 ·exact Or.inl ⟨rfl,rfl,rfl⟩
 ·refine Or.inr ⟨y,c,rfl,vV g n,λj u hj=>?_⟩
  rcases Nat.lt_or_ge j n with h|h
  ·rw[gU g h] at hj;cases hj;exact hc j h
  ·rw[iU g h] at hj;cases hj
set_option maxHeartbeats 1000000 in
theorem aHx (x : Ip) (fr : Int) (D : Nat → Nd × Ad) (lo : Option Addr) (lc : Nat) (w0 w : World) (l : List It) (hag : ∀ i, i < 4 → aAJ w0 (D i).1 (D i).2.1 (D i).2.2) (hok : ∀ i, i < 4 → NdOK (D i).1) (H : Cx w0 w l) :
  Calls Tryz.prog 38 #[aV (rE fr D) 0 297,aV (ipF x.rd x.bad (.slice lo x.ly.length lc)) 0 14] w λe w'=>∃(b:Nat) (D':Nat→Nd×Ad),e=.returned (.pointer (some ⟨b,0,none⟩))∧(∀i,i<4→(D' i).1=(D i).1)∧Cx w0 w' (tH w0.heap.size D'::bJ 116 b 303 303 (iT fr D' x.bad (.slice lo x.ly.length lc) (λ_=>([],(none,0))))::l):=by
 refine bX Tryz.func38 rfl 35 rfl Yd (λA hs hd hb=>?_)
 have b0:A.eval (.tmp 0)=aV (rE fr D) 0 297:=hb 0 _ rfl
 have b1:A.eval (.tmp 1)=aV (ipF x.rd x.bad (.slice lo x.ly.length lc)) 0 14:=hb 1 _ rfl
 clear hb
 refine aD (aJ ?_)
 refine oF H ?_
 intro w1 H z1
 refine oF H ?_
 intro w2 H z2
 repeat first|refine qa ?_|refine aF ?_|refine aD ?_
 refine qg (aKk (fr:=fr) (D:=D) rfl Qv Qv Qv _) ?_
 refine oF H ?_
 intro w3 H z3
 refine qa ?_
 refine aF ?_
 refine aK ?_
 refine aD ?_
 refine qa ?_
 refine qg (Eq.trans (aP _ _ rfl ManyK.out Qv H.v2 Yo) (by rw[lN (λj hj=>aGo fr D hj)])) ?_
 repeat first|refine qa ?_|refine aF ?_
 refine aU ?_
 refine dY (λr A W => ∃ (i : Nat) (D' E : Nat → Nd × Ad), i ≤ 4 ∧ 4 - i ≤ r ∧ A.tmps.size = 35 ∧ A.defers = [] ∧ A.eval (.tmp 5) = .pointer (some ⟨w2.heap.size, 0, none⟩) ∧ A.eval (.tmp 16) = aV (aAe D) 0 296 ∧ A.eval (.tmp 17) = .int .i64 (i : Int) ∧ (∀ j, j < 4 → (D' j).1 = (D j).1) ∧ (∀ j, j < i → E j = D' j) ∧
   Cx w0 W (tH w0.heap.size E::bJ 116 w2.heap.size 303 303 (iT fr D' x.bad (.slice lo x.ly.length lc) (λ_=>([],(none,0))))::l)) 4
  ⟨0,D,λ_=>(fD,(none,0)),Nat.zero_le _,Yo,(bZ _ _).trans hs,(aO _ _).trans hd,Qv,Qv,Qv,λ_ _=>rfl,λj h=>absurd h (Nat.not_lt_zero j),H.f1.tl.f1.tl.add (Below.refl _ _) (tH w0.heap.size (λ_=>(fD,(none,0)))) (λ_ _=>World.ownsRow_nil _ _ _ _) (λj ⟨_,_,e⟩=>absurd e (λe=>nomatch e))⟩ (λr B W hI=>?_)
 clear b0 b1 hs hd H
 obtain⟨i,D',E,hi,hr,hs,hd,b5,b16,b17,hD,hE,H⟩:=hI
 refine aD (aJ ?_)
 repeat first|refine qa ?_|refine aF ?_|refine aD ?_|refine aK ?_
 refine lK (λh=>?_) (λh=>?_)
 ·have hin:i<4:=by have:=of_decide_eq_true h;omega
  refine bL ?_
  refine aK (aU ?_)
  refine aD ?_
  refine qa ?_
  refine qg (Eq.trans (jJ _ _ _ _ rfl ArrK.out ManyK.out Qv rfl Qv rfl hin _) (by rw[lN (λj hj=>aCF D hj)])) ?_
  refine lY H ?_
  intro w3 H z3
  refine qa ?_
  refine mR H dO (cK _ _ _ _) ?_
  intro w4 H z4
  refine aF ?_
  replace H:=H.drew
  have hS:Its [bJ 55 W.heap.size 74 74 (ndF (D i).1 (gW (D i).2 (D i).1.vA.length))] w4.drew:=Its.cons H.o0 (Its.nil _)
  refine fZ (S:=Its [bJ 55 W.heap.size 74 74 (ndF (D i).1 (gW (D i).2 (D i).1.vA.length))]) (.mv 0 (.mv 1 (.mv 2 (.mv 3 (.rd 4 (.mv 6 (.mv 7 (.mv 8 (.go 5 (.mv 9 (.mv 10 (.mv 11 (.go 12 .fin))))))))))))) [12] (by kernel_rfl) (by kernel_rfl) ?_
  repeat first|refine qj ?_|refine qr hS ?_
  refine dI rfl rfl Yw (λK hK=>?_)
  have hvA:=(hok i hin).vA
  refine aBh rfl inferInstance H.size Qv Qv (World.ownsRow_nil _ _ _ _) (aQR ((hag i hin).below H.bel)) (mU _ _ (λ_ _=>rfl)) (by unfold maxLen;omega) Yo ?_
  intro v' w5 o5 g5 f5
  rw[Nat.zero_add,List.nil_append] at o5
  obtain⟨a5,c5,rfl,hc5⟩:=gG o5
  have k5:Below w4.drew.heap.size w4.drew w5:=⟨g5.os,g5.tape,g5.output,g5.size,λk hk=>g5.block k hk (λe=>nomatch e)⟩
  replace H:=H.add k5 (agJ w0.heap.size ((D i).1,(a5,c5))) o5 (λj e=>(f5 j e).resolve_left (λe=>nomatch e))
  refine hK _ _ (λ_ _=>Its.cons H.o1 (Its.nil _)) ?_
  clear hK K
  repeat refine qj ?_
  refine eU rfl Yw (λK hK=>?_)
  refine iH _ _ _ _ rfl OneK.out Qv Qv H.v3 Yo rfl rfl rfl ?_
  intro w6 m6 k6 z6
  replace H:=H.s3 k6 (m6.congr (λj hj=>Eq.trans (by rw[show 0+0+1+i*74+71+2=1+i*74+73 by omega,hD i hin];rfl) (aKC fr D' x.bad (.slice lo x.ly.length lc) (λ_=>([],(none,0))) hin (a5,c5) j hj)))
  refine hK _ (λh=>absurd h Yc) ?_
  clear hK K
  refine yN ?_
  refine aR ?_
  repeat refine qa ?_
  refine bQ ⟨4-(i+1),Yo,i+1,dF D' i ((D' i).1,(a5,c5)),dF E i ((D i).1,(a5,c5)),Yo,Yo,(bZ _ _).trans hs,(aO _ _).trans hd,Qv,Qv,Eq.trans Qv (by rw[Int.natCast_add];rfl),λj hj=>?_,λj hj=>?_,vI (g:=agJ w0.heap.size) i H.f1.tl⟩
  ·by_cases e:j=i
   ·rw[e,cB];exact hD i hin
   ·rw[upM_other _ _ e];exact hD j hj
  ·by_cases e:j=i
   ·rw[e,cB,cB,hD i hin]
   ·rw[upM_other _ _ e,upM_other _ _ e];exact hE j Yo
 ·obtain rfl:i=4:=by have:=of_decide_eq_false h;omega
  refine dS (fU ?_)
  refine aD ?_
  repeat first|refine qa ?_|refine aF ?_
  refine bD (bB ((aO _ _).trans hd) (dW rfl Qv) ⟨w2.heap.size,D',rfl,hD,H.wk (λh j hj=>?_) (λk ⟨j,hj,hk⟩=>⟨j,hj,?_⟩)⟩)
  ·have this:(agJ w0.heap.size (E j)).p W:=h j hj
   rw[hE j hj] at this
   exact this
  ·show (agJ w0.heap.size (E j)).foot k
   rw[hE j hj]
   exact hk
def pF(fb rb:Nat)(k:Nat):Value:=if k=0 then .func (.func 55) #[] #[.pointer (some ⟨fb,0,none⟩),.pointer (some ⟨rb,0,none⟩)] else if k=1 then .func (.func 57) #[] #[] else if k=2 then .func (.func 58) #[] #[] else if k=3 then .func (.func 59) #[] #[] else .func (.func 60) #[] #[]
theorem aKL (w : World) {o : Oper} {a : Act} {K : Act → World → Prop} {Q : Exit → Act → World → Prop} {x : Operand} (ho : o.op = .buildSlice 105 5 #[(0, x), (1, .func 57), (2, .func 58), (3, .func 59), (4, .func 60)]) {fb rb : Nat} (hx : a.eval x = pF fb rb 0)
  (h:∀w',Vh 108 w' w.heap.size 5 5 (pF fb rb)→Below w.heap.size w w'→w'.heap.size=w.heap.size+1→K (a.put o.dst (.slice (some ⟨w.heap.size,0,none⟩) 5 5)) w'):WpI Tryz.prog o a w K Q:=by
 have hh:=h (w.alloc (.cells #[pF fb rb 0,pF fb rb 1,pF fb rb 2,pF fb rb 3,pF fb rb 4] 108)) (Vh.of_row (pF fb rb) 5 Yc (by show (w.heap.push _)[w.heap.size]?=_;rw[Array.getElem?_push_size];rfl)) (bR _ _) (dC _ _)
 have e:(execOp a.eval o).run Tryz.prog w=.ok (.value (.slice (some ⟨w.heap.size,0,none⟩) 5 5)) (w.alloc (.cells #[pF fb rb 0,pF fb rb 1,pF fb rb 2,pF fb rb 3,pF fb rb 4] 108)):=by
  have e1:a.eval (.func 57)=pF fb rb 1:=rfl
  have e2:a.eval (.func 58)=pF fb rb 2:=rfl
  have e3:a.eval (.func 59)=pF fb rb 3:=rfl
  have e4:a.eval (.func 60)=pF fb rb 4:=rfl
  clear hh h
  generalize a.eval=f at hx e1 e2 e3 e4
  unfold pF at*
  unfold execOp
  rw[ho]
  simp only[List.map_toArray,List.map_cons,List.map_nil]
  rw[hx,e1,e2,e3,e4]
  go_simp
 refine⟨?_⟩
 unfold Oper.wp
 rw[e]
 exact hh
theorem aHA (fr : Int) (rd : Nat → Nat → Int) (w0 w : World) (l : List It) (H : Cx w0 w l) :
  Calls Tryz.prog 39 #[.int .i64 fr,aV (xP rd) 0 12] w λe w'=>∃fb rb pb,e=.returned (.slice (some ⟨pb,0,none⟩) 5 5)∧Cx w0 w' (bJ 108 pb 5 5 (pF fb rb)::cpI fb rb fr rd::l):=by
 refine bX Tryz.func39 rfl 9 rfl Yd (λA hs hd hb=>?_)
 have b0:A.eval (.tmp 0)=.int .i64 fr:=hb 0 _ rfl
 have b1:A.eval (.tmp 1)=aV (xP rd) 0 12:=hb 1 _ rfl
 clear hb
 refine aD (aJ ?_)
 refine aRt H ?_
 intro w1 H z1
 refine oF H ?_
 intro w2 H z2
 repeat first|refine qa ?_|refine aF ?_|refine aD ?_
 refine qg (aNk _ _ _ rfl Qv Qv _) ?_
 repeat first|refine qa ?_|refine aF ?_|refine aD ?_
 refine aS rfl Yw (λK hK=>?_)
 refine aKL _ (fb:=w.heap.size) (rb:=w1.heap.size) rfl (Eq.trans Qv rfl) ?_
 intro w3 m3 k3 z3
 replace H:=H.add k3 (bJ _ _ _ _ _) m3 (λj e=>Nat.le_of_eq e.symm)
 refine hK _ _ ?_
 clear hK K
 repeat first|refine qa ?_|refine aF ?_
 exact bD (bB ((aO _ _).trans hd) (dW rfl Qv) ⟨w.heap.size,w1.heap.size,_,rfl,H.f2.f2.f1.merge.b1⟩)
theorem aTv(w:World):(zeroValue 27).run Tryz.prog w=.ok (aV (λ_=>iV 0) 0 3) w:=by kernel_rfl
theorem aMP(g:Nat→Value)(h:Nat→Value):∀j,j<3→fG g 0 3 h j=h j:=λj hj=>by
 have:=mE g (o:=0) (n:=3) h hj
 rwa [Nat.zero_add] at this
theorem aNj{f:Operand→Value}{o:Oper}(x:Operand)(ho:o.op=.call { callee:=.builtin .len,args:=#[x],argTypes:=#[150] }){ao:Option Addr}{n c:Nat}(hx:f x=.slice ao n c)(w:World):(execOp f o).run Tryz.prog w=.ok (.value (.int .i64 ((n:Nat):Int))) w:=by
 unfold execOp
 rw[ho]
 dsimp only
 go_simp
theorem aQK {f : Operand → Value} {o : Oper} (x y : Operand) (ho : o.op = .indexAddr 150 x y) {b off n cap i : Nat} {z : Int} (hx : f x = .slice (some ⟨b, off, none⟩) n cap) (hy : f y = .int .i64 z) (hz : z = (i : Int)) (hi : i < n) (w : World) :
  (execOp f o).run Tryz.prog w=.ok (.value (.pointer (some ⟨b,off+i*3,none⟩))) w:=by
 subst hz
 have hi2:(i:Int)<n:=Yo
 unfold execOp
 rw[ho]
 dsimp only
 rw[hx,hy]
 go_simp
theorem aIw{d:Nat→Nat→Int}{i:Nat}:rowV (iF (λj=>d (j/3) (j%3))) (3*i)++rowV (λk=>iV (d i k)) 3=rowV (iF (λj=>d (j/3) (j%3))) (3*(i+1)):=by
 rw[lM]
 refine iB (λj hj=>?_)
 by_cases c:j<3*i
 ·rw[if_pos c]
 ·rw[if_neg c]
  show iV (d i (j-3*i))=iV (d (j/3) (j%3))
  rw[show j/3=i by omega,show j%3=j-3*i by omega]
theorem aLn (b o N cap : Nat) (t : TypeId) (g : Nat → Value) (d : Nat → Nat → Int) (w : World) (hm : Vh t w b N cap g) (ho : o + 12 ≤ N) (hg : ∀ i k, i < 4 → k < 3 → g (o + i * 3 + k) = iV (d i k)) :
  Calls Tryz.prog 73 #[.slice (some ⟨b,o,none⟩) 4 4] w λe w'=>∃a2 c2,e=.returned (.slice a2 12 c2)∧w'.ownsRow w.heap.size 3 1 (.slice a2 12 c2) 12 (rowV (iF (λj=>d (j/3) (j%3))) 12)∧Below w.heap.size w w':=by
 refine bX Tryz.func73 rfl 17 rfl Yd (λA hs hd hb=>?_)
 have b0:=hb 0 _ rfl
 clear hb
 refine aD (aJ ?_)
 refine Yp ?_
 refine aF ?_
 refine aD ?_
 refine Yp ?_
 refine aF ?_
 refine aK ?_
 refine aD ?_
 refine Yp ?_
 refine Yq (aNj _ rfl (Ye rfl) _) ?_
 refine Yp ?_
 refine aF ?_
 refine aU ?_
 refine dY (λr a W=>∃(i:Nat) (v:Value),i≤4∧4-i≤r∧a.tmps.size=17∧a.defers=[]∧a.eval (.tmp 6)=.slice (some ⟨b,o,none⟩) 4 4∧a.eval (.tmp 7)=.int .i64 ((4:Nat):Int)∧a.eval (.tmp 8)=.int .i64 (i:Int)∧a.eval (.tmp 3)=v∧W.ownsRow w.heap.size 3 1 v (3*i) (rowV (iF (λj=>d (j/3) (j%3))) (3*i))∧Below w.heap.size w W) 4 ⟨0,_,Yo,Yo,(bZ _ _).trans hs,(aO _ _).trans hd,(Ye rfl),(Ye rfl),(Ye rfl),(Ye rfl),World.ownsRow_nil _ _ _ _,Below.refl _ _⟩ (λr B W hI=>?_)
 clear b0 hs hd
 obtain⟨i,v,hi,hr2,hs,hd,b6,b7,b8,b3,ov,kB⟩:=hI
 have hWs:=kB.size
 have hbl:=hm.lt
 by_cases hin:i<4
 ·refine aD (aJ ?_)
  refine Yq (aZ (b:=true) _ _ rfl (aB rfl b8) (aB rfl b7) (decide_eq_true Yo) _) ?_
  refine aF ?_
  refine aK (bP (Ye rfl) (bL ?_))
  refine aK (aU ?_)
  refine aD ?_
  refine Yq (aQK _ _ rfl (aB rfl b6) (aB rfl b8) rfl hin _) ?_
  refine Yq (dM (h:=λk=>iV (d i k)) _ _ rfl lT (Ye rfl) (hm.below kB) Yo (λk hk=>hg i k hin hk)) ?_
  refine aS rfl Yw (λK hK=>?_)
  refine aT _ _ rfl aTv Yd ?_
  intro w1 m1 k1 z1
  have ov1:=bG ov k1
  refine hK _ _ ?_
  clear hK K
  refine bS Yw (λK hK=>?_)
  refine aI _ _ _ _ rfl lT (Ye rfl) (Ye rfl) m1 Yc (λj hj=>rfl) rfl ?_
  intro w2 mm2 k2 z2
  have mrow2:=Vh.congr mm2 (aMP _ _)
  have ov2:=bK ov1 k2 (λe=>by have e2:=(ov.lt _ e).2;omega)
  refine hK _ ?_
  clear hK K
  refine aF ?_
  refine aR ?_
  refine Yp ?_
  refine Yq (xG _ rfl (Ye rfl) _) ?_
  refine aS rfl Yw (λK hK=>?_)
  refine⟨qA _ _ _ rfl w.heap.size Yo v _ _ (Ye rfl) ov2 _ 3 3 _ (Ye rfl) (Or.inr ⟨_,rfl,λi hi=>by rw[add_at,Nat.zero_add];exact mrow2.cell hi⟩) (λi _=>rfl) Yo ?_⟩
  intro v3 w3 ov3 k3
  have n3:=k3.size
  rw[aIw] at ov3
  refine hK _ _ ?_
  clear hK K
  refine Yp ?_
  refine iE ?_
  refine aR ?_
  refine Yq (bW _ _ rfl (aB rfl b8) (aG _ _) Yo Yo _) ?_
  refine Yp ?_
  exact bQ ⟨4-(i+1),Yo,i+1,_,Yo,Yo,(bZ _ _).trans hs,(aO _ _).trans hd,(aB rfl b6),(aB rfl b7),(Ye rfl).trans (by rw[Int.natCast_add];rfl),(Ye rfl),ov3,(aC (kB.trans (k1.mono Yo)) k2 Yo Yo).trans (k3.mono Yo)⟩
 ·refine aD (aJ ?_)
  refine Yq (aZ (b:=false) _ _ rfl (aB rfl b8) (aB rfl b7) (decide_eq_false Yo) _) ?_
  obtain rfl:i=4:=Yo
  refine aF ?_
  refine aK (bM (Ye rfl) (dS (fU ?_)))
  refine aD ?_
  iterate 2 refine Yp ?_
  obtain⟨a2,c2,rfl,hc2⟩:=gG ov
  refine aF ?_
  exact bD (bB ((aO _ _).trans hd) (dW rfl (Ye rfl)) ⟨a2,c2,rfl,ov,kB⟩)
end Go.Proofs.YtdhblehhgpdpdacGreat
