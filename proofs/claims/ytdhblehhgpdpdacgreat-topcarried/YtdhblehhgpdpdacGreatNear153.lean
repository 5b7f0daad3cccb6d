import Derived.Test.YtdhblehhgpdpdacGreatNodPr10
namespace Go.Proofs.YtdhblehhgpdpdacGreat
open Go.RowKit
theorem xC{x:Ip}{t u:Nat→Ms}{wo ph:Nat}:∀{k:Nat},(∀j,j<k→t j=u j)→lP x t wo ph k=lP x u wo ph k
 |0,_=>rfl
 |k+1,h=>by
  show lP x t wo ph k++_=lP x u wo ph k++_
  rw[xC (λj hj=>h j Yo),h k Yo]
theorem aOT (x : Ip) (fr : Int) (k : Nat) (hk : k < 5) (fb rb b : Nat) (D : Nat → Nd × Ad) (lv : Value) (X : Nat → List Lm × Ad) (w0 w : World) (l : List It) (hfr : R64 fr) (hrd : ∀ s a, R64 (x.rd s a))
  (hid:∀i,i<4→(D i).1.id=(i:Nat)) (hok:∀i,i<4→NdOK (D i).1) (hX:∀i,i<4→(X i).1.length≤1600∧∀c,c∈(X i).1→MsOK c.m)
  (H:Cx w0 w (oO w0.heap.size D::yB fb rb fr x.rd::bI 116 b 303 303 (gE fr D x.bad lv X)::tW w0.heap.size X::l)):
  Calls Tryz.prog 41 #[.pointer (some ⟨b,0,none⟩),lW fb rb k] w λe w'=>∃(D':Nat→Nd×Ad) (T:Nat→Ms×Ad),e=.returned (aU (rI T) 0 16)∧(∀i,i<4→(D' i).1=wkN x fr ⟨λi=>(D i).1,λi=>(X i).1.map Lm.m⟩ k i)∧(∀i,i<4→(T i).1=xY x fr ⟨λi=>(D i).1,λi=>(X i).1.map Lm.m⟩ k i)∧
   Cx w0 w' (tlI w0.heap.size T::oO w0.heap.size D'::yB fb rb fr x.rd::bI 116 b 303 303 (gE fr D' x.bad lv X)::tW w0.heap.size X::l):=by
 have pure : ∀ (fn : Nat) [EntK Tryz.prog fn] (N : Nd → List Ms → Nd) (M : Nd → List Ms → Ms), aAv N M fn → Calls Tryz.prog 41 #[.pointer (some ⟨b, 0, none⟩), .func (.func fn) #[] #[]] w λe w' => ∃ (D' : Nat → Nd × Ad) (T : Nat → Ms × Ad), e = .returned (aU (rI T) 0 16) ∧ (∀ i, i < 4 → (D' i).1 = doN x.bad (λ_ => N) D X i) ∧ (∀ i, i < 4 → (T i).1 = doM x.bad (λ_ => M) D X i) ∧
   Cx w0 w' (tlI w0.heap.size T::oO w0.heap.size D'::yB fb rb fr x.rd::bI 116 b 303 303 (gE fr D' x.bad lv X)::tW w0.heap.size X::l):=λfn _ N M h=>by
  refine (aBO b fr D x.bad lv X fn #[] (λ_=>N) (λ_=>M) (λ_ y=>y=emI) w0 w emI (yB fb rb fr x.rd::l) (aIR h) rfl (λ_ _ _ h=>h) hid hok hX ((H.f1.b3.add (Below.refl _ _) emI trivial (λ_ e=>e.elim)).f1)).mono ?_
  rintro e w' ⟨D',T,y',rfl,rfl,hD,hT,H⟩
  exact⟨D',T,rfl,hD,hT,H.f2.tl.f4.b2⟩
 have:k=0∨k=1∨k=2∨k=3∨k=4:=Yo
 rcases this with rfl|rfl|rfl|rfl|rfl
 ·refine (aBO b fr D x.bad lv X 55 #[.pointer (some ⟨fb,0,none⟩),.pointer (some ⟨rb,0,none⟩)] (λi n _=>mI n fr (x.rd i)) (λi n _=>lR n fr (x.rd i)) (λ_ y=>y=yB fb rb fr x.rd) w0 w (yB fb rb fr x.rd) l (aGG w0 x.bad fb rb fr x.rd hfr hrd _ _) rfl (λ_ _ _ h=>h) hid hok hX H).mono ?_
  rintro e w' ⟨D',T,y',rfl,rfl,hD,hT,H⟩
  exact⟨D',T,rfl,hD,hT,H⟩
 ·exact pure 57 relN qM aBU
 ·exact pure 58 decN qT aBk
 ·exact pure 59 pasN qD aDo
 ·exact pure 60 judN qV aB9
theorem aAm{x:Ip}{c:Cl}{i:Nat}(h:(i:Int)=x.bad):∀k,(kI x c k).nd i=c.nd i
 |0=>rfl
 |k+1=>by
  show (if (i:Int)=x.bad then _ else _)=_
  rw[if_pos h]
  exact aAm h k
theorem wH{x:Ip}{fr:Int}{s s':Wk}{k i:Nat}(h1:s.nd i=s'.nd i)(h2:s.bx i=s'.bx i):wkN x fr s k i=wkN x fr s' k i∧xY x fr s k i=xY x fr s' k i:=by
 unfold wkN xY
 rw[h1,h2]
 exact⟨rfl,rfl⟩
theorem aF7(fr:Int)(D:Nat→Nd×Ad)(bad:Int)(lv:Value)(X:Nat→List Lm×Ad):∀j,j<297→gE fr D bad lv X (0+0+j)=nH fr D j:=λj hj=>by
 rw[show 0+0+j=j by omega]
 exact tS hj
theorem aNN(fr fr':Int)(D:Nat→Nd×Ad)(bad:Int)(lv:Value)(X:Nat→List Lm×Ad):∀j,j<303→fW (gE fr D bad lv X) (0+0+0) (.int .i64 fr') j=gE fr' D bad lv X j:=λj hj=>by
 by_cases e:j=0
 ·subst e;rfl
 ·rw[fG _ _ Yo]
  unfold gE pG
  by_cases c:j<297
  ·rw[if_pos c,if_pos c]
   unfold nO
   rw[if_neg e,if_neg e]
  ·rw[if_neg c,if_neg c]
theorem aDF {P : Program} {a : Act} {w : World} {fn : Func} {p p' p2 : Nat} {ty : TypeId} {b n N cap : Nat} {t : TypeId} {g : Nat → Value} {u v : Value} (h : fn.results = #[.cell p ty, .tmp p', .tmp p2]) (hv : a.eval (.tmp p) = .pointer (some ⟨b, 0, none⟩)) (hv' : a.eval (.tmp p') = u) (hv2 : a.eval (.tmp p2) = v) (T : Many P ty n) (hm : Vh t w b N cap g) (hn : n ≤ N) :
  (results fn a.tmps).run P w=.ok (.tuple #[aU g 0 n,u,v]) w:=by
 have e:=iR hv;have e2:=iR hv';have e3:=iR hv2
 simp only[Array.getD_eq_getD_getElem?] at e e2 e3
 simp[results,h,e,e2,e3,asAddr,kW T hm hn]
theorem aMK{L:List Lm}{l:List Ms}(e:L.map Lm.m=l)(h:∀m,m∈l→MsOK m):∀c,c∈L→MsOK c.m:=λc hc=>h _ (by rw[←e];exact List.mem_map_of_mem hc)
theorem aOJ{x:Ip}{c:Cl}(hE:cL x c=0){k i:Nat}(hk:k≤5)(hi:i<4):((kI x c k).nd i).id=(i:Nat):=by
 by_cases g:(i:Int)=x.bad
 ·rw[aAm g];exact id0 hE hi
 ·have:k=0∨k=1∨k=2∨k=3∨k=4∨k=5:=Yo
  rcases this with rfl|rfl|rfl|rfl|rfl|rfl
  ·exact id0 hE hi
  ·exact id1 hE hi g
  ·exact id2 hE hi g
  ·exact id3 hE hi g
  ·exact id4 hE hi g
  ·exact id5 hE hi g
theorem aOe{x:Ip}{c:Cl}(hx:IpOK x)(hc:aBC c){k j:Nat}(hj:j<4)(g:(j:Int)≠x.bad):MsOK (xY x c.fr (kI x c k) k j):=by
 have h:MsOK (vI x c k j):=by
  rw[tZ g]
  exact aF9 k ((zR hx hc k).1 j hj) (MsOK.R' ((zR hx hc k).2 j hj)) hc.1 (hx.rd j)
 exact h
theorem aNx{x:Ip}{c:Cl}(h:x.ly.length≤400)(k i:Nat):((kI x c k).bx i).length≤1600:=by
 cases k with
 |zero=>exact Nat.zero_le _
 |succ k=>exact aAy h _ _ _ 4
theorem aMP{x:Ip}{c:Cl}(hE:cL x c=0){Dn:Nat→Nd}{Bn:Nat→List Ms}(h1:∀i,i<4→Dn i=(kI x c 5).nd i)(h2:∀i,i<4→Bn i=(kI x c 5).bx i):jP x.bad Dn Bn 4=wJ x c:=by
 unfold jP wJ
 rw[if_pos hE]
 refine List.map_congr_left λi hi=>?_
 unfold gdL at hi
 obtain⟨h3,h4⟩:=List.mem_filter.1 hi
 have h3:=List.mem_range.1 h3
 have h4:(i:Int)≠x.bad:=of_decide_eq_true h4
 unfold i7
 rw[if_neg h4,h1 i h3,h2 i h3]
def aOX(fn:Nat):Prop:=∀(x:Ip) (fr:Int) (D:Nat→Nd×Ad) (lo:Option Addr) (lc:Nat) (LL:List Lj) (w:World),x.ly=LL.map Lj.y→IpOK x→aBC ⟨fr,λi=>(D i).1⟩→(∀i,i<4→wV w (D i).1 (D i).2.1 (D i).2.2)→JRd w lo LL→
 Calls Tryz.prog fn #[aU (nH fr D) 0 297,aU (ipF x.rd x.bad (.slice lo LL.length lc)) 0 14] w λe w'=>∃(D':Nat→Nd×Ad) (v:Value),e=.returned (.tuple #[aU (nH (rQ x ⟨fr,λi=>(D i).1⟩).fr D') 0 297,v,.int .i64 (cL x ⟨fr,λi=>(D i).1⟩)])∧(∀i,i<4→(D' i).1=(rQ x ⟨fr,λi=>(D i).1⟩).nd i)∧
  Cx w w' [lS w.heap.size 61 14 v (wJ x ⟨fr,λi=>(D i).1⟩).length (oX sB 14 (wJ x ⟨fr,λi=>(D i).1⟩)),oO w.heap.size D']
set_option maxHeartbeats 1000000 in
theorem aIU:aOX 21:=by
 intro x fr D lo lc LL w hx hip hcl hag hj
 have hxl:x.ly.length=LL.length:=by rw[hx,List.length_map]
 obtain⟨c,ec⟩:∃c,c=(⟨fr,λi=>(D i).1⟩:Cl):=⟨_,rfl⟩
 rw[←ec] at hcl ⊢
 refine bW Tryz.func21 rfl 56 rfl Yd (λA hs hd hb=>?_)
 have b0:A.eval (.tmp 0)=aU (nH fr D) 0 297:=hb 0 _ rfl
 have b1:A.eval (.tmp 1)=aU (ipF x.rd x.bad (.slice lo LL.length lc)) 0 14:=hb 1 _ rfl
 clear hb
 have H:=Cx.start w
 refine aD (aI ?_)
 refine lE H ?_
 intro w1 H z1
 refine lE H ?_
 intro w2 H z2
 refine jS H ?_
 intro w3 H z3
 iterate 2 refine qa ?_
 refine aE ?_
 refine aJ ?_
 refine aD ?_
 iterate 2 refine qa ?_
 have hck:=aDe x fr D lo lc w3
 rw[hxl,←ec] at hck
 refine pE hck ?_
 rintro e w4 ⟨rfl,k4⟩
 refine⟨_,rfl,?_⟩
 replace H:=H.call k4
 repeat first|refine qa ?_|refine aE ?_|refine aD ?_
 refine jI (λh=>?_) (λh=>?_)
 ·have hE:cL x c≠0:=of_decide_eq_true h
  refine aD ?_
  refine qg (aGO rfl _) ?_
  refine qa ?_
  refine j8 H cW (aDV _ _ _ _) ?_
  intro w5 H z5
  repeat first|refine qa ?_|refine aE ?_
  have e1:rQ x c=aJZ:=by unfold rQ;rw[if_neg hE]
  have e2:wJ x c=[]:=by unfold wJ;rw[if_neg hE]
  refine bC (qA (aZ ((aN _ _).trans hd) (aDF rfl Qv Qv Qv ManyK.out H.v0 (Nat.le_refl _)) ⟨λ_=>(dW,(none,0)),_,by rw[e1];rfl,λi hi=>by rw[e1];rfl,?_⟩))
  rw[e2]
  exact ((H.tl.tl.tl.add (Below.refl _ _) (oO w.heap.size (λ_=>(dW,(none,0)))) (λ_ _=>World.ownsRow_nil _ _ _ _) (λj ⟨_,_,e⟩=>absurd e (λe=>nomatch e))).add (Below.refl _ _) (lS _ _ _ _ _ _) (World.ownsRow_nil _ _ _ _) (λj e=>nomatch e))
 have hE:cL x c=0:=by simpa using h
 obtain⟨hb,hf,hl4,hid0⟩:=aCJ hE
 have hl4:LL.length≤400:=Yo
 refine bK ?_
 refine aD ?_
 iterate 2 refine qa ?_
 have hat:=aEn x fr D lo lc w w4 _ hag (by have:=hcl.2;rw[ec] at this;exact this) H
 rw[hxl] at hat
 refine pE hat ?_
 rintro e w5 ⟨b,D1,rfl,hD1,H⟩
 refine⟨_,rfl,?_⟩
 refine qa ?_
 refine aE ?_
 refine aJ ?_
 refine aD ?_
 iterate 3 refine qa ?_
 refine qg (Eq.trans (aO _ _ rfl ManyK.out Qv H.v3 Yo) (by rw[jG (f:=sQ x.rd) (λj hj=>by rw[show 0+0+j=j by omega];exact if_pos hj)])) ?_
 refine pE (aEo fr x.rd w w5 _ H) ?_
 rintro e w6 ⟨fb,rb,pb,rfl,H⟩
 refine⟨_,rfl,?_⟩
 repeat first|refine qa ?_|refine aE ?_
 refine aT ?_
 have hNd:∀(k:Nat) (D:Nat→Nd×Ad),(∀i,i<4→(D i).1=(kI x c k).nd i)→k≤5→(∀i,i<4→(D i).1.id=(i:Nat))∧∀i,i<4→NdOK (D i).1:=λk D hD hk=>⟨λi hi=>by rw[hD i hi];exact aOJ hE hk hi,λi hi=>by rw[hD i hi];exact (zR hip hcl k).1 i hi⟩
 have hBx:∀(k:Nat) (X:Nat→List Lm×Ad),(∀i,i<4→(X i).1.map Lm.m=(kI x c k).bx i)→∀i,i<4→(X i).1.length≤1600∧∀c,c∈(X i).1→MsOK c.m:=λk X hX i hi=>⟨by
  have h1:=congrArg List.length (hX i hi)
  rw[List.length_map] at h1
  rw[h1]
  exact aNx Yo k i,aMK (hX i hi) ((zR hip hcl k).2 i hi)⟩
 have ecf:c.fr=fr:=by rw[ec]
 refine dF (λr A W => ∃ (k : Nat) (D : Nat → Nd × Ad) (X : Nat → List Lm × Ad), k ≤ 5 ∧ 5 - k ≤ r ∧ A.tmps.size = 56 ∧ A.defers = [] ∧ A.eval (.tmp 4) = .pointer (some ⟨w2.heap.size, 0, none⟩) ∧ A.eval (.tmp 8) = .pointer (some ⟨b, 0, none⟩) ∧ A.eval (.tmp 26) = .slice (some ⟨pb, 0, none⟩) 5 5 ∧ A.eval (.tmp 27) = .int .i64 ((5 : Nat) : Int) ∧ A.eval (.tmp 28) = .int .i64 (k : Int) ∧ (∀ i, i < 4 → (D i).1 = (kI x c k).nd i) ∧ (∀ i, i < 4 → (X i).1.map Lm.m = (kI x c k).bx i) ∧
   Cx w W [oO w.heap.size D,yB fb rb fr x.rd,bI 116 b 303 303 (gE fr D x.bad (.slice lo LL.length lc) X),tW w.heap.size X,bI 108 pb 5 5 (lW fb rb),bI 58 w2.heap.size 297 297 (nO 0 (λ_=>dW) (λ_=>fJ (none,0) 0))]) 5
  ⟨0,D1,λ_=>([],(none,0)),Nat.zero_le _,Yo,(bY _ _).trans hs,(aN _ _).trans hd,Qv,Qv,Qv,Qv,Qv,λi hi=>(by rw[hD1 i hi,ec];rfl),λ_ _=>rfl,
   ((H.f6.tl.f5.tl.add (Below.refl _ _) (tW w.heap.size (λ_=>([],(none,0)))) (λ_ _=>OwnM.nil _ _) (λj ⟨_,_,e⟩=>absurd (uT (OwnM.nil w6 w6.heap.size) j e) (by rcases e with e|⟨_,e,_⟩<;>cases e))).b4.f1.f2.f3.b4.f3.f1.f2.b1).f4.b2⟩ (λr B W hI=>?_)
 clear b0 b1 hs hd H
 obtain⟨k,D,X,hk,hr,hs,hd,b4,b8,b26,b27,b28,hD,hX,H⟩:=hI
 refine aD (aI ?_)
 repeat first|refine qa ?_|refine aE ?_|refine aD ?_|refine aJ ?_
 refine jI (λh=>?_) (λh=>?_)
 ·have hin:k<5:=by have:=of_decide_eq_true h;omega
  refine bK ?_
  refine aJ (aT ?_)
  refine aD ?_
  iterate 2 refine qa ?_
  refine qg (Eq.trans (aM _ _ rfl OneK.out Qv H.v4 Yo rfl) (by rw[show 0+k*1=k by omega])) ?_
  repeat first|refine qa ?_|refine aE ?_|refine aQ ?_
  obtain⟨n1,n2⟩:=hNd k D hD hk
  refine pE (aOT x fr k hin fb rb b D (.slice lo LL.length lc) X w W _ (by rw[←ecf];exact hcl.1) hip.rd n1 n2 (hBx k X hX) H) ?_
  rintro e w7 ⟨D',T,rfl,hD',hT,H⟩
  refine⟨_,rfl,?_⟩
  refine aNt (aHb x b fr D' lo lc LL X k T w w7 _ H.f4.f4 hx hj hl4 (λj hj hb=>?_)) ?_
  ·rw[hT j hj,(wH (k:=k) (x:=x) (fr:=fr) (s':=kI x c k) (i:=j) (hD j hj) (hX j hj)).2,←ecf]
   exact aOe hip hcl hj hb
  ·rintro e w8 ⟨rfl,X',hX',H⟩
   refine⟨_,rfl,?_⟩
   refine fT ?_
   refine aQ ?_
   repeat refine qa ?_
   refine bP ⟨5-(k+1),Yo,k+1,D',X',Yo,Yo,(bY _ _).trans hs,(aN _ _).trans hd,Qv,Qv,Qv,Qv,Eq.trans Qv (by rw[Int.natCast_add];rfl),λi hi=>?_,λi hi=>?_,H.f2.tl.f2.f3.f1⟩
   ·rw[hD' i hi,(wH (k:=k) (x:=x) (fr:=fr) (s':=kI x c k) (i:=i) (hD i hi) (hX i hi)).1]
    show _=wkN x c.fr (kI x c k) k i
    rw[ecf]
   ·rw[hX' i hi]
    show _=lP x (xY x c.fr (kI x c k) k) i k 4
    refine xC λj hj=>?_
    rw[hT j hj,(wH (k:=k) (x:=x) (fr:=fr) (s':=kI x c k) (i:=j) (hD j hj) (hX j hj)).2,ecf]
 ·obtain rfl:k=5:=by have:=of_decide_eq_false h;omega
  obtain⟨n1,n2⟩:=hNd 5 D hD (Nat.le_refl _)
  refine dA (eJ ?_)
  refine aD ?_
  refine qa ?_
  refine sK (aEC b fr D x.bad (.slice lo LL.length lc) X w W _ n1 n2 (hBx 5 X hX) H.f1.tl) ?_
  rintro e w7 ⟨D',v,rfl,hD',H⟩
  refine⟨_,rfl,?_⟩
  repeat first|refine qa ?_|refine aE ?_|refine aD ?_
  refine aOw H (aNN fr (fr+1) D' x.bad (.slice lo LL.length lc) X) ?_
  intro w8 H z8
  refine aE ?_
  refine aD ?_
  iterate 3 refine qa ?_
  refine qg (Eq.trans (aO _ _ rfl ManyK.out Qv H.v2 Yo) (by rw[jG (aF7 _ _ _ _ _)])) ?_
  refine qa ?_
  refine aOb H cW (aAA _ _) ?_
  intro w9 H z9
  repeat first|refine qa ?_|refine aE ?_
  have e1:rQ x c=⟨fr+1,i7 x c⟩:=by unfold rQ;rw[if_pos hE,ecf]
  have e2:=aMP hE hD hX
  rw[e2] at H
  refine bC (aZ ((aN _ _).trans hd) (aDF rfl Qv Qv Qv ManyK.out H.v5 (Nat.le_refl _)) ⟨D',v,by rw[e1,hE],λi hi=>?_,H.sub (List.Sublist.cons_cons _ (List.Sublist.cons_cons _ (List.nil_sublist _)))⟩)
  rw[e1,hD' i hi]
  show doN _ _ _ _ _=i7 x c i
  unfold doN i7
  by_cases g:(i:Int)=x.bad
  ·rw[if_pos g,if_pos g,hD i hi,aAm g]
  ·rw[if_neg g,if_neg g,hD i hi,hX i hi]
theorem wL(w:World):(callFunc 53 #[]).run Tryz.prog w=.ok (.enter 53 #[]) w:=by go_simp
theorem wN(x:Value)(w:World):(callFunc 54 #[x]).run Tryz.prog w=.ok (.enter 54 #[x]) w:=by go_simp
theorem yD(w:World):Calls Tryz.prog 54 #[.int .i64 0] w λe w'=>e=.returned (aU (cK St.beg0) 0 7)∧Below w.heap.size w w':=by
 go_enter Tryz.func54,Tryz.ntmps54
 go_wp2_with fail
 refine bodyPost_ret (v:=aU (cK St.beg0) 0 7) (by simp[results,Tryz.results54,go_sem];rfl) rfl ⟨rfl,?_⟩
 exact (Below.refl _ _).alloc (Nat.le_refl _) _
set_option maxHeartbeats 2000000 in
theorem aCQ:aPh 36:=by
 intro id t w _ _
 refine bW Tryz.func36 rfl 25 rfl Yd (λA hs hd hb=>?_)
 have b0:A.eval (.tmp 0)=.int .i64 id:=hb 0 _ rfl
 have b1:A.eval (.tmp 1)=aU (oH t) 0 4:=hb 1 _ rfl
 clear hb
 refine aD (aI ?_)
 refine aR rfl Yw (λK hK=>?_)
 refine dD _ _ _ rfl (aB rfl b1) Yd ?_
 intro w1 m1 k1 z1
 refine hK _ _ ?_
 clear hK K
 refine aR rfl Yw (λK hK=>?_)
 refine aS _ _ rfl kJ Yd ?_
 intro w2 m2 k2 z2
 have mt2:=m1.below k2
 refine hK _ _ ?_
 clear hK K
 refine Yp ?_
 refine aE ?_
 refine aJ ?_
 refine aD ?_
 refine Yp ?_
 refine aR rfl Yw (λK hK=>?_)
 refine bM _ 52 _ _ rfl (Ye rfl) (eG _ _) (fY id _) ?_
 rintro e w3 ⟨rfl,k3⟩
 have n3:=k3.size
 have mt3:=mt2.below k3
 have mr3:=m2.below k3
 refine⟨_,rfl,?_⟩
 refine hK _ _ ?_
 clear hK K
 refine Yq (cX _ _ rfl (Ye rfl) _) ?_
 refine aE ?_
 refine lY (t:=iB id) ((Ye rfl).trans (by rw[Bool.not_not])) (λhno=>?_) (λhno=>?_)
 ·have e1:gS id t=dW:=by unfold gS;rw[hno];rfl
  have e2:aCu id=3:=by unfold aCu;rw[hno];rfl
  refine aD ?_
  refine Yq (aFX rfl _) ?_
  refine bR Yw (λK hK=>?_)
  refine aH _ _ _ _ rfl aV (Ye rfl) (Ye rfl) mr3 Yc (cB _ _ _ _) rfl ?_
  intro w4 mm4 k4 z4
  have mr4:=Vh.congr mm4 (dB _ _)
  have mt4:=mt3.kept k4 Yo
  refine hK _ ?_
  clear hK K
  refine Yp ?_
  refine aE ?_
  refine bC ?_
  simp only[Nx,Exit.then]
  rw[e1,e2]
  refine aZ ((aN _ _).trans hd) (kZ rfl (Ye rfl) (Ye rfl) aV mr4 (Nat.le_refl _)) ⟨none,0,rfl,World.ownsRow_nil _ _ _ _,aC ((k1.trans (k2.mono Yo)).trans (k3.mono Yo)) k4 Yo Yo⟩
 ·have e1:gS id t=bgN id t (λ_=>St.beg0):=by unfold gS;rw[hno];rfl
  have e2:aCu id=0:=by unfold aCu;rw[hno];rfl
  refine bK ?_
  refine aJ ?_
  have hS0:(λW=>Vh 23 W w.heap.size 4 4 (oH t)) w3.drew:=mt3
  have mr0:Vh _ w3.drew _ _ _ _:=mr3
  have ez:w3.drew.heap.size=w3.heap.size:=rfl
  have kA:Below w.heap.size w w3.drew:=aP ((k1.trans (k2.mono Yo)).trans (k3.mono Yo))
  refine eO (S:=λW=>Vh 23 W w.heap.size 4 4 (oH t)) (.mv 0 (.rd 1 (.two 2 4 (.mv 3 (.go 4 (.go 5 .fin))) (.go 2 (.mv 3 (.go 5 .fin)))))) [] (by kernel_rfl) (by kernel_rfl) ?_
  refine Yj ?_
  refine Yr rfl hS0 (λ_ hS=>cU _ _ rfl aFC (Ye rfl) hS Yo (λj _=>by rw[Nat.zero_add])) ?_
  refine zW ?_ ?_
  ·refine cM rfl rfl Yw (λK hK=>?_)
   refine yS _ 53 _ rfl (wL _) (uA _) ?_
   rintro e w4 ⟨rfl,k4⟩
   have n4:=k4.size
   have mt4:=hS0.below k4
   have mr4:=mr0.below k4
   refine⟨_,rfl,?_⟩
   refine hK _ _ (λ_ _=>mt4) ?_
   clear hK K
   refine Yk rfl (λ_=>aCH _ _ _ rfl (id:=id) (t:=t) (r:=beginR) (Ye rfl) (Ye rfl) (Ye rfl) _) ?_
   refine cM rfl rfl Yw (λK hK=>?_)
   refine aS _ _ rfl kJ Yd ?_
   intro w5 m5 k5 z5
   have mt5:=mt4.below k5
   have mr5:=mr4.below k5
   refine hK _ _ (λ_ _=>mt5) ?_
   clear hK K
   refine dQ rfl Yw (λK hK=>?_)
   refine aH _ _ _ _ rfl aV (Ye rfl) (Ye rfl) m5 Yc (cB _ _ _ _) rfl ?_
   intro w6 mm6 k6 z6
   have mp6:=Vh.congr mm6 (dB _ _)
   have mt6:=mt5.kept k6 Yo
   have mr6:=mr5.kept k6 Yo
   refine hK _ (λ_ _=>mt6) ?_
   clear hK K
   refine fN ?_
   refine aJ ?_
   refine aD ?_
   refine Yp ?_
   refine aE ?_
   refine aT ?_
   refine dF (λr a W=>∃x:Nat,x≤3∧3-x≤r∧a.tmps.size=25∧a.defers=[]∧a.eval (.tmp 4)=.pointer (some ⟨w1.heap.size,0,none⟩)∧a.eval (.tmp 6)=.pointer (some ⟨w4.heap.size,0,none⟩)∧a.eval (.tmp 16)=.int .i64 (x:Int)∧Vh 55 W w1.heap.size 74 74 (ndF dW (.slice none 0 0))∧Vh 55 W (w4.heap.size) 74 74 (ndF (bgN id t (vQ x)) (.slice none 0 0))∧Below w.heap.size w W∧w6.heap.size≤W.heap.size) 3 ⟨0,Yo,Yo,(bY _ _).trans hs,(aN _ _).trans hd,(Ye rfl),(Ye rfl),(Ye rfl),mr6,by rw[aCh];exact mp6,aC ((kA.trans (k4.mono Yo)).trans (k5.mono Yo)) k6 Yo Yo,Yo⟩ (λr B W hI=>?_)
   clear b0 b1 hs hd
   obtain⟨x,hx,hr2,hs,hd,b4,b6,b16,mr,mp,kB,hW⟩:=hI
   by_cases hin:x<3
   ·refine aD (aI ?_)
    refine Yq (aY (b:=true) _ _ rfl (aB rfl b16) (aF _ _) (decide_eq_true Yo) _) ?_
    refine aE ?_
    refine aJ (bO (Ye rfl) (bK ?_))
    refine aJ (aT ?_)
    refine aD ?_
    iterate 2 refine Yp ?_
    refine aE ?_
    refine aQ ?_
    refine Yp ?_
    refine aR rfl Yw (λK hK=>?_)
    refine bM _ 54 _ _ rfl (aF _ _) (wN _ _) (yD _) ?_
    rintro e w11 ⟨rfl,k11⟩
    have n11:=k11.size
    have mr11:=mr.below k11
    have mp11:=mp.below k11
    refine⟨_,rfl,?_⟩
    refine hK _ _ ?_
    clear hK K
    refine Yq (nK rfl (aB rfl b6) _) ?_
    refine Yq (cZ _ _ _ _ rfl Tryz.underlying46 fC.size (Ye rfl) (Ye rfl) rfl hin _) ?_
    refine bR Yw (λK hK=>?_)
    refine aH _ _ _ _ rfl fC (Ye rfl) (Ye rfl) mp11 Yo (dK _) rfl ?_
    intro w12 mm12 k12 z12
    have mp12:Vh 55 w12 (w4.heap.size) 74 74 (ndF (bgN id t (vQ (x+1))) (.slice none 0 0)):=by rw[←aBJ];exact Vh.congr mm12 (yO _ _ _ x hin)
    have mr12:=mr11.kept k12 Yo
    refine hK _ ?_
    clear hK K
    refine fT ?_
    refine aQ ?_
    refine Yq (bU _ _ rfl (aB rfl b16) (aF _ _) Yo Yo _) ?_
    refine Yp ?_
    exact bP ⟨3-(x+1),Yo,x+1,Yo,Yo,(bY _ _).trans hs,(aN _ _).trans hd,(aB rfl b4),(aB rfl b6),(Ye rfl).trans (by rw[Int.natCast_add];rfl),mr12,mp12,aC (kB.trans (k11.mono Yo)) k12 Yo Yo,Yo⟩
   ·refine aD (aI ?_)
    refine Yq (aY (b:=false) _ _ rfl (aB rfl b16) (aF _ _) (decide_eq_false Yo) _) ?_
    obtain rfl:x=3:=Yo
    rw[aBE] at mp
    refine aE ?_
    refine aJ (bL (Ye rfl) (dA (eJ ?_)))
    refine aD ?_
    refine Yq (aO _ _ rfl aV (aB rfl b6) mp Yc) ?_
    refine bR Yw (λK hK=>?_)
    refine aH _ _ _ _ rfl aV (aB rfl b4) (Ye rfl) mr Yc (cB _ _ _ _) rfl ?_
    intro w11 mm11 k11 z11
    have mr11:=Vh.congr mm11 (dB _ _)
    have mp11:=mp.kept k11 Yo
    refine hK _ ?_
    clear hK K
    refine Yp ?_
    refine aE ?_
    refine bC ?_
    rw[e1,e2]
    refine aZ ((aN _ _).trans hd) (kZ rfl (aB rfl b4) (Ye rfl) aV mr11 (Nat.le_refl _)) ⟨none,0,rfl,World.ownsRow_nil _ _ _ _,aC kB k11 Yo Yo⟩
  ·refine cM rfl rfl Yw (λK hK=>?_)
   refine aS _ _ rfl kJ Yd ?_
   intro w4 m4 k4 z4
   have mt4:=hS0.below k4
   have mr4:=mr0.below k4
   refine hK _ _ (λ_ _=>mt4) ?_
   clear hK K
   refine cM rfl rfl Yw (λK hK=>?_)
   refine yS _ 53 _ rfl (wL _) (uA _) ?_
   rintro e w5 ⟨rfl,k5⟩
   have n5:=k5.size
   have mt5:=mt4.below k5
   have mr5:=mr4.below k5
   have mp5:=m4.below k5
   refine⟨_,rfl,?_⟩
   refine hK _ _ (λ_ _=>mt5) ?_
   clear hK K
   refine Yk rfl (λ_=>aCH _ _ _ rfl (id:=id) (t:=t) (r:=beginR) (Ye rfl) (Ye rfl) (Ye rfl) _) ?_
   refine dQ rfl Yw (λK hK=>?_)
   refine aH _ _ _ _ rfl aV (Ye rfl) (Ye rfl) mp5 Yc (cB _ _ _ _) rfl ?_
   intro w6 mm6 k6 z6
   have mp6:=Vh.congr mm6 (dB _ _)
   have mt6:=mt5.kept k6 Yo
   have mr6:=mr5.kept k6 Yo
   refine hK _ (λ_ _=>mt6) ?_
   clear hK K
   refine fN ?_
   refine aJ ?_
   refine aD ?_
   refine Yp ?_
   refine aE ?_
   refine aT ?_
   refine dF (λr a W=>∃x:Nat,x≤3∧3-x≤r∧a.tmps.size=25∧a.defers=[]∧a.eval (.tmp 4)=.pointer (some ⟨w1.heap.size,0,none⟩)∧a.eval (.tmp 6)=.pointer (some ⟨w3.drew.heap.size,0,none⟩)∧a.eval (.tmp 16)=.int .i64 (x:Int)∧Vh 55 W w1.heap.size 74 74 (ndF dW (.slice none 0 0))∧Vh 55 W (w3.drew.heap.size) 74 74 (ndF (bgN id t (vQ x)) (.slice none 0 0))∧Below w.heap.size w W∧w6.heap.size≤W.heap.size) 3 ⟨0,Yo,Yo,(bY _ _).trans hs,(aN _ _).trans hd,(Ye rfl),(Ye rfl),(Ye rfl),mr6,by rw[aCh];exact mp6,aC ((kA.trans (k4.mono Yo)).trans (k5.mono Yo)) k6 Yo Yo,Yo⟩ (λr B W hI=>?_)
   clear b0 b1 hs hd
   obtain⟨x,hx,hr2,hs,hd,b4,b6,b16,mr,mp,kB,hW⟩:=hI
   by_cases hin:x<3
   ·refine aD (aI ?_)
    refine Yq (aY (b:=true) _ _ rfl (aB rfl b16) (aF _ _) (decide_eq_true Yo) _) ?_
    refine aE ?_
    refine aJ (bO (Ye rfl) (bK ?_))
    refine aJ (aT ?_)
    refine aD ?_
    iterate 2 refine Yp ?_
    refine aE ?_
    refine aQ ?_
    refine Yp ?_
    refine aR rfl Yw (λK hK=>?_)
    refine bM _ 54 _ _ rfl (aF _ _) (wN _ _) (yD _) ?_
    rintro e w11 ⟨rfl,k11⟩
    have n11:=k11.size
    have mr11:=mr.below k11
    have mp11:=mp.below k11
    refine⟨_,rfl,?_⟩
    refine hK _ _ ?_
    clear hK K
    refine Yq (nK rfl (aB rfl b6) _) ?_
    refine Yq (cZ _ _ _ _ rfl Tryz.underlying46 fC.size (Ye rfl) (Ye rfl) rfl hin _) ?_
    refine bR Yw (λK hK=>?_)
    refine aH _ _ _ _ rfl fC (Ye rfl) (Ye rfl) mp11 Yo (dK _) rfl ?_
    intro w12 mm12 k12 z12
    have mp12:Vh 55 w12 (w3.drew.heap.size) 74 74 (ndF (bgN id t (vQ (x+1))) (.slice none 0 0)):=by rw[←aBJ];exact Vh.congr mm12 (yO _ _ _ x hin)
    have mr12:=mr11.kept k12 Yo
    refine hK _ ?_
    clear hK K
    refine fT ?_
    refine aQ ?_
    refine Yq (bU _ _ rfl (aB rfl b16) (aF _ _) Yo Yo _) ?_
    refine Yp ?_
    exact bP ⟨3-(x+1),Yo,x+1,Yo,Yo,(bY _ _).trans hs,(aN _ _).trans hd,(aB rfl b4),(aB rfl b6),(Ye rfl).trans (by rw[Int.natCast_add];rfl),mr12,mp12,aC (kB.trans (k11.mono Yo)) k12 Yo Yo,Yo⟩
   ·refine aD (aI ?_)
    refine Yq (aY (b:=false) _ _ rfl (aB rfl b16) (aF _ _) (decide_eq_false Yo) _) ?_
    obtain rfl:x=3:=Yo
    rw[aBE] at mp
    refine aE ?_
    refine aJ (bL (Ye rfl) (dA (eJ ?_)))
    refine aD ?_
    refine Yq (aO _ _ rfl aV (aB rfl b6) mp Yc) ?_
    refine bR Yw (λK hK=>?_)
    refine aH _ _ _ _ rfl aV (aB rfl b4) (Ye rfl) mr Yc (cB _ _ _ _) rfl ?_
    intro w11 mm11 k11 z11
    have mr11:=Vh.congr mm11 (dB _ _)
    have mp11:=mp.kept k11 Yo
    refine hK _ ?_
    clear hK K
    refine Yp ?_
    refine aE ?_
    refine bC ?_
    rw[e1,e2]
    refine aZ ((aN _ _).trans hd) (kZ rfl (aB rfl b4) (Ye rfl) aV mr11 (Nat.le_refl _)) ⟨none,0,rfl,World.ownsRow_nil _ _ _ _,aC kB k11 Yo Yo⟩
def BgC(fn:Nat):Prop:=∀(t:Tn) (w:World),t.Ok→Calls Tryz.prog fn #[aU (oH t) 0 4] w λe w'=>∃D:Nat→Nd×Ad,e=.returned (aU (nH 0 D) 0 297)∧(∀i,i<4→(D i).1=gS (i:Nat) t)∧Cx w w' [oO w.heap.size D]
theorem aEY:BgC 20:=by
 intro t w ht
 refine bW Tryz.func20 rfl 19 rfl Yd (λA hs hd hb=>?_)
 have b0:A.eval (.tmp 0)=aU (oH t) 0 4:=hb 0 _ rfl
 clear hb
 have H:=Cx.start w
 refine aD (aI ?_)
 refine lE H ?_
 intro w1 H z1
 refine jS H ?_
 intro w2 H z2
 refine aE ?_
 refine aD ?_
 refine jS H ?_
 intro w3 H z3
 refine aE ?_
 refine aJ ?_
 refine aD ?_
 repeat first|refine qa ?_|refine aE ?_
 refine aT ?_
 refine dF (λr A W => ∃ (i : Nat) (D : Nat → Nd × Ad), i ≤ 4 ∧ 4 - i ≤ r ∧ A.tmps.size = 19 ∧ A.defers = [] ∧ A.eval (.tmp 1) = .pointer (some ⟨w.heap.size, 0, none⟩) ∧ A.eval (.tmp 2) = .pointer (some ⟨w1.heap.size, 0, none⟩) ∧ A.eval (.tmp 3) = .pointer (some ⟨w2.heap.size, 0, none⟩) ∧ A.eval (.tmp 5) = .int .i64 (i : Int) ∧ (∀ j, j < i → (D j).1 = gS (j : Nat) t) ∧
   Cx w W [oO w.heap.size D,bI 58 w2.heap.size 297 297 (nH 0 D),bI 58 w1.heap.size 297 297 (nO 0 (λ_=>dW) (λ_=>fJ (none,0) 0)),bI 23 w.heap.size 4 4 (oH t)]) 4
  ⟨0,λ_=>(dW,(none,0)),Nat.zero_le _,Yo,(bY _ _).trans hs,(aN _ _).trans hd,Qv,Qv,Qv,Qv,λj h=>absurd h (Nat.not_lt_zero j),H.add (Below.refl _ _) (oO w.heap.size (λ_=>(dW,(none,0)))) (λ_ _=>World.ownsRow_nil _ _ _ _) (λj ⟨_,_,e⟩=>absurd e (λe=>nomatch e))⟩ (λr B W hI=>?_)
 clear b0 hs hd H
 obtain⟨i,D,hi,hr,hs,hd,b1,b2,b3,b5,hD,H⟩:=hI
 refine aD (aI ?_)
 repeat first|refine qa ?_|refine aE ?_|refine aD ?_|refine aJ ?_
 refine jI (λh=>?_) (λh=>?_)
 ·have hin:i<4:=by have:=of_decide_eq_true h;omega
  refine bK ?_
  refine aJ (aT ?_)
  refine aD ?_
  repeat first|refine qa ?_|refine aE ?_|refine aQ ?_
  have hsz:=H.size
  refine pE (aCQ (i:Int) t W (by unfold R64;omega) ht) ?_
  rintro e w4 ⟨a',c',rfl,g1,k4⟩
  refine⟨_,rfl,?_⟩
  replace H:=H.add k4 (wX w.heap.size (gS (i:Nat) t,(a',c'))) (cR g1 hsz) (λj e=>(g1.lt j e).1)
  iterate 5 refine qa ?_
  refine aJH H (λj hj=>Eq.trans (by rw[show 0+1+i*74=1+i*74 by omega];rfl) (aKQ 0 D i (gS (i:Nat) t,(a',c')) j hj)) (cB _ _ _ _) ?_
  intro w5 H z5
  refine fT ?_
  refine aQ ?_
  repeat refine qa ?_
  exact bP ⟨4-(i+1),Yo,i+1,_,Yo,Yo,(bY _ _).trans hs,(aN _ _).trans hd,Qv,Qv,Qv,Eq.trans Qv (by rw[Int.natCast_add];rfl),λj hj=>(by
   by_cases e:j=i
   ·rw[e,bZ]
   ·rw[upM_other _ _ e];exact hD j Yo),pZ (g:=wX w.heap.size) i H⟩
 ·obtain rfl:i=4:=by have:=of_decide_eq_false h;omega
  refine dA (eJ ?_)
  refine aD ?_
  refine qa ?_
  refine aJH H cW (aAA _ _) ?_
  intro w5 H z5
  refine aE ?_
  exact bC (aZ ((aN _ _).trans hd) (nD rfl Qv ManyK.out H.v2 (Nat.le_refl _)) ⟨D,rfl,hD,H.sub (List.Sublist.cons_cons _ (List.nil_sublist _))⟩)
set_option maxHeartbeats 400000 in
theorem mT (a n : Int) (hn : 0 < n) (hn2 : n ≤ 2000000000000000) (w : World) :
  Calls Tryz.prog 8 #[.int .i64 a,.int .i64 n] w λe w'=>∃j:Nat,(j:Int)<n∧e=.returned (.int .i64 (j:Int))∧w'=w:=by
 have b1:=Int.tmod_lt_of_pos a hn
 have b2: -n<a.tmod n:=by
  have:=Int.tmod_lt_of_pos (-a) hn
  rw[Int.neg_tmod] at this
  omega
 have h0:¬n=0:=Yo
 by_cases h:a.tmod n<0
 ·go_enter Tryz.func8,Tryz.ntmps8
  go_wp2
  go_ret
  exact⟨(a.tmod n+n).toNat,Yo,by rw[Int.toNat_of_nonneg Yo];rfl,rfl⟩
 ·go_enter Tryz.func8,Tryz.ntmps8
  go_wp2
  go_ret
  exact⟨(a.tmod n).toNat,Yo,by rw[Int.toNat_of_nonneg Yo];rfl,rfl⟩
structure Li where
 rd:Nat→Nat→Int
 bad:Int
 LL:List Lj
 lo:Option Addr
 lc:Nat
def Li.x(c:Li):Ip:=⟨c.rd,c.bad,c.LL.map Lj.y⟩
structure LiOK (w:World) (c:Li):Prop where
 ip:IpOK c.x
 jr:JRd w c.lo c.LL
 lc:c.LL.length≤c.lc
theorem LiOK.below{w w':World}{c:Li}(h:LiOK w c)(k:Below w.heap.size w w'):LiOK w' c:=⟨h.ip,h.jr.below k,h.lc⟩
def RdS{α:Type}(F:α→Nat→Value)(s:Nat)(w:World)(ao:Option Addr)(L:List α):Prop:=0<L.length→∃b o,ao=some ⟨b,o,none⟩∧∀i c,L[i]?=some c→∀k,k<s→w.cell? ⟨b,o+i*s+k,none⟩=some (F c k)
theorem RdS.below{α:Type}{F:α→Nat→Value}{s:Nat}{w w':World}{ao:Option Addr}{L:List α}(h:RdS F s w ao L)(k:Below w.heap.size w w'):RdS F s w' ao L:=λhl=>by
 obtain⟨b,o,e,hc⟩:=h hl
 exact⟨b,o,e,λi c hi j hj=>bD (hc i c hi j hj) k⟩
def RlE(r s:Rl):Prop:=∀j,j<4→r.I j=s.I j∧r.M j=s.M j∧r.J j=s.J j
theorem RlE.symm{r s:Rl}(h:RlE r s):RlE s r:=λj hj=>⟨(h j hj).1.symm,(h j hj).2.1.symm,(h j hj).2.2.symm⟩
theorem RlE.trans{r s t:Rl}(h:RlE r s)(h':RlE s t):RlE r t:=λj hj=>⟨(h j hj).1.trans (h' j hj).1,(h j hj).2.1.trans (h' j hj).2.1,(h j hj).2.2.trans (h' j hj).2.2⟩
theorem RlE.refl(r:Rl):RlE r r:=λ_ _=>⟨rfl,rfl,rfl⟩
theorem zY{b b':Nat→Bool}{f f':Nat→Int}:∀{k:Nat},(∀i,i<k→b i=b' i∧f i=f' i)→gW b f k=gW b' f' k
 |0,_=>rfl
 |k+1,h=>by
  show gW b f k++_=gW b' f' k++_
  rw[zY (λi hi=>h i Yo),(h k Yo).1,(h k Yo).2]
theorem vG{f g:Nat→Int}:∀{k:Nat},(∀i,i<k→f i=g i)→lT f k=lT g k
 |0,_=>rfl
 |k+1,h=>by
  show wrap64 (wrap64 (8*lT f k)+f k)=wrap64 (wrap64 (8*lT g k)+g k)
  rw[vG (λi hi=>h i Yo),h k Yo]
theorem aFR{ax bx:Nat→St}{r s:Rl}(h:∀a,a<3→ax a=bx a)(hr:RlE r s):mX ax r=mX bx s:=by
 unfold mX inN
 rw[h 0 Yo,h 1 Yo,h 2 Yo,vG (λi hi=>(hr i hi).2.1),vG (λi hi=>(hr i hi).2.2),(hr 0 Yo).1,(hr 1 Yo).1,(hr 2 Yo).1,(hr 3 Yo).1]
theorem aFf{ax bx:Nat→St}{r s:Rl}(h:∀a,a<3→ax a=bx a)(hr:RlE r s):dgN ax r=dgN bx s:=by
 have e:qI ax r=qI bx s:=by
  funext i
  unfold qI
  rw[aFR h hr]
 unfold dgN
 rw[e]
theorem aEP{v:Nat→Int}{b:Nat→Bool}{D bad:Int}(h:∀s:Nat,s<4→(s:Int)≠bad→v s=D∧b s=true):xX v b 4=D∧vtS v b D=true∧0<ti b 4:=by
 have p:∀s:Nat,s<4→(s:Int)≠bad→(if b s=true∧v s=D then 1 else 0)=1:=λs hs g=>if_pos ⟨(h s hs g).2,(h s hs g).1⟩
 have k3:3≤vk b v D 4:=by
  have p0:=p 0 Yo;have p1:=p 1 Yo;have p2:=p 2 Yo;have p3:=p 3 Yo
  show 3≤(((0+if b 0=true∧v 0=D then 1 else 0)+if b 1=true∧v 1=D then 1 else 0)+if b 2=true∧v 2=D then 1 else 0)+if b 3=true∧v 3=D then 1 else 0
  generalize (if b 0=true∧v 0=D then 1 else 0)=y0 at*
  generalize (if b 1=true∧v 1=D then 1 else 0)=y1 at*
  generalize (if b 2=true∧v 2=D then 1 else 0)=y2 at*
  generalize (if b 3=true∧v 3=D then 1 else 0)=y3 at*
  omega
 have k1:∀u,u≠D→vk b v u 4≤1:=λu hu=>by
  have q:∀s:Nat,s<4→(s:Int)≠bad→(if b s=true∧v s=u then 1 else 0)=0:=λs hs g=>if_neg (by rintro⟨_,e⟩;exact hu (e.symm.trans (h s hs g).1))
  have l:∀s:Nat,(if b s=true∧v s=u then 1 else 0)≤1:=λs=>by split<;>omega
  have p0:=q 0 Yo;have p1:=q 1 Yo;have p2:=q 2 Yo;have p3:=q 3 Yo
  have l0:=l 0;have l1:=l 1;have l2:=l 2;have l3:=l 3
  show (((0+if b 0=true∧v 0=u then 1 else 0)+if b 1=true∧v 1=u then 1 else 0)+if b 2=true∧v 2=u then 1 else 0)+(if b 3=true∧v 3=u then 1 else 0)≤1
  generalize (if b 0=true∧v 0=u then 1 else 0)=y0 at*
  generalize (if b 1=true∧v 1=u then 1 else 0)=y1 at*
  generalize (if b 2=true∧v 2=u then 1 else 0)=y2 at*
  generalize (if b 3=true∧v 3=u then 1 else 0)=y3 at*
  omega
 have all:∀i,vk b v (v i) 4≤vk b v D 4:=λi=>by
  by_cases e:v i=D
  ·rw[e];exact Nat.le_refl _
  ·have:=k1 _ e;omega
 have hV:nP v b 4 D:=by
  by_cases c:b 0=true∧v 0=D
  ·exact Or.inr ⟨0,Yo,c.1,c.2.symm,λi _ _=>all i,λi hi=>by omega⟩
  ·have g0:(0:Int)=bad:=by
    by_cases g:((0:Nat):Int)=bad
    ·exact g
    ·exact absurd ⟨(h 0 Yo g).2,(h 0 Yo g).1⟩ c
   have h1:=h 1 Yo Yo
   refine Or.inr ⟨1,Yo,h1.2,h1.1.symm,λi _ _=>all i,λi hi hb=>?_⟩
   obtain rfl:i=0:=Yo
   have:v 0≠D:=λe=>c ⟨hb,e⟩
   have:=k1 _ this;omega
 have t1:=aB0 b v D 4
 have t2:=aBu b 4
 refine⟨(aFY hV).symm,?_,Yo⟩
 unfold vtS
 exact decide_eq_true ⟨Yo,Yo⟩
section
variable {x:Ip} {c:Cl}
theorem aJV(hE:cL x c=0){i:Nat}(hi:i<4)(g:(i:Int)≠x.bad):(ndK x c 5 i).us=(ndK x c 3 i).us:=by rw[tH hE hi g,oN hE hi g]
theorem aOo(hE:cL x c=0){i:Nat}(hi:i<4)(g:(i:Int)≠x.bad):(ndK x c 5 i).ax=(ndK x c 3 i).ax:=by rw[tH hE hi g,oN hE hi g]
theorem aOv(hE:cL x c=0){i:Nat}(hi:i<4)(g:(i:Int)≠x.bad):(ndK x c 5 i).dg=(ndK x c 3 i).dg:=by rw[tH hE hi g,oN hE hi g]
theorem aEt(hE:cL x c=0){i:Nat}(hi:i<4)(g:(i:Int)≠x.bad):(ndK x c 2 i).rl=(c.nd i).rl:=by rw[nR hE hi g,qJ hE hi g]
theorem aOf(hE:cL x c=0){i:Nat}(hi:i<4)(g:(i:Int)≠x.bad):(ndK x c 2 i).ax=(c.nd i).ax:=by rw[nR hE hi g,qJ hE hi g]
theorem aOc(hE:cL x c=0){i:Nat}(hi:i<4)(g:(i:Int)≠x.bad):(ndK x c 2 i).tn=(c.nd i).tn:=by rw[nR hE hi g,qJ hE hi g]
theorem aEU(hE:cL x c=0){i:Nat}(hi:i<4)(g:(i:Int)≠x.bad):(ndK x c 4 i).rl=(c.nd i).rl:=by rw[oN hE hi g,mY hE hi g];exact aEt hE hi g
theorem aEQ(hE:cL x c=0){i:Nat}(hi:i<4)(g:(i:Int)≠x.bad)(a:Nat):(ndK x c 3 i).us a=nG (gW (c.nd i).rl.I (λs=>(ndK x c 3 i).ag s a) 4):=by
 rw[mY hE hi g,←aEt hE hi g];rfl
theorem aE4(hE:cL x c=0){i:Nat}(hi:i<4)(g:(i:Int)≠x.bad)(a:Nat):(ndK x c 3 i).ax a=rT ((c.nd i).ax a) (c.nd i).tn ((ndK x c 3 i).us a):=by
 rw[mY hE hi g,←aOf hE hi g,←aOc hE hi g];rfl
theorem aJC(hE:cL x c=0){i:Nat}(hi:i<4)(g:(i:Int)≠x.bad):(ndK x c 3 i).dg=dgN (ndK x c 3 i).ax (c.nd i).rl:=by
 rw[mY hE hi g,←aEt hE hi g];rfl
theorem aLy(hE:cL x c=0){i k:Nat}(hi:i<4)(hk:k<4)(gi:(i:Int)≠x.bad)(gk:(k:Int)≠x.bad)(hr:RlE (c.nd i).rl (c.nd k).rl){a:Nat}(ha:a<3):(ndK x c 3 i).us a=(ndK x c 3 k).us a:=by
 rw[aEQ hE hi gi,aEQ hE hk gk,zY λs hs=>⟨(hr s hs).1,aKt hE hi hk hs gi gk ha⟩]
theorem aLM(hE:cL x c=0){i k:Nat}(hi:i<4)(hk:k<4)(gi:(i:Int)≠x.bad)(gk:(k:Int)≠x.bad)(ht:(c.nd i).tn=(c.nd k).tn)(ha:∀a,a<3→(c.nd i).ax a=(c.nd k).ax a)(hr:RlE (c.nd i).rl (c.nd k).rl){a:Nat}(h3:a<3):(ndK x c 3 i).ax a=(ndK x c 3 k).ax a:=by
 rw[aE4 hE hi gi,aE4 hE hk gk,aLy hE hi hk gi gk hr h3,ht,ha a h3]
theorem aKu(hE:cL x c=0){i k:Nat}(hi:i<4)(hk:k<4)(gi:(i:Int)≠x.bad)(gk:(k:Int)≠x.bad)(ht:(c.nd i).tn=(c.nd k).tn)(ha:∀a,a<3→(c.nd i).ax a=(c.nd k).ax a)(hr:RlE (c.nd i).rl (c.nd k).rl):(ndK x c 3 i).dg=(ndK x c 3 k).dg:=by
 rw[aJC hE hi gi,aJC hE hk gk,aFf (λa h3=>aLM hE hi hk gi gk ht ha hr h3) hr]
theorem aAT (hE : cL x c = 0) {i : Nat} {D bad : Int} (hi : i < 4) (gi : (i : Int) ≠ x.bad) (h : ∀ s : Nat, s < 4 → (s : Int) ≠ bad → vtK x c i s = D ∧ (c.nd i).rl.I s = true) :
  (ndK x c 5 i).vX=D∧(ndK x c 5 i).vS=true∧(∀s,judA (ndK x c 4 i) (bxK x c 4 i) s=decide (vtK x c i s=D)):=by
 obtain⟨h1,h2,h3⟩:=aEP (v:=vtK x c i) h
 have e:judX (ndK x c 4 i) (bxK x c 4 i)=D:=by
  unfold judX;rw[aEU hE hi gi];exact h1
 refine⟨?_,?_,λs=>?_⟩
 ·rw[tH hE hi gi];exact e
 ·rw[tH hE hi gi]
  show judS _ _=true
  unfold judS;rw[e,aEU hE hi gi];exact h2
 ·unfold judA vtA
  rw[e,aEU hE hi gi]
  exact decide_eq_decide.2 ⟨λq=>q.2,λq=>⟨h3,q⟩⟩
theorem aFE(hE:cL x c=0){i:Nat}(hi:i<4)(gi:(i:Int)≠x.bad)(h:(ndK x c 5 i).vX=(ndK x c 5 i).dg):i7 x c i=ndK x c 5 i:=by
 unfold i7
 rw[if_neg gi]
 show gD (ndK x c 5 i) (bxK x c 5 i)=_
 unfold gD aEd
 rw[if_neg (by rw[id5 hE hi gi,jQ hi];decide),if_neg (λq=>q.2 h)]
end
structure Inv (t:Tn) (bad:Int) (c:Cl):Prop where
 id:∀i,i<4→(c.nd i).id=(i:Nat)
 tn:∀i,i<4→(c.nd i).tn=t
 ax:∀i k:Nat,i<4→k<4→(i:Int)≠bad→(k:Int)≠bad→∀a,a<3→(c.nd i).ax a=(c.nd k).ax a
 rl:∀i k:Nat,i<4→k<4→(i:Int)≠bad→(k:Int)≠bad→RlE (c.nd i).rl (c.nd k).rl
 gd:∀i:Nat,i<4→(i:Int)≠bad→kP (c.nd i).rl=true
 on:∀i s:Nat,i<4→s<4→(i:Int)≠bad→(s:Int)≠bad→(c.nd i).rl.I s=true∧(c.nd i).rl.M s=0
theorem lI(t:Tn){i:Nat}(hi:i<4):gS (i:Nat) t={ dW with id:=(i:Nat),tn:=t,ax:=λ_=>St.beg0,rl:=beginR }:=by
 unfold gS;rw[if_neg (by rw[jQ hi];decide)]
theorem uW(t:Tn)(bad:Int):Inv t bad (kY t) where
 id i hi:=by show (gS (i:Nat) t).id=_;rw[lI t hi]
 tn i hi:=by show (gS (i:Nat) t).tn=_;rw[lI t hi]
 ax i k hi hk _ _ a _:=by show (gS (i:Nat) t).ax a=(gS (k:Nat) t).ax a;rw[lI t hi,lI t hk]
 rl i k hi hk _ _:=by show RlE (gS (i:Nat) t).rl (gS (k:Nat) t).rl;rw[lI t hi,lI t hk];exact RlE.refl _
 gd i hi _:=by show kP (gS (i:Nat) t).rl=true;rw[lI t hi];rfl
 on i s hi _ _ _:=by show (gS (i:Nat) t).rl.I s=true∧(gS (i:Nat) t).rl.M s=0;rw[lI t hi];exact⟨rfl,rfl⟩
section
variable {t:Tn} {bad:Int} {x:Ip} {c:Cl}
theorem aMV(h:Inv t bad c)(hb:x.bad=bad)(hE:cL x c=0){i k:Nat}(hi:i<4)(hk:k<4)(gi:(i:Int)≠bad)(gk:(k:Int)≠bad):(ndK x c 3 i).dg=(ndK x c 3 k).dg:=
 aKu hE hi hk (by rw[hb];exact gi) (by rw[hb];exact gk) ((h.tn i hi).trans (h.tn k hk).symm) (h.ax i k hi hk gi gk) (h.rl i k hi hk gi gk)
theorem aFk(h:Inv t bad c)(hb:x.bad=bad)(hE:cL x c=0){i:Nat}(hi:i<4)(gi:(i:Int)≠bad):∀s:Nat,s<4→(s:Int)≠bad→vtK x c i s=(ndK x c 3 i).dg∧(c.nd i).rl.I s=true:=λs hs gs=>
 ⟨(aKO hE hi hs (by rw[hb];exact gi) (by rw[hb];exact gs)).trans (aMV h hb hE hs hi gs gi),(h.on i s hi hs gi gs).1⟩
theorem aL0(h:Inv t bad c)(hb:x.bad=bad)(hE:cL x c=0){i:Nat}(hi:i<4)(gi:(i:Int)≠bad):(ndK x c 5 i).vX=(ndK x c 5 i).dg:=by
 rw[aOv hE hi (by rw[hb];exact gi)]
 exact (aAT hE hi (by rw[hb];exact gi) (aFk h hb hE hi gi)).1
theorem aAF(h:Inv t bad c)(hb:x.bad=bad)(hE:cL x c=0){i:Nat}(hi:i<4)(gi:(i:Int)≠bad):i7 x c i=ndK x c 5 i:=aFE hE hi (by rw[hb];exact gi) (aL0 h hb hE hi gi)
end
theorem aKj{f:Nat→Int}{n:Nat}{lo hi:Int}(h1:1≤n)(h2:n≤64)(hl:cl f n lo≤(n-1)/3)(hh:n-1-(n-1)/3<cl f n hi+ce f n hi):lo≤nG (gM f n)∧nG (gM f n)≤hi:=by
 obtain⟨m,hm⟩:=aGA f n h1
 rw[←aAr h1 h2 hm]
 obtain⟨a,b,ha,hb,rfl⟩:=hm
 have k1:=aOC ha hl
 have k2:=aOO hb hh
 have k3:=aAO ha hb Yo
 omega
def skI(b i:Nat):Nat:=if i<b then i else i+1
theorem aIu{b:Nat→Bool}{f:Nat→Int}(h:∀s,s<4→b s=true):gW b f 4=gM f 4:=by
 show (((([]++_)++_)++_)++_)=_
 rw[h 0 Yo,h 1 Yo,h 2 Yo,h 3 Yo]
 rfl
theorem aJf{b:Nat→Bool}{f:Nat→Int}{q:Nat}(hq:q<4)(h0:b q=false)(h:∀s,s<4→s≠q→b s=true):gW b f 4=gM (λi=>f (skI q i)) 3:=by
 show (((([]++_)++_)++_)++_)=_
 rcases four hq with rfl|rfl|rfl|rfl
 ·rw[h0,h 1 Yo Yo,h 2 Yo Yo,h 3 Yo Yo];rfl
 ·rw[h0,h 0 Yo Yo,h 2 Yo Yo,h 3 Yo Yo];rfl
 ·rw[h0,h 0 Yo Yo,h 1 Yo Yo,h 3 Yo Yo];rfl
 ·rw[h0,h 0 Yo Yo,h 1 Yo Yo,h 2 Yo Yo];rfl
theorem oP(p:Prop)[Decidable p]:(p→ind p=1)∧(¬p→ind p=0):=⟨lJ,sW⟩
theorem aIA{b:Nat→Bool}{f:Nat→Int}{bad lo hi:Int}(h:∀s:Nat,s<4→(s:Int)≠bad→b s=true∧lo≤f s∧f s≤hi):lo≤nG (gW b f 4)∧nG (gW b f 4)≤hi:=by
 by_cases ha:∀s,s<4→b s=true
 ·rw[aIu ha]
  have h0:=h 0 Yo;have h1:=h 1 Yo;have h2:=h 2 Yo;have h3:=h 3 Yo
  refine aKj Yo Yo ?_ ?_
  ·rw[cl4]
   have i0:=oP (f 0<lo);have i1:=oP (f 1<lo);have i2:=oP (f 2<lo);have i3:=oP (f 3<lo)
   have j0:=wQ (f 0<lo);have j1:=wQ (f 1<lo);have j2:=wQ (f 2<lo);have j3:=wQ (f 3<lo)
   generalize ind (f 0<lo)=y0 at*
   generalize ind (f 1<lo)=y1 at*
   generalize ind (f 2<lo)=y2 at*
   generalize ind (f 3<lo)=y3 at*
   by_cases c0:((0:Nat):Int)=bad
   ·have:=i1.2 (by have:=(h1 Yo).2;omega);have:=i2.2 (by have:=(h2 Yo).2;omega);have:=i3.2 (by have:=(h3 Yo).2;omega);omega
   ·have:=i0.2 (by have:=(h0 c0).2;omega)
    by_cases c1:((1:Nat):Int)=bad
    ·have:=i2.2 (by have:=(h2 Yo).2;omega);have:=i3.2 (by have:=(h3 Yo).2;omega);omega
    ·have:=i1.2 (by have:=(h1 c1).2;omega)
     by_cases c2:((2:Nat):Int)=bad
     ·have:=i3.2 (by have:=(h3 Yo).2;omega);omega
     ·have:=i2.2 (by have:=(h2 c2).2;omega);omega
  ·rw[aO0]
   have i0:=oP (f 0≤hi);have i1:=oP (f 1≤hi);have i2:=oP (f 2≤hi);have i3:=oP (f 3≤hi)
   generalize ind (f 0≤hi)=y0 at*
   generalize ind (f 1≤hi)=y1 at*
   generalize ind (f 2≤hi)=y2 at*
   generalize ind (f 3≤hi)=y3 at*
   by_cases c0:((0:Nat):Int)=bad
   ·have:=i1.1 (h1 Yo).2.2;have:=i2.1 (h2 Yo).2.2;have:=i3.1 (h3 Yo).2.2;omega
   ·have:=i0.1 (h0 c0).2.2
    by_cases c1:((1:Nat):Int)=bad
    ·have:=i2.1 (h2 Yo).2.2;have:=i3.1 (h3 Yo).2.2;omega
    ·have:=i1.1 (h1 c1).2.2
     by_cases c2:((2:Nat):Int)=bad
     ·have:=i3.1 (h3 Yo).2.2;omega
     ·have:=i2.1 (h2 c2).2.2;omega
 ·obtain⟨q,hq,h0⟩:∃q,q<4∧b q=false:=by
   by_cases b0:b 0=true
   ·by_cases b1:b 1=true
    ·by_cases b2:b 2=true
     ·by_cases b3:b 3=true
      ·exact absurd (λs hs=>by rcases four hs with rfl|rfl|rfl|rfl<;>assumption) ha
      ·exact⟨3,Yo,by simpa using b3⟩
     ·exact⟨2,Yo,by simpa using b2⟩
    ·exact⟨1,Yo,by simpa using b1⟩
   ·exact⟨0,Yo,by simpa using b0⟩
  have hqb:(q:Int)=bad:=by
   by_cases e:(q:Int)=bad
   ·exact e
   ·rw[(h q hq e).1] at h0;cases h0
  rw[aJf hq h0 (λs hs hn=>(h s hs Yo).1)]
  obtain⟨m,hm⟩:=aGA (λi=>f (skI q i)) 3 Yo
  rw[←aAr Yo Yo hm]
  refine aEv hm λi hi=>?_
  have:skI q i<4∧skI q i≠q:=by unfold skI;split<;>omega
  exact (h _ this.1 Yo).2
section
variable {t:Tn} {bad:Int} {x:Ip} {c:Cl}
theorem aGq(h:Inv t bad c)(hb:x.bad=bad)(hE:cL x c=0){i a:Nat}(hi:i<4)(gi:(i:Int)≠bad)(ha:a<3){lo hi':Int}(hr:∀s:Nat,s<4→(s:Int)≠bad→lo≤x.rd s a∧x.rd s a≤hi'):lo≤(i7 x c i).us a∧(i7 x c i).us a≤hi':=by
 have gi':(i:Int)≠x.bad:=by rw[hb];exact gi
 rw[aAF h hb hE hi gi,aJV hE hi gi',aEQ hE hi gi']
 refine aIA (bad:=bad) λs hs gs=>?_
 rw[aK0 hE hi hs gi' (by rw[hb];exact gs) ha]
 exact⟨(h.on i s hi hs gi gs).1,hr s hs gs⟩
theorem aFD(h:Inv t bad c)(hb:x.bad=bad)(hE:cL x c=0){i a:Nat}(hi:i<4)(gi:(i:Int)≠bad):(i7 x c i).ax a=rT ((c.nd i).ax a) t ((i7 x c i).us a):=by
 have gi':(i:Int)≠x.bad:=by rw[hb];exact gi
 rw[aAF h hb hE hi gi,aOo hE hi gi',aJV hE hi gi',aE4 hE hi gi',h.tn i hi]
end
section
variable {x:Ip} {c:Cl}
end
section
variable {n:Nd} {l m:List Ms}
end
structure Al (t:Tn) (b:Nat) (q:Nat) (c:Cl):Prop where
 id:∀i,i<4→(c.nd i).id=(i:Nat)
 tn:∀i,i<4→(c.nd i).tn=t
 ax:∀i k:Nat,i<4→k<4→∀a,a<3→(c.nd i).ax a=(c.nd k).ax a
 rl:∀i k:Nat,i<4→k<4→RlE (c.nd i).rl (c.nd k).rl
 gd:∀i:Nat,i<4→kP (c.nd i).rl=true
 on:∀i s:Nat,i<4→s<4→s≠b→(c.nd i).rl.I s=true∧(c.nd i).rl.M s=0
 jn:∀i,i<4→((c.nd i).rl.I b=true)∨(q:Int)≤(c.nd i).rl.J b
section
variable {t:Tn} {b:Nat} {x:Ip} {c:Cl}
end
theorem Cx.plus{w0 w w':World}{l m:List It}(H:Cx w0 w l)(G:Cx w w' m):Cx w0 w' (m++l):=by
 have H':=H.call G.bel
 have hs:=H.size
 refine⟨H'.bel,λx hx=>?_,λx hx k hk=>?_,List.pairwise_append.2 ⟨G.dis,H.dis,λx hx y hy k h1 h2=>?_⟩⟩
 ·rcases List.mem_append.1 hx with hx|hx
  ·exact G.it x hx
  ·exact H'.it x hx
 ·rcases List.mem_append.1 hx with hx|hx
  ·have:=G.up x hx k hk;omega
  ·exact H.up x hx k hk
 ·have h3:=G.up x hx k h1
  have h4:=y.lt (H.it y hy) h2
  omega
theorem aJg{x:Ip}{c:Cl}(h1: -1≤x.bad∧x.bad<4)(h2:0≤c.fr∧c.fr≤1073741823)(h3:x.ly.length≤400)(h4:∀i,i<4→(c.nd i).id=(i:Nat)):cL x c=0:=by
 unfold cL
 rw[if_neg Yo,if_neg Yo,if_pos ⟨h4 0 Yo,h4 1 Yo,h4 2 Yo,h4 3 Yo⟩]
theorem aGQ{x:Ip}{fr:Int}{D:Nat→Nd×Ad}{c:Cl}(hf:c.fr=fr)(hn:∀i,i<4→(D i).1=c.nd i):cL x ⟨fr,λi=>(D i).1⟩=cL x c∧(rQ x ⟨fr,λi=>(D i).1⟩).fr=(rQ x c).fr∧(∀i,i<4→(rQ x ⟨fr,λi=>(D i).1⟩).nd i=(rQ x c).nd i)∧wJ x ⟨fr,λi=>(D i).1⟩=wJ x c:=by
 have hk:∀k,∀i,i<4→(kI x ⟨fr,λi=>(D i).1⟩ k).nd i=(kI x c k).nd i∧(kI x ⟨fr,λi=>(D i).1⟩ k).bx i=(kI x c k).bx i:=by
  intro k
  induction k with
  |zero=>exact λi hi=>⟨hn i hi,rfl⟩
  |succ k ih=>
   intro i hi
   obtain⟨h1,h2⟩:=ih i hi
   refine⟨?_,?_⟩
   ·show wkN x fr _ k i=wkN x c.fr _ k i
    rw[hf]
    exact (wH h1 h2).1
   ·show lP x _ i k 4=lP x _ i k 4
    refine xC λj hj=>?_
    obtain⟨h3,h4⟩:=ih j hj
    show xY x fr _ k j=xY x c.fr _ k j
    rw[hf]
    exact (wH h3 h4).2
 have hN:∀i,i<4→i7 x ⟨fr,λi=>(D i).1⟩ i=i7 x c i:=λi hi=>by
  unfold i7
  rw[(hk 5 i hi).1,(hk 5 i hi).2]
  show (if _ then (D i).1 else _)=_
  rw[hn i hi]
 have hE:cL x ⟨fr,λi=>(D i).1⟩=cL x c:=by
  unfold cL
  dsimp only
  simp only[hf,hn 0 Yo,hn 1 Yo,hn 2 Yo,hn 3 Yo]
 refine⟨hE,?_,λi hi=>?_,?_⟩
 ·unfold rQ
  rw[hE]
  split
  ·show fr+1=c.fr+1;rw[hf]
  ·rfl
 ·unfold rQ
  rw[hE]
  split
  ·exact hN i hi
  ·rfl
 ·unfold wJ
  rw[hE]
  split
  ·refine List.map_congr_left λi hi=>hN i ?_
   unfold gdL at hi
   exact List.mem_range.1 (List.mem_filter.1 hi).1
  ·rfl
end Go.Proofs.YtdhblehhgpdpdacGreat
namespace Go.Proofs.YtdhblehhgpdpdacGreat
open Go.RowKit
open Go.RowKit
open Go.RowKit
end Go.Proofs.YtdhblehhgpdpdacGreat
namespace Go.Proofs.YtdhblehhgpdpdacGreat
open Go.RowKit
def t1:Tn:=⟨4294967296,0,4294967296,429496729600⟩
def pA(_ a:Nat):Int:=if a=0 then 4294967296 else 0
def x1:Ip:=⟨pA, -1,[]⟩
theorem aJO:t1.Ok:=⟨by unfold R64 t1;decide,by unfold R64 t1;decide,by unfold R64 t1;decide,by unfold R64 t1;decide⟩
theorem aOn:IpOK x1:=⟨λs a=>by show R64 (pA s a);unfold pA;split<;>(unfold R64;decide),by unfold R64 x1;decide,λy hy=>by cases hy⟩
theorem hE1:cL x1 (kY t1)=0:=aJg (by unfold x1;decide) (show (0:Int)≤0∧(0:Int)≤1073741823 by decide) (Nat.zero_le _) (λi hi=>(uW t1 (-1)).id i hi)
theorem aPf:wJ x1 (kY t1)=[i7 x1 (kY t1) 0,i7 x1 (kY t1) 1,i7 x1 (kY t1) 2,i7 x1 (kY t1) 3]:=by
 unfold wJ
 rw[if_pos hE1]
 rfl
theorem aFr:(i7 x1 (kY t1) 3).vS=true:=by
 have h:=uW t1 (-1)
 rw[aAF h rfl hE1 Yc Yc]
 exact (aAT hE1 Yc Yc (aFk h rfl hE1 Yc Yc)).2.1
theorem aJW{i:Nat}(hi:i<4):(i7 x1 (kY t1) i).us 0=4294967296:=by
 have h:=aGq (uW t1 (-1)) rfl hE1 hi Yo (show 0<3 by decide) (lo:=4294967296) (hi':=4294967296) (λs _ _=>⟨Int.le_refl _,Int.le_refl _⟩)
 omega
theorem aL6:(i7 x1 (kY t1) 2).us 0=4294967296:=aJW Yc
theorem aHi:(i7 x1 (kY t1) 1).us 0=4294967296:=aJW Yc
theorem aH8:0<((i7 x1 (kY t1) 1).ax 0).X:=by
 rw[aFD (uW t1 (-1)) rfl hE1 Yc Yc,aHi]
 show 0<(rT ((gS ((1:Nat):Int) t1).ax 0) t1 4294967296).X
 rw[lI t1 Yc]
 decide+kernel
section
variable {f:Operand→Value} {o:Oper}
theorem aFz(ho:o.op=.build 23 #[(0,.const (.int .i64 4294967296)),(2,.const (.int .i64 4294967296)),(3,.const (.int .i64 429496729600))])(hc:∀v,f (.const v)=v)(w:World):(execOp f o).run Tryz.prog w=.ok (.value (aU (oH t1) 0 4)) w:=by
 unfold execOp
 rw[ho]
 simp only[List.map_toArray,List.map_cons,List.map_nil,hc]
 kernel_rfl
theorem aF6(ho:o.op=.build 27 #[(0,.const (.int .i64 4294967296))])(hc:∀v,f (.const v)=v)(w:World):(execOp f o).run Tryz.prog w=.ok (.value (aU (λj=>iV (pA 0 j)) 0 3)) w:=by
 unfold execOp
 rw[ho]
 simp only[List.map_toArray,List.map_cons,List.map_nil,hc]
 kernel_rfl
theorem aGK{a b c d:Operand}(ho:o.op=.build 28 #[(0,a),(1,b),(2,c),(3,d)])(ha:f a=aU (λj=>iV (pA 0 j)) 0 3)(hb:f b=aU (λj=>iV (pA 0 j)) 0 3)(hc:f c=aU (λj=>iV (pA 0 j)) 0 3)(hd:f d=aU (λj=>iV (pA 0 j)) 0 3)(w:World):(execOp f o).run Tryz.prog w=.ok (.value (aU (sQ pA) 0 12)) w:=by
 unfold execOp
 rw[ho]
 simp only[List.map_toArray,List.map_cons,List.map_nil,ha,hb,hc,hd]
 kernel_rfl
theorem aGp{a:Operand}(ho:o.op=.build 31 #[(0,a),(1,.const (.int .i64 (-1)))])(ha:f a=aU (sQ pA) 0 12)(hc:∀v,f (.const v)=v)(w:World):(execOp f o).run Tryz.prog w=.ok (.value (aU (ipF pA (-1) (.slice none 0 0)) 0 14)) w:=by
 unfold execOp
 rw[ho]
 simp only[List.map_toArray,List.map_cons,List.map_nil,ha,hc]
 kernel_rfl
end
theorem aO4(n:Nd):sB n 2=.int .i64 (n.us 0):=rfl
theorem aO1(n:Nd):sB n 5=.int .i64 (n.ax 0).X:=rfl
theorem aOZ(n:Nd):sB n 9=.bool n.vS:=rfl
set_option maxHeartbeats 2000000 in
theorem aAS(w:World):Calls Tryz.prog 12 #[] w λe w'=>e=.returned (.bool true)∧Below w.heap.size w w':=by
 refine bW Tryz.func12 rfl 51 rfl Yd (λA hs hd hb=>?_)
 clear hb
 have H:=Cx.start w
 refine aD (aI ?_)
 refine qa ?_
 refine aE ?_
 refine aD ?_
 refine qg (aFz rfl (λ_=>rfl) _) ?_
 refine sK (aEY t1 w aJO) ?_
 rintro e w1 ⟨D,rfl,hD,G⟩
 refine⟨_,rfl,?_⟩
 replace H:=H.plus G
 iterate 4 refine qg (aF6 rfl (λ_=>rfl) _) ?_
 refine qg (aGK rfl Qv Qv Qv Qv _) ?_
 refine qg (aGp rfl Qv (λ_=>rfl) _) ?_
 have hag:∀i,i<4→wV w1 (D i).1 (D i).2.1 (D i).2.2:=λi hi=>by
  have ho:World.ownsRow _ _ _ _ _ _ _:=H.o0 i hi
  obtain⟨a3,c3,e,hs3,_⟩:=iT ho
  cases e
  exact hs3
 have hcls:aBC ⟨0,λi=>(D i).1⟩:=⟨R64_zero,λi hi=>by show NdOK (D i).1;rw[hD i hi];exact aHE aJO hi⟩
 obtain⟨p1,p2,p3,p4⟩:=aGQ (x:=x1) (c:=kY t1) (fr:=0) (D:=D) rfl hD
 have hfr:=aIU x1 0 D none 0 [] w1 rfl aOn hcls hag ⟨λh=>absurd h (Nat.lt_irrefl _),λ_ h=>(by cases h)⟩
 change Calls _ _ #[aU (nH 0 D) 0 297,aU (ipF pA (-1) (.slice none 0 0)) 0 14] _ _ at hfr
 refine pE hfr ?_
 clear hfr
 rintro e w2 ⟨D',v,rfl,hD',G2⟩
 refine⟨_,rfl,?_⟩
 replace H:=H.plus G2
 refine qa ?_
 refine qg (jB _ rfl Qv _) ?_
 refine qg (i9 _ rfl Qv _) ?_
 refine qg (iX _ rfl Qv _) ?_
 refine jS H ?_
 intro w3 H z3
 refine j8 H cW (aAA _ _) ?_
 intro w4 H z4
 iterate 2 refine qa ?_
 refine aE ?_
 refine aD ?_
 rw[p4,aPf] at H
 have hrow:World.ownsRow _ _ _ _ _ _ _:=H.o1
 obtain⟨g,cap,rfl,_,hcell⟩:=aM3 hrow (show 0<4 by decide) Yc
 have eF:(rQ x1 ⟨0,λi=>(D i).1⟩).fr=1:=by rw[p2];unfold rQ;rw[if_pos hE1];rfl
 have c3:w4.cell? ⟨g,0+3*14+9,none⟩=some (.bool true):=by
  have:=hcell 3 _ rfl 9 Yc
  rw[this,aOZ,aFr]
 have c2:w4.cell? ⟨g,0+2*14+2+0*1,none⟩=some (.int .i64 ((i7 x1 (kY t1) 2).us 0)):=by
  have h2:=hcell 2 (i7 x1 (kY t1) 2) rfl 2 Yc
  rw[show 0+2*14+2+0*1=0+2*14+2 by decide,h2,aO4]
 have c1:w4.cell? ⟨g,0+1*14+5+0*1,none⟩=some (.int .i64 ((i7 x1 (kY t1) 1).ax 0).X):=by
  have h2:=hcell 1 (i7 x1 (kY t1) 1) rfl 5 Yc
  rw[show 0+1*14+5+0*1=0+1*14+5 by decide,h2,aO1]
 refine qa ?_
 refine qg (qW (b:=true) _ _ rfl Qv Qv (decide_eq_true (p1.trans hE1)) _) ?_
 iterate 2 refine qa ?_
 refine qg (LenK.run rfl Qv _) ?_
 refine qg (cE (b:=true) _ _ rfl Qv Qv (decide_eq_true rfl) _) ?_
 refine qg (aW _ _ _ rfl Qv Qv _) ?_
 iterate 3 refine qa ?_
 refine qg (cE (b:=true) _ _ rfl Qv Qv (decide_eq_true eF) _) ?_
 refine qg (aW _ _ _ rfl Qv Qv _) ?_
 iterate 2 refine qa ?_
 refine qg (kT (i:=3) _ _ _ _ rfl SlcK.out SizK.out Qv Qv rfl (show 3<4 by decide) _) ?_
 refine qa ?_
 refine qg (aIW _ rfl Qv c3) ?_
 refine qg (aW _ _ _ rfl Qv Qv _) ?_
 iterate 2 refine qa ?_
 refine qg (kT (i:=2) _ _ _ _ rfl SlcK.out SizK.out Qv Qv rfl (show 2<4 by decide) _) ?_
 refine qa ?_
 refine qg (cZ (i:=0) _ _ _ _ rfl ArrK.out SizK.out Qv Qv rfl Yc _) ?_
 refine qg (aCf _ rfl Qv c2) ?_
 refine qg (cE (b:=true) _ _ rfl Qv Qv (decide_eq_true aL6) _) ?_
 refine qg (aW _ _ _ rfl Qv Qv _) ?_
 iterate 2 refine qa ?_
 refine qg (kT (i:=1) _ _ _ _ rfl SlcK.out SizK.out Qv Qv rfl (show 1<4 by decide) _) ?_
 refine qa ?_
 refine qg (cZ (i:=0) _ _ _ _ rfl ArrK.out SizK.out Qv Qv rfl Yc _) ?_
 refine qg (aCf _ rfl Qv c1) ?_
 refine qg (iJ (b:=true) _ _ rfl Qv Qv (decide_eq_true aH8) _) ?_
 refine qg (aW _ _ _ rfl Qv Qv _) ?_
 refine qa ?_
 refine aE ?_
 exact bC (aZ ((aN _ _).trans hd) (dC rfl Qv) ⟨rfl,H.bel⟩)
end Go.Proofs.YtdhblehhgpdpdacGreat
namespace Go.Proofs.YtdhblehhgpdpdacGreat
open Go.RowKit
end Go.Proofs.YtdhblehhgpdpdacGreat
namespace Go.Proofs.YtdhblehhgpdpdacGreat
open Go.RowKit
end Go.Proofs.YtdhblehhgpdpdacGreat
