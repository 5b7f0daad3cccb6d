import Derived.Test.YtdhblehhgpdpdacGreatNodPr10
namespace Go.Proofs.YtdhblehhgpdpdacGreat
open Go.RowKit
theorem aAn{x:Ip}{t u:Nat→Ms}{wo ph:Nat}:∀{k:Nat},(∀j,j<k→t j=u j)→oP x t wo ph k=oP x u wo ph k
 |0,_=>rfl
 |k+1,h=>by
  show oP x t wo ph k++_=oP x u wo ph k++_
  rw[aAn (λj hj=>h j Yo),h k Yo]
theorem aTV (x : Ip) (fr : Int) (k : Nat) (hk : k < 5) (fb rb b : Nat) (D : Nat → Nd × Ad) (lv : Value) (X : Nat → List Lm × Ad) (w0 w : World) (l : List It) (hfr : R64 fr) (hrd : ∀ s a, R64 (x.rd s a))
  (hid:∀i,i<4→(D i).1.id=(i:Nat)) (hok:∀i,i<4→NdOK (D i).1) (hX:∀i,i<4→(X i).1.length≤1600∧∀c,c∈(X i).1→MsOK c.m)
  (H:Cx w0 w (tH w0.heap.size D::cpI fb rb fr x.rd::bJ 116 b 303 303 (iT fr D x.bad lv X)::yX w0.heap.size X::l)):
  Calls Tryz.prog 41 #[.pointer (some ⟨b,0,none⟩),pF fb rb k] w λe w'=>∃(D':Nat→Nd×Ad) (T:Nat→Ms×Ad),e=.returned (aV (xL T) 0 16)∧(∀i,i<4→(D' i).1=wkN x fr ⟨λi=>(D i).1,λi=>(X i).1.map Lm.m⟩ k i)∧(∀i,i<4→(T i).1=wkM x fr ⟨λi=>(D i).1,λi=>(X i).1.map Lm.m⟩ k i)∧
   Cx w0 w' (tlI w0.heap.size T::tH w0.heap.size D'::cpI fb rb fr x.rd::bJ 116 b 303 303 (iT fr D' x.bad lv X)::yX w0.heap.size X::l):=by
 have pure : ∀ (fn : Nat) [EntK Tryz.prog fn] (N : Nd → List Ms → Nd) (M : Nd → List Ms → Ms), aCD N M fn → Calls Tryz.prog 41 #[.pointer (some ⟨b, 0, none⟩), .func (.func fn) #[] #[]] w λe w' => ∃ (D' : Nat → Nd × Ad) (T : Nat → Ms × Ad), e = .returned (aV (xL T) 0 16) ∧ (∀ i, i < 4 → (D' i).1 = doN x.bad (λ_ => N) D X i) ∧ (∀ i, i < 4 → (T i).1 = doM x.bad (λ_ => M) D X i) ∧
   Cx w0 w' (tlI w0.heap.size T::tH w0.heap.size D'::cpI fb rb fr x.rd::bJ 116 b 303 303 (iT fr D' x.bad lv X)::yX w0.heap.size X::l):=λfn _ N M h=>by
  refine (aFc b fr D x.bad lv X fn #[] (λ_=>N) (λ_=>M) (λ_ y=>y=emI) w0 w emI (cpI fb rb fr x.rd::l) (aLC h) rfl (λ_ _ _ h=>h) hid hok hX ((H.f1.b3.add (Below.refl _ _) emI trivial (λ_ e=>e.elim)).f1)).mono ?_
  rintro e w' ⟨D',T,y',rfl,rfl,hD,hT,H⟩
  exact⟨D',T,rfl,hD,hT,H.f2.tl.f4.b2⟩
 have:k=0∨k=1∨k=2∨k=3∨k=4:=Yo
 rcases this with rfl|rfl|rfl|rfl|rfl
 ·refine (aFc b fr D x.bad lv X 55 #[.pointer (some ⟨fb,0,none⟩),.pointer (some ⟨rb,0,none⟩)] (λi n _=>pR n fr (x.rd i)) (λi n _=>oV n fr (x.rd i)) (λ_ y=>y=cpI fb rb fr x.rd) w0 w (cpI fb rb fr x.rd) l (aJA w0 x.bad fb rb fr x.rd hfr hrd _ _) rfl (λ_ _ _ h=>h) hid hok hX H).mono ?_
  rintro e w' ⟨D',T,y',rfl,rfl,hD,hT,H⟩
  exact⟨D',T,rfl,hD,hT,H⟩
 ·exact pure 57 relN vZ aEN
 ·exact pure 58 decN uW aDB
 ·exact pure 59 pasN vR aFB
 ·exact pure 60 judN uY aEp
theorem aCG{x:Ip}{c:Cl}{i:Nat}(h:(i:Int)=x.bad):∀k,(nE x c k).nd i=c.nd i
 |0=>rfl
 |k+1=>by
  show (if (i:Int)=x.bad then _ else _)=_
  rw[if_pos h]
  exact aCG h k
theorem aAK{x:Ip}{fr:Int}{s s':Wk}{k i:Nat}(h1:s.nd i=s'.nd i)(h2:s.bx i=s'.bx i):wkN x fr s k i=wkN x fr s' k i∧wkM x fr s k i=wkM x fr s' k i:=by
 unfold wkN wkM
 rw[h1,h2]
 exact⟨rfl,rfl⟩
theorem aJh(fr:Int)(D:Nat→Nd×Ad)(bad:Int)(lv:Value)(X:Nat→List Lm×Ad):∀j,j<297→iT fr D bad lv X (0+0+j)=rE fr D j:=λj hj=>by
 rw[show 0+0+j=j by omega]
 exact xZ hj
theorem aRP(fr fr':Int)(D:Nat→Nd×Ad)(bad:Int)(lv:Value)(X:Nat→List Lm×Ad):∀j,j<303→iJ (iT fr D bad lv X) (0+0+0) (.int .i64 fr') j=iT fr' D bad lv X j:=λj hj=>by
 by_cases e:j=0
 ·subst e;rfl
 ·rw[gT _ _ Yo]
  unfold iT uG
  by_cases c:j<297
  ·rw[if_pos c,if_pos c]
   unfold rO
   rw[if_neg e,if_neg e]
  ·rw[if_neg c,if_neg c]
theorem aGc {P : Program} {a : Act} {w : World} {fn : Func} {p p' p2 : Nat} {ty : TypeId} {b n N cap : Nat} {t : TypeId} {g : Nat → Value} {u v : Value} (h : fn.results = #[.cell p ty, .tmp p', .tmp p2]) (hv : a.eval (.tmp p) = .pointer (some ⟨b, 0, none⟩)) (hv' : a.eval (.tmp p') = u) (hv2 : a.eval (.tmp p2) = v) (T : Many P ty n) (hm : Vh t w b N cap g) (hn : n ≤ N) :
  (results fn a.tmps).run P w=.ok (.tuple #[aV g 0 n,u,v]) w:=by
 have e:=kQ hv;have e2:=kQ hv';have e3:=kQ hv2
 simp only[Array.getD_eq_getD_getElem?] at e e2 e3
 simp[results,h,e,e2,e3,asAddr,nQ T hm hn]
theorem aRa{L:List Lm}{l:List Ms}(e:L.map Lm.m=l)(h:∀m,m∈l→MsOK m):∀c,c∈L→MsOK c.m:=λc hc=>h _ (by rw[←e];exact List.mem_map_of_mem hc)
theorem aTg{x:Ip}{c:Cl}(hE:dH x c=0){k i:Nat}(hk:k≤5)(hi:i<4):((nE x c k).nd i).id=(i:Nat):=by
 by_cases g:(i:Int)=x.bad
 ·rw[aCG g];exact id0 hE hi
 ·have:k=0∨k=1∨k=2∨k=3∨k=4∨k=5:=Yo
  rcases this with rfl|rfl|rfl|rfl|rfl|rfl
  ·exact id0 hE hi
  ·exact id1 hE hi g
  ·exact id2 hE hi g
  ·exact id3 hE hi g
  ·exact id4 hE hi g
  ·exact id5 hE hi g
theorem aTi{x:Ip}{c:Cl}(hx:IpOK x)(hc:aDF c){k j:Nat}(hj:j<4)(g:(j:Int)≠x.bad):MsOK (wkM x c.fr (nE x c k) k j):=by
 have h:MsOK (mgK x c k j):=by
  rw[yY g]
  exact aIK k ((aBZ hx hc k).1 j hj) (MsOK.R' ((aBZ hx hc k).2 j hj)) hc.1 (hx.rd j)
 exact h
theorem aRc{x:Ip}{c:Cl}(h:x.ly.length≤400)(k i:Nat):((nE x c k).bx i).length≤1600:=by
 cases k with
 |zero=>exact Nat.zero_le _
 |succ k=>exact aCC h _ _ _ 4
theorem aSD{x:Ip}{c:Cl}(hE:dH x c=0){Dn:Nat→Nd}{Bn:Nat→List Ms}(h1:∀i,i<4→Dn i=(nE x c 5).nd i)(h2:∀i,i<4→Bn i=(nE x c 5).bx i):mF x.bad Dn Bn 4=frR x c:=by
 unfold mF frR
 rw[if_pos hE]
 refine List.map_congr_left λi hi=>?_
 unfold gdL at hi
 obtain⟨h3,h4⟩:=List.mem_filter.1 hi
 have h3:=List.mem_range.1 h3
 have h4:(i:Int)≠x.bad:=of_decide_eq_true h4
 unfold lD
 rw[if_neg h4,h1 i h3,h2 i h3]
def aTT(fn:Nat):Prop:=∀(x:Ip) (fr:Int) (D:Nat→Nd×Ad) (lo:Option Addr) (lc:Nat) (LL:List Lj) (w:World),x.ly=LL.map Lj.y→IpOK x→aDF ⟨fr,λi=>(D i).1⟩→(∀i,i<4→aAJ w (D i).1 (D i).2.1 (D i).2.2)→JRd w lo LL→
 Calls Tryz.prog fn #[aV (rE fr D) 0 297,aV (ipF x.rd x.bad (.slice lo LL.length lc)) 0 14] w λe w'=>∃(D':Nat→Nd×Ad) (v:Value),e=.returned (.tuple #[aV (rE (xJ x ⟨fr,λi=>(D i).1⟩).fr D') 0 297,v,.int .i64 (dH x ⟨fr,λi=>(D i).1⟩)])∧(∀i,i<4→(D' i).1=(xJ x ⟨fr,λi=>(D i).1⟩).nd i)∧
  Cx w w' [oU w.heap.size 61 14 v (frR x ⟨fr,λi=>(D i).1⟩).length (tQ xC 14 (frR x ⟨fr,λi=>(D i).1⟩)),tH w.heap.size D']
set_option maxHeartbeats 1000000 in
theorem aMB:aTT 21:=by
 intro x fr D lo lc LL w hx hip hcl hag hj
 have hxl:x.ly.length=LL.length:=by rw[hx,List.length_map]
 obtain⟨c,ec⟩:∃c,c=(⟨fr,λi=>(D i).1⟩:Cl):=⟨_,rfl⟩
 rw[←ec] at hcl ⊢
 refine bX Tryz.func21 rfl 56 rfl Yd (λA hs hd hb=>?_)
 have b0:A.eval (.tmp 0)=aV (rE fr D) 0 297:=hb 0 _ rfl
 have b1:A.eval (.tmp 1)=aV (ipF x.rd x.bad (.slice lo LL.length lc)) 0 14:=hb 1 _ rfl
 clear hb
 have H:=Cx.start w
 refine aD (aJ ?_)
 refine oF H ?_
 intro w1 H z1
 refine oF H ?_
 intro w2 H z2
 refine lY H ?_
 intro w3 H z3
 iterate 2 refine qa ?_
 refine aF ?_
 refine aK ?_
 refine aD ?_
 iterate 2 refine qa ?_
 have hck:=aFx x fr D lo lc w3
 rw[hxl, ←ec] at hck
 refine uB hck ?_
 rintro e w4 ⟨rfl,k4⟩
 refine⟨_,rfl,?_⟩
 replace H:=H.call k4
 repeat first|refine qa ?_|refine aF ?_|refine aD ?_
 refine lK (λh=>?_) (λh=>?_)
 ·have hE:dH x c≠0:=of_decide_eq_true h
  refine aD ?_
  refine qg (aIX rfl _) ?_
  refine qa ?_
  refine mR H dO (aGf _ _ _ _) ?_
  intro w5 H z5
  repeat first|refine qa ?_|refine aF ?_
  have e1:xJ x c=aNy:=by unfold xJ;rw[if_neg hE]
  have e2:frR x c=[]:=by unfold frR;rw[if_neg hE]
  refine bD (uT (bB ((aO _ _).trans hd) (aGc rfl Qv Qv Qv ManyK.out H.v0 (Nat.le_refl _)) ⟨λ_=>(fD,(none,0)),_,by rw[e1];rfl,λi hi=>by rw[e1];rfl,?_⟩))
  rw[e2]
  exact ((H.tl.tl.tl.add (Below.refl _ _) (tH w.heap.size (λ_=>(fD,(none,0)))) (λ_ _=>World.ownsRow_nil _ _ _ _) (λj ⟨_,_,e⟩=>absurd e (λe=>nomatch e))).add (Below.refl _ _) (oU _ _ _ _ _ _) (World.ownsRow_nil _ _ _ _) (λj e=>nomatch e))
 have hE:dH x c=0:=by simpa using h
 obtain⟨hb,hf,hl4,hid0⟩:=aEl hE
 have hl4:LL.length≤400:=Yo
 refine bL ?_
 refine aD ?_
 iterate 2 refine qa ?_
 have hat:=aHx x fr D lo lc w w4 _ hag (by have:=hcl.2;rw[ec] at this;exact this) H
 rw[hxl] at hat
 refine uB hat ?_
 rintro e w5 ⟨b,D1,rfl,hD1,H⟩
 refine⟨_,rfl,?_⟩
 refine qa ?_
 refine aF ?_
 refine aK ?_
 refine aD ?_
 iterate 3 refine qa ?_
 refine qg (Eq.trans (aP _ _ rfl ManyK.out Qv H.v3 Yo) (by rw[lN (f:=xP x.rd) (λj hj=>by rw[show 0+0+j=j by omega];exact if_pos hj)])) ?_
 refine uB (aHA fr x.rd w w5 _ H) ?_
 rintro e w6 ⟨fb,rb,pb,rfl,H⟩
 refine⟨_,rfl,?_⟩
 repeat first|refine qa ?_|refine aF ?_
 refine aU ?_
 have hNd:∀(k:Nat) (D:Nat→Nd×Ad),(∀i,i<4→(D i).1=(nE x c k).nd i)→k≤5→(∀i,i<4→(D i).1.id=(i:Nat))∧∀i,i<4→NdOK (D i).1:=λk D hD hk=>⟨λi hi=>by rw[hD i hi];exact aTg hE hk hi,λi hi=>by rw[hD i hi];exact (aBZ hip hcl k).1 i hi⟩
 have hBx:∀(k:Nat) (X:Nat→List Lm×Ad),(∀i,i<4→(X i).1.map Lm.m=(nE x c k).bx i)→∀i,i<4→(X i).1.length≤1600∧∀c,c∈(X i).1→MsOK c.m:=λk X hX i hi=>⟨by
  have h1:=congrArg List.length (hX i hi)
  rw[List.length_map] at h1
  rw[h1]
  exact aRc Yo k i,aRa (hX i hi) ((aBZ hip hcl k).2 i hi)⟩
 have ecf:c.fr=fr:=by rw[ec]
 refine dY (λr A W => ∃ (k : Nat) (D : Nat → Nd × Ad) (X : Nat → List Lm × Ad), k ≤ 5 ∧ 5 - k ≤ r ∧ A.tmps.size = 56 ∧ A.defers = [] ∧ A.eval (.tmp 4) = .pointer (some ⟨w2.heap.size, 0, none⟩) ∧ A.eval (.tmp 8) = .pointer (some ⟨b, 0, none⟩) ∧ A.eval (.tmp 26) = .slice (some ⟨pb, 0, none⟩) 5 5 ∧ A.eval (.tmp 27) = .int .i64 ((5 : Nat) : Int) ∧ A.eval (.tmp 28) = .int .i64 (k : Int) ∧ (∀ i, i < 4 → (D i).1 = (nE x c k).nd i) ∧ (∀ i, i < 4 → (X i).1.map Lm.m = (nE x c k).bx i) ∧
   Cx w W [tH w.heap.size D,cpI fb rb fr x.rd,bJ 116 b 303 303 (iT fr D x.bad (.slice lo LL.length lc) X),yX w.heap.size X,bJ 108 pb 5 5 (pF fb rb),bJ 58 w2.heap.size 297 297 (rO 0 (λ_=>fD) (λ_=>gW (none,0) 0))]) 5
  ⟨0,D1,λ_=>([],(none,0)),Nat.zero_le _,Yo,(bZ _ _).trans hs,(aO _ _).trans hd,Qv,Qv,Qv,Qv,Qv,λi hi=>(by rw[hD1 i hi,ec];rfl),λ_ _=>rfl,
   ((H.f6.tl.f5.tl.add (Below.refl _ _) (yX w.heap.size (λ_=>([],(none,0)))) (λ_ _=>OwnM.nil _ _) (λj ⟨_,_,e⟩=>absurd (zR (OwnM.nil w6 w6.heap.size) j e) (by rcases e with e|⟨_,e,_⟩<;>cases e))).b4.f1.f2.f3.b4.f3.f1.f2.b1).f4.b2⟩ (λr B W hI=>?_)
 clear b0 b1 hs hd H
 obtain⟨k,D,X,hk,hr,hs,hd,b4,b8,b26,b27,b28,hD,hX,H⟩:=hI
 refine aD (aJ ?_)
 repeat first|refine qa ?_|refine aF ?_|refine aD ?_|refine aK ?_
 refine lK (λh=>?_) (λh=>?_)
 ·have hin:k<5:=by have:=of_decide_eq_true h;omega
  refine bL ?_
  refine aK (aU ?_)
  refine aD ?_
  iterate 2 refine qa ?_
  refine qg (Eq.trans (aN _ _ rfl OneK.out Qv H.v4 Yo rfl) (by rw[show 0+k*1=k by omega])) ?_
  repeat first|refine qa ?_|refine aF ?_|refine aR ?_
  obtain⟨n1,n2⟩:=hNd k D hD hk
  refine uB (aTV x fr k hin fb rb b D (.slice lo LL.length lc) X w W _ (by rw[←ecf];exact hcl.1) hip.rd n1 n2 (hBx k X hX) H) ?_
  rintro e w7 ⟨D',T,rfl,hD',hT,H⟩
  refine⟨_,rfl,?_⟩
  refine aQZ (aKT x b fr D' lo lc LL X k T w w7 _ H.f4.f4 hx hj hl4 (λj hj hb=>?_)) ?_
  ·rw[hT j hj,(aAK (k:=k) (x:=x) (fr:=fr) (s':=nE x c k) (i:=j) (hD j hj) (hX j hj)).2, ←ecf]
   exact aTi hip hcl hj hb
  ·rintro e w8 ⟨rfl,X',hX',H⟩
   refine⟨_,rfl,?_⟩
   refine iE ?_
   refine aR ?_
   repeat refine qa ?_
   refine bQ ⟨5-(k+1),Yo,k+1,D',X',Yo,Yo,(bZ _ _).trans hs,(aO _ _).trans hd,Qv,Qv,Qv,Qv,Eq.trans Qv (by rw[Int.natCast_add];rfl),λi hi=>?_,λi hi=>?_,H.f2.tl.f2.f3.f1⟩
   ·rw[hD' i hi,(aAK (k:=k) (x:=x) (fr:=fr) (s':=nE x c k) (i:=i) (hD i hi) (hX i hi)).1]
    show _=wkN x c.fr (nE x c k) k i
    rw[ecf]
   ·rw[hX' i hi]
    show _=oP x (wkM x c.fr (nE x c k) k) i k 4
    refine aAn λj hj=>?_
    rw[hT j hj,(aAK (k:=k) (x:=x) (fr:=fr) (s':=nE x c k) (i:=j) (hD j hj) (hX j hj)).2,ecf]
 ·obtain rfl:k=5:=by have:=of_decide_eq_false h;omega
  obtain⟨n1,n2⟩:=hNd 5 D hD (Nat.le_refl _)
  refine dS (fU ?_)
  refine aD ?_
  refine qa ?_
  refine xU (aHp b fr D x.bad (.slice lo LL.length lc) X w W _ n1 n2 (hBx 5 X hX) H.f1.tl) ?_
  rintro e w7 ⟨D',v,rfl,hD',H⟩
  refine⟨_,rfl,?_⟩
  repeat first|refine qa ?_|refine aF ?_|refine aD ?_
  refine aTy H (aRP fr (fr+1) D' x.bad (.slice lo LL.length lc) X) ?_
  intro w8 H z8
  refine aF ?_
  refine aD ?_
  iterate 3 refine qa ?_
  refine qg (Eq.trans (aP _ _ rfl ManyK.out Qv H.v2 Yo) (by rw[lN (aJh _ _ _ _ _)])) ?_
  refine qa ?_
  refine aTc H dO (aCo _ _) ?_
  intro w9 H z9
  repeat first|refine qa ?_|refine aF ?_
  have e1:xJ x c=⟨fr+1,lD x c⟩:=by unfold xJ;rw[if_pos hE,ecf]
  have e2:=aSD hE hD hX
  rw[e2] at H
  refine bD (bB ((aO _ _).trans hd) (aGc rfl Qv Qv Qv ManyK.out H.v5 (Nat.le_refl _)) ⟨D',v,by rw[e1,hE],λi hi=>?_,H.sub (List.Sublist.cons_cons _ (List.Sublist.cons_cons _ (List.nil_sublist _)))⟩)
  rw[e1,hD' i hi]
  show doN _ _ _ _ _=lD x c i
  unfold doN lD
  by_cases g:(i:Int)=x.bad
  ·rw[if_pos g,if_pos g,hD i hi,aCG g]
  ·rw[if_neg g,if_neg g,hD i hi,hX i hi]
theorem aAA(w:World):(callFunc 53 #[]).run Tryz.prog w=.ok (.enter 53 #[]) w:=by go_simp
theorem aAG(x:Value)(w:World):(callFunc 54 #[x]).run Tryz.prog w=.ok (.enter 54 #[x]) w:=by go_simp
theorem aAV(w:World):Calls Tryz.prog 54 #[.int .i64 0] w λe w'=>e=.returned (aV (dG St.beg0) 0 7)∧Below w.heap.size w w':=by
 go_enter Tryz.func54,Tryz.ntmps54
 go_wp2_with fail
 refine bodyPost_ret (v:=aV (dG St.beg0) 0 7) (by simp[results,Tryz.results54,go_sem];rfl) rfl ⟨rfl,?_⟩
 exact (Below.refl _ _).alloc (Nat.le_refl _) _
set_option maxHeartbeats 2000000 in
theorem aFl:aUa 36:=by
 intro id t w _ _
 refine bX Tryz.func36 rfl 25 rfl Yd (λA hs hd hb=>?_)
 have b0:A.eval (.tmp 0)=.int .i64 id:=hb 0 _ rfl
 have b1:A.eval (.tmp 1)=aV (rY t) 0 4:=hb 1 _ rfl
 clear hb
 refine aD (aJ ?_)
 refine aS rfl Yw (λK hK=>?_)
 refine dX _ _ _ rfl (aB rfl b1) Yd ?_
 intro w1 m1 k1 z1
 refine hK _ _ ?_
 clear hK K
 refine aS rfl Yw (λK hK=>?_)
 refine aT _ _ rfl nA Yd ?_
 intro w2 m2 k2 z2
 have mt2:=m1.below k2
 refine hK _ _ ?_
 clear hK K
 refine Yp ?_
 refine aF ?_
 refine aK ?_
 refine aD ?_
 refine Yp ?_
 refine aS rfl Yw (λK hK=>?_)
 refine bN _ 52 _ _ rfl (Ye rfl) (fO _ _) (iO id _) ?_
 rintro e w3 ⟨rfl,k3⟩
 have n3:=k3.size
 have mt3:=mt2.below k3
 have mr3:=m2.below k3
 refine⟨_,rfl,?_⟩
 refine hK _ _ ?_
 clear hK K
 refine Yq (dQ _ _ rfl (Ye rfl) _) ?_
 refine aF ?_
 refine oW (t:=jR id) ((Ye rfl).trans (by rw[Bool.not_not])) (λhno=>?_) (λhno=>?_)
 ·have e1:jE id t=fD:=by unfold jE;rw[hno];rfl
  have e2:aEI id=3:=by unfold aEI;rw[hno];rfl
  refine aD ?_
  refine Yq (aJe rfl _) ?_
  refine bS Yw (λK hK=>?_)
  refine aI _ _ _ _ rfl aW (Ye rfl) (Ye rfl) mr3 Yc (cK _ _ _ _) rfl ?_
  intro w4 mm4 k4 z4
  have mr4:=Vh.congr mm4 (dU _ _)
  have mt4:=mt3.kept k4 Yo
  refine hK _ ?_
  clear hK K
  refine Yp ?_
  refine aF ?_
  refine bD ?_
  simp only[Nx,Exit.then]
  rw[e1,e2]
  refine bB ((aO _ _).trans hd) (nW rfl (Ye rfl) (Ye rfl) aW mr4 (Nat.le_refl _)) ⟨none,0,rfl,World.ownsRow_nil _ _ _ _,aC ((k1.trans (k2.mono Yo)).trans (k3.mono Yo)) k4 Yo Yo⟩
 ·have e1:jE id t=bgN id t (λ_=>St.beg0):=by unfold jE;rw[hno];rfl
  have e2:aEI id=0:=by unfold aEI;rw[hno];rfl
  refine bL ?_
  refine aK ?_
  have hS0:(λW=>Vh 23 W w.heap.size 4 4 (rY t)) w3.drew:=mt3
  have mr0:Vh _ w3.drew _ _ _ _:=mr3
  have ez:w3.drew.heap.size=w3.heap.size:=rfl
  have kA:Below w.heap.size w w3.drew:=aQ ((k1.trans (k2.mono Yo)).trans (k3.mono Yo))
  refine fZ (S:=λW=>Vh 23 W w.heap.size 4 4 (rY t)) (.mv 0 (.rd 1 (.two 2 4 (.mv 3 (.go 4 (.go 5 .fin))) (.go 2 (.mv 3 (.go 5 .fin)))))) [] (by kernel_rfl) (by kernel_rfl) ?_
  refine Yj ?_
  refine Yr rfl hS0 (λ_ hS=>dM _ _ rfl aHV (Ye rfl) hS Yo (λj _=>by rw[Nat.zero_add])) ?_
  refine aBR ?_ ?_
  ·refine dI rfl rfl Yw (λK hK=>?_)
   refine aBl _ 53 _ rfl (aAA _) (yV _) ?_
   rintro e w4 ⟨rfl,k4⟩
   have n4:=k4.size
   have mt4:=hS0.below k4
   have mr4:=mr0.below k4
   refine⟨_,rfl,?_⟩
   refine hK _ _ (λ_ _=>mt4) ?_
   clear hK K
   refine Yk rfl (λ_=>aEy _ _ _ rfl (id:=id) (t:=t) (r:=beginR) (Ye rfl) (Ye rfl) (Ye rfl) _) ?_
   refine dI rfl rfl Yw (λK hK=>?_)
   refine aT _ _ rfl nA Yd ?_
   intro w5 m5 k5 z5
   have mt5:=mt4.below k5
   have mr5:=mr4.below k5
   refine hK _ _ (λ_ _=>mt5) ?_
   clear hK K
   refine eU rfl Yw (λK hK=>?_)
   refine aI _ _ _ _ rfl aW (Ye rfl) (Ye rfl) m5 Yc (cK _ _ _ _) rfl ?_
   intro w6 mm6 k6 z6
   have mp6:=Vh.congr mm6 (dU _ _)
   have mt6:=mt5.kept k6 Yo
   have mr6:=mr5.kept k6 Yo
   refine hK _ (λ_ _=>mt6) ?_
   clear hK K
   refine iA ?_
   refine aK ?_
   refine aD ?_
   refine Yp ?_
   refine aF ?_
   refine aU ?_
   refine dY (λr a W=>∃x:Nat,x≤3∧3-x≤r∧a.tmps.size=25∧a.defers=[]∧a.eval (.tmp 4)=.pointer (some ⟨w1.heap.size,0,none⟩)∧a.eval (.tmp 6)=.pointer (some ⟨w4.heap.size,0,none⟩)∧a.eval (.tmp 16)=.int .i64 (x:Int)∧Vh 55 W w1.heap.size 74 74 (ndF fD (.slice none 0 0))∧Vh 55 W (w4.heap.size) 74 74 (ndF (bgN id t (bgA x)) (.slice none 0 0))∧Below w.heap.size w W∧w6.heap.size≤W.heap.size) 3 ⟨0,Yo,Yo,(bZ _ _).trans hs,(aO _ _).trans hd,(Ye rfl),(Ye rfl),(Ye rfl),mr6,by rw[aEE];exact mp6,aC ((kA.trans (k4.mono Yo)).trans (k5.mono Yo)) k6 Yo Yo,Yo⟩ (λr B W hI=>?_)
   clear b0 b1 hs hd
   obtain⟨x,hx,hr2,hs,hd,b4,b6,b16,mr,mp,kB,hW⟩:=hI
   by_cases hin:x<3
   ·refine aD (aJ ?_)
    refine Yq (aZ (b:=true) _ _ rfl (aB rfl b16) (aG _ _) (decide_eq_true Yo) _) ?_
    refine aF ?_
    refine aK (bP (Ye rfl) (bL ?_))
    refine aK (aU ?_)
    refine aD ?_
    iterate 2 refine Yp ?_
    refine aF ?_
    refine aR ?_
    refine Yp ?_
    refine aS rfl Yw (λK hK=>?_)
    refine bN _ 54 _ _ rfl (aG _ _) (aAG _ _) (aAV _) ?_
    rintro e w11 ⟨rfl,k11⟩
    have n11:=k11.size
    have mr11:=mr.below k11
    have mp11:=mp.below k11
    refine⟨_,rfl,?_⟩
    refine hK _ _ ?_
    clear hK K
    refine Yq (qQ rfl (aB rfl b6) _) ?_
    refine Yq (dP _ _ _ _ rfl Tryz.underlying46 gM.size (Ye rfl) (Ye rfl) rfl hin _) ?_
    refine bS Yw (λK hK=>?_)
    refine aI _ _ _ _ rfl gM (Ye rfl) (Ye rfl) mp11 Yo (eH _) rfl ?_
    intro w12 mm12 k12 z12
    have mp12:Vh 55 w12 (w4.heap.size) 74 74 (ndF (bgN id t (bgA (x+1))) (.slice none 0 0)):=by rw[←aFd];exact Vh.congr mm12 (aBv _ _ _ x hin)
    have mr12:=mr11.kept k12 Yo
    refine hK _ ?_
    clear hK K
    refine iE ?_
    refine aR ?_
    refine Yq (bW _ _ rfl (aB rfl b16) (aG _ _) Yo Yo _) ?_
    refine Yp ?_
    exact bQ ⟨3-(x+1),Yo,x+1,Yo,Yo,(bZ _ _).trans hs,(aO _ _).trans hd,(aB rfl b4),(aB rfl b6),(Ye rfl).trans (by rw[Int.natCast_add];rfl),mr12,mp12,aC (kB.trans (k11.mono Yo)) k12 Yo Yo,Yo⟩
   ·refine aD (aJ ?_)
    refine Yq (aZ (b:=false) _ _ rfl (aB rfl b16) (aG _ _) (decide_eq_false Yo) _) ?_
    obtain rfl:x=3:=Yo
    rw[aDT] at mp
    refine aF ?_
    refine aK (bM (Ye rfl) (dS (fU ?_)))
    refine aD ?_
    refine Yq (aP _ _ rfl aW (aB rfl b6) mp Yc) ?_
    refine bS Yw (λK hK=>?_)
    refine aI _ _ _ _ rfl aW (aB rfl b4) (Ye rfl) mr Yc (cK _ _ _ _) rfl ?_
    intro w11 mm11 k11 z11
    have mr11:=Vh.congr mm11 (dU _ _)
    have mp11:=mp.kept k11 Yo
    refine hK _ ?_
    clear hK K
    refine Yp ?_
    refine aF ?_
    refine bD ?_
    rw[e1,e2]
    refine bB ((aO _ _).trans hd) (nW rfl (aB rfl b4) (Ye rfl) aW mr11 (Nat.le_refl _)) ⟨none,0,rfl,World.ownsRow_nil _ _ _ _,aC kB k11 Yo Yo⟩
  ·refine dI rfl rfl Yw (λK hK=>?_)
   refine aT _ _ rfl nA Yd ?_
   intro w4 m4 k4 z4
   have mt4:=hS0.below k4
   have mr4:=mr0.below k4
   refine hK _ _ (λ_ _=>mt4) ?_
   clear hK K
   refine dI rfl rfl Yw (λK hK=>?_)
   refine aBl _ 53 _ rfl (aAA _) (yV _) ?_
   rintro e w5 ⟨rfl,k5⟩
   have n5:=k5.size
   have mt5:=mt4.below k5
   have mr5:=mr4.below k5
   have mp5:=m4.below k5
   refine⟨_,rfl,?_⟩
   refine hK _ _ (λ_ _=>mt5) ?_
   clear hK K
   refine Yk rfl (λ_=>aEy _ _ _ rfl (id:=id) (t:=t) (r:=beginR) (Ye rfl) (Ye rfl) (Ye rfl) _) ?_
   refine eU rfl Yw (λK hK=>?_)
   refine aI _ _ _ _ rfl aW (Ye rfl) (Ye rfl) mp5 Yc (cK _ _ _ _) rfl ?_
   intro w6 mm6 k6 z6
   have mp6:=Vh.congr mm6 (dU _ _)
   have mt6:=mt5.kept k6 Yo
   have mr6:=mr5.kept k6 Yo
   refine hK _ (λ_ _=>mt6) ?_
   clear hK K
   refine iA ?_
   refine aK ?_
   refine aD ?_
   refine Yp ?_
   refine aF ?_
   refine aU ?_
   refine dY (λr a W=>∃x:Nat,x≤3∧3-x≤r∧a.tmps.size=25∧a.defers=[]∧a.eval (.tmp 4)=.pointer (some ⟨w1.heap.size,0,none⟩)∧a.eval (.tmp 6)=.pointer (some ⟨w3.drew.heap.size,0,none⟩)∧a.eval (.tmp 16)=.int .i64 (x:Int)∧Vh 55 W w1.heap.size 74 74 (ndF fD (.slice none 0 0))∧Vh 55 W (w3.drew.heap.size) 74 74 (ndF (bgN id t (bgA x)) (.slice none 0 0))∧Below w.heap.size w W∧w6.heap.size≤W.heap.size) 3 ⟨0,Yo,Yo,(bZ _ _).trans hs,(aO _ _).trans hd,(Ye rfl),(Ye rfl),(Ye rfl),mr6,by rw[aEE];exact mp6,aC ((kA.trans (k4.mono Yo)).trans (k5.mono Yo)) k6 Yo Yo,Yo⟩ (λr B W hI=>?_)
   clear b0 b1 hs hd
   obtain⟨x,hx,hr2,hs,hd,b4,b6,b16,mr,mp,kB,hW⟩:=hI
   by_cases hin:x<3
   ·refine aD (aJ ?_)
    refine Yq (aZ (b:=true) _ _ rfl (aB rfl b16) (aG _ _) (decide_eq_true Yo) _) ?_
    refine aF ?_
    refine aK (bP (Ye rfl) (bL ?_))
    refine aK (aU ?_)
    refine aD ?_
    iterate 2 refine Yp ?_
    refine aF ?_
    refine aR ?_
    refine Yp ?_
    refine aS rfl Yw (λK hK=>?_)
    refine bN _ 54 _ _ rfl (aG _ _) (aAG _ _) (aAV _) ?_
    rintro e w11 ⟨rfl,k11⟩
    have n11:=k11.size
    have mr11:=mr.below k11
    have mp11:=mp.below k11
    refine⟨_,rfl,?_⟩
    refine hK _ _ ?_
    clear hK K
    refine Yq (qQ rfl (aB rfl b6) _) ?_
    refine Yq (dP _ _ _ _ rfl Tryz.underlying46 gM.size (Ye rfl) (Ye rfl) rfl hin _) ?_
    refine bS Yw (λK hK=>?_)
    refine aI _ _ _ _ rfl gM (Ye rfl) (Ye rfl) mp11 Yo (eH _) rfl ?_
    intro w12 mm12 k12 z12
    have mp12:Vh 55 w12 (w3.drew.heap.size) 74 74 (ndF (bgN id t (bgA (x+1))) (.slice none 0 0)):=by rw[←aFd];exact Vh.congr mm12 (aBv _ _ _ x hin)
    have mr12:=mr11.kept k12 Yo
    refine hK _ ?_
    clear hK K
    refine iE ?_
    refine aR ?_
    refine Yq (bW _ _ rfl (aB rfl b16) (aG _ _) Yo Yo _) ?_
    refine Yp ?_
    exact bQ ⟨3-(x+1),Yo,x+1,Yo,Yo,(bZ _ _).trans hs,(aO _ _).trans hd,(aB rfl b4),(aB rfl b6),(Ye rfl).trans (by rw[Int.natCast_add];rfl),mr12,mp12,aC (kB.trans (k11.mono Yo)) k12 Yo Yo,Yo⟩
   ·refine aD (aJ ?_)
    refine Yq (aZ (b:=false) _ _ rfl (aB rfl b16) (aG _ _) (decide_eq_false Yo) _) ?_
    obtain rfl:x=3:=Yo
    rw[aDT] at mp
    refine aF ?_
    refine aK (bM (Ye rfl) (dS (fU ?_)))
    refine aD ?_
    refine Yq (aP _ _ rfl aW (aB rfl b6) mp Yc) ?_
    refine bS Yw (λK hK=>?_)
    refine aI _ _ _ _ rfl aW (aB rfl b4) (Ye rfl) mr Yc (cK _ _ _ _) rfl ?_
    intro w11 mm11 k11 z11
    have mr11:=Vh.congr mm11 (dU _ _)
    have mp11:=mp.kept k11 Yo
    refine hK _ ?_
    clear hK K
    refine Yp ?_
    refine aF ?_
    refine bD ?_
    rw[e1,e2]
    refine bB ((aO _ _).trans hd) (nW rfl (aB rfl b4) (Ye rfl) aW mr11 (Nat.le_refl _)) ⟨none,0,rfl,World.ownsRow_nil _ _ _ _,aC kB k11 Yo Yo⟩
def BgC(fn:Nat):Prop:=∀(t:Tn) (w:World),t.Ok→Calls Tryz.prog fn #[aV (rY t) 0 4] w λe w'=>∃D:Nat→Nd×Ad,e=.returned (aV (rE 0 D) 0 297)∧(∀i,i<4→(D i).1=jE (i:Nat) t)∧Cx w w' [tH w.heap.size D]
theorem aGH:BgC 20:=by
 intro t w ht
 refine bX Tryz.func20 rfl 19 rfl Yd (λA hs hd hb=>?_)
 have b0:A.eval (.tmp 0)=aV (rY t) 0 4:=hb 0 _ rfl
 clear hb
 have H:=Cx.start w
 refine aD (aJ ?_)
 refine oF H ?_
 intro w1 H z1
 refine lY H ?_
 intro w2 H z2
 refine aF ?_
 refine aD ?_
 refine lY H ?_
 intro w3 H z3
 refine aF ?_
 refine aK ?_
 refine aD ?_
 repeat first|refine qa ?_|refine aF ?_
 refine aU ?_
 refine dY (λr A W => ∃ (i : Nat) (D : Nat → Nd × Ad), i ≤ 4 ∧ 4 - i ≤ r ∧ A.tmps.size = 19 ∧ A.defers = [] ∧ A.eval (.tmp 1) = .pointer (some ⟨w.heap.size, 0, none⟩) ∧ A.eval (.tmp 2) = .pointer (some ⟨w1.heap.size, 0, none⟩) ∧ A.eval (.tmp 3) = .pointer (some ⟨w2.heap.size, 0, none⟩) ∧ A.eval (.tmp 5) = .int .i64 (i : Int) ∧ (∀ j, j < i → (D j).1 = jE (j : Nat) t) ∧
   Cx w W [tH w.heap.size D,bJ 58 w2.heap.size 297 297 (rE 0 D),bJ 58 w1.heap.size 297 297 (rO 0 (λ_=>fD) (λ_=>gW (none,0) 0)),bJ 23 w.heap.size 4 4 (rY t)]) 4
  ⟨0,λ_=>(fD,(none,0)),Nat.zero_le _,Yo,(bZ _ _).trans hs,(aO _ _).trans hd,Qv,Qv,Qv,Qv,λj h=>absurd h (Nat.not_lt_zero j),H.add (Below.refl _ _) (tH w.heap.size (λ_=>(fD,(none,0)))) (λ_ _=>World.ownsRow_nil _ _ _ _) (λj ⟨_,_,e⟩=>absurd e (λe=>nomatch e))⟩ (λr B W hI=>?_)
 clear b0 hs hd H
 obtain⟨i,D,hi,hr,hs,hd,b1,b2,b3,b5,hD,H⟩:=hI
 refine aD (aJ ?_)
 repeat first|refine qa ?_|refine aF ?_|refine aD ?_|refine aK ?_
 refine lK (λh=>?_) (λh=>?_)
 ·have hin:i<4:=by have:=of_decide_eq_true h;omega
  refine bL ?_
  refine aK (aU ?_)
  refine aD ?_
  repeat first|refine qa ?_|refine aF ?_|refine aR ?_
  have hsz:=H.size
  refine uB (aFl (i:Int) t W (by unfold R64;omega) ht) ?_
  rintro e w4 ⟨a',c',rfl,g1,k4⟩
  refine⟨_,rfl,?_⟩
  replace H:=H.add k4 (agJ w.heap.size (jE (i:Nat) t,(a',c'))) (dL g1 hsz) (λj e=>(g1.lt j e).1)
  iterate 5 refine qa ?_
  refine aNN H (λj hj=>Eq.trans (by rw[show 0+1+i*74=1+i*74 by omega];rfl) (aPH 0 D i (jE (i:Nat) t,(a',c')) j hj)) (cK _ _ _ _) ?_
  intro w5 H z5
  refine iE ?_
  refine aR ?_
  repeat refine qa ?_
  exact bQ ⟨4-(i+1),Yo,i+1,_,Yo,Yo,(bZ _ _).trans hs,(aO _ _).trans hd,Qv,Qv,Qv,Eq.trans Qv (by rw[Int.natCast_add];rfl),λj hj=>(by
   by_cases e:j=i
   ·rw[e,cB]
   ·rw[upM_other _ _ e];exact hD j Yo),vI (g:=agJ w.heap.size) i H⟩
 ·obtain rfl:i=4:=by have:=of_decide_eq_false h;omega
  refine dS (fU ?_)
  refine aD ?_
  refine qa ?_
  refine aNN H dO (aCo _ _) ?_
  intro w5 H z5
  refine aF ?_
  exact bD (bB ((aO _ _).trans hd) (qN rfl Qv ManyK.out H.v2 (Nat.le_refl _)) ⟨D,rfl,hD,H.sub (List.Sublist.cons_cons _ (List.nil_sublist _))⟩)
set_option maxHeartbeats 400000 in
theorem qH (a n : Int) (hn : 0 < n) (hn2 : n ≤ 2000000000000000) (w : World) :
  Calls Tryz.prog 8 #[.int .i64 a,.int .i64 n] w λe w'=>∃j:Nat,(j:Int)<n∧e=.returned (.int .i64 (j:Int))∧w'=w:=by
 have b1:=Int.tmod_lt_of_pos a hn
 have b2: -n<a.tmod n:=by
  have:=Int.tmod_lt_of_pos (-a) hn
  rw[Int.neg_tmod] at this
  omega
 have h0:¬n=0:=Yo
 by_cases h:a.tmod n<0
 ·go_enter Tryz.func8,Tryz.ntmps8
  go_wp2
  go_ret
  exact⟨(a.tmod n+n).toNat,Yo,by rw[Int.toNat_of_nonneg Yo];rfl,rfl⟩
 ·go_enter Tryz.func8,Tryz.ntmps8
  go_wp2
  go_ret
  exact⟨(a.tmod n).toNat,Yo,by rw[Int.toNat_of_nonneg Yo];rfl,rfl⟩
structure Li where
 rd:Nat→Nat→Int
 bad:Int
 LL:List Lj
 lo:Option Addr
 lc:Nat
def Li.x(c:Li):Ip:=⟨c.rd,c.bad,c.LL.map Lj.y⟩
structure LiOK (w:World) (c:Li):Prop where
 ip:IpOK c.x
 jr:JRd w c.lo c.LL
 lc:c.LL.length≤c.lc
theorem LiOK.below{w w':World}{c:Li}(h:LiOK w c)(k:Below w.heap.size w w'):LiOK w' c:=⟨h.ip,h.jr.below k,h.lc⟩
def RdS{α:Type}(F:α→Nat→Value)(s:Nat)(w:World)(ao:Option Addr)(L:List α):Prop:=0<L.length→∃b o,ao=some ⟨b,o,none⟩∧∀i c,L[i]?=some c→∀k,k<s→w.cell? ⟨b,o+i*s+k,none⟩=some (F c k)
theorem RdS.below{α:Type}{F:α→Nat→Value}{s:Nat}{w w':World}{ao:Option Addr}{L:List α}(h:RdS F s w ao L)(k:Below w.heap.size w w'):RdS F s w' ao L:=λhl=>by
 obtain⟨b,o,e,hc⟩:=h hl
 exact⟨b,o,e,λi c hi j hj=>bE (hc i c hi j hj) k⟩
def RlE(r s:Rl):Prop:=∀j,j<4→r.I j=s.I j∧r.M j=s.M j∧r.J j=s.J j
theorem RlE.symm{r s:Rl}(h:RlE r s):RlE s r:=λj hj=>⟨(h j hj).1.symm,(h j hj).2.1.symm,(h j hj).2.2.symm⟩
theorem RlE.trans{r s t:Rl}(h:RlE r s)(h':RlE s t):RlE r t:=λj hj=>⟨(h j hj).1.trans (h' j hj).1,(h j hj).2.1.trans (h' j hj).2.1,(h j hj).2.2.trans (h' j hj).2.2⟩
theorem RlE.refl(r:Rl):RlE r r:=λ_ _=>⟨rfl,rfl,rfl⟩
theorem aCc{b b':Nat→Bool}{f f':Nat→Int}:∀{k:Nat},(∀i,i<k→b i=b' i∧f i=f' i)→jK b f k=jK b' f' k
 |0,_=>rfl
 |k+1,h=>by
  show jK b f k++_=jK b' f' k++_
  rw[aCc (λi hi=>h i Yo),(h k Yo).1,(h k Yo).2]
theorem zD{f g:Nat→Int}:∀{k:Nat},(∀i,i<k→f i=g i)→oQ f k=oQ g k
 |0,_=>rfl
 |k+1,h=>by
  show wrap64 (wrap64 (8*oQ f k)+f k)=wrap64 (wrap64 (8*oQ g k)+g k)
  rw[zD (λi hi=>h i Yo),h k Yo]
theorem aJH{ax bx:Nat→St}{r s:Rl}(h:∀a,a<3→ax a=bx a)(hr:RlE r s):qZ ax r=qZ bx s:=by
 unfold qZ inN
 rw[h 0 Yo,h 1 Yo,h 2 Yo,zD (λi hi=>(hr i hi).2.1),zD (λi hi=>(hr i hi).2.2),(hr 0 Yo).1,(hr 1 Yo).1,(hr 2 Yo).1,(hr 3 Yo).1]
theorem aID{ax bx:Nat→St}{r s:Rl}(h:∀a,a<3→ax a=bx a)(hr:RlE r s):dgN ax r=dgN bx s:=by
 have e:vU ax r=vU bx s:=by
  funext i
  unfold vU
  rw[aJH h hr]
 unfold dgN
 rw[e]
theorem aHB{v:Nat→Int}{b:Nat→Bool}{D bad:Int}(h:∀s:Nat,s<4→(s:Int)≠bad→v s=D∧b s=true):vtX v b 4=D∧vtS v b D=true∧0<ti b 4:=by
 have p:∀s:Nat,s<4→(s:Int)≠bad→(if b s=true∧v s=D then 1 else 0)=1:=λs hs g=>if_pos ⟨(h s hs g).2,(h s hs g).1⟩
 have k3:3≤vk b v D 4:=by
  have p0:=p 0 Yo;have p1:=p 1 Yo;have p2:=p 2 Yo;have p3:=p 3 Yo
  show 3≤(((0+if b 0=true∧v 0=D then 1 else 0)+if b 1=true∧v 1=D then 1 else 0)+if b 2=true∧v 2=D then 1 else 0)+if b 3=true∧v 3=D then 1 else 0
  generalize (if b 0=true∧v 0=D then 1 else 0)=y0 at*
  generalize (if b 1=true∧v 1=D then 1 else 0)=y1 at*
  generalize (if b 2=true∧v 2=D then 1 else 0)=y2 at*
  generalize (if b 3=true∧v 3=D then 1 else 0)=y3 at*
  omega
 have k1:∀u,u≠D→vk b v u 4≤1:=λu hu=>by
  have q:∀s:Nat,s<4→(s:Int)≠bad→(if b s=true∧v s=u then 1 else 0)=0:=λs hs g=>if_neg (by rintro⟨_,e⟩;exact hu (e.symm.trans (h s hs g).1))
  have l:∀s:Nat,(if b s=true∧v s=u then 1 else 0)≤1:=λs=>by split<;>omega
  have p0:=q 0 Yo;have p1:=q 1 Yo;have p2:=q 2 Yo;have p3:=q 3 Yo
  have l0:=l 0;have l1:=l 1;have l2:=l 2;have l3:=l 3
  show (((0+if b 0=true∧v 0=u then 1 else 0)+if b 1=true∧v 1=u then 1 else 0)+if b 2=true∧v 2=u then 1 else 0)+(if b 3=true∧v 3=u then 1 else 0)≤1
  generalize (if b 0=true∧v 0=u then 1 else 0)=y0 at*
  generalize (if b 1=true∧v 1=u then 1 else 0)=y1 at*
  generalize (if b 2=true∧v 2=u then 1 else 0)=y2 at*
  generalize (if b 3=true∧v 3=u then 1 else 0)=y3 at*
  omega
 have all:∀i,vk b v (v i) 4≤vk b v D 4:=λi=>by
  by_cases e:v i=D
  ·rw[e];exact Nat.le_refl _
  ·have:=k1 _ e;omega
 have hV:rG v b 4 D:=by
  by_cases c:b 0=true∧v 0=D
  ·exact Or.inr ⟨0,Yo,c.1,c.2.symm,λi _ _=>all i,λi hi=>by omega⟩
  ·have g0:(0:Int)=bad:=by
    by_cases g:((0:Nat):Int)=bad
    ·exact g
    ·exact absurd ⟨(h 0 Yo g).2,(h 0 Yo g).1⟩ c
   have h1:=h 1 Yo Yo
   refine Or.inr ⟨1,Yo,h1.2,h1.1.symm,λi _ _=>all i,λi hi hb=>?_⟩
   obtain rfl:i=0:=Yo
   have:v 0≠D:=λe=>c ⟨hb,e⟩
   have:=k1 _ this;omega
 have t1:=aEb b v D 4
 have t2:=aDL b 4
 refine⟨(aJJ hV).symm,?_,Yo⟩
 unfold vtS
 exact decide_eq_true ⟨Yo,Yo⟩
section
variable {x:Ip} {c:Cl}
theorem aNC(hE:dH x c=0){i:Nat}(hi:i<4)(g:(i:Int)≠x.bad):(ndK x c 5 i).us=(ndK x c 3 i).us:=by rw[yH hE hi g,sV hE hi g]
theorem aSV(hE:dH x c=0){i:Nat}(hi:i<4)(g:(i:Int)≠x.bad):(ndK x c 5 i).ax=(ndK x c 3 i).ax:=by rw[yH hE hi g,sV hE hi g]
theorem aSN(hE:dH x c=0){i:Nat}(hi:i<4)(g:(i:Int)≠x.bad):(ndK x c 5 i).dg=(ndK x c 3 i).dg:=by rw[yH hE hi g,sV hE hi g]
theorem aGV(hE:dH x c=0){i:Nat}(hi:i<4)(g:(i:Int)≠x.bad):(ndK x c 2 i).rl=(c.nd i).rl:=by rw[sF hE hi g,vY hE hi g]
theorem aSM(hE:dH x c=0){i:Nat}(hi:i<4)(g:(i:Int)≠x.bad):(ndK x c 2 i).ax=(c.nd i).ax:=by rw[sF hE hi g,vY hE hi g]
theorem aTk(hE:dH x c=0){i:Nat}(hi:i<4)(g:(i:Int)≠x.bad):(ndK x c 2 i).tn=(c.nd i).tn:=by rw[sF hE hi g,vY hE hi g]
theorem aGU(hE:dH x c=0){i:Nat}(hi:i<4)(g:(i:Int)≠x.bad):(ndK x c 4 i).rl=(c.nd i).rl:=by rw[sV hE hi g,rD hE hi g];exact aGV hE hi g
theorem aHe(hE:dH x c=0){i:Nat}(hi:i<4)(g:(i:Int)≠x.bad)(a:Nat):(ndK x c 3 i).us a=qL (jK (c.nd i).rl.I (λs=>(ndK x c 3 i).ag s a) 4):=by
 rw[rD hE hi g, ←aGV hE hi g];rfl
theorem aGP(hE:dH x c=0){i:Nat}(hi:i<4)(g:(i:Int)≠x.bad)(a:Nat):(ndK x c 3 i).ax a=wQ ((c.nd i).ax a) (c.nd i).tn ((ndK x c 3 i).us a):=by
 rw[rD hE hi g, ←aSM hE hi g, ←aTk hE hi g];rfl
theorem aNp(hE:dH x c=0){i:Nat}(hi:i<4)(g:(i:Int)≠x.bad):(ndK x c 3 i).dg=dgN (ndK x c 3 i).ax (c.nd i).rl:=by
 rw[rD hE hi g, ←aGV hE hi g];rfl
theorem aOX(hE:dH x c=0){i k:Nat}(hi:i<4)(hk:k<4)(gi:(i:Int)≠x.bad)(gk:(k:Int)≠x.bad)(hr:RlE (c.nd i).rl (c.nd k).rl){a:Nat}(ha:a<3):(ndK x c 3 i).us a=(ndK x c 3 k).us a:=by
 rw[aHe hE hi gi,aHe hE hk gk,aCc λs hs=>⟨(hr s hs).1,aQF hE hi hk hs gi gk ha⟩]
theorem aPB(hE:dH x c=0){i k:Nat}(hi:i<4)(hk:k<4)(gi:(i:Int)≠x.bad)(gk:(k:Int)≠x.bad)(ht:(c.nd i).tn=(c.nd k).tn)(ha:∀a,a<3→(c.nd i).ax a=(c.nd k).ax a)(hr:RlE (c.nd i).rl (c.nd k).rl){a:Nat}(h3:a<3):(ndK x c 3 i).ax a=(ndK x c 3 k).ax a:=by
 rw[aGP hE hi gi,aGP hE hk gk,aOX hE hi hk gi gk hr h3,ht,ha a h3]
theorem aOR(hE:dH x c=0){i k:Nat}(hi:i<4)(hk:k<4)(gi:(i:Int)≠x.bad)(gk:(k:Int)≠x.bad)(ht:(c.nd i).tn=(c.nd k).tn)(ha:∀a,a<3→(c.nd i).ax a=(c.nd k).ax a)(hr:RlE (c.nd i).rl (c.nd k).rl):(ndK x c 3 i).dg=(ndK x c 3 k).dg:=by
 rw[aNp hE hi gi,aNp hE hk gk,aID (λa h3=>aPB hE hi hk gi gk ht ha hr h3) hr]
theorem aDm (hE : dH x c = 0) {i : Nat} {D bad : Int} (hi : i < 4) (gi : (i : Int) ≠ x.bad) (h : ∀ s : Nat, s < 4 → (s : Int) ≠ bad → vtK x c i s = D ∧ (c.nd i).rl.I s = true) :
  (ndK x c 5 i).vX=D∧(ndK x c 5 i).vS=true∧(∀s,judA (ndK x c 4 i) (bxK x c 4 i) s=decide (vtK x c i s=D)):=by
 obtain⟨h1,h2,h3⟩:=aHB (v:=vtK x c i) h
 have e:judX (ndK x c 4 i) (bxK x c 4 i)=D:=by
  unfold judX;rw[aGU hE hi gi];exact h1
 refine⟨?_,?_,λs=>?_⟩
 ·rw[yH hE hi gi];exact e
 ·rw[yH hE hi gi]
  show judS _ _=true
  unfold judS;rw[e,aGU hE hi gi];exact h2
 ·unfold judA vtA
  rw[e,aGU hE hi gi]
  exact decide_eq_decide.2 ⟨λq=>q.2,λq=>⟨h3,q⟩⟩
theorem aIB(hE:dH x c=0){i:Nat}(hi:i<4)(gi:(i:Int)≠x.bad)(h:(ndK x c 5 i).vX=(ndK x c 5 i).dg):lD x c i=ndK x c 5 i:=by
 unfold lD
 rw[if_neg gi]
 show iP (ndK x c 5 i) (bxK x c 5 i)=_
 unfold iP aHt
 rw[if_neg (by rw[id5 hE hi gi,lW hi];decide),if_neg (λq=>q.2 h)]
end
structure Inv (t:Tn) (bad:Int) (c:Cl):Prop where
 id:∀i,i<4→(c.nd i).id=(i:Nat)
 tn:∀i,i<4→(c.nd i).tn=t
 ax:∀i k:Nat,i<4→k<4→(i:Int)≠bad→(k:Int)≠bad→∀a,a<3→(c.nd i).ax a=(c.nd k).ax a
 rl:∀i k:Nat,i<4→k<4→(i:Int)≠bad→(k:Int)≠bad→RlE (c.nd i).rl (c.nd k).rl
 gd:∀i:Nat,i<4→(i:Int)≠bad→nK (c.nd i).rl=true
 on:∀i s:Nat,i<4→s<4→(i:Int)≠bad→(s:Int)≠bad→(c.nd i).rl.I s=true∧(c.nd i).rl.M s=0
theorem oD(t:Tn){i:Nat}(hi:i<4):jE (i:Nat) t={ fD with id:=(i:Nat),tn:=t,ax:=λ_=>St.beg0,rl:=beginR }:=by
 unfold jE;rw[if_neg (by rw[lW hi];decide)]
theorem zS(t:Tn)(bad:Int):Inv t bad (nM t) where
 id i hi:=by show (jE (i:Nat) t).id=_;rw[oD t hi]
 tn i hi:=by show (jE (i:Nat) t).tn=_;rw[oD t hi]
 ax i k hi hk _ _ a _:=by show (jE (i:Nat) t).ax a=(jE (k:Nat) t).ax a;rw[oD t hi,oD t hk]
 rl i k hi hk _ _:=by show RlE (jE (i:Nat) t).rl (jE (k:Nat) t).rl;rw[oD t hi,oD t hk];exact RlE.refl _
 gd i hi _:=by show nK (jE (i:Nat) t).rl=true;rw[oD t hi];rfl
 on i s hi _ _ _:=by show (jE (i:Nat) t).rl.I s=true∧(jE (i:Nat) t).rl.M s=0;rw[oD t hi];exact⟨rfl,rfl⟩
section
variable {t:Tn} {bad:Int} {x:Ip} {c:Cl}
theorem aRw(h:Inv t bad c)(hb:x.bad=bad)(hE:dH x c=0){i k:Nat}(hi:i<4)(hk:k<4)(gi:(i:Int)≠bad)(gk:(k:Int)≠bad):(ndK x c 3 i).dg=(ndK x c 3 k).dg:=
 aOR hE hi hk (by rw[hb];exact gi) (by rw[hb];exact gk) ((h.tn i hi).trans (h.tn k hk).symm) (h.ax i k hi hk gi gk) (h.rl i k hi hk gi gk)
theorem aIY(h:Inv t bad c)(hb:x.bad=bad)(hE:dH x c=0){i:Nat}(hi:i<4)(gi:(i:Int)≠bad):∀s:Nat,s<4→(s:Int)≠bad→vtK x c i s=(ndK x c 3 i).dg∧(c.nd i).rl.I s=true:=λs hs gs=>
 ⟨(aPE hE hi hs (by rw[hb];exact gi) (by rw[hb];exact gs)).trans (aRw h hb hE hs hi gs gi),(h.on i s hi hs gi gs).1⟩
theorem aQt(h:Inv t bad c)(hb:x.bad=bad)(hE:dH x c=0){i:Nat}(hi:i<4)(gi:(i:Int)≠bad):(ndK x c 5 i).vX=(ndK x c 5 i).dg:=by
 rw[aSN hE hi (by rw[hb];exact gi)]
 exact (aDm hE hi (by rw[hb];exact gi) (aIY h hb hE hi gi)).1
theorem aCI(h:Inv t bad c)(hb:x.bad=bad)(hE:dH x c=0){i:Nat}(hi:i<4)(gi:(i:Int)≠bad):lD x c i=ndK x c 5 i:=aIB hE hi (by rw[hb];exact gi) (aQt h hb hE hi gi)
end
theorem aQH{f:Nat→Int}{n:Nat}{lo hi:Int}(h1:1≤n)(h2:n≤64)(hl:cl f n lo≤(n-1)/3)(hh:n-1-(n-1)/3<cl f n hi+ce f n hi):lo≤qL (jA f n)∧qL (jA f n)≤hi:=by
 obtain⟨m,hm⟩:=aIg f n h1
 rw[←aCB h1 h2 hm]
 obtain⟨a,b,ha,hb,rfl⟩:=hm
 have k1:=aTm ha hl
 have k2:=aTx hb hh
 have k3:=aCq ha hb Yo
 omega
def skI(b i:Nat):Nat:=if i<b then i else i+1
theorem aLJ{b:Nat→Bool}{f:Nat→Int}(h:∀s,s<4→b s=true):jK b f 4=jA f 4:=by
 show (((([]++_)++_)++_)++_)=_
 rw[h 0 Yo,h 1 Yo,h 2 Yo,h 3 Yo]
 rfl
theorem aMg{b:Nat→Bool}{f:Nat→Int}{q:Nat}(hq:q<4)(h0:b q=false)(h:∀s,s<4→s≠q→b s=true):jK b f 4=jA (λi=>f (skI q i)) 3:=by
 show (((([]++_)++_)++_)++_)=_
 rcases four hq with rfl|rfl|rfl|rfl
 ·rw[h0,h 1 Yo Yo,h 2 Yo Yo,h 3 Yo Yo];rfl
 ·rw[h0,h 0 Yo Yo,h 2 Yo Yo,h 3 Yo Yo];rfl
 ·rw[h0,h 0 Yo Yo,h 1 Yo Yo,h 3 Yo Yo];rfl
 ·rw[h0,h 0 Yo Yo,h 1 Yo Yo,h 2 Yo Yo];rfl
theorem sZ(p:Prop)[Decidable p]:(p→ind p=1)∧(¬p→ind p=0):=⟨oC,yR⟩
theorem aLL{b:Nat→Bool}{f:Nat→Int}{bad lo hi:Int}(h:∀s:Nat,s<4→(s:Int)≠bad→b s=true∧lo≤f s∧f s≤hi):lo≤qL (jK b f 4)∧qL (jK b f 4)≤hi:=by
 by_cases ha:∀s,s<4→b s=true
 ·rw[aLJ ha]
  have h0:=h 0 Yo;have h1:=h 1 Yo;have h2:=h 2 Yo;have h3:=h 3 Yo
  refine aQH Yo Yo ?_ ?_
  ·rw[cl4]
   have i0:=sZ (f 0<lo);have i1:=sZ (f 1<lo);have i2:=sZ (f 2<lo);have i3:=sZ (f 3<lo)
   have j0:=aAu (f 0<lo);have j1:=aAu (f 1<lo);have j2:=aAu (f 2<lo);have j3:=aAu (f 3<lo)
   generalize ind (f 0<lo)=y0 at*
   generalize ind (f 1<lo)=y1 at*
   generalize ind (f 2<lo)=y2 at*
   generalize ind (f 3<lo)=y3 at*
   by_cases c0:((0:Nat):Int)=bad
   ·have:=i1.2 (by have:=(h1 Yo).2;omega);have:=i2.2 (by have:=(h2 Yo).2;omega);have:=i3.2 (by have:=(h3 Yo).2;omega);omega
   ·have:=i0.2 (by have:=(h0 c0).2;omega)
    by_cases c1:((1:Nat):Int)=bad
    ·have:=i2.2 (by have:=(h2 Yo).2;omega);have:=i3.2 (by have:=(h3 Yo).2;omega);omega
    ·have:=i1.2 (by have:=(h1 c1).2;omega)
     by_cases c2:((2:Nat):Int)=bad
     ·have:=i3.2 (by have:=(h3 Yo).2;omega);omega
     ·have:=i2.2 (by have:=(h2 c2).2;omega);omega
  ·rw[aTQ]
   have i0:=sZ (f 0≤hi);have i1:=sZ (f 1≤hi);have i2:=sZ (f 2≤hi);have i3:=sZ (f 3≤hi)
   generalize ind (f 0≤hi)=y0 at*
   generalize ind (f 1≤hi)=y1 at*
   generalize ind (f 2≤hi)=y2 at*
   generalize ind (f 3≤hi)=y3 at*
   by_cases c0:((0:Nat):Int)=bad
   ·have:=i1.1 (h1 Yo).2.2;have:=i2.1 (h2 Yo).2.2;have:=i3.1 (h3 Yo).2.2;omega
   ·have:=i0.1 (h0 c0).2.2
    by_cases c1:((1:Nat):Int)=bad
    ·have:=i2.1 (h2 Yo).2.2;have:=i3.1 (h3 Yo).2.2;omega
    ·have:=i1.1 (h1 c1).2.2
     by_cases c2:((2:Nat):Int)=bad
     ·have:=i3.1 (h3 Yo).2.2;omega
     ·have:=i2.1 (h2 c2).2.2;omega
 ·obtain⟨q,hq,h0⟩:∃q,q<4∧b q=false:=by
   by_cases b0:b 0=true
   ·by_cases b1:b 1=true
    ·by_cases b2:b 2=true
     ·by_cases b3:b 3=true
      ·exact absurd (λs hs=>by rcases four hs with rfl|rfl|rfl|rfl<;>assumption) ha
      ·exact⟨3,Yo,by simpa using b3⟩
     ·exact⟨2,Yo,by simpa using b2⟩
    ·exact⟨1,Yo,by simpa using b1⟩
   ·exact⟨0,Yo,by simpa using b0⟩
  have hqb:(q:Int)=bad:=by
   by_cases e:(q:Int)=bad
   ·exact e
   ·rw[(h q hq e).1] at h0;cases h0
  rw[aMg hq h0 (λs hs hn=>(h s hs Yo).1)]
  obtain⟨m,hm⟩:=aIg (λi=>f (skI q i)) 3 Yo
  rw[←aCB Yo Yo hm]
  refine aGQ hm λi hi=>?_
  have:skI q i<4∧skI q i≠q:=by unfold skI;split<;>omega
  exact (h _ this.1 Yo).2
section
variable {t:Tn} {bad:Int} {x:Ip} {c:Cl}
theorem aJE(h:Inv t bad c)(hb:x.bad=bad)(hE:dH x c=0){i a:Nat}(hi:i<4)(gi:(i:Int)≠bad)(ha:a<3){lo hi':Int}(hr:∀s:Nat,s<4→(s:Int)≠bad→lo≤x.rd s a∧x.rd s a≤hi'):lo≤(lD x c i).us a∧(lD x c i).us a≤hi':=by
 have gi':(i:Int)≠x.bad:=by rw[hb];exact gi
 rw[aCI h hb hE hi gi,aNC hE hi gi',aHe hE hi gi']
 refine aLL (bad:=bad) λs hs gs=>?_
 rw[aPF hE hi hs gi' (by rw[hb];exact gs) ha]
 exact⟨(h.on i s hi hs gi gs).1,hr s hs gs⟩
theorem aIo(h:Inv t bad c)(hb:x.bad=bad)(hE:dH x c=0){i a:Nat}(hi:i<4)(gi:(i:Int)≠bad):(lD x c i).ax a=wQ ((c.nd i).ax a) t ((lD x c i).us a):=by
 have gi':(i:Int)≠x.bad:=by rw[hb];exact gi
 rw[aCI h hb hE hi gi,aSV hE hi gi',aNC hE hi gi',aGP hE hi gi',h.tn i hi]
end
section
variable {x:Ip} {c:Cl}
end
section
variable {n:Nd} {l m:List Ms}
end
structure Al (t:Tn) (b:Nat) (q:Nat) (c:Cl):Prop where
 id:∀i,i<4→(c.nd i).id=(i:Nat)
 tn:∀i,i<4→(c.nd i).tn=t
 ax:∀i k:Nat,i<4→k<4→∀a,a<3→(c.nd i).ax a=(c.nd k).ax a
 rl:∀i k:Nat,i<4→k<4→RlE (c.nd i).rl (c.nd k).rl
 gd:∀i:Nat,i<4→nK (c.nd i).rl=true
 on:∀i s:Nat,i<4→s<4→s≠b→(c.nd i).rl.I s=true∧(c.nd i).rl.M s=0
 jn:∀i,i<4→((c.nd i).rl.I b=true)∨(q:Int)≤(c.nd i).rl.J b
section
variable {t:Tn} {b:Nat} {x:Ip} {c:Cl}
end
theorem Cx.plus{w0 w w':World}{l m:List It}(H:Cx w0 w l)(G:Cx w w' m):Cx w0 w' (m++l):=by
 have H':=H.call G.bel
 have hs:=H.size
 refine⟨H'.bel,λx hx=>?_,λx hx k hk=>?_,List.pairwise_append.2 ⟨G.dis,H.dis,λx hx y hy k h1 h2=>?_⟩⟩
 ·rcases List.mem_append.1 hx with hx|hx
  ·exact G.it x hx
  ·exact H'.it x hx
 ·rcases List.mem_append.1 hx with hx|hx
  ·have:=G.up x hx k hk;omega
  ·exact H.up x hx k hk
 ·have h3:=G.up x hx k h1
  have h4:=y.lt (H.it y hy) h2
  omega
theorem aLA{x:Ip}{c:Cl}(h1: -1≤x.bad∧x.bad<4)(h2:0≤c.fr∧c.fr≤1073741823)(h3:x.ly.length≤400)(h4:∀i,i<4→(c.nd i).id=(i:Nat)):dH x c=0:=by
 unfold dH
 rw[if_neg Yo,if_neg Yo,if_pos ⟨h4 0 Yo,h4 1 Yo,h4 2 Yo,h4 3 Yo⟩]
theorem aIb{x:Ip}{fr:Int}{D:Nat→Nd×Ad}{c:Cl}(hf:c.fr=fr)(hn:∀i,i<4→(D i).1=c.nd i):dH x ⟨fr,λi=>(D i).1⟩=dH x c∧(xJ x ⟨fr,λi=>(D i).1⟩).fr=(xJ x c).fr∧(∀i,i<4→(xJ x ⟨fr,λi=>(D i).1⟩).nd i=(xJ x c).nd i)∧frR x ⟨fr,λi=>(D i).1⟩=frR x c:=by
 have hk:∀k,∀i,i<4→(nE x ⟨fr,λi=>(D i).1⟩ k).nd i=(nE x c k).nd i∧(nE x ⟨fr,λi=>(D i).1⟩ k).bx i=(nE x c k).bx i:=by
  intro k
  induction k with
  |zero=>exact λi hi=>⟨hn i hi,rfl⟩
  |succ k ih=>
   intro i hi
   obtain⟨h1,h2⟩:=ih i hi
   refine⟨?_,?_⟩
   ·show wkN x fr _ k i=wkN x c.fr _ k i
    rw[hf]
    exact (aAK h1 h2).1
   ·show oP x _ i k 4=oP x _ i k 4
    refine aAn λj hj=>?_
    obtain⟨h3,h4⟩:=ih j hj
    show wkM x fr _ k j=wkM x c.fr _ k j
    rw[hf]
    exact (aAK h3 h4).2
 have hN:∀i,i<4→lD x ⟨fr,λi=>(D i).1⟩ i=lD x c i:=λi hi=>by
  unfold lD
  rw[(hk 5 i hi).1,(hk 5 i hi).2]
  show (if _ then (D i).1 else _)=_
  rw[hn i hi]
 have hE:dH x ⟨fr,λi=>(D i).1⟩=dH x c:=by
  unfold dH
  dsimp only
  simp only[hf,hn 0 Yo,hn 1 Yo,hn 2 Yo,hn 3 Yo]
 refine⟨hE,?_,λi hi=>?_,?_⟩
 ·unfold xJ
  rw[hE]
  split
  ·show fr+1=c.fr+1;rw[hf]
  ·rfl
 ·unfold xJ
  rw[hE]
  split
  ·exact hN i hi
  ·rfl
 ·unfold frR
  rw[hE]
  split
  ·refine List.map_congr_left λi hi=>hN i ?_
   unfold gdL at hi
   exact List.mem_range.1 (List.mem_filter.1 hi).1
  ·rfl
def t1:Tn:=⟨4294967296,0,4294967296,429496729600⟩
def uC(_ a:Nat):Int:=if a=0 then 4294967296 else 0
def x1:Ip:=⟨uC, -1,[]⟩
theorem aNI:t1.Ok:=⟨by unfold R64 t1;decide,by unfold R64 t1;decide,by unfold R64 t1;decide,by unfold R64 t1;decide⟩
theorem aTa:IpOK x1:=⟨λs a=>by show R64 (uC s a);unfold uC;split<;>(unfold R64;decide),by unfold R64 x1;decide,λy hy=>by cases hy⟩
theorem hE1:dH x1 (nM t1)=0:=aLA (by unfold x1;decide) (show (0:Int)≤0∧(0:Int)≤1073741823 by decide) (Nat.zero_le _) (λi hi=>(zS t1 (-1)).id i hi)
theorem aTD:frR x1 (nM t1)=[lD x1 (nM t1) 0,lD x1 (nM t1) 1,lD x1 (nM t1) 2,lD x1 (nM t1) 3]:=by
 unfold frR
 rw[if_pos hE1]
 rfl
theorem aIV:(lD x1 (nM t1) 3).vS=true:=by
 have h:=zS t1 (-1)
 rw[aCI h rfl hE1 Yc Yc]
 exact (aDm hE1 Yc Yc (aIY h rfl hE1 Yc Yc)).2.1
theorem aNG{i:Nat}(hi:i<4):(lD x1 (nM t1) i).us 0=4294967296:=by
 have h:=aJE (zS t1 (-1)) rfl hE1 hi Yo (show 0<3 by decide) (lo:=4294967296) (hi':=4294967296) (λs _ _=>⟨Int.le_refl _,Int.le_refl _⟩)
 omega
theorem aOl:(lD x1 (nM t1) 2).us 0=4294967296:=aNG Yc
theorem aKr:(lD x1 (nM t1) 1).us 0=4294967296:=aNG Yc
theorem aKA:0<((lD x1 (nM t1) 1).ax 0).X:=by
 rw[aIo (zS t1 (-1)) rfl hE1 Yc Yc,aKr]
 show 0<(wQ ((jE ((1:Nat):Int) t1).ax 0) t1 4294967296).X
 rw[oD t1 Yc]
 decide+kernel
section
variable {f:Operand→Value} {o:Oper}
theorem aJf(ho:o.op=.build 23 #[(0,.const (.int .i64 4294967296)),(2,.const (.int .i64 4294967296)),(3,.const (.int .i64 429496729600))])(hc:∀v,f (.const v)=v)(w:World):(execOp f o).run Tryz.prog w=.ok (.value (aV (rY t1) 0 4)) w:=by
 unfold execOp
 rw[ho]
 simp only[List.map_toArray,List.map_cons,List.map_nil,hc]
 kernel_rfl
theorem aJG(ho:o.op=.build 27 #[(0,.const (.int .i64 4294967296))])(hc:∀v,f (.const v)=v)(w:World):(execOp f o).run Tryz.prog w=.ok (.value (aV (λj=>iV (uC 0 j)) 0 3)) w:=by
 unfold execOp
 rw[ho]
 simp only[List.map_toArray,List.map_cons,List.map_nil,hc]
 kernel_rfl
theorem aIE{a b c d:Operand}(ho:o.op=.build 28 #[(0,a),(1,b),(2,c),(3,d)])(ha:f a=aV (λj=>iV (uC 0 j)) 0 3)(hb:f b=aV (λj=>iV (uC 0 j)) 0 3)(hc:f c=aV (λj=>iV (uC 0 j)) 0 3)(hd:f d=aV (λj=>iV (uC 0 j)) 0 3)(w:World):(execOp f o).run Tryz.prog w=.ok (.value (aV (xP uC) 0 12)) w:=by
 unfold execOp
 rw[ho]
 simp only[List.map_toArray,List.map_cons,List.map_nil,ha,hb,hc,hd]
 kernel_rfl
theorem aJY{a:Operand}(ho:o.op=.build 31 #[(0,a),(1,.const (.int .i64 (-1)))])(ha:f a=aV (xP uC) 0 12)(hc:∀v,f (.const v)=v)(w:World):(execOp f o).run Tryz.prog w=.ok (.value (aV (ipF uC (-1) (.slice none 0 0)) 0 14)) w:=by
 unfold execOp
 rw[ho]
 simp only[List.map_toArray,List.map_cons,List.map_nil,ha,hc]
 kernel_rfl
end
theorem aTJ(n:Nd):xC n 2=.int .i64 (n.us 0):=rfl
theorem aTY(n:Nd):xC n 5=.int .i64 (n.ax 0).X:=rfl
theorem aTF(n:Nd):xC n 9=.bool n.vS:=rfl
set_option maxHeartbeats 2000000 in
theorem aDh(w:World):Calls Tryz.prog 12 #[] w λe w'=>e=.returned (.bool true)∧Below w.heap.size w w':=by
 refine bX Tryz.func12 rfl 51 rfl Yd (λA hs hd hb=>?_)
 clear hb
 have H:=Cx.start w
 refine aD (aJ ?_)
 refine qa ?_
 refine aF ?_
 refine aD ?_
 refine qg (aJf rfl (λ_=>rfl) _) ?_
 refine xU (aGH t1 w aNI) ?_
 rintro e w1 ⟨D,rfl,hD,G⟩
 refine⟨_,rfl,?_⟩
 replace H:=H.plus G
 iterate 4 refine qg (aJG rfl (λ_=>rfl) _) ?_
 refine qg (aIE rfl Qv Qv Qv Qv _) ?_
 refine qg (aJY rfl Qv (λ_=>rfl) _) ?_
 have hag:∀i,i<4→aAJ w1 (D i).1 (D i).2.1 (D i).2.2:=λi hi=>by
  have ho:World.ownsRow _ _ _ _ _ _ _:=H.o0 i hi
  obtain⟨a3,c3,e,hs3,_⟩:=kN ho
  cases e
  exact hs3
 have hcls:aDF ⟨0,λi=>(D i).1⟩:=⟨R64_zero,λi hi=>by show NdOK (D i).1;rw[hD i hi];exact aLN aNI hi⟩
 obtain⟨p1,p2,p3,p4⟩:=aIb (x:=x1) (c:=nM t1) (fr:=0) (D:=D) rfl hD
 have hfr:=aMB x1 0 D none 0 [] w1 rfl aTa hcls hag ⟨λh=>absurd h (Nat.lt_irrefl _),λ_ h=>(by cases h)⟩
 change Calls _ _ #[aV (rE 0 D) 0 297,aV (ipF uC (-1) (.slice none 0 0)) 0 14] _ _ at hfr
 refine uB hfr ?_
 clear hfr
 rintro e w2 ⟨D',v,rfl,hD',G2⟩
 refine⟨_,rfl,?_⟩
 replace H:=H.plus G2
 refine qa ?_
 refine qg (kZ _ rfl Qv _) ?_
 refine qg (kV _ rfl Qv _) ?_
 refine qg (kY _ rfl Qv _) ?_
 refine lY H ?_
 intro w3 H z3
 refine mR H dO (aCo _ _) ?_
 intro w4 H z4
 iterate 2 refine qa ?_
 refine aF ?_
 refine aD ?_
 rw[p4,aTD] at H
 have hrow:World.ownsRow _ _ _ _ _ _ _:=H.o1
 obtain⟨g,cap,rfl,_,hcell⟩:=aRO hrow (show 0<4 by decide) Yc
 have eF:(xJ x1 ⟨0,λi=>(D i).1⟩).fr=1:=by rw[p2];unfold xJ;rw[if_pos hE1];rfl
 have c3:w4.cell? ⟨g,0+3*14+9,none⟩=some (.bool true):=by
  have:=hcell 3 _ rfl 9 Yc
  rw[this,aTF,aIV]
 have c2:w4.cell? ⟨g,0+2*14+2+0*1,none⟩=some (.int .i64 ((lD x1 (nM t1) 2).us 0)):=by
  have h2:=hcell 2 (lD x1 (nM t1) 2) rfl 2 Yc
  rw[show 0+2*14+2+0*1=0+2*14+2 by decide,h2,aTJ]
 have c1:w4.cell? ⟨g,0+1*14+5+0*1,none⟩=some (.int .i64 ((lD x1 (nM t1) 1).ax 0).X):=by
  have h2:=hcell 1 (lD x1 (nM t1) 1) rfl 5 Yc
  rw[show 0+1*14+5+0*1=0+1*14+5 by decide,h2,aTY]
 refine qa ?_
 refine qg (vB (b:=true) _ _ rfl Qv Qv (decide_eq_true (p1.trans hE1)) _) ?_
 iterate 2 refine qa ?_
 refine qg (LenK.run rfl Qv _) ?_
 refine qg (dA (b:=true) _ _ rfl Qv Qv (decide_eq_true rfl) _) ?_
 refine qg (aX _ _ _ rfl Qv Qv _) ?_
 iterate 3 refine qa ?_
 refine qg (dA (b:=true) _ _ rfl Qv Qv (decide_eq_true eF) _) ?_
 refine qg (aX _ _ _ rfl Qv Qv _) ?_
 iterate 2 refine qa ?_
 refine qg (nL (i:=3) _ _ _ _ rfl SlcK.out SizK.out Qv Qv rfl (show 3<4 by decide) _) ?_
 refine qa ?_
 refine qg (aLb _ rfl Qv c3) ?_
 refine qg (aX _ _ _ rfl Qv Qv _) ?_
 iterate 2 refine qa ?_
 refine qg (nL (i:=2) _ _ _ _ rfl SlcK.out SizK.out Qv Qv rfl (show 2<4 by decide) _) ?_
 refine qa ?_
 refine qg (dP (i:=0) _ _ _ _ rfl ArrK.out SizK.out Qv Qv rfl Yc _) ?_
 refine qg (aEJ _ rfl Qv c2) ?_
 refine qg (dA (b:=true) _ _ rfl Qv Qv (decide_eq_true aOl) _) ?_
 refine qg (aX _ _ _ rfl Qv Qv _) ?_
 iterate 2 refine qa ?_
 refine qg (nL (i:=1) _ _ _ _ rfl SlcK.out SizK.out Qv Qv rfl (show 1<4 by decide) _) ?_
 refine qa ?_
 refine qg (dP (i:=0) _ _ _ _ rfl ArrK.out SizK.out Qv Qv rfl Yc _) ?_
 refine qg (aEJ _ rfl Qv c1) ?_
 refine qg (kG (b:=true) _ _ rfl Qv Qv (decide_eq_true aKA) _) ?_
 refine qg (aX _ _ _ rfl Qv Qv _) ?_
 refine qa ?_
 refine aF ?_
 exact bD (bB ((aO _ _).trans hd) (dW rfl Qv) ⟨rfl,H.bel⟩)
end Go.Proofs.YtdhblehhgpdpdacGreat
