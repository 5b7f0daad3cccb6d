import Derived.Test.YthimcecbgpamdaaGreatDoorNodPr10
set_option maxHeartbeats 2000000
namespace Go.Proofs.YthimcecbgpamdaaGreatDoor
open Go.RowKit
theorem J8{x:Ip}{t u:Nat->Ms}{wo ph:Nat}:∀{k:Nat},(∀j,j<k->t j=u j)->oJ x t wo ph k=oJ x u wo ph k
 |0,_=>rfl
 |k+1,h=>by
  show oJ x t wo ph k++_=oJ x u wo ph k++_
  rw[J8 (λj hj=>h j Yo),h k Yo]
theorem aNt(x:Ip)(fr:Int)(k:Nat)(hk:k<5)(fb rb b:Nat)(D:Nat->Nd×Ad)(lv:Value)(X:Nat->List Lm×Ad)(w0 w:World)(l:List It)(hfr:R64 fr)(hrd:∀s a,R64 (x.rd s a))(hid:∀i,i<4->(D i).1.id=(i:Nat))(hok:∀i,i<4->NdOK (D i).1)(hX:∀i,i<4->(X i).1.length<=1600/\∀c,c∈(X i).1->MsOK c.m)(H:Cx w0 w (lN w0.heap.size D::Y7 fb rb fr x.rd::bE 104 b 303 303 (iQ fr D x.bad lv X)::yG w0.heap.size X::l)):Calls Tryz.prog 35 #[.pointer (some ⟨b,0,none⟩),pE fb rb k] w λe w'=>∃(D':Nat->Nd×Ad) (T:Nat->Ms×Ad),e=.returned (aP (xD T) 0 16)/\(∀i,i<4->(D' i).1=KG x fr ⟨λi=>(D i).1,λi=>(X i).1.map Lm.m⟩ k i)/\(∀i,i<4->(T i).1=AC x fr ⟨λi=>(D i).1,λi=>(X i).1.map Lm.m⟩ k i)/\Cx w0 w' (JY w0.heap.size T::lN w0.heap.size D'::Y7 fb rb fr x.rd::bE 104 b 303 303 (iQ fr D' x.bad lv X)::yG w0.heap.size X::l):=by
 have pure : ∀ (fn : Nat) [EntK Tryz.prog fn] (N : Nd -> List Ms -> Nd) (M : Nd -> List Ms -> Ms), FI N M fn -> Calls Tryz.prog 35 #[.pointer (some ⟨b, 0, none⟩), .func (.func fn) #[] #[]] w λe w' => ∃ (D' : Nat -> Nd × Ad) (T : Nat -> Ms × Ad), e = .returned (aP (xD T) 0 16) /\ (∀ i, i < 4 -> (D' i).1 = JC x.bad (λ_ => N) D X i) /\ (∀ i, i < 4 -> (T i).1 = ZX x.bad (λ_ => M) D X i) /\
   Cx w0 w' (JY w0.heap.size T::lN w0.heap.size D'::Y7 fb rb fr x.rd::bE 104 b 303 303 (iQ fr D' x.bad lv X)::yG w0.heap.size X::l):=λfn _ N M h=>by
  refine (MS b fr D x.bad lv X fn #[] (λ_=>N) (λ_=>M) (λ_ y=>y=emI) w0 w emI (Y7 fb rb fr x.rd::l) (aEl h) rfl (λ_ _ _ h=>h) hid hok hX ((H.f1.b3.add (Below.refl _ _) emI trivial (λ_ e=>e.elim)).f1)).mono ?_;rintro e w' ⟨D',T,y',rfl,rfl,hD,hT,H⟩;exact⟨D',T,rfl,hD,hT,H.f2.tl.f4.b2⟩
 have:k=0\/k=1\/k=2\/k=3\/k=4:=Yo;rcases this with rfl|rfl|rfl|rfl|rfl
 .refine (MS b fr D x.bad lv X 68 #[.pointer (some ⟨fb,0,none⟩),.pointer (some ⟨rb,0,none⟩)] (λi n _=>pO n fr (x.rd i)) (λi n _=>oN n fr (x.rd i)) (λ_ y=>y=Y7 fb rb fr x.rd) w0 w (Y7 fb rb fr x.rd) l (aCd w0 x.bad fb rb fr x.rd hfr hrd _ _) rfl (λ_ _ _ h=>h) hid hok hX H).mono ?_;rintro e w' ⟨D',T,y',rfl,rfl,hD,hT,H⟩;exact⟨D',T,rfl,hD,hT,H⟩
 .exact pure 70 relN vW OP
 .exact pure 71 uZ uY KV
 .exact pure 72 pasN vR SS
 .exact pure 73 judN vO OO
variable{c:Cl}{i:Nat}
theorem IL{x:Ip}(h:(i:Int)=x.bad):∀k,(nD x c k).nd i=c.nd i
 |0=>rfl
 |k+1=>by
  show (if (i:Int)=x.bad then _ else _)=_
  rw[if_pos h];exact IL h k
variable{k:Nat}
theorem U1{x:Ip}{fr:Int}{s s':Wk}(h1:s.nd i=s'.nd i)(h2:s.bx i=s'.bx i):KG x fr s k i=KG x fr s' k i/\AC x fr s k i=AC x fr s' k i:=by
 unfold KG AC;rw[h1,h2];exact⟨rfl,rfl⟩
theorem ZH(fr:Int)(D:Nat->Nd×Ad)(bad:Int)(lv:Value)(X:Nat->List Lm×Ad):∀j,j<297->iQ fr D bad lv X (0+0+j)=jU fr D j:=λj hj=>by
 rw[show 0+0+j=j by omega];exact yX hj
theorem aMi(fr fr':Int)(D:Nat->Nd×Ad)(bad:Int)(lv:Value)(X:Nat->List Lm×Ad):∀j,j<303->eQ (iQ fr D bad lv X) (0+0+0) (.int .i64 fr') j=iQ fr' D bad lv X j:=λj hj=>by
 by_cases e:j=0
 .subst e;rfl
 .rw[gP _ _ Yo];unfold iQ wN;by_cases c:j<297
  .rw[if_pos c,if_pos c];unfold pR;rw[if_neg e,if_neg e]
  .rw[if_neg c,if_neg c]
variable{w:World}
theorem UY{P:Program}{a:Act}{fn:Func}{p p' p2:Nat}{ty:TypeId}{b n N cap:Nat}{t:TypeId}{g:Nat->Value}{u v:Value}(h:fn.results=#[.cell p ty,.tmp p',.tmp p2])(hv:a.eval (.tmp p)=.pointer (some ⟨b,0,none⟩))(hv':a.eval (.tmp p')=u)(hv2:a.eval (.tmp p2)=v)(T:Many P ty n)(hm:Vh t w b N cap g)(hn:n<=N):(results fn a.tmps).run P w=.ok (.tuple #[aP g 0 n,u,v]) w:=by
 have e:=jL hv;have e2:=jL hv';have e3:=jL hv2;simp only[Array.getD_eq_getD_getElem?] at e e2 e3;simp[results,h,e,e2,e3,asAddr,nP T hm hn]
theorem aLe{L:List Lm}{l:List Ms}(e:L.map Lm.m=l)(h:∀m,m∈l->MsOK m):∀c,c∈L->MsOK c.m:=λc hc=>h _ (by rw[<-e];exact List.mem_map_of_mem hc)
theorem aGy{x:Ip}(hE:bU x c=0)(hk:k<=5)(hi:i<4):((nD x c k).nd i).id=(i:Nat):=by
 by_cases g:(i:Int)=x.bad
 .rw[IL g];exact DD hE hi
 .have:k=0\/k=1\/k=2\/k=3\/k=4\/k=5:=Yo;rcases this with rfl|rfl|rfl|rfl|rfl|rfl
  .exact DD hE hi
  .exact UJ hE hi g
  .exact id2 hE hi g
  .exact NU hE hi g
  .exact id4 hE hi g
  .exact id5 hE hi g
theorem aMH{x:Ip}(hx:IpOK x)(hc:lT c){j:Nat}(hj:j<4)(g:(j:Int)≠x.bad):MsOK (AC x c.fr (nD x c k) k j):=by
 have h:MsOK (H6 x c k j):=by
  rw[yR g];exact aBa k ((F3 hx hc k).1 j hj) (MsOK.R' ((F3 hx hc k).2 j hj)) hc.1 (hx.rd j)
 exact h
theorem aKa{x:Ip}(h:x.ly.length<=400)(k i:Nat):((nD x c k).bx i).length<=1600:=by
 cases k with
 |zero=>exact Xz _
 |succ k=>exact FO h _ _ _ 4
theorem aKi{x:Ip}(hE:bU x c=0){Dn:Nat->Nd}{Bn:Nat->List Ms}(h1:∀i,i<4->Dn i=(nD x c 5).nd i)(h2:∀i,i<4->Bn i=(nD x c 5).bx i):lX x.bad Dn Bn 4=frR x c:=by
 unfold lX frR;rw[if_pos hE];refine List.map_congr_left λi hi=>?_
 unfold P6 at hi;obtain⟨h3,h4⟩:=List.mem_filter.1 hi;have h3:=List.mem_range.1 h3;have h4:(i:Int)≠x.bad:=Xu h4;unfold gG;rw[if_neg h4,h1 i h3,h2 i h3]
def aNi(fn:Nat):Prop:=∀(x:Ip) (fr:Int) (D:Nat->Nd×Ad) (lo:Option Addr) (lc:Nat) (LL:List Lj) (w:World),x.ly=LL.map Lj.y->IpOK x->lT ⟨fr,λi=>(D i).1⟩->(∀i,i<4->xU w (D i).1 (D i).2.1 (D i).2.2)->JRd w lo LL->
 Calls Tryz.prog fn #[aP (jU fr D) 0 297,aP (lY x.rd x.bad (.slice lo LL.length lc)) 0 14] w λe w'=>∃(D':Nat->Nd×Ad) (v:Value),e=.returned (.tuple #[aP (jU (frC x ⟨fr,λi=>(D i).1⟩).fr D') 0 297,v,.int .i64 (bU x ⟨fr,λi=>(D i).1⟩)])/\(∀i,i<4->(D' i).1=(frC x ⟨fr,λi=>(D i).1⟩).nd i)/\
  Cx w w' [fF w.heap.size 57 14 v (frR x ⟨fr,λi=>(D i).1⟩).length (kG gH 14 (frR x ⟨fr,λi=>(D i).1⟩)),lN w.heap.size D']
theorem vH:aNi 10:=by
 intro x fr D lo lc LL w hx hip hcl hag hj;have hxl:x.ly.length=LL.length:=by rw[hx,List.length_map]
 obtain⟨c,ec⟩:∃c,c=(⟨fr,λi=>(D i).1⟩:Cl):=⟨_,rfl⟩;rw[<-ec] at hcl ⊢;refine bB Tryz.func10 rfl 56 rfl Yd (λA hs hd hb=>?_);have b0:A.eval (.tmp 0)=aP (jU fr D) 0 297:=hb 0 _ rfl;have b1:A.eval (.tmp 1)=aP (lY x.rd x.bad (.slice lo LL.length lc)) 0 14:=hb 1 _ rfl;clear hb;have H:=Cx.start w;refine aD (aG ?_);refine lJ H ?_;intro w1 H z1;refine lJ H ?_;intro w2 H z2;refine kR H ?_;intro w3 H z3;iterate 2 refine qa ?_
 refine aC<|aH<|aD ?_;iterate 2 refine qa ?_
 have hck:=RB x fr D lo lc w3;rw[hxl, <-ec] at hck;refine gX hck ?_;rintro e w4 ⟨rfl,k4⟩;refine⟨_,rfl,?_⟩;replace H:=H.call k4;repeat first|refine qa ?_|refine aC ?_|refine aD ?_
 refine iB (λh=>?_) (λh=>?_)
 .have hE:bU x c≠0:=Xu h;refine aD<|qg (aBq rfl _) ?_;refine qa ?_;refine jB H.a0 bX (TS _ _ _ _) ?_;intro w5 H z5;repeat first|refine qa ?_|refine aC ?_
  have e1:frC x c=YO:=by unfold frC;rw[if_neg hE]
  have e2:frR x c=[]:=by unfold frR;rw[if_neg hE]
  refine aN (fC (aK YB (UY rfl Qv Qv Qv ManyK.out H.v0 (Xr _)) ⟨λ_=>(dW,(none,0)),_,by rw[e1];rfl,λi hi=>by rw[e1];rfl,?_⟩));rw[e2];exact ((H.tl.tl.tl.add (Below.refl _ _) (lN w.heap.size (λ_=>(dW,(none,0)))) (λ_ _=>World.ownsRow_nil _ _ _ _) (λj ⟨_,_,e⟩=>absurd e (λe=>nomatch e))).add (Below.refl _ _) (fF _ _ _ _ _ _) (World.ownsRow_nil _ _ _ _) (λj e=>nomatch e))
 have hE:bU x c=0:=by simpa using h
 obtain⟨hb,hf,hl4,hid0⟩:=O0 hE;have hl4:LL.length<=400:=Yo;refine aS<|aD ?_;iterate 2 refine qa ?_
 have hat:=VW x fr D lo lc w w4 _ hag (by have:=hcl.2;rw[ec] at this;exact this) H;rw[hxl] at hat;refine gX hat ?_;rintro e w5 ⟨b,D1,rfl,hD1,H⟩;refine⟨_,rfl,?_⟩;refine qa ?_;refine aC<|aH<|aD ?_;iterate 3 refine qa ?_
 refine qg (Eq.trans (aV _ _ rfl ManyK.out Qv H.v3 Yo) (by rw[lK (f:=qU x.rd) (λj hj=>by rw[show 0+0+j=j by omega];exact if_pos hj)])) ?_;refine gX (WW fr x.rd w w5 _ H) ?_;rintro e w6 ⟨fb,rb,pb,rfl,H⟩;refine⟨_,rfl,?_⟩;repeat first|refine qa ?_|refine aC ?_
 refine aM ?_;have hNd:∀(k:Nat) (D:Nat->Nd×Ad),(∀i,i<4->(D i).1=(nD x c k).nd i)->k<=5->(∀i,i<4->(D i).1.id=(i:Nat))/\∀i,i<4->NdOK (D i).1:=λk D hD hk=>⟨λi hi=>by rw[hD i hi];exact aGy hE hk hi,λi hi=>by rw[hD i hi];exact (F3 hip hcl k).1 i hi⟩
 have hBx:∀(k:Nat) (X:Nat->List Lm×Ad),(∀i,i<4->(X i).1.map Lm.m=(nD x c k).bx i)->∀i,i<4->(X i).1.length<=1600/\∀c,c∈(X i).1->MsOK c.m:=λk X hX i hi=>⟨by
  have h1:=congrArg List.length (hX i hi);rw[List.length_map] at h1;rw[h1];exact aKa Yo k i,aLe (hX i hi) ((F3 hip hcl k).2 i hi)⟩
 have ecf:c.fr=fr:=by rw[ec]
 refine cO (λr A W => ∃ (k : Nat) (D : Nat -> Nd × Ad) (X : Nat -> List Lm × Ad), k <= 5 /\ 5 - k <= r /\ A.tmps.size = 56 /\ A.defers = [] /\ A.eval (.tmp 4) = .pointer (some ⟨w2.heap.size, 0, none⟩) /\ A.eval (.tmp 8) = .pointer (some ⟨b, 0, none⟩) /\ A.eval (.tmp 26) = .slice (some ⟨pb, 0, none⟩) 5 5 /\ A.eval (.tmp 27) = .int .i64 ((5 : Nat) : Int) /\ A.eval (.tmp 28) = .int .i64 (k : Int) /\ (∀ i, i < 4 -> (D i).1 = (nD x c k).nd i) /\ (∀ i, i < 4 -> (X i).1.map Lm.m = (nD x c k).bx i) /\
   Cx w W [lN w.heap.size D,Y7 fb rb fr x.rd,bE 104 b 303 303 (iQ fr D x.bad (.slice lo LL.length lc) X),yG w.heap.size X,bE 96 pb 5 5 (pE fb rb),bE 46 w2.heap.size 297 297 (pR 0 (λ_=>dW) (λ_=>gN (none,0) 0))]) 5
  ⟨0,D1,λ_=>([],(none,0)),Xz _,Yo,YA,YB,Qv,Qv,Qv,Qv,Qv,λi hi=>(by rw[hD1 i hi,ec];rfl),λ_ _=>rfl,
   ((H.f6.tl.f5.tl.add (Below.refl _ _) (yG w.heap.size (λ_=>([],(none,0)))) (λ_ _=>OwnM.nil _ _) (λj ⟨_,_,e⟩=>absurd (zP (OwnM.nil w6 w6.heap.size) j e) (by rcases e with e|⟨_,e,_⟩<;>cases e))).b4.f1.f2.f3.b4.f3.f1.f2.b1).f4.b2⟩ (λr B W hI=>?_)
 clear b0 b1 hs hd H;obtain⟨k,D,X,hk,hr,hs,hd,b4,b8,b26,b27,b28,hD,hX,H⟩:=hI;refine aD (aG ?_);repeat first|refine qa ?_|refine aC ?_|refine aD ?_|refine aH ?_
 refine iB (λh=>?_) (λh=>?_)
 .have hin:k<5:=by have:=Xu h;omega
  refine aS<|aH (aM ?_);refine aD ?_;iterate 2 refine qa ?_
  refine qg (Eq.trans (aR _ _ rfl OneK.out Qv H.v4 Yo rfl) (by rw[show 0+k*1=k by omega])) ?_;repeat first|refine qa ?_|refine aC ?_|refine aJ ?_
  obtain⟨n1,n2⟩:=hNd k D hD hk;refine gX (aNt x fr k hin fb rb b D (.slice lo LL.length lc) X w W _ (by rw[<-ecf];exact hcl.1) hip.rd n1 n2 (hBx k X hX) H) ?_;rintro e w7 ⟨D',T,rfl,hD',hT,H⟩;refine⟨_,rfl,?_⟩;refine aLz (aFt x b fr D' lo lc LL X k T w w7 _ H.f4.f4 hx hj hl4 (λj hj hb=>?_)) ?_
  .rw[hT j hj,(U1 (k:=k) (x:=x) (fr:=fr) (s':=nD x c k) (i:=j) (hD j hj) (hX j hj)).2, <-ecf];exact aMH hip hcl hj hb
  .rintro e w8 ⟨rfl,X',hX',H⟩;refine⟨_,rfl,?_⟩;refine fG<|aJ ?_;repeat refine qa ?_
   refine bD ⟨5-(k+1),Yo,k+1,D',X',Yo,Yo,YA,YB,Qv,Qv,Qv,Qv,Eq.trans Qv YC,λi hi=>?_,λi hi=>?_,H.f2.tl.f2.f3.f1⟩
   .rw[hD' i hi,(U1 (k:=k) (x:=x) (fr:=fr) (s':=nD x c k) (i:=i) (hD i hi) (hX i hi)).1];show _=KG x c.fr (nD x c k) k i
    rw[ecf]
   .rw[hX' i hi];show _=oJ x (AC x c.fr (nD x c k) k) i k 4
    refine J8 λj hj=>?_
    rw[hT j hj,(U1 (k:=k) (x:=x) (fr:=fr) (s':=nD x c k) (i:=j) (hD j hj) (hX j hj)).2,ecf]
 .obtain rfl:k=5:=by have:=Xg h;omega
  obtain⟨n1,n2⟩:=hNd 5 D hD (Xr _);refine bY (eY ?_);refine aD<|qa ?_;refine kX (WC b fr D x.bad (.slice lo LL.length lc) X w W _ n1 n2 (hBx 5 X hX) H.f1.tl) ?_;rintro e w7 ⟨D',v,rfl,hD',H⟩;refine⟨_,rfl,?_⟩;repeat first|refine qa ?_|refine aC ?_|refine aD ?_
  refine tY H.a2 (aMi fr (fr+1) D' x.bad (.slice lo LL.length lc) X) ?_;intro w8 H z8;refine aC<|aD ?_;iterate 3 refine qa ?_
  refine qg (Eq.trans (aV _ _ rfl ManyK.out Qv H.v2 Yo) (by rw[lK (ZH _ _ _ _ _)])) ?_;refine qa ?_;refine jB H.a5 bX (nX _ _) ?_;intro w9 H z9;repeat first|refine qa ?_|refine aC ?_
  have e1:frC x c=⟨fr+1,gG x c⟩:=by unfold frC;rw[if_pos hE,ecf]
  have e2:=aKi hE hD hX;rw[e2] at H;refine aN (aK YB (UY rfl Qv Qv Qv ManyK.out H.v5 (Xr _)) ⟨D',v,by rw[e1,hE],λi hi=>?_,H.sub (List.Sublist.cons_cons _ (List.Sublist.cons_cons _ (List.nil_sublist _)))⟩);rw[e1,hD' i hi];show JC _ _ _ _ _=gG x c i
  unfold JC gG;by_cases g:(i:Int)=x.bad
  .rw[if_pos g,if_pos g,hD i hi,IL g]
  .rw[if_neg g,if_neg g,hD i hi,hX i hi]
theorem M9(w:World):(callFunc 66 #[]).run Tryz.prog w=.ok (.enter 66 #[]) w:=Yh
theorem M0(x:Value)(w:World):(callFunc 67 #[x]).run Tryz.prog w=.ok (.enter 67 #[x]) w:=Yh
theorem Y9(w:World):Calls Tryz.prog 67 #[.int .i64 0] w λe w'=>e=.returned (aP (dK St.beg0) 0 7)/\Below w.heap.size w w':=by
 go_enter Tryz.func67,Tryz.ntmps67
 go_wp2_with fail
 refine bodyPost_ret (v:=aP (dK St.beg0) 0 7) (by simp[results,Tryz.results67,go_sem];rfl) rfl ⟨rfl,?_⟩;exact (Below.refl _ _).alloc (Xr _) _
theorem OL:aNc 30:=by
 intro id t w _ _;refine bB Tryz.func30 rfl 25 rfl Yd (λA hs hd hb=>?_);have b0:A.eval (.tmp 0)=.int .i64 id:=hb 0 _ rfl;have b1:A.eval (.tmp 1)=aP (kW t) 0 4:=hb 1 _ rfl;clear hb;refine aD (aG ?_);refine Zb (λw1 m1 k1 z1=>?_);refine Za nT (λw2 m2 k2 z2=>?_);have mt2:=m1.below k2;refine Yx ?_;refine aC<|aH<|aD<|Yx ?_;refine bJ rfl Yw (λK hK=>aX _ 65 _ _ rfl Yf (fO _ _) (iL id _) ?_);rintro e w3 ⟨rfl,k3⟩;have n3:=k3.size;have mt3:=mt2.below k3;have mr3:=m2.below k3;refine⟨_,rfl,hK _ _ ?_⟩;refine Yx ?_;refine aC<|oO (t:=jV id) ((Ye rfl).trans (by rw[Bool.not_not])) (λhno=>?_) (λhno=>?_)
 .have e1:jH id t=dW:=by unfold jH;rw[hno];rfl
  have e2:MB id=3:=by unfold MB;rw[hno];rfl
  refine aD<|Yq (aBs rfl _) ?_;refine Zs bG mr3 (dA _ _ _ _) (λw4 mm4 k4 z4=>?_);have mr4:=Vh.congr mm4 (dX _ _);have mt4:=mt3.kept k4 Yo;refine Yx ?_;refine aC<|aN ?_;simp only[Nx,Exit.then];rw[e1,e2];refine aK YB (nO rfl Yf Yf bG mr4 (Xr _)) ⟨none,0,rfl,World.ownsRow_nil _ _ _ _,aF ((k1.trans (k2.mono Yo)).trans (k3.mono Yo)) k4 Yo Yo⟩
 .have e1:jH id t=IQ id t (λ_=>St.beg0):=by unfold jH;rw[hno];rfl
  have e2:MB id=0:=by unfold MB;rw[hno];rfl
  refine aS<|aH ?_;have hS0:(λW=>Vh 27 W w.heap.size 4 4 (kW t)) w3.drew:=mt3;have mr0:Vh _ w3.drew _ _ _ _:=mr3;have ez:w3.drew.heap.size=w3.heap.size:=rfl;have kA:Below w.heap.size w w3.drew:=aY ((k1.trans (k2.mono Yo)).trans (k3.mono Yo));refine eU (S:=λW=>Vh 27 W w.heap.size 4 4 (kW t)) (.mv 0 (.rd 1 (.two 2 4 (.mv 3 (.go 4 (.go 5 .fin))) (.go 2 (.mv 3 (.go 5 .fin)))))) [] Yl Yl ?_;refine Yj ?_;refine Yr rfl hS0 (λ_ hS=>cZ _ _ rfl aAI Yf hS Yo (λj _=>by rw[Nat.zero_add])) ?_;refine LM ?_ ?_
  .refine bR rfl rfl Yw (λK hK=>BU _ 66 _ rfl (M9 _) (yP _) ?_);rintro e w4 ⟨rfl,k4⟩;have n4:=k4.size;have mt4:=hS0.below k4;have mr4:=mr0.below k4;refine⟨_,rfl,hK _ _ (λ_ _=>mt4) ?_⟩;refine Yk rfl (λ_=>PS _ _ _ rfl (id:=id) (t:=t) (r:=beginR) Yf Yf Yf _) ?_;refine bR rfl rfl Yw (λK hK=>?_);refine gQ _ _ rfl nT Yd ?_;intro w5 m5 k5 z5;have mt5:=mt4.below k5;have mr5:=mr4.below k5;refine hK _ _ (λ_ _=>mt5) ?_;clear hK K;refine dS rfl Yw (λK hK=>?_);refine aW _ _ _ _ rfl bG Yf Yf m5 Yc (dA _ _ _ _) rfl ?_;intro w6 mm6 k6 z6;have mp6:=Vh.congr mm6 (dX _ _);have mt6:=mt5.kept k6 Yo;have mr6:=mr5.kept k6 Yo;refine hK _ (λ_ _=>mt6) ?_;clear hK K;refine fI<|aH<|aD<|Yx ?_;refine aC<|aM<|cO (λr a W=>∃x:Nat,x<=3/\3-x<=r/\a.tmps.size=25/\a.defers=[]/\a.eval (.tmp 4)=.pointer (some ⟨w1.heap.size,0,none⟩)/\a.eval (.tmp 6)=.pointer (some ⟨w4.heap.size,0,none⟩)/\a.eval (.tmp 16)=.int .i64 (x:Int)/\Vh 43 W w1.heap.size 74 74 (ndF dW (.slice none 0 0))/\Vh 43 W (w4.heap.size) 74 74 (ndF (IQ id t (J7 x)) (.slice none 0 0))/\Below w.heap.size w W/\w6.heap.size<=W.heap.size) 3 ⟨0,Yo,Yo,YA,YB,Yf,Yf,Yf,mr6,by rw[MG];exact mp6,aF ((kA.trans (k4.mono Yo)).trans (k5.mono Yo)) k6 Yo Yo,Yo⟩ (λr B W hI=>?_);clear b0 b1 hs hd;obtain⟨x,hx,hr2,hs,hd,b4,b6,b16,mr,mp,kB,hW⟩:=hI;by_cases hin:x<3
   .refine aD (aG ?_);refine Yx ?_;refine aC<|aH (aT Yf (aS ?_));refine aH (aM ?_);refine aD ?_;iterate 2 refine Yx ?_
    refine aC<|aJ<|Yx ?_;refine bJ rfl Yw (λK hK=>aX _ 67 _ _ rfl (aI _ _) (M0 _ _) (Y9 _) ?_);rintro e w11 ⟨rfl,k11⟩;have n11:=k11.size;have mr11:=mr.below k11;have mp11:=mp.below k11;refine⟨_,rfl,hK _ _ ?_⟩;refine Yx ?_;refine Yq (bQ _ _ _ _ rfl Tryz.underlying32 jJ.size Yf Yf rfl hin _) ?_;refine Zs jJ mp11 (dU _) (λw12 mm12 k12 z12=>?_);have mp12:Vh 43 w12 (w4.heap.size) 74 74 (ndF (IQ id t (J7 (x+1))) (.slice none 0 0)):=by rw[<-MF];exact Vh.congr mm12 (BO _ _ _ x hin)
    have mr12:=mr11.kept k12 Yo;refine fG<|aJ ?_;iterate 2 refine Yx ?_
    exact bD ⟨3-(x+1),Yo,x+1,Yo,Yo,YA,YB,Yb,Yb,(Ye rfl).trans YC,mr12,mp12,aF (kB.trans (k11.mono Yo)) k12 Yo Yo,Yo⟩
   .refine aD (aG ?_);refine Yx ?_;obtain rfl:x=3:=Yo;rw[MH] at mp;refine aC<|aH (aQ Yf (bY (eY ?_)));refine aD<|Yx ?_;refine Zs bG mr (dA _ _ _ _) (λw11 mm11 k11 z11=>?_);have mr11:=Vh.congr mm11 (dX _ _);have mp11:=mp.kept k11 Yo;refine Yx ?_;refine aC<|aN ?_;rw[e1,e2];refine aK YB (nO rfl Yb Yf bG mr11 (Xr _)) ⟨none,0,rfl,World.ownsRow_nil _ _ _ _,aF kB k11 Yo Yo⟩
  .refine bR rfl rfl Yw (λK hK=>?_);refine gQ _ _ rfl nT Yd ?_;intro w4 m4 k4 z4;have mt4:=hS0.below k4;have mr4:=mr0.below k4;refine hK _ _ (λ_ _=>mt4) ?_;clear hK K;refine bR rfl rfl Yw (λK hK=>BU _ 66 _ rfl (M9 _) (yP _) ?_);rintro e w5 ⟨rfl,k5⟩;have n5:=k5.size;have mt5:=mt4.below k5;have mr5:=mr4.below k5;have mp5:=m4.below k5;refine⟨_,rfl,hK _ _ (λ_ _=>mt5) ?_⟩;refine Yk rfl (λ_=>PS _ _ _ rfl (id:=id) (t:=t) (r:=beginR) Yf Yf Yf _) ?_;refine dS rfl Yw (λK hK=>?_);refine aW _ _ _ _ rfl bG Yf Yf mp5 Yc (dA _ _ _ _) rfl ?_;intro w6 mm6 k6 z6;have mp6:=Vh.congr mm6 (dX _ _);have mt6:=mt5.kept k6 Yo;have mr6:=mr5.kept k6 Yo;refine hK _ (λ_ _=>mt6) ?_;clear hK K;refine fI<|aH<|aD<|Yx ?_;refine aC<|aM<|cO (λr a W=>∃x:Nat,x<=3/\3-x<=r/\a.tmps.size=25/\a.defers=[]/\a.eval (.tmp 4)=.pointer (some ⟨w1.heap.size,0,none⟩)/\a.eval (.tmp 6)=.pointer (some ⟨w3.drew.heap.size,0,none⟩)/\a.eval (.tmp 16)=.int .i64 (x:Int)/\Vh 43 W w1.heap.size 74 74 (ndF dW (.slice none 0 0))/\Vh 43 W (w3.drew.heap.size) 74 74 (ndF (IQ id t (J7 x)) (.slice none 0 0))/\Below w.heap.size w W/\w6.heap.size<=W.heap.size) 3 ⟨0,Yo,Yo,YA,YB,Yf,Yf,Yf,mr6,by rw[MG];exact mp6,aF ((kA.trans (k4.mono Yo)).trans (k5.mono Yo)) k6 Yo Yo,Yo⟩ (λr B W hI=>?_);clear b0 b1 hs hd;obtain⟨x,hx,hr2,hs,hd,b4,b6,b16,mr,mp,kB,hW⟩:=hI;by_cases hin:x<3
   .refine aD (aG ?_);refine Yx ?_;refine aC<|aH (aT Yf (aS ?_));refine aH (aM ?_);refine aD ?_;iterate 2 refine Yx ?_
    refine aC<|aJ<|Yx ?_;refine bJ rfl Yw (λK hK=>aX _ 67 _ _ rfl (aI _ _) (M0 _ _) (Y9 _) ?_);rintro e w11 ⟨rfl,k11⟩;have n11:=k11.size;have mr11:=mr.below k11;have mp11:=mp.below k11;refine⟨_,rfl,hK _ _ ?_⟩;refine Yx ?_;refine Yq (bQ _ _ _ _ rfl Tryz.underlying32 jJ.size Yf Yf rfl hin _) ?_;refine Zs jJ mp11 (dU _) (λw12 mm12 k12 z12=>?_);have mp12:Vh 43 w12 (w3.drew.heap.size) 74 74 (ndF (IQ id t (J7 (x+1))) (.slice none 0 0)):=by rw[<-MF];exact Vh.congr mm12 (BO _ _ _ x hin)
    have mr12:=mr11.kept k12 Yo;refine fG<|aJ ?_;iterate 2 refine Yx ?_
    exact bD ⟨3-(x+1),Yo,x+1,Yo,Yo,YA,YB,Yb,Yb,(Ye rfl).trans YC,mr12,mp12,aF (kB.trans (k11.mono Yo)) k12 Yo Yo,Yo⟩
   .refine aD (aG ?_);refine Yx ?_;obtain rfl:x=3:=Yo;rw[MH] at mp;refine aC<|aH (aQ Yf (bY (eY ?_)));refine aD<|Yx ?_;refine Zs bG mr (dA _ _ _ _) (λw11 mm11 k11 z11=>?_);have mr11:=Vh.congr mm11 (dX _ _);have mp11:=mp.kept k11 Yo;refine Yx ?_;refine aC<|aN ?_;rw[e1,e2];refine aK YB (nO rfl Yb Yf bG mr11 (Xr _)) ⟨none,0,rfl,World.ownsRow_nil _ _ _ _,aF kB k11 Yo Yo⟩
def BgC(fn:Nat):Prop:=∀(t:Tn) (w:World),t.Ok->Calls Tryz.prog fn #[aP (kW t) 0 4] w λe w'=>∃D:Nat->Nd×Ad,e=.returned (aP (jU 0 D) 0 297)/\(∀i,i<4->(D i).1=jH (i:Nat) t)/\Cx w w' [lN w.heap.size D]
theorem uI:BgC 8:=by
 intro t w ht;refine bB Tryz.func8 rfl 19 rfl Yd (λA hs hd hb=>?_);have b0:A.eval (.tmp 0)=aP (kW t) 0 4:=hb 0 _ rfl;clear hb;have H:=Cx.start w;refine aD (aG ?_);refine lJ H ?_;intro w1 H z1;refine kR H ?_;intro w2 H z2;refine aC<|aD<|kR H ?_;intro w3 H z3;refine aC<|aH<|aD ?_;repeat first|refine qa ?_|refine aC ?_
 refine aM ?_;refine cO (λr A W => ∃ (i : Nat) (D : Nat -> Nd × Ad), i <= 4 /\ 4 - i <= r /\ A.tmps.size = 19 /\ A.defers = [] /\ A.eval (.tmp 1) = .pointer (some ⟨w.heap.size, 0, none⟩) /\ A.eval (.tmp 2) = .pointer (some ⟨w1.heap.size, 0, none⟩) /\ A.eval (.tmp 3) = .pointer (some ⟨w2.heap.size, 0, none⟩) /\ A.eval (.tmp 5) = .int .i64 (i : Int) /\ (∀ j, j < i -> (D j).1 = jH (j : Nat) t) /\
   Cx w W [lN w.heap.size D,bE 46 w2.heap.size 297 297 (jU 0 D),bE 46 w1.heap.size 297 297 (pR 0 (λ_=>dW) (λ_=>gN (none,0) 0)),bE 27 w.heap.size 4 4 (kW t)]) 4
  ⟨0,λ_=>(dW,(none,0)),Xz _,Yo,YA,YB,Qv,Qv,Qv,Qv,λj h=>absurd h (Nat.not_lt_zero j),H.add (Below.refl _ _) (lN w.heap.size (λ_=>(dW,(none,0)))) (λ_ _=>World.ownsRow_nil _ _ _ _) (λj ⟨_,_,e⟩=>absurd e (λe=>nomatch e))⟩ (λr B W hI=>?_)
 clear b0 hs hd H;obtain⟨i,D,hi,hr,hs,hd,b1,b2,b3,b5,hD,H⟩:=hI;refine aD (aG ?_);repeat first|refine qa ?_|refine aC ?_|refine aD ?_|refine aH ?_
 refine iB (λh=>?_) (λh=>?_)
 .have hin:i<4:=by have:=Xu h;omega
  refine aS<|aH (aM ?_);refine aD ?_;repeat first|refine qa ?_|refine aC ?_|refine aJ ?_
  have hsz:=H.size;refine gX (OL (i:Int) t W (by unfold R64;omega) ht) ?_;rintro e w4 ⟨a',c',rfl,g1,k4⟩;refine⟨_,rfl,?_⟩;replace H:=H.add k4 (I9 w.heap.size (jH (i:Nat) t,(a',c'))) (dJ g1 hsz) (λj e=>(g1.lt j e).1);iterate 5 refine qa ?_
  refine jB H.a2 (λj hj=>Eq.trans (by rw[show 0+1+i*74=1+i*74 by omega];rfl) (aGT 0 D i (jH (i:Nat) t,(a',c')) j hj)) (dA _ _ _ _) ?_;intro w5 H z5;refine fG<|aJ ?_;repeat refine qa ?_
  exact bD ⟨4-(i+1),Yo,i+1,_,Yo,Yo,YA,YB,Qv,Qv,Qv,Eq.trans Qv YC,λj hj=>(by
   by_cases e:j=i
   .rw[e,bZ]
   .rw[dD _ _ e];exact hD j Yo),vG (g:=I9 w.heap.size) i H⟩
 .obtain rfl:i=4:=by have:=Xg h;omega
  refine bY (eY ?_);refine aD<|qa ?_;refine jB H.a2 bX (nX _ _) ?_;intro w5 H z5;refine aC ?_;exact aN (aK YB (qV rfl Qv ManyK.out H.v2 (Xr _)) ⟨D,rfl,hD,H.sub (List.Sublist.cons_cons _ (List.nil_sublist _))⟩)
structure Li where
 rd:Nat->Nat->Int
 bad:Int
 LL:List Lj
 lo:Option Addr
 lc:Nat
def Li.x(c:Li):Ip:=⟨c.rd,c.bad,c.LL.map Lj.y⟩
def tQ(c:Li):Nat->Value:=lY c.rd c.bad (.slice c.lo c.LL.length c.lc)
structure LiOK (w:World) (c:Li):Prop where
 ip:IpOK c.x
 jr:JRd w c.lo c.LL
 lc:c.LL.length<=c.lc
theorem LiOK.below{w':World}{c:Li}(h:LiOK w c)(k:Below w.heap.size w w'):LiOK w' c:=⟨h.ip,h.jr.below k,h.lc⟩
def RdS{α:Type}(F:α->Nat->Value)(s:Nat)(w:World)(ao:Option Addr)(L:List α):Prop:=0<L.length->∃b o,ao=some ⟨b,o,none⟩/\∀i c,L[i]?=some c->∀k,k<s->w.cell? ⟨b,o+i*s+k,none⟩=some (F c k)
variable{ao:Option Addr}{s:Nat}{α:Type}
theorem RdS.below{F:α->Nat->Value}{w':World}{L:List α}(h:RdS F s w ao L)(k:Below w.heap.size w w'):RdS F s w' ao L:=λhl=>by
 obtain⟨b,o,e,hc⟩:=h hl;exact⟨b,o,e,λi c hi j hj=>aU (hc i c hi j hj) k⟩
theorem GV{F:α->Nat->Value}{e:TypeId}{B n cap:Nat}{L:List α}(h:w.ownsRow B e s (.slice ao n cap) n (kG F s L))(hs:0<s):RdS F s w ao L:=λhl=>by
 obtain⟨g,c,e,_,hc⟩:=aBZ h hl hs
 cases e
 exact⟨g,0,rfl,hc⟩
def aLr(bad:Int)(c:Li):Li:=⟨c.rd,bad,c.LL.take 400,c.lo,c.lc⟩
def aNw(bad:Int)(L:List Li)(i:Nat):List Li:=(L.take i).map (aLr bad)
end Go.Proofs.YthimcecbgpamdaaGreatDoor
