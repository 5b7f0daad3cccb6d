import Derived.Test.YthimcecbgpamdaaGreatNodPr10
set_option maxHeartbeats 2000000
namespace Go.Proofs.YthimcecbgpamdaaGreat
open Go.RowKit
section
variable{x:Ip}
theorem BQ{t u:Nat->Ms}{wo ph:Nat}:∀{k:Nat},(∀j,j<k->t j=u j)->lY x t wo ph k=lY x u wo ph k
 |0,_=>rfl
 |k+1,h=>by
  show lY x t wo ph k++_=lY x u wo ph k++_
  rw[BQ (λj hj=>h j Yo),h k Yo]
theorem aOb(x:Ip)(fr:Int)(k:Nat)(hk:k<5)(fb rb b:Nat)(D:Nat->Nd×Ad)(lv:Value)(X:Nat->List Lm×Ad)(w0 w:World)(l:List It)(hfr:R64 fr)(hrd:∀s a,R64 (x.rd s a))(hid:∀i,i<4->(D i).1.id=(i:Nat))(hok:∀i,i<4->NdOK (D i).1)(hX:∀i,i<4->(X i).1.length<=1600/\∀c,c∈(X i).1->MsOK c.m)(H:Cx w0 w (jU w0.heap.size D::FM fb rb fr x.rd::vhI 74 b 303 303 (kH fr D x.bad lv X)::zU w0.heap.size X::l)):Calls Tryz.prog 18 #[.pointer (some ⟨b,0,none⟩),rO fb rb k] w λe w'=>∃(D':Nat->Nd×Ad) (T:Nat->Ms×Ad),e=.returned (aP (yU T) 0 16)/\(∀i,i<4->(D' i).1=wK x fr ⟨λi=>(D i).1,λi=>(X i).1.map Lm.m⟩ k i)/\(∀i,i<4->(T i).1=uO x fr ⟨λi=>(D i).1,λi=>(X i).1.map Lm.m⟩ k i)/\Cx w0 w' (OJ w0.heap.size T::jU w0.heap.size D'::FM fb rb fr x.rd::vhI 74 b 303 303 (kH fr D' x.bad lv X)::zU w0.heap.size X::l):=by
 have pure : ∀ (fn : Nat) [EntK Tryz.prog fn] (N : Nd -> List Ms -> Nd) (M : Nd -> List Ms -> Ms), xU N M fn -> Calls Tryz.prog 18 #[.pointer (some ⟨b, 0, none⟩), .func (.func fn) #[] #[]] w λe w' => ∃ (D' : Nat -> Nd × Ad) (T : Nat -> Ms × Ad), e = .returned (aP (yU T) 0 16) /\ (∀ i, i < 4 -> (D' i).1 = OZ x.bad (λ_ => N) D X i) /\ (∀ i, i < 4 -> (T i).1 = doM x.bad (λ_ => M) D X i) /\
   Cx w0 w' (OJ w0.heap.size T::jU w0.heap.size D'::FM fb rb fr x.rd::vhI 74 b 303 303 (kH fr D' x.bad lv X)::zU w0.heap.size X::l):=λfn _ N M h=>by
  refine (SI b fr D x.bad lv X fn #[] (λ_=>N) (λ_=>M) (λ_ y=>y=emI) w0 w emI (FM fb rb fr x.rd::l) (aHI h) rfl (λ_ _ _ h=>h) hid hok hX ((H.f1.b3.add (Below.refl _ _) emI trivial (λ_ e=>e.elim)).f1)).mono ?_;rintro e w' ⟨D',T,y',rfl,rfl,hD,hT,H⟩;exact⟨D',T,rfl,hD,hT,H.f2.tl.f4.b2⟩
 have:k=0\/k=1\/k=2\/k=3\/k=4:=Yo;rcases this with rfl|rfl|rfl|rfl|rfl
 .refine (SI b fr D x.bad lv X 32 #[.pointer (some ⟨fb,0,none⟩),.pointer (some ⟨rb,0,none⟩)] (λi n _=>senN n fr (x.rd i)) (λi n _=>lF n fr (x.rd i)) (λ_ y=>y=FM fb rb fr x.rd) w0 w (FM fb rb fr x.rd) l (aEN w0 x.bad fb rb fr x.rd hfr hrd _ _) rfl (λ_ _ _ h=>h) hid hok hX H).mono ?_;rintro e w' ⟨D',T,y',rfl,rfl,hD,hT,H⟩;exact⟨D',T,rfl,hD,hT,H⟩
 .exact pure 34 relN uF QY
 .exact pure 35 rG uG PT
 .exact pure 36 pasN uM YX
 .exact pure 37 judN rE TU
variable{c:Cl}{i:Nat}
theorem zP(h:(i:Int)=x.bad):∀k,(gV x c k).nd i=c.nd i
 |0=>rfl
 |k+1=>by
  show (if (i:Int)=x.bad then _ else _)=_
  rw[if_pos h];exact zP h k
variable{k:Nat}
theorem Y8{fr:Int}{s s':Wk}(h1:s.nd i=s'.nd i)(h2:s.bx i=s'.bx i):wK x fr s k i=wK x fr s' k i/\uO x fr s k i=uO x fr s' k i:=by
 unfold wK uO;rw[h1,h2];exact⟨rfl,rfl⟩
theorem aCw(fr:Int)(D:Nat->Nd×Ad)(bad:Int)(lv:Value)(X:Nat->List Lm×Ad):∀j,j<297->kH fr D bad lv X (0+0+j)=gJ fr D j:=λj hj=>by
 rw[show 0+0+j=j by omega];exact zY hj
theorem aNn(fr fr':Int)(D:Nat->Nd×Ad)(bad:Int)(lv:Value)(X:Nat->List Lm×Ad):∀j,j<303->stW (kH fr D bad lv X) (0+0+0) (.int .i64 fr') j=kH fr' D bad lv X j:=λj hj=>by
 by_cases e:j=0
 .subst e;rfl
 .rw[iA _ _ Yo];unfold kH xL;by_cases c:j<297
  .rw[if_pos c,if_pos c];unfold nO;rw[if_neg e,if_neg e]
  .rw[if_neg c,if_neg c]
variable{w:World}
theorem nA{P:Program}{a:Act}{fn:Func}{p p' p2:Nat}{ty:TypeId}{b n N cap:Nat}{t:TypeId}{g:Nat->Value}{u v:Value}(h:fn.results=#[.cell p ty,.tmp p',.tmp p2])(hv:a.eval (.tmp p)=.pointer (some ⟨b,0,none⟩))(hv':a.eval (.tmp p')=u)(hv2:a.eval (.tmp p2)=v)(T:Many P ty n)(hm:Vh t w b N cap g)(hn:n<=N):(results fn a.tmps).run P w=.ok (.tuple #[aP g 0 n,u,v]) w:=by
 have e:=lJ hv;have e2:=lJ hv';have e3:=lJ hv2;simp only[Array.getD_eq_getD_getElem?] at e e2 e3;simp[results,h,e,e2,e3,asAddr,qJ T hm hn]
theorem IW{L:List Lm}{l:List Ms}(e:L.map Lm.m=l)(h:∀m,m∈l->MsOK m):∀c,c∈L->MsOK c.m:=λc hc=>h _ (by rw[<-e];exact List.mem_map_of_mem hc)
theorem aIe(hE:gK x c=0)(hk:k<=5)(hi:i<4):((gV x c k).nd i).id=(i:Nat):=by
 by_cases g:(i:Int)=x.bad
 .rw[zP g];exact WE hE hi
 .have:k=0\/k=1\/k=2\/k=3\/k=4\/k=5:=Yo;rcases this with rfl|rfl|rfl|rfl|rfl|rfl
  .exact WE hE hi
  .exact id1 hE hi g
  .exact id2 hE hi g
  .exact id3 hE hi g
  .exact id4 hE hi g
  .exact id5 hE hi g
theorem aBb(hx:IpOK x)(hc:rA c){j:Nat}(hj:j<4)(g:(j:Int)≠x.bad):MsOK (uO x c.fr (gV x c k) k j):=by
 have h:MsOK (mgK x c k j):=by
  rw[UB g];exact aEr k ((uA hx hc k).1 j hj) (MsOK.R' ((uA hx hc k).2 j hj)) hc.1 (hx.rd j)
 exact h
theorem VA(h:x.ly.length<=400)(k i:Nat):((gV x c k).bx i).length<=1600:=by
 cases k with
 |zero=>exact Xz _
 |succ k=>exact DF h _ _ _ 4
theorem aDm(hE:gK x c=0){Dn:Nat->Nd}{Bn:Nat->List Ms}(h1:∀i,i<4->Dn i=(gV x c 5).nd i)(h2:∀i,i<4->Bn i=(gV x c 5).bx i):mO x.bad Dn Bn 4=nI x c:=by
 unfold mO nI;rw[if_pos hE];refine List.map_congr_left λi hi=>?_
 unfold KR at hi;obtain⟨h3,h4⟩:=List.mem_filter.1 hi;have h3:=List.mem_range.1 h3;have h4:(i:Int)≠x.bad:=Xu h4;unfold wG;rw[if_neg h4,h1 i h3,h2 i h3]
def aMs(fn:Nat):Prop:=∀(x:Ip) (fr:Int) (D:Nat->Nd×Ad) (lo:Option Addr) (lc:Nat) (LL:List Lj) (w:World),x.ly=LL.map Lj.y->IpOK x->rA ⟨fr,λi=>(D i).1⟩->(∀i,i<4->sD w (D i).1 (D i).2.1 (D i).2.2)->JRd w lo LL->
 Calls Tryz.prog fn #[aP (gJ fr D) 0 297,aP (nP x.rd x.bad (.slice lo LL.length lc)) 0 14] w λe w'=>∃(D':Nat->Nd×Ad) (v:Value),e=.returned (.tuple #[aP (gJ (lZ x ⟨fr,λi=>(D i).1⟩).fr D') 0 297,v,.int .i64 (gK x ⟨fr,λi=>(D i).1⟩)])/\(∀i,i<4->(D' i).1=(lZ x ⟨fr,λi=>(D i).1⟩).nd i)/\
  Cx w w' [dZ w.heap.size 86 14 v (nI x ⟨fr,λi=>(D i).1⟩).length (jR jJ 14 (nI x ⟨fr,λi=>(D i).1⟩)),jU w.heap.size D']
theorem aGR:aMs 5:=by
 intro x fr D lo lc LL w hx hip hcl hag hj;have hxl:x.ly.length=LL.length:=by rw[hx,List.length_map]
 obtain⟨c,ec⟩:∃c,c=(⟨fr,λi=>(D i).1⟩:Cl):=⟨_,rfl⟩;rw[<-ec] at hcl ⊢;refine bO Tryz.func5 rfl 56 rfl Yd (λA hs hd hb=>?_);have b0:A.eval (.tmp 0)=aP (gJ fr D) 0 297:=hb 0 _ rfl;have b1:A.eval (.tmp 1)=aP (nP x.rd x.bad (.slice lo LL.length lc)) 0 14:=hb 1 _ rfl;clear hb;have H:=Cx.start w;refine aD (aG ?_);refine iG H ?_;intro w1 H z1;refine iG H ?_;intro w2 H z2;refine fU H ?_;intro w3 H z3;iterate 2 refine qa ?_
 refine aC<|aH<|aD ?_;iterate 2 refine qa ?_
 have hck:=ZF x fr D lo lc w3;rw[hxl, <-ec] at hck;refine xQ hck ?_;rintro e w4 ⟨rfl,k4⟩;refine⟨_,rfl,?_⟩;replace H:=H.call k4;repeat first|refine qa ?_|refine aC ?_|refine aD ?_
 refine dY (λh=>?_) (λh=>?_)
 .have hE:gK x c≠0:=Xu h;refine aD<|qg (oC rfl _) ?_;refine qa ?_;refine eO H.a0 aT (qV _ _ _ _) ?_;intro w5 H z5;repeat first|refine qa ?_|refine aC ?_
  have e1:lZ x c=qW:=by unfold lZ;rw[if_neg hE]
  have e2:nI x c=[]:=by unfold nI;rw[if_neg hE]
  refine aW (jK (aN YB (nA rfl Qv Qv Qv ManyK.out H.v0 (Xr _)) ⟨λ_=>(bX,(none,0)),_,by rw[e1];rfl,λi hi=>by rw[e1];rfl,?_⟩));rw[e2];exact ((H.tl.tl.tl.add (Below.refl _ _) (jU w.heap.size (λ_=>(bX,(none,0)))) (λ_ _=>World.ownsRow_nil _ _ _ _) (λj ⟨_,_,e⟩=>absurd e (λe=>nomatch e))).add (Below.refl _ _) (dZ _ _ _ _ _ _) (World.ownsRow_nil _ _ _ _) (λj e=>nomatch e))
 have hE:gK x c=0:=by simpa using h
 obtain⟨hb,hf,hl4,hid0⟩:=JY hE;have hl4:LL.length<=400:=Yo;refine aS<|aD ?_;iterate 2 refine qa ?_
 have hat:=aBh x fr D lo lc w w4 _ hag (by have:=hcl.2;rw[ec] at this;exact this) H;rw[hxl] at hat;refine xQ hat ?_;rintro e w5 ⟨b,D1,rfl,hD1,H⟩;refine⟨_,rfl,?_⟩;refine qa ?_;refine aC<|aH<|aD ?_;iterate 3 refine qa ?_
 refine qg (Eq.trans (aX _ _ rfl ManyK.out Qv H.v3 Yo) (by rw[jY (f:=Y7 x.rd) (λj hj=>by rw[show 0+0+j=j by omega];exact if_pos hj)])) ?_;refine xQ (aBA fr x.rd w w5 _ H) ?_;rintro e w6 ⟨fb,rb,pb,rfl,H⟩;refine⟨_,rfl,?_⟩;repeat first|refine qa ?_|refine aC ?_
 refine aK ?_;have hNd:∀(k:Nat) (D:Nat->Nd×Ad),(∀i,i<4->(D i).1=(gV x c k).nd i)->k<=5->(∀i,i<4->(D i).1.id=(i:Nat))/\∀i,i<4->NdOK (D i).1:=λk D hD hk=>⟨λi hi=>by rw[hD i hi];exact aIe hE hk hi,λi hi=>by rw[hD i hi];exact (uA hip hcl k).1 i hi⟩
 have hBx:∀(k:Nat) (X:Nat->List Lm×Ad),(∀i,i<4->(X i).1.map Lm.m=(gV x c k).bx i)->∀i,i<4->(X i).1.length<=1600/\∀c,c∈(X i).1->MsOK c.m:=λk X hX i hi=>⟨by
  have h1:=congrArg List.length (hX i hi);rw[List.length_map] at h1;rw[h1];exact VA Yo k i,IW (hX i hi) ((uA hip hcl k).2 i hi)⟩
 have ecf:c.fr=fr:=by rw[ec]
 refine bW (λr A W => ∃ (k : Nat) (D : Nat -> Nd × Ad) (X : Nat -> List Lm × Ad), k <= 5 /\ 5 - k <= r /\ A.tmps.size = 56 /\ A.defers = [] /\ A.eval (.tmp 4) = .pointer (some ⟨w2.heap.size, 0, none⟩) /\ A.eval (.tmp 8) = .pointer (some ⟨b, 0, none⟩) /\ A.eval (.tmp 26) = .slice (some ⟨pb, 0, none⟩) 5 5 /\ A.eval (.tmp 27) = .int .i64 ((5 : Nat) : Int) /\ A.eval (.tmp 28) = .int .i64 (k : Int) /\ (∀ i, i < 4 -> (D i).1 = (gV x c k).nd i) /\ (∀ i, i < 4 -> (X i).1.map Lm.m = (gV x c k).bx i) /\
   Cx w W [jU w.heap.size D,FM fb rb fr x.rd,vhI 74 b 303 303 (kH fr D x.bad (.slice lo LL.length lc) X),zU w.heap.size X,vhI 63 pb 5 5 (rO fb rb),vhI 40 w2.heap.size 297 297 (nO 0 (λ_=>bX) (λ_=>slV (none,0) 0))]) 5
  ⟨0,D1,λ_=>([],(none,0)),Xz _,Yo,YA,YB,Qv,Qv,Qv,Qv,Qv,λi hi=>(by rw[hD1 i hi,ec];rfl),λ_ _=>rfl,
   ((H.f6.tl.f5.tl.add (Below.refl _ _) (zU w.heap.size (λ_=>([],(none,0)))) (λ_ _=>OwnM.nil _ _) (λj ⟨_,_,e⟩=>absurd (yV (OwnM.nil w6 w6.heap.size) j e) (by rcases e with e|⟨_,e,_⟩<;>cases e))).b4.f1.f2.f3.b4.f3.f1.f2.b1).f4.b2⟩ (λr B W hI=>?_)
 clear b0 b1 hs hd H;obtain⟨k,D,X,hk,hr,hs,hd,b4,b8,b26,b27,b28,hD,hX,H⟩:=hI;refine aD (aG ?_);repeat first|refine qa ?_|refine aC ?_|refine aD ?_|refine aH ?_
 refine dY (λh=>?_) (λh=>?_)
 .have hin:k<5:=by have:=Xu h;omega
  refine aS<|aH (aK ?_);refine aD ?_;iterate 2 refine qa ?_
  refine qg (Eq.trans (aZ _ _ rfl OneK.out Qv H.v4 Yo rfl) (by rw[show 0+k*1=k by omega])) ?_;repeat first|refine qa ?_|refine aC ?_|refine aI ?_
  obtain⟨n1,n2⟩:=hNd k D hD hk;refine xQ (aOb x fr k hin fb rb b D (.slice lo LL.length lc) X w W _ (by rw[<-ecf];exact hcl.1) hip.rd n1 n2 (hBx k X hX) H) ?_;rintro e w7 ⟨D',T,rfl,hD',hT,H⟩;refine⟨_,rfl,?_⟩;refine aMg (aGq x b fr D' lo lc LL X k T w w7 _ H.f4.f4 hx hj hl4 (λj hj hb=>?_)) ?_
  .rw[hT j hj,(Y8 (k:=k) (x:=x) (fr:=fr) (s':=gV x c k) (i:=j) (hD j hj) (hX j hj)).2, <-ecf];exact aBb hip hcl hj hb
  .rintro e w8 ⟨rfl,X',hX',H⟩;refine⟨_,rfl,?_⟩;refine fB<|aI ?_;repeat refine qa ?_
   refine aQ ⟨5-(k+1),Yo,k+1,D',X',Yo,Yo,YA,YB,Qv,Qv,Qv,Qv,Eq.trans Qv YC,λi hi=>?_,λi hi=>?_,H.f2.tl.f2.f3.f1⟩
   .rw[hD' i hi,(Y8 (k:=k) (x:=x) (fr:=fr) (s':=gV x c k) (i:=i) (hD i hi) (hX i hi)).1];show _=wK x c.fr (gV x c k) k i
    rw[ecf]
   .rw[hX' i hi];show _=lY x (uO x c.fr (gV x c k) k) i k 4
    refine BQ λj hj=>?_
    rw[hT j hj,(Y8 (k:=k) (x:=x) (fr:=fr) (s':=gV x c k) (i:=j) (hD j hj) (hX j hj)).2,ecf]
 .obtain rfl:k=5:=by have:=Xg h;omega
  obtain⟨n1,n2⟩:=hNd 5 D hD (Xr _);refine bP (dM ?_);refine aD<|qa ?_;refine mI (aBi b fr D x.bad (.slice lo LL.length lc) X w W _ n1 n2 (hBx 5 X hX) H.f1.tl) ?_;rintro e w7 ⟨D',v,rfl,hD',H⟩;refine⟨_,rfl,?_⟩;repeat first|refine qa ?_|refine aC ?_|refine aD ?_
  refine pK H.a2 (aNn fr (fr+1) D' x.bad (.slice lo LL.length lc) X) ?_;intro w8 H z8;refine aC<|aD ?_;iterate 3 refine qa ?_
  refine qg (Eq.trans (aX _ _ rfl ManyK.out Qv H.v2 Yo) (by rw[jY (aCw _ _ _ _ _)])) ?_;refine qa ?_;refine eO H.a5 aT (kV _ _) ?_;intro w9 H z9;repeat first|refine qa ?_|refine aC ?_
  have e1:lZ x c=⟨fr+1,wG x c⟩:=by unfold lZ;rw[if_pos hE,ecf]
  have e2:=aDm hE hD hX;rw[e2] at H;refine aW (aN YB (nA rfl Qv Qv Qv ManyK.out H.v5 (Xr _)) ⟨D',v,by rw[e1,hE],λi hi=>?_,H.sub (List.Sublist.cons_cons _ (List.Sublist.cons_cons _ (List.nil_sublist _)))⟩);rw[e1,hD' i hi];show OZ _ _ _ _ _=wG x c i
  unfold OZ wG;by_cases g:(i:Int)=x.bad
  .rw[if_pos g,if_pos g,hD i hi,zP g]
  .rw[if_neg g,if_neg g,hD i hi,hX i hi]
theorem BC(w:World):(callFunc 92 #[]).run Tryz.prog w=.ok (.enter 92 #[]) w:=Yh
theorem X8(x:Value)(w:World):(callFunc 93 #[x]).run Tryz.prog w=.ok (.enter 93 #[x]) w:=Yh
theorem FD(w:World):Calls Tryz.prog 93 #[.int .i64 0] w λe w'=>e=.returned (aP (dP St.beg0) 0 7)/\Below w.heap.size w w':=by
 go_enter Tryz.func93,Tryz.ntmps93
 go_wp2_with fail
 refine bodyPost_ret (v:=aP (dP St.beg0) 0 7) (by simp[results,Tryz.results93,go_sem];rfl) rfl ⟨rfl,?_⟩;exact (Below.refl _ _).alloc (Xr _) _
theorem VC:aLX 57:=by
 intro id t w _ _;refine bO Tryz.func57 rfl 25 rfl Yd (λA hs hd hb=>?_);have b0:A.eval (.tmp 0)=.int .i64 id:=hb 0 _ rfl;have b1:A.eval (.tmp 1)=aP (jA t) 0 4:=hb 1 _ rfl;clear hb;refine aD (aG ?_);refine Zb (λw1 m1 k1 z1=>?_);refine Za lC (λw2 m2 k2 z2=>?_);have mt2:=m1.below k2;refine Yx ?_;refine aC<|aH<|aD<|Yx ?_;refine bI rfl Yw (λK hK=>bQ _ 59 _ _ rfl Yf (iE _ _) (jZ id _) ?_);rintro e w3 ⟨rfl,k3⟩;have n3:=k3.size;have mt3:=mt2.below k3;have mr3:=m2.below k3;refine⟨_,rfl,hK _ _ ?_⟩;refine Yx ?_;refine aC<|lD (t:=jI id) ((Ye rfl).trans (by rw[Bool.not_not])) (λhno=>?_) (λhno=>?_)
 .have e1:iQ id t=bX:=by unfold iQ;rw[hno];rfl
  have e2:xX id=3:=by unfold xX;rw[hno];rfl
  refine aD<|Yq (BF rfl _) ?_;refine Zs bE mr3 (bN _ _ _ _) (λw4 mm4 k4 z4=>?_);have mr4:=Vh.congr mm4 (dQ _ _);have mt4:=mt3.kept k4 Yo;refine Yx ?_;refine aC<|aW ?_;simp only[Nx,Exit.then];rw[e1,e2];refine aN YB (kN rfl Yf Yf bE mr4 (Xr _)) ⟨none,0,rfl,World.ownsRow_nil _ _ _ _,aF ((k1.trans (k2.mono Yo)).trans (k3.mono Yo)) k4 Yo Yo⟩
 .have e1:iQ id t=zJ id t (λ_=>St.beg0):=by unfold iQ;rw[hno];rfl
  have e2:xX id=0:=by unfold xX;rw[hno];rfl
  refine aS<|aH ?_;have hS0:(λW=>Vh 23 W w.heap.size 4 4 (jA t)) w3.drew:=mt3;have mr0:Vh _ w3.drew _ _ _ _:=mr3;have ez:w3.drew.heap.size=w3.heap.size:=rfl;have kA:Below w.heap.size w w3.drew:=aU ((k1.trans (k2.mono Yo)).trans (k3.mono Yo));refine fD (S:=λW=>Vh 23 W w.heap.size 4 4 (jA t)) (.mv 0 (.rd 1 (.two 2 4 (.mv 3 (.go 4 (.go 5 .fin))) (.go 2 (.mv 3 (.go 5 .fin)))))) [] Yl Yl ?_;refine Yj ?_;refine Yr rfl hS0 (λ_ hS=>bL _ _ rfl BI Yf hS Yo (λj _=>by rw[Nat.zero_add])) ?_;refine yF ?_ ?_
  .refine cZ rfl rfl Yw (λK hK=>R5 _ 92 _ rfl (BC _) (zM _) ?_);rintro e w4 ⟨rfl,k4⟩;have n4:=k4.size;have mt4:=hS0.below k4;have mr4:=mr0.below k4;refine⟨_,rfl,hK _ _ (λ_ _=>mt4) ?_⟩;refine Yk rfl (λ_=>I8 _ _ _ rfl (id:=id) (t:=t) (r:=beginR) Yf Yf Yf _) ?_;refine cZ rfl rfl Yw (λK hK=>?_);refine gY _ _ rfl lC Yd ?_;intro w5 m5 k5 z5;have mt5:=mt4.below k5;have mr5:=mr4.below k5;refine hK _ _ (λ_ _=>mt5) ?_;clear hK K;refine dF rfl Yw (λK hK=>?_);refine aO _ _ _ _ rfl bE Yf Yf m5 Yc (bN _ _ _ _) rfl ?_;intro w6 mm6 k6 z6;have mp6:=Vh.congr mm6 (dQ _ _);have mt6:=mt5.kept k6 Yo;have mr6:=mr5.kept k6 Yo;refine hK _ (λ_ _=>mt6) ?_;clear hK K;refine fT<|aH<|aD<|Yx ?_;refine aC<|aK<|bW (λr a W=>∃x:Nat,x<=3/\3-x<=r/\a.tmps.size=25/\a.defers=[]/\a.eval (.tmp 4)=.pointer (some ⟨w1.heap.size,0,none⟩)/\a.eval (.tmp 6)=.pointer (some ⟨w4.heap.size,0,none⟩)/\a.eval (.tmp 16)=.int .i64 (x:Int)/\Vh 37 W w1.heap.size 74 74 (ndF bX (.slice none 0 0))/\Vh 37 W (w4.heap.size) 74 74 (ndF (zJ id t (xR x)) (.slice none 0 0))/\Below w.heap.size w W/\w6.heap.size<=W.heap.size) 3 ⟨0,Yo,Yo,YA,YB,Yf,Yf,Yf,mr6,by rw[J7];exact mp6,aF ((kA.trans (k4.mono Yo)).trans (k5.mono Yo)) k6 Yo Yo,Yo⟩ (λr B W hI=>?_);clear b0 b1 hs hd;obtain⟨x,hx,hr2,hs,hd,b4,b6,b16,mr,mp,kB,hW⟩:=hI;by_cases hin:x<3
   .refine aD (aG ?_);refine Yx ?_;refine aC<|aH (bG Yf (aS ?_));refine aH (aK ?_);refine aD ?_;iterate 2 refine Yx ?_
    refine aC<|aI<|Yx ?_;refine bI rfl Yw (λK hK=>bQ _ 93 _ _ rfl (aJ _ _) (X8 _ _) (FD _) ?_);rintro e w11 ⟨rfl,k11⟩;have n11:=k11.size;have mr11:=mr.below k11;have mp11:=mp.below k11;refine⟨_,rfl,hK _ _ ?_⟩;refine Yx ?_;refine Yq (bD _ _ _ _ rfl Tryz.underlying26 gX.size Yf Yf rfl hin _) ?_;refine Zs gX mp11 (fK _) (λw12 mm12 k12 z12=>?_);have mp12:Vh 37 w12 (w4.heap.size) 74 74 (ndF (zJ id t (xR (x+1))) (.slice none 0 0)):=by rw[<-U6];exact Vh.congr mm12 (sS _ _ _ x hin)
    have mr12:=mr11.kept k12 Yo;refine fB<|aI ?_;iterate 2 refine Yx ?_
    exact aQ ⟨3-(x+1),Yo,x+1,Yo,Yo,YA,YB,Yb,Yb,(Ye rfl).trans YC,mr12,mp12,aF (kB.trans (k11.mono Yo)) k12 Yo Yo,Yo⟩
   .refine aD (aG ?_);refine Yx ?_;obtain rfl:x=3:=Yo;rw[E9] at mp;refine aC<|aH (bH Yf (bP (dM ?_)));refine aD<|Yx ?_;refine Zs bE mr (bN _ _ _ _) (λw11 mm11 k11 z11=>?_);have mr11:=Vh.congr mm11 (dQ _ _);have mp11:=mp.kept k11 Yo;refine Yx ?_;refine aC<|aW ?_;rw[e1,e2];refine aN YB (kN rfl Yb Yf bE mr11 (Xr _)) ⟨none,0,rfl,World.ownsRow_nil _ _ _ _,aF kB k11 Yo Yo⟩
  .refine cZ rfl rfl Yw (λK hK=>?_);refine gY _ _ rfl lC Yd ?_;intro w4 m4 k4 z4;have mt4:=hS0.below k4;have mr4:=mr0.below k4;refine hK _ _ (λ_ _=>mt4) ?_;clear hK K;refine cZ rfl rfl Yw (λK hK=>R5 _ 92 _ rfl (BC _) (zM _) ?_);rintro e w5 ⟨rfl,k5⟩;have n5:=k5.size;have mt5:=mt4.below k5;have mr5:=mr4.below k5;have mp5:=m4.below k5;refine⟨_,rfl,hK _ _ (λ_ _=>mt5) ?_⟩;refine Yk rfl (λ_=>I8 _ _ _ rfl (id:=id) (t:=t) (r:=beginR) Yf Yf Yf _) ?_;refine dF rfl Yw (λK hK=>?_);refine aO _ _ _ _ rfl bE Yf Yf mp5 Yc (bN _ _ _ _) rfl ?_;intro w6 mm6 k6 z6;have mp6:=Vh.congr mm6 (dQ _ _);have mt6:=mt5.kept k6 Yo;have mr6:=mr5.kept k6 Yo;refine hK _ (λ_ _=>mt6) ?_;clear hK K;refine fT<|aH<|aD<|Yx ?_;refine aC<|aK<|bW (λr a W=>∃x:Nat,x<=3/\3-x<=r/\a.tmps.size=25/\a.defers=[]/\a.eval (.tmp 4)=.pointer (some ⟨w1.heap.size,0,none⟩)/\a.eval (.tmp 6)=.pointer (some ⟨w3.drew.heap.size,0,none⟩)/\a.eval (.tmp 16)=.int .i64 (x:Int)/\Vh 37 W w1.heap.size 74 74 (ndF bX (.slice none 0 0))/\Vh 37 W (w3.drew.heap.size) 74 74 (ndF (zJ id t (xR x)) (.slice none 0 0))/\Below w.heap.size w W/\w6.heap.size<=W.heap.size) 3 ⟨0,Yo,Yo,YA,YB,Yf,Yf,Yf,mr6,by rw[J7];exact mp6,aF ((kA.trans (k4.mono Yo)).trans (k5.mono Yo)) k6 Yo Yo,Yo⟩ (λr B W hI=>?_);clear b0 b1 hs hd;obtain⟨x,hx,hr2,hs,hd,b4,b6,b16,mr,mp,kB,hW⟩:=hI;by_cases hin:x<3
   .refine aD (aG ?_);refine Yx ?_;refine aC<|aH (bG Yf (aS ?_));refine aH (aK ?_);refine aD ?_;iterate 2 refine Yx ?_
    refine aC<|aI<|Yx ?_;refine bI rfl Yw (λK hK=>bQ _ 93 _ _ rfl (aJ _ _) (X8 _ _) (FD _) ?_);rintro e w11 ⟨rfl,k11⟩;have n11:=k11.size;have mr11:=mr.below k11;have mp11:=mp.below k11;refine⟨_,rfl,hK _ _ ?_⟩;refine Yx ?_;refine Yq (bD _ _ _ _ rfl Tryz.underlying26 gX.size Yf Yf rfl hin _) ?_;refine Zs gX mp11 (fK _) (λw12 mm12 k12 z12=>?_);have mp12:Vh 37 w12 (w3.drew.heap.size) 74 74 (ndF (zJ id t (xR (x+1))) (.slice none 0 0)):=by rw[<-U6];exact Vh.congr mm12 (sS _ _ _ x hin)
    have mr12:=mr11.kept k12 Yo;refine fB<|aI ?_;iterate 2 refine Yx ?_
    exact aQ ⟨3-(x+1),Yo,x+1,Yo,Yo,YA,YB,Yb,Yb,(Ye rfl).trans YC,mr12,mp12,aF (kB.trans (k11.mono Yo)) k12 Yo Yo,Yo⟩
   .refine aD (aG ?_);refine Yx ?_;obtain rfl:x=3:=Yo;rw[E9] at mp;refine aC<|aH (bH Yf (bP (dM ?_)));refine aD<|Yx ?_;refine Zs bE mr (bN _ _ _ _) (λw11 mm11 k11 z11=>?_);have mr11:=Vh.congr mm11 (dQ _ _);have mp11:=mp.kept k11 Yo;refine Yx ?_;refine aC<|aW ?_;rw[e1,e2];refine aN YB (kN rfl Yb Yf bE mr11 (Xr _)) ⟨none,0,rfl,World.ownsRow_nil _ _ _ _,aF kB k11 Yo Yo⟩
def BgC(fn:Nat):Prop:=∀(t:Tn) (w:World),t.Ok->Calls Tryz.prog fn #[aP (jA t) 0 4] w λe w'=>∃D:Nat->Nd×Ad,e=.returned (aP (gJ 0 D) 0 297)/\(∀i,i<4->(D i).1=iQ (i:Nat) t)/\Cx w w' [jU w.heap.size D]
theorem aBV:BgC 31:=by
 intro t w ht;refine bO Tryz.func31 rfl 19 rfl Yd (λA hs hd hb=>?_);have b0:A.eval (.tmp 0)=aP (jA t) 0 4:=hb 0 _ rfl;clear hb;have H:=Cx.start w;refine aD (aG ?_);refine iG H ?_;intro w1 H z1;refine fU H ?_;intro w2 H z2;refine aC<|aD<|fU H ?_;intro w3 H z3;refine aC<|aH<|aD ?_;repeat first|refine qa ?_|refine aC ?_
 refine aK ?_;refine bW (λr A W => ∃ (i : Nat) (D : Nat -> Nd × Ad), i <= 4 /\ 4 - i <= r /\ A.tmps.size = 19 /\ A.defers = [] /\ A.eval (.tmp 1) = .pointer (some ⟨w.heap.size, 0, none⟩) /\ A.eval (.tmp 2) = .pointer (some ⟨w1.heap.size, 0, none⟩) /\ A.eval (.tmp 3) = .pointer (some ⟨w2.heap.size, 0, none⟩) /\ A.eval (.tmp 5) = .int .i64 (i : Int) /\ (∀ j, j < i -> (D j).1 = iQ (j : Nat) t) /\
   Cx w W [jU w.heap.size D,vhI 40 w2.heap.size 297 297 (gJ 0 D),vhI 40 w1.heap.size 297 297 (nO 0 (λ_=>bX) (λ_=>slV (none,0) 0)),vhI 23 w.heap.size 4 4 (jA t)]) 4
  ⟨0,λ_=>(bX,(none,0)),Xz _,Yo,YA,YB,Qv,Qv,Qv,Qv,λj h=>absurd h (Nat.not_lt_zero j),H.add (Below.refl _ _) (jU w.heap.size (λ_=>(bX,(none,0)))) (λ_ _=>World.ownsRow_nil _ _ _ _) (λj ⟨_,_,e⟩=>absurd e (λe=>nomatch e))⟩ (λr B W hI=>?_)
 clear b0 hs hd H;obtain⟨i,D,hi,hr,hs,hd,b1,b2,b3,b5,hD,H⟩:=hI;refine aD (aG ?_);repeat first|refine qa ?_|refine aC ?_|refine aD ?_|refine aH ?_
 refine dY (λh=>?_) (λh=>?_)
 .have hin:i<4:=by have:=Xu h;omega
  refine aS<|aH (aK ?_);refine aD ?_;repeat first|refine qa ?_|refine aC ?_|refine aI ?_
  have hsz:=H.size;refine xQ (VC (i:Int) t W (by unfold R64;omega) ht) ?_;rintro e w4 ⟨a',c',rfl,g1,k4⟩;refine⟨_,rfl,?_⟩;replace H:=H.add k4 (wI w.heap.size (iQ (i:Nat) t,(a',c'))) (bZ g1 hsz) (λj e=>(g1.lt j e).1);iterate 5 refine qa ?_
  refine eO H.a2 (λj hj=>Eq.trans (by rw[show 0+1+i*74=1+i*74 by omega];rfl) (LJ 0 D i (iQ (i:Nat) t,(a',c')) j hj)) (bN _ _ _ _) ?_;intro w5 H z5;refine fB<|aI ?_;repeat refine qa ?_
  exact aQ ⟨4-(i+1),Yo,i+1,_,Yo,Yo,YA,YB,Qv,Qv,Qv,Eq.trans Qv YC,λj hj=>(by
   by_cases e:j=i
   .rw[e,dI]
   .rw[dC _ _ e];exact hD j Yo),mU (g:=wI w.heap.size) i H⟩
 .obtain rfl:i=4:=by have:=Xg h;omega
  refine bP (dM ?_);refine aD<|qa ?_;refine eO H.a2 aT (kV _ _) ?_;intro w5 H z5;refine aC ?_;exact aW (aN YB (pW rfl Qv ManyK.out H.v2 (Xr _)) ⟨D,rfl,hD,H.sub (List.Sublist.cons_cons _ (List.nil_sublist _))⟩)
structure Li where
 rd:Nat->Nat->Int
 bad:Int
 LL:List Lj
 lo:Option Addr
 lc:Nat
end
variable{c:Cl}{i:Nat}{k:Nat}{w:World}
def Li.x(c:Li):Ip:=⟨c.rd,c.bad,c.LL.map Lj.y⟩
def qN(c:Li):Nat->Value:=nP c.rd c.bad (.slice c.lo c.LL.length c.lc)
structure LiOK (w:World) (c:Li):Prop where
 ip:IpOK c.x
 jr:JRd w c.lo c.LL
 lc:c.LL.length<=c.lc
theorem LiOK.below{w':World}{c:Li}(h:LiOK w c)(k:Below w.heap.size w w'):LiOK w' c:=⟨h.ip,h.jr.below k,h.lc⟩
def RdS{α:Type}(F:α->Nat->Value)(s:Nat)(w:World)(ao:Option Addr)(L:List α):Prop:=0<L.length->∃b o,ao=some ⟨b,o,none⟩/\∀i c,L[i]?=some c->∀k,k<s->w.cell? ⟨b,o+i*s+k,none⟩=some (F c k)
variable{ao:Option Addr}{α:Type}{s:Nat}
theorem RdS.below{F:α->Nat->Value}{w':World}{L:List α}(h:RdS F s w ao L)(k:Below w.heap.size w w'):RdS F s w' ao L:=λhl=>by
 obtain⟨b,o,e,hc⟩:=h hl;exact⟨b,o,e,λi c hi j hj=>aM (hc i c hi j hj) k⟩
theorem DC{F:α->Nat->Value}{e:TypeId}{B n cap:Nat}{L:List α}(h:w.ownsRow B e s (.slice ao n cap) n (jR F s L))(hs:0<s):RdS F s w ao L:=λhl=>by
 obtain⟨g,c,e,_,hc⟩:=aLK h hl hs
 cases e
 exact⟨g,0,rfl,hc⟩
def aLI(bad:Int)(c:Li):Li:=⟨c.rd,bad,c.LL.take 400,c.lo,c.lc⟩
def aNW(bad:Int)(L:List Li)(i:Nat):List Li:=(L.take i).map (aLI bad)
end Go.Proofs.YthimcecbgpamdaaGreat
