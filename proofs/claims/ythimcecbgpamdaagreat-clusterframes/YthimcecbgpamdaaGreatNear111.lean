import Derived.Test.YthimcecbgpamdaaGreatNodPr10
namespace Go.Proofs.YthimcecbgpamdaaGreat
open Go.RowKit
section
variable{x:Ip}
theorem NJ{t u:Nat->Ms}{wo ph:Nat}:∀{k:Nat},(∀j,j<k->t j=u j)->mQ x t wo ph k=mQ x u wo ph k
 |0,_=>rfl
 |k+1,h=>by
  show mQ x t wo ph k++_=mQ x u wo ph k++_
  rw[NJ (λj hj=>h j Yo),h k Yo]
theorem aOj(x:Ip)(fr:Int)(k:Nat)(hk:k<5)(fb rb b:Nat)(D:Nat->Nd×Ad)(lv:Value)(X:Nat->List Lm×Ad)(w0 w:World)(l:List It)(hfr:R64 fr)(hrd:∀s a,R64 (x.rd s a))(hid:∀i,i<4->(D i).1.id=(i:Nat))(hok:∀i,i<4->NdOK (D i).1)(hX:∀i,i<4->(X i).1.length<=1600/\∀c,c∈(X i).1->MsOK c.m)(H:Cx w0 w (lX w0.heap.size D::FB fb rb fr x.rd::vhI 74 b 303 303 (jT fr D x.bad lv X)::A9 w0.heap.size X::l)):Calls Tryz.prog 18 #[.pointer (some ⟨b,0,none⟩),rC fb rb k] w λe w'=>∃(D':Nat->Nd×Ad) (T:Nat->Ms×Ad),e=.returned (aN (yJ T) 0 16)/\(∀i,i<4->(D' i).1=yF x fr ⟨λi=>(D i).1,λi=>(X i).1.map Lm.m⟩ k i)/\(∀i,i<4->(T i).1=vY x fr ⟨λi=>(D i).1,λi=>(X i).1.map Lm.m⟩ k i)/\Cx w0 w' (OP w0.heap.size T::lX w0.heap.size D'::FB fb rb fr x.rd::vhI 74 b 303 303 (jT fr D' x.bad lv X)::A9 w0.heap.size X::l):=by
 have pure : ∀ (fn : Nat) [EntK Tryz.prog fn] (N : Nd -> List Ms -> Nd) (M : Nd -> List Ms -> Ms), xN N M fn -> Calls Tryz.prog 18 #[.pointer (some ⟨b, 0, none⟩), .func (.func fn) #[] #[]] w λe w' => ∃ (D' : Nat -> Nd × Ad) (T : Nat -> Ms × Ad), e = .returned (aN (yJ T) 0 16) /\ (∀ i, i < 4 -> (D' i).1 = OW x.bad (λ_ => N) D X i) /\ (∀ i, i < 4 -> (T i).1 = doM x.bad (λ_ => M) D X i) /\
   Cx w0 w' (OP w0.heap.size T::lX w0.heap.size D'::FB fb rb fr x.rd::vhI 74 b 303 303 (jT fr D' x.bad lv X)::A9 w0.heap.size X::l):=λfn _ N M h=>by
  refine (UJ b fr D x.bad lv X fn #[] (λ_=>N) (λ_=>M) (λ_ y=>y=emI) w0 w emI (FB fb rb fr x.rd::l) (aFr h) rfl (λ_ _ _ h=>h) hid hok hX ((H.f1.b3.add (Below.refl _ _) emI trivial (λ_ e=>e.elim)).f1)).mono ?_;rintro e w' ⟨D',T,y',rfl,rfl,hD,hT,H⟩;exact⟨D',T,rfl,hD,hT,H.f2.tl.f4.b2⟩
 have:k=0\/k=1\/k=2\/k=3\/k=4:=Yo;rcases this with rfl|rfl|rfl|rfl|rfl
 .refine (UJ b fr D x.bad lv X 32 #[.pointer (some ⟨fb,0,none⟩),.pointer (some ⟨rb,0,none⟩)] (λi n _=>senN n fr (x.rd i)) (λi n _=>kV n fr (x.rd i)) (λ_ y=>y=FB fb rb fr x.rd) w0 w (FB fb rb fr x.rd) l (aCA w0 x.bad fb rb fr x.rd hfr hrd _ _) rfl (λ_ _ _ h=>h) hid hok hX H).mono ?_;rintro e w' ⟨D',T,y',rfl,rfl,hD,hT,H⟩;exact⟨D',T,rfl,hD,hT,H⟩
 .exact pure 34 relN tQ TZ
 .exact pure 35 qX tZ PX
 .exact pure 36 pasN tK YZ
 .exact pure 37 judN qW VJ
variable{c:Cl}{i:Nat}
theorem zZ(h:(i:Int)=x.bad):∀k,(iA x c k).nd i=c.nd i
 |0=>rfl
 |k+1=>by
  show (if (i:Int)=x.bad then _ else _)=_
  rw[if_pos h];exact zZ h k
variable{k:Nat}
theorem QN{fr:Int}{s s':Wk}(h1:s.nd i=s'.nd i)(h2:s.bx i=s'.bx i):yF x fr s k i=yF x fr s' k i/\vY x fr s k i=vY x fr s' k i:=by
 unfold yF vY;rw[h1,h2];exact⟨rfl,rfl⟩
theorem aEp(fr:Int)(D:Nat->Nd×Ad)(bad:Int)(lv:Value)(X:Nat->List Lm×Ad):∀j,j<297->jT fr D bad lv X (0+0+j)=gF fr D j:=λj hj=>by
 rw[show 0+0+j=j by omega];exact zH hj
theorem aNh(fr fr':Int)(D:Nat->Nd×Ad)(bad:Int)(lv:Value)(X:Nat->List Lm×Ad):∀j,j<303->stW (jT fr D bad lv X) (0+0+0) (.int .i64 fr') j=jT fr' D bad lv X j:=λj hj=>by
 by_cases e:j=0
 .subst e;rfl
 .rw[gW _ _ Yo];unfold jT xH;by_cases c:j<297
  .rw[if_pos c,if_pos c];unfold pO;rw[if_neg e,if_neg e]
  .rw[if_neg c,if_neg c]
variable{w:World}
theorem wL{P:Program}{a:Act}{fn:Func}{p p' p2:Nat}{ty:TypeId}{b n N cap:Nat}{t:TypeId}{g:Nat->Value}{u v:Value}(h:fn.results=#[.cell p ty,.tmp p',.tmp p2])(hv:a.eval (.tmp p)=.pointer (some ⟨b,0,none⟩))(hv':a.eval (.tmp p')=u)(hv2:a.eval (.tmp p2)=v)(T:Many P ty n)(hm:Vh t w b N cap g)(hn:n<=N):(results fn a.tmps).run P w=.ok (.tuple #[aN g 0 n,u,v]) w:=by
 have e:=kW hv;have e2:=kW hv';have e3:=kW hv2;simp only[Array.getD_eq_getD_getElem?] at e e2 e3;simp[results,h,e,e2,e3,asAddr,qD T hm hn]
theorem JR{L:List Lm}{l:List Ms}(e:L.map Lm.m=l)(h:∀m,m∈l->MsOK m):∀c,c∈L->MsOK c.m:=λc hc=>h _ (by rw[<-e];exact List.mem_map_of_mem hc)
theorem aIm(hE:iU x c=0)(hk:k<=5)(hi:i<4):((iA x c k).nd i).id=(i:Nat):=by
 by_cases g:(i:Int)=x.bad
 .rw[zZ g];exact VV hE hi
 .have:k=0\/k=1\/k=2\/k=3\/k=4\/k=5:=Yo;rcases this with rfl|rfl|rfl|rfl|rfl|rfl
  .exact VV hE hi
  .exact id1 hE hi g
  .exact id2 hE hi g
  .exact id3 hE hi g
  .exact id4 hE hi g
  .exact id5 hE hi g
theorem aBi(hx:IpOK x)(hc:wE c){j:Nat}(hj:j<4)(g:(j:Int)≠x.bad):MsOK (vY x c.fr (iA x c k) k j):=by
 have h:MsOK (mgK x c k j):=by
  rw[WJ g];exact aEQ k ((tT hx hc k).1 j hj) (MsOK.R' ((tT hx hc k).2 j hj)) hc.1 (hx.rd j)
 exact h
theorem UB(h:x.ly.length<=400)(k i:Nat):((iA x c k).bx i).length<=1600:=by
 cases k with
 |zero=>exact Xz _
 |succ k=>exact CX h _ _ _ 4
theorem aCH(hE:iU x c=0){Dn:Nat->Nd}{Bn:Nat->List Ms}(h1:∀i,i<4->Dn i=(iA x c 5).nd i)(h2:∀i,i<4->Bn i=(iA x c 5).bx i):lZ x.bad Dn Bn 4=xU x c:=by
 unfold lZ xU;rw[if_pos hE];refine List.map_congr_left λi hi=>?_
 unfold NS at hi;obtain⟨h3,h4⟩:=List.mem_filter.1 hi;have h3:=List.mem_range.1 h3;have h4:(i:Int)≠x.bad:=Xu h4;unfold zY;rw[if_neg h4,h1 i h3,h2 i h3]
def aIc(fn:Nat):Prop:=∀(x:Ip) (fr:Int) (D:Nat->Nd×Ad) (lo:Option Addr) (lc:Nat) (LL:List Lj) (w:World),x.ly=LL.map Lj.y->IpOK x->wE ⟨fr,λi=>(D i).1⟩->(∀i,i<4->nJ w (D i).1 (D i).2.1 (D i).2.2)->JRd w lo LL->
 Calls Tryz.prog fn #[aN (gF fr D) 0 297,aN (mE x.rd x.bad (.slice lo LL.length lc)) 0 14] w λe w'=>∃(D':Nat->Nd×Ad) (v:Value),e=.returned (.tuple #[aN (gF (vJ x ⟨fr,λi=>(D i).1⟩).fr D') 0 297,v,.int .i64 (iU x ⟨fr,λi=>(D i).1⟩)])/\(∀i,i<4->(D' i).1=(vJ x ⟨fr,λi=>(D i).1⟩).nd i)/\
  Cx w w' [gB w.heap.size 86 14 v (xU x ⟨fr,λi=>(D i).1⟩).length (nO nG 14 (xU x ⟨fr,λi=>(D i).1⟩)),lX w.heap.size D']
set_option maxHeartbeats 1000000 in
theorem WO:aIc 5:=by
 intro x fr D lo lc LL w hx hip hcl hag hj;have hxl:x.ly.length=LL.length:=by rw[hx,List.length_map]
 obtain⟨c,ec⟩:∃c,c=(⟨fr,λi=>(D i).1⟩:Cl):=⟨_,rfl⟩;rw[<-ec] at hcl ⊢;refine bO Tryz.func5 rfl 56 rfl Yd (λA hs hd hb=>?_);have b0:A.eval (.tmp 0)=aN (gF fr D) 0 297:=hb 0 _ rfl;have b1:A.eval (.tmp 1)=aN (mE x.rd x.bad (.slice lo LL.length lc)) 0 14:=hb 1 _ rfl;clear hb;have H:=Cx.start w;refine aD (aG ?_);refine iH H ?_;intro w1 H z1;refine iH H ?_;intro w2 H z2;refine gJ H ?_;intro w3 H z3;iterate 2 refine qa ?_
 refine aC<|aH<|aD ?_;iterate 2 refine qa ?_
 have hck:=YK x fr D lo lc w3;rw[hxl, <-ec] at hck;refine yU hck ?_;rintro e w4 ⟨rfl,k4⟩;refine⟨_,rfl,?_⟩;replace H:=H.call k4;repeat first|refine qa ?_|refine aC ?_|refine aD ?_
 refine fB (λh=>?_) (λh=>?_)
 .have hE:iU x c≠0:=Xu h;refine aD<|qg (yL rfl _) ?_;refine qa ?_;refine fJ H.a0 aV (zN _ _ _ _) ?_;intro w5 H z5;repeat first|refine qa ?_|refine aC ?_
  have e1:vJ x c=aBb:=by unfold vJ;rw[if_neg hE]
  have e2:xU x c=[]:=by unfold xU;rw[if_neg hE]
  refine aW (lY (aP YB (wL rfl Qv Qv Qv ManyK.out H.v0 (Xr _)) ⟨λ_=>(dI,(none,0)),_,by rw[e1];rfl,λi hi=>by rw[e1];rfl,?_⟩));rw[e2];exact ((H.tl.tl.tl.add (Below.refl _ _) (lX w.heap.size (λ_=>(dI,(none,0)))) (λ_ _=>World.ownsRow_nil _ _ _ _) (λj ⟨_,_,e⟩=>absurd e (λe=>nomatch e))).add (Below.refl _ _) (gB _ _ _ _ _ _) (World.ownsRow_nil _ _ _ _) (λj e=>nomatch e))
 have hE:iU x c=0:=by simpa using h
 obtain⟨hb,hf,hl4,hid0⟩:=JS hE;have hl4:LL.length<=400:=Yo;refine aU<|aD ?_;iterate 2 refine qa ?_
 have hat:=aBx x fr D lo lc w w4 _ hag (by have:=hcl.2;rw[ec] at this;exact this) H;rw[hxl] at hat;refine yU hat ?_;rintro e w5 ⟨b,D1,rfl,hD1,H⟩;refine⟨_,rfl,?_⟩;refine qa ?_;refine aC<|aH<|aD ?_;iterate 3 refine qa ?_
 refine qg (Eq.trans (aX _ _ rfl ManyK.out Qv H.v3 Yo) (by rw[jG (f:=BJ x.rd) (λj hj=>by rw[show 0+0+j=j by omega];exact if_pos hj)])) ?_;refine yU (aBX fr x.rd w w5 _ H) ?_;rintro e w6 ⟨fb,rb,pb,rfl,H⟩;refine⟨_,rfl,?_⟩;repeat first|refine qa ?_|refine aC ?_
 refine aK ?_;have hNd:∀(k:Nat) (D:Nat->Nd×Ad),(∀i,i<4->(D i).1=(iA x c k).nd i)->k<=5->(∀i,i<4->(D i).1.id=(i:Nat))/\∀i,i<4->NdOK (D i).1:=λk D hD hk=>⟨λi hi=>by rw[hD i hi];exact aIm hE hk hi,λi hi=>by rw[hD i hi];exact (tT hip hcl k).1 i hi⟩
 have hBx:∀(k:Nat) (X:Nat->List Lm×Ad),(∀i,i<4->(X i).1.map Lm.m=(iA x c k).bx i)->∀i,i<4->(X i).1.length<=1600/\∀c,c∈(X i).1->MsOK c.m:=λk X hX i hi=>⟨by
  have h1:=congrArg List.length (hX i hi);rw[List.length_map] at h1;rw[h1];exact UB Yo k i,JR (hX i hi) ((tT hip hcl k).2 i hi)⟩
 have ecf:c.fr=fr:=by rw[ec]
 refine bX (λr A W => ∃ (k : Nat) (D : Nat -> Nd × Ad) (X : Nat -> List Lm × Ad), k <= 5 /\ 5 - k <= r /\ A.tmps.size = 56 /\ A.defers = [] /\ A.eval (.tmp 4) = .pointer (some ⟨w2.heap.size, 0, none⟩) /\ A.eval (.tmp 8) = .pointer (some ⟨b, 0, none⟩) /\ A.eval (.tmp 26) = .slice (some ⟨pb, 0, none⟩) 5 5 /\ A.eval (.tmp 27) = .int .i64 ((5 : Nat) : Int) /\ A.eval (.tmp 28) = .int .i64 (k : Int) /\ (∀ i, i < 4 -> (D i).1 = (iA x c k).nd i) /\ (∀ i, i < 4 -> (X i).1.map Lm.m = (iA x c k).bx i) /\
   Cx w W [lX w.heap.size D,FB fb rb fr x.rd,vhI 74 b 303 303 (jT fr D x.bad (.slice lo LL.length lc) X),A9 w.heap.size X,vhI 63 pb 5 5 (rC fb rb),vhI 40 w2.heap.size 297 297 (pO 0 (λ_=>dI) (λ_=>slV (none,0) 0))]) 5
  ⟨0,D1,λ_=>([],(none,0)),Xz _,Yo,YA,YB,Qv,Qv,Qv,Qv,Qv,λi hi=>(by rw[hD1 i hi,ec];rfl),λ_ _=>rfl,
   ((H.f6.tl.f5.tl.add (Below.refl _ _) (A9 w.heap.size (λ_=>([],(none,0)))) (λ_ _=>OwnM.nil _ _) (λj ⟨_,_,e⟩=>absurd (xX (OwnM.nil w6 w6.heap.size) j e) (by rcases e with e|⟨_,e,_⟩<;>cases e))).b4.f1.f2.f3.b4.f3.f1.f2.b1).f4.b2⟩ (λr B W hI=>?_)
 clear b0 b1 hs hd H;obtain⟨k,D,X,hk,hr,hs,hd,b4,b8,b26,b27,b28,hD,hX,H⟩:=hI;refine aD (aG ?_);repeat first|refine qa ?_|refine aC ?_|refine aD ?_|refine aH ?_
 refine fB (λh=>?_) (λh=>?_)
 .have hin:k<5:=by have:=Xu h;omega
  refine aU<|aH (aK ?_);refine aD ?_;iterate 2 refine qa ?_
  refine qg (Eq.trans (aY _ _ rfl OneK.out Qv H.v4 Yo rfl) (by rw[show 0+k*1=k by omega])) ?_;repeat first|refine qa ?_|refine aC ?_|refine aI ?_
  obtain⟨n1,n2⟩:=hNd k D hD hk;refine yU (aOj x fr k hin fb rb b D (.slice lo LL.length lc) X w W _ (by rw[<-ecf];exact hcl.1) hip.rd n1 n2 (hBx k X hX) H) ?_;rintro e w7 ⟨D',T,rfl,hD',hT,H⟩;refine⟨_,rfl,?_⟩;refine aNs (aGy x b fr D' lo lc LL X k T w w7 _ H.f4.f4 hx hj hl4 (λj hj hb=>?_)) ?_
  .rw[hT j hj,(QN (k:=k) (x:=x) (fr:=fr) (s':=iA x c k) (i:=j) (hD j hj) (hX j hj)).2, <-ecf];exact aBi hip hcl hj hb
  .rintro e w8 ⟨rfl,X',hX',H⟩;refine⟨_,rfl,?_⟩;refine fD<|aI ?_;repeat refine qa ?_
   refine aS ⟨5-(k+1),Yo,k+1,D',X',Yo,Yo,YA,YB,Qv,Qv,Qv,Qv,Eq.trans Qv YC,λi hi=>?_,λi hi=>?_,H.f2.tl.f2.f3.f1⟩
   .rw[hD' i hi,(QN (k:=k) (x:=x) (fr:=fr) (s':=iA x c k) (i:=i) (hD i hi) (hX i hi)).1];show _=yF x c.fr (iA x c k) k i
    rw[ecf]
   .rw[hX' i hi];show _=mQ x (vY x c.fr (iA x c k) k) i k 4
    refine NJ λj hj=>?_
    rw[hT j hj,(QN (k:=k) (x:=x) (fr:=fr) (s':=iA x c k) (i:=j) (hD j hj) (hX j hj)).2,ecf]
 .obtain rfl:k=5:=by have:=Xg h;omega
  obtain⟨n1,n2⟩:=hNd 5 D hD (Xr _);refine bQ (dU ?_);refine aD<|qa ?_;refine mO (aBa b fr D x.bad (.slice lo LL.length lc) X w W _ n1 n2 (hBx 5 X hX) H.f1.tl) ?_;rintro e w7 ⟨D',v,rfl,hD',H⟩;refine⟨_,rfl,?_⟩;repeat first|refine qa ?_|refine aC ?_|refine aD ?_
  refine pE H.a2 (aNh fr (fr+1) D' x.bad (.slice lo LL.length lc) X) ?_;intro w8 H z8;refine aC<|aD ?_;iterate 3 refine qa ?_
  refine qg (Eq.trans (aX _ _ rfl ManyK.out Qv H.v2 Yo) (by rw[jG (aEp _ _ _ _ _)])) ?_;refine qa ?_;refine fJ H.a5 aV (sW _ _) ?_;intro w9 H z9;repeat first|refine qa ?_|refine aC ?_
  have e1:vJ x c=⟨fr+1,zY x c⟩:=by unfold vJ;rw[if_pos hE,ecf]
  have e2:=aCH hE hD hX;rw[e2] at H;refine aW (aP YB (wL rfl Qv Qv Qv ManyK.out H.v5 (Xr _)) ⟨D',v,by rw[e1,hE],λi hi=>?_,H.sub (List.Sublist.cons_cons _ (List.Sublist.cons_cons _ (List.nil_sublist _)))⟩);rw[e1,hD' i hi];show OW _ _ _ _ _=zY x c i
  unfold OW zY;by_cases g:(i:Int)=x.bad
  .rw[if_pos g,if_pos g,hD i hi,zZ g]
  .rw[if_neg g,if_neg g,hD i hi,hX i hi]
def BgC(fn:Nat):Prop:=∀(t:Tn) (w:World),t.Ok->Calls Tryz.prog fn #[aN (qV t) 0 4] w λe w'=>∃D:Nat->Nd×Ad,e=.returned (aN (gF 0 D) 0 297)/\(∀i,i<4->(D i).1=jY (i:Nat) t)/\Cx w w' [lX w.heap.size D]
structure Li where
 rd:Nat->Nat->Int
 bad:Int
 LL:List Lj
 lo:Option Addr
 lc:Nat
end
variable{c:Cl}{i:Nat}{k:Nat}{w:World}
def Li.x(c:Li):Ip:=⟨c.rd,c.bad,c.LL.map Lj.y⟩
def kE(c:Li):Nat->Value:=mE c.rd c.bad (.slice c.lo c.LL.length c.lc)
structure LiOK (w:World) (c:Li):Prop where
 ip:IpOK c.x
 jr:JRd w c.lo c.LL
 lc:c.LL.length<=c.lc
theorem LiOK.below{w':World}{c:Li}(h:LiOK w c)(k:Below w.heap.size w w'):LiOK w' c:=⟨h.ip,h.jr.below k,h.lc⟩
def RdS{α:Type}(F:α->Nat->Value)(s:Nat)(w:World)(ao:Option Addr)(L:List α):Prop:=0<L.length->∃b o,ao=some ⟨b,o,none⟩/\∀i c,L[i]?=some c->∀k,k<s->w.cell? ⟨b,o+i*s+k,none⟩=some (F c k)
variable{α:Type}{ao:Option Addr}{s:Nat}
theorem RdS.below{F:α->Nat->Value}{w':World}{L:List α}(h:RdS F s w ao L)(k:Below w.heap.size w w'):RdS F s w' ao L:=λhl=>by
 obtain⟨b,o,e,hc⟩:=h hl;exact⟨b,o,e,λi c hi j hj=>aM (hc i c hi j hj) k⟩
theorem BZ{F:α->Nat->Value}{e:TypeId}{B n cap:Nat}{L:List α}(h:w.ownsRow B e s (.slice ao n cap) n (nO F s L))(hs:0<s):RdS F s w ao L:=λhl=>by
 obtain⟨g,c,e,_,hc⟩:=aMU h hl hs
 cases e
 exact⟨g,0,rfl,hc⟩
def aMg(bad:Int)(c:Li):Li:=⟨c.rd,bad,c.LL.take 400,c.lo,c.lc⟩
def aOh(bad:Int)(L:List Li)(i:Nat):List Li:=(L.take i).map (aMg bad)
end Go.Proofs.YthimcecbgpamdaaGreat
