import Derived.Test.YthimcecbgpamdaaGreatNear137
set_option maxHeartbeats 4000000
namespace Go.Proofs.YthimcecbgpamdaaGreat
open Go.RowKit
variable{v:Value}{w:World}{P:Program}{o:Oper}{f:Operand->Value}
theorem GH{ty:TypeId}{x:Operand}(T:OneC P ty){b off:Nat}(hc:w.cell? ⟨b,off,none⟩=some v)(ho:o.op=.load ty x)(hx:f x=.pointer (some ⟨b,off,none⟩)):(execOp f o).run P w=.ok (.value v) w:=by
 unfold execOp;simp only[ho,hx,Instr.loadAt,Instr.sureAddr,loadVar,Sem.run_bind,Sem.run_pure,Result.andThen_ok,T.agg];go_simp
variable{Q:Exit->Act->World->Prop}{a:Act}
theorem aMC{x y:Code}(T:Act->World->Prop)(hx:(∀A W,T A W->CodI P y Q A W)->CodI P (.seq x y) Q a w)(hy:∀A W,T A W->CodI P y Q A W):CodI P (.seq x y) Q a w:=hx hy
def aNQ(w0:World)(d:Nd×Ad):It:=⟨λ_=>sD w0 d.1 d.2.1 d.2.2,λ_=>False,λh _=>h,λ_ h=>h.elim⟩
def Z8(w0:World)(e:(Nd×Ad)×Bool):It:=if e.2=true then wI w0.heap.size e.1 else aNQ w0 e.1
def VR(w0:World)(E:Nat->(Nd×Ad)×Bool):It:=N9 (λi=>Z8 w0 (E i))
variable{E:Nat->(Nd×Ad)×Bool}{i:Nat}{w0:World}
theorem aBP(h:(VR w0 E).p w)(k:Below w0.heap.size w0 w)(hi:i<4):sD w (E i).1.1 (E i).1.2.1 (E i).1.2.2:=by
 have h1:(Z8 w0 (E i)).p w:=h i hi;unfold Z8 at h1;split at h1
 .have h2:World.ownsRow _ _ _ _ _ _ _:=h1;obtain⟨a,c,e,s,_⟩:=iH h2;unfold slV at e
  cases e
  exact s
 .exact Sr.below h1 k
def noT:It:=⟨λ_=>True,λ_=>False,λ_ _=>trivial,λ_ h=>h.elim⟩
def mpJ(B:Nat)(t:(Ms×Ad)×Option Nat):It:=match t.2 with
 |some b=>(vhI 67 b 4 4 (msF t.1.1.K t.1.1.F t.1.1.R (slV t.1.2 t.1.1.L.length))).and (tlJ B t.1)
 |none=>noT
def yT(B:Nat)(T:Nat->(Ms×Ad)×Option Nat):It:=N9 (λi=>mpJ B (T i))
def pJ(T:Nat->(Ms×Ad)×Option Nat)(j:Nat):Value:=.pointer ((T j).2.map λb=>⟨b,0,none⟩)
def noM:Nat->(Ms×Ad)×Option Nat:=λ_=>((jH,(none,0)),none)
theorem aFf(T:Nat->(Ms×Ad)×Option Nat)(i:Nat)(m:Ms×Ad)(b:Nat):∀j,j<4->stW (pJ T) i (.pointer (some ⟨b,0,none⟩)) j=pJ (dX T i (m,some b)) j:=λj _=>by
 unfold stW pJ dX;split<;>rfl
theorem aGe(T:Nat->(Ms×Ad)×Option Nat):∀j,j<4->(pJ T j).oneCell'=true:=λ_ _=>rfl
instance iRefCl3_1:ZerK Tryz.prog 81 4 (pJ noM):=⟨λw=>Yl⟩
theorem aAL(B:Nat)(w:World):(yT B noM).p w:=λ_ _=>trivial
variable{B:Nat}{T:Nat->(Ms×Ad)×Option Nat}
theorem aIs{j b:Nat}(h:(yT B T).p w)(hj:j<4)(e:(T j).2=some b):Vh 67 w b 4 4 (msF (T j).1.1.K (T j).1.1.F (T j).1.1.R (slV (T j).1.2 (T j).1.1.L.length))/\(T j).1.1.L.length<=(T j).1.2.2/\Sr w (T j).1.2.1 (T j).1.1.L.length (T j).1.2.2 (iF (gL (T j).1.1.L)):=by
 have h1:(mpJ B (T j)).p w:=h j hj;unfold mpJ at h1;rw[e] at h1;have h2:World.ownsRow _ _ _ _ _ _ _:=h1.2;obtain⟨a,c,ec,s,hc⟩:=iH h2;unfold slV at ec
 cases ec
 exact⟨h1.1,hc,s⟩
theorem CJ(fr:Int)(D:Nat->Nd×Ad){j:Nat}(hj:j<74):gJ fr D (0+1+i*74+j)=ndF (D i).1 (slV (D i).2 (D i).1.vA.length) j:=by
 unfold gJ;rw[Nat.zero_add];exact VT _ _ _ hj
theorem BO{x:Ip}{t u:Nat->Ms}{wo ph:Nat}:∀{k:Nat},(∀j:Nat,j<k->(j:Int)≠x.bad->t j=u j)->lY x t wo ph k=lY x u wo ph k
 |0,_=>rfl
 |k+1,h=>by
  show lY x t wo ph k++_=lY x u wo ph k++_
  rw[BO (λj hj hb=>h j Yo hb)];by_cases hb:(k:Int)=x.bad
  .rw[if_pos hb,if_pos hb]
  .rw[h k Yo hb]
theorem DL(fr:Int)(E:Nat->(Nd×Ad)×Bool)(i:Nat)(d:Nd×Ad):∀j,j<297->stP (gJ fr (λi=>(E i).1)) (0+1+i*74) 74 (ndF d.1 (slV d.2 d.1.vA.length)) j=gJ fr (λj=>(dX E i (d,true) j).1) j:=by
 rw[vV (λe:(Nd×Ad)×Bool=>e.1),Nat.zero_add];exact LJ fr _ i d
theorem JB{x y:Code}(T:Act->World->Prop)(hx:(∀A W,T A W->CodI P y Q A W)->CodI P x (Nx P y Q) a w)(hy:∀A W,T A W->CodI P y Q A W):CodI P (.seq x y) Q a w:=aH (hx hy)
abbrev rfA(A:Act)(w w1 w2 W w6:World)(k:Nat):Prop:=A.tmps.size=193/\A.defers=[]/\A.eval (.tmp 2)=.pointer (some ⟨w.heap.size,0,none⟩)/\A.eval (.tmp 3)=.pointer (some ⟨w1.heap.size,0,none⟩)/\A.eval (.tmp 4)=.pointer (some ⟨w2.heap.size,0,none⟩)/\A.eval (.tmp 8)=.pointer (some ⟨W.heap.size,0,none⟩)/\A.eval (.tmp 9)=.pointer (some ⟨w6.heap.size,0,none⟩)/\A.eval (.tmp 10)=.int .i64 (k:Int)
abbrev SS(w w1 w2:World)(x:Ip)(lo:Option Addr)(lc:Nat)(LL:List Lj)(fr:Int)(D:Nat->Nd×Ad):List It:=[vhI 40 w2.heap.size 297 297 (nO 0 (λ_=>bX) (λ_=>slV (none,0) 0)),vhI 43 w1.heap.size 14 14 (nP x.rd x.bad (.slice lo LL.length lc)),vhI 40 w.heap.size 297 297 (gJ fr D)]
def PhK(k:Nat)(fr:Int)(rd:Nat->Int)(fn:Nat):Prop:=∃N M,xU N M fn/\(∀n l,phN k n fr rd l=N n l)/\∀n l,phM k n fr rd l=M n l
set_option maxRecDepth 10000 in
theorem YJ:aMs 8:=by
 intro x fr D lo lc LL w hx hip hcl hag hj;have hxl:x.ly.length=LL.length:=by rw[hx,List.length_map]
 obtain⟨c,ec⟩:∃c,c=(⟨fr,λi=>(D i).1⟩:Cl):=⟨_,rfl⟩;have ecf:c.fr=fr:=by rw[ec]
 have ecn:∀i,c.nd i=(D i).1:=λi=>by rw[ec]
 rw[<-ec] at hcl ⊢;have hno:∀(E:Int) (W:World) (l:List It),gK x c=E->E≠0->Cx w W l->∃(D':Nat->Nd×Ad) (v:Value),Ending.returned (.tuple #[aP (nO 0 (λ_=>bX) (λ_=>slV (none,0) 0)) 0 297,.slice none 0 0,.int .i64 E])=.returned (.tuple #[aP (gJ (lZ x c).fr D') 0 297,v,.int .i64 (gK x c)])/\(∀i,i<4->(D' i).1=(lZ x c).nd i)/\Cx w W [dZ w.heap.size 86 14 v (nI x c).length (jR jJ 14 (nI x c)),jU w.heap.size D']:=λE W l he h0 H=>by
  have e1:lZ x c=qW:=by unfold lZ;rw[if_neg (by rw[he];exact h0)]
  have e2:nI x c=[]:=by unfold nI;rw[if_neg (by rw[he];exact h0)]
  refine⟨λ_=>(bX,(none,0)),.slice none 0 0,by rw[e1,he];rfl,λi hi=>by rw[e1];rfl,?_⟩;rw[e2];exact (((H.sub (List.nil_sublist _)).add (Below.refl _ _) (jU w.heap.size (λ_=>(bX,(none,0)))) (λ_ _=>World.ownsRow_nil _ _ _ _) (λj ⟨_,_,e⟩=>absurd e (λe=>nomatch e))).add (Below.refl _ _) (dZ _ _ _ _ _ _) (World.ownsRow_nil _ _ _ _) (λj e=>nomatch e))
 refine bO Tryz.func8 rfl 193 rfl Yd (λA hs hd hb=>?_);have b0:A.eval (.tmp 0)=aP (gJ fr D) 0 297:=hb 0 _ rfl;have b1:A.eval (.tmp 1)=aP (nP x.rd x.bad (.slice lo LL.length lc)) 0 14:=hb 1 _ rfl;clear hb;have H:=Cx.start w;refine aD (aG ?_);refine iG H ?_;clear H;intro w1 H z1;refine iG H ?_;clear H;intro w2 H z2;refine fU H ?_;clear H;intro w3 H z3;iterate 2 refine qa ?_
 refine aC<|aH<|aMC (λA W=>A.tmps.size=193/\A.defers=[]/\A.eval (.tmp 2)=.pointer (some ⟨w.heap.size,0,none⟩)/\A.eval (.tmp 3)=.pointer (some ⟨w1.heap.size,0,none⟩)/\A.eval (.tmp 4)=.pointer (some ⟨w2.heap.size,0,none⟩)/\A.eval (.tmp 35)=.bool (decide (x.bad< -1\/4<=x.bad\/fr<0\/1073741823<fr))/\Cx w W (SS w w1 w2 x lo lc LL fr D)) (λhT=>?_) (λA W hT=>?_)
 .refine aD ?_;iterate 2 refine qa ?_
  by_cases g1:x.bad< -1
  .refine qg (fQ (b:=true) _ _ rfl Qv Qv (Xt g1) _) ?_;refine qa ?_;iterate 3 refine gB ?_
   refine qg (aL _ _ _ rfl Qv Qv _) ?_;refine qa ?_;iterate 3 refine gB ?_
   refine qg (aL _ _ _ rfl Qv Qv _) ?_;refine qa ?_;iterate 3 refine gB ?_
   refine qg (aL _ _ _ rfl Qv Qv _) ?_;refine aC ?_;exact hT _ _ ⟨YA,YB,Qv,Qv,Qv,Eq.trans Qv (by rw[Xt (Or.inl g1)]),H⟩
  refine qg (fQ (b:=false) _ _ rfl Qv Qv (Xf g1) _) ?_;iterate 3 refine qa ?_
  by_cases g2:3<x.bad
  .refine qg (fJ (b:=true) _ _ rfl Qv Qv (Xt g2) _) ?_;refine qg (aR _ _ _ rfl Qv Qv _) ?_;refine qa ?_;iterate 3 refine gB ?_
   refine qg (aL _ _ _ rfl Qv Qv _) ?_;refine qa ?_;iterate 3 refine gB ?_
   refine qg (aL _ _ _ rfl Qv Qv _) ?_;refine aC ?_;exact hT _ _ ⟨YA,YB,Qv,Qv,Qv,Eq.trans Qv (by rw[Xt (show x.bad< -1\/4<=x.bad\/fr<0\/1073741823<fr by omega)]),H⟩
  refine qg (fJ (b:=false) _ _ rfl Qv Qv (Xf g2) _) ?_;refine qg (aR _ _ _ rfl Qv Qv _) ?_;iterate 2 refine qa ?_
  refine qg (aZ (v:=.int .i64 fr) _ _ rfl OneK.out Qv H.v2 Yo rfl) ?_;by_cases g3:fr<0
  .refine qg (fQ (b:=true) _ _ rfl Qv Qv (Xt g3) _) ?_;refine qg (aR _ _ _ rfl Qv Qv _) ?_;refine qa ?_;iterate 3 refine gB ?_
   refine qg (aL _ _ _ rfl Qv Qv _) ?_;refine aC ?_;exact hT _ _ ⟨YA,YB,Qv,Qv,Qv,Eq.trans Qv (by rw[Xt (show x.bad< -1\/4<=x.bad\/fr<0\/1073741823<fr by omega)]),H⟩
  refine qg (fQ (b:=false) _ _ rfl Qv Qv (Xf g3) _) ?_;refine qg (aR _ _ _ rfl Qv Qv _) ?_;iterate 2 refine qa ?_
  refine qg (aZ (v:=.int .i64 fr) _ _ rfl OneK.out Qv H.v2 Yo rfl) ?_;refine qa ?_;refine qg (aR _ _ _ rfl Qv Qv _) ?_;refine aC ?_;exact hT _ _ ⟨YA,YB,Qv,Qv,Qv,Eq.trans Qv (congrArg Value.bool (decide_eq_decide.2 Yo)),H⟩
 clear b0 b1 hs hd H;obtain⟨hs,hd,b2,b3,b4,b35,H⟩:=hT;refine lD b35 (λh=>?_) (λh=>?_)
 .have hE:gK x c=3:=by unfold gK;rw[if_pos (by rw[ecf];exact Xu h)]
  refine aD (aG ?_);refine qg (oC rfl _) ?_;refine eO H.a0 aT (qV _ _ _ _) ?_;clear H;intro w4 H z4;iterate 2 refine qa ?_
  refine aC ?_;exact aW (jK (aN YB (nA rfl Qv Qv Qv ManyK.out H.v0 (Xr _)) (hno 3 _ _ hE Yo H)))
 have g0:=Xg h;refine aS<|aH<|aD (aG ?_);iterate 3 refine qa ?_
 refine qa ?_;refine aC<|dY (λh=>?_) (λh=>?_)
 .have hE:gK x c=6:=by
   have:=Xu h;unfold gK;rw[if_neg (by rw[ecf];exact g0),if_pos Yo]
  refine aD<|qg (oC rfl _) ?_;refine eO H.a0 aT (qV _ _ _ _) ?_;clear H;intro w4 H z4;iterate 2 refine qa ?_
  refine aC ?_;exact aW (jK (aN YB (nA rfl Qv Qv Qv ManyK.out H.v0 (Xr _)) (hno 6 _ _ hE Yo H)))
 have hl4:LL.length<=400:=by have:=Xg h;omega
 refine aS<|aH<|aD<|qa ?_;refine aC<|aK ?_;refine bW (λr A W=>∃i:Nat,i<=4/\4-i<=r/\A.tmps.size=193/\A.defers=[]/\A.eval (.tmp 2)=.pointer (some ⟨w.heap.size,0,none⟩)/\A.eval (.tmp 3)=.pointer (some ⟨w1.heap.size,0,none⟩)/\A.eval (.tmp 4)=.pointer (some ⟨w2.heap.size,0,none⟩)/\A.eval (.tmp 42)=.int .i64 (i:Int)/\(∀j:Nat,j<i->(c.nd j).id=(j:Nat))/\Cx w W (SS w w1 w2 x lo lc LL fr D)) 4
  ⟨0,Xz _,Yo,YA,YB,Qv,Qv,Qv,Qv,λj hj=>absurd hj Yo,H⟩ (λr A W hI=>?_)
 clear b2 b3 b4 b35 hs hd H;obtain⟨i,hi,hr,hs,hd,b2,b3,b4,b42,hid,H⟩:=hI;refine aD (aG ?_);refine qa ?_;refine aC<|aH<|dY (λh=>?_) (λh=>?_)
 .have hin:i<4:=by have:=Xu h;omega
  refine aS<|aH (aK ?_);refine aD ?_;iterate 2 refine qa ?_
  refine aC<|aD ?_;iterate 2 refine qa ?_
  refine qg (bD _ _ _ _ rfl ArrK.out SizK.out Qv Qv rfl hin _) ?_;refine qa ?_;refine qg (aZ (v:=.int .i64 (D i).1.id) _ _ rfl OneK.out Qv H.v2 Yo (CJ fr D (i:=i) (j:=0) Yo)) ?_;refine qa ?_;refine qa ?_;refine aC<|dY (λh=>?_) (λh=>?_)
  .have hE:gK x c=7:=by
    have:=Xu h;unfold gK;rw[if_neg (by rw[ecf];exact g0),if_neg Yo,if_neg (λ⟨e0,e1,e2,e3⟩=>this (by
     rw[<-ecn];have:i=0\/i=1\/i=2\/i=3:=Yo;rcases this with rfl|rfl|rfl|rfl
     .exact e0
     .exact e1
     .exact e2
     .exact e3))]
   refine aD<|qg (oC rfl _) ?_;refine eO H.a0 aT (qV _ _ _ _) ?_;clear H;intro w4 H z4;iterate 2 refine qa ?_
   refine aC ?_;exact aW (yY (jK (UH (yY (jK (aN YB (nA rfl Qv Qv Qv ManyK.out H.v0 (Xr _)) (hno 7 _ _ hE Yo H)))))))
  .have hidi:(D i).1.id=(i:Nat):=by simpa using h
   refine fP<|aI ?_;repeat refine qa ?_
   exact aQ ⟨4-(i+1),Yo,i+1,Yo,Yo,YA,YB,Qv,Qv,Qv,Eq.trans Qv YC,λj hj=>by
    by_cases e:j=i
    .rw[e,ecn];exact hidi
    .exact hid j Yo,H⟩
 obtain rfl:i=4:=by have:=Xg h;omega
 have hE:gK x c=0:=by
  unfold gK;rw[if_neg (by rw[ecf];exact g0),if_neg Yo,if_pos ⟨hid 0 Yo,hid 1 Yo,hid 2 Yo,hid 3 Yo⟩]
 refine bP (dM ?_);refine aD<|qa ?_;refine fU H ?_;clear H;intro w5 H z5;refine eO H.a0 aT (kV _ _) ?_;clear H;intro w6 H z6;refine aC<|aD<|fU H ?_;clear H;intro w7 H z7;refine aC<|aH<|aD<|qa ?_;refine aC<|aK ?_;have hNd:∀k i,k<=5->i<4->NdOK ((gV x c k).nd i):=λk i _ hi=>(uA hip hcl k).1 i hi
 replace H:=(H.add (Below.refl _ _) (yT w.heap.size noM) (aAL _ _) (λj ⟨_,_,e⟩=>e.elim)).f2;replace H:=H.add (Below.refl _ _) (VR w (λi=>(D i,false))) (λi hi=>hag i hi) (λj ⟨_,_,e⟩=>e.elim);refine bW (λr A W'=>∃(k:Nat) (E:Nat->(Nd×Ad)×Bool) (T:Nat->(Ms×Ad)×Option Nat),k<=5/\5-k<=r/\rfA A w w1 w2 W w6 k/\(∀i,i<4->(E i).1.1=(gV x c k).nd i)/\(0<k->∀i,i<4->(E i).2=true)/\(0<k->∀j:Nat,j<4->(j:Int)≠x.bad->(∃b,(T j).2=some b)/\(T j).1.1=uO x fr (gV x c (k-1)) (k-1) j)/\Cx w W' (VR w E::vhI 40 W.heap.size 297 297 (gJ fr (λi=>(E i).1))::yT w.heap.size T::vhI 81 w6.heap.size 4 4 (pJ T)::SS w w1 w2 x lo lc LL fr D)) 5
  ⟨0,λi=>(D i,false),noM,Xz _,Yo,⟨YA,YB,Qv,Qv,Qv,Qv,Qv,Qv⟩,λi hi=>(ecn i).symm,λh=>absurd h Yo,λh=>absurd h Yo,H⟩ (λr A V hI=>?_)
 clear b2 b3 b4 b42 hs hd H;obtain⟨k,E,T,hk,hkr,⟨hs,hd,b2,b3,b4,b8,b9,b10⟩,hE1,hE2,hTm,H⟩:=hI;refine aH<|aD (aG ?_);iterate 2 refine qa ?_
 refine aC<|dY (λh=>?_) (λh=>?_)
 .have hk5:k<5:=by have:=Xu h;omega
  refine aS<|aH (aK ?_);refine aD<|fU H ?_;clear H;intro V1 H z1';obtain⟨b11,eb11⟩:∃b11,b11=V.heap.size:=⟨_,rfl⟩;rw[<-eb11] at H ⊢;refine aC<|aH<|aD<|qa ?_;refine aC<|aK ?_;replace H:=(H.add (Below.refl _ _) (yT w.heap.size noM) (aAL _ _) (λj ⟨_,_,e⟩=>e.elim)).f2.f3.f1;refine bW (λr A W'=>∃(i:Nat) (E':Nat->(Nd×Ad)×Bool) (N:Nat->(Ms×Ad)×Option Nat),i<=4/\4-i<=r/\rfA A w w1 w2 W w6 k/\A.eval (.tmp 11)=.pointer (some ⟨b11,0,none⟩)/\A.eval (.tmp 59)=.int .i64 (i:Int)/\(∀j,j<i->(E' j).1.1=wK x fr (gV x c k) k j/\(E' j).2=true)/\(∀j,i<=j->E' j=E j)/\(∀j:Nat,j<i->(j:Int)≠x.bad->(∃b,(N j).2=some b)/\(N j).1.1=uO x fr (gV x c k) k j)/\Cx w W' (VR w E'::vhI 40 W.heap.size 297 297 (gJ fr (λi=>(E' i).1))::yT w.heap.size N::vhI 81 b11 4 4 (pJ N)::yT w.heap.size T::vhI 81 w6.heap.size 4 4 (pJ T)::SS w w1 w2 x lo lc LL fr D)) 4
   ⟨0,E,noM,Xz _,Yo,⟨YA,YB,Qv,Qv,Qv,Qv,Qv,Qv⟩,Qv,Qv,λj hj=>absurd hj Yo,λ_ _=>rfl,λj hj=>absurd hj Yo,H⟩ (λr A V2 hI=>?_)
  clear b2 b3 b4 b8 b9 b10 hs hd H;obtain⟨i,E',N,hi,hir,⟨hs,hd,b2,b3,b4,b8,b9,b10⟩,b11',b59,hN1,hN2,hN3,H⟩:=hI;refine aD (aG ?_);refine qa ?_;refine aC<|aH<|dY (λh=>?_) (λh=>?_)
  .have hin:i<4:=by have:=Xu h;omega
   have hEi:(E' i).1.1=(gV x c k).nd i:=by rw[hN2 i (Xr _),hE1 i hin]
   have nok:NdOK (E' i).1.1:=by rw[hEi];exact hNd k i hk hin
   refine aS<|aH (aK ?_);refine aD ?_;iterate 2 refine qa ?_
   refine aC<|aH<|aD ?_;iterate 4 refine qa ?_
   refine aC<|dY (λh=>?_) (λh=>?_)
   .have hbad:(i:Int)=x.bad:=Xu h;have hDi:(D i).1=(gV x c k).nd i:=by rw[zP hbad,ecn]
    have dok:NdOK (D i).1:=by rw[hDi];exact hNd k i hk hin
    refine aD ?_;iterate 3 refine qa ?_
    refine qg (bD _ _ _ _ rfl ArrK.out SizK.out Qv Qv rfl hin _) ?_;refine qg (Eq.trans (aX _ _ rfl ManyK.out Qv H.v8 Yo) (by rw[jY (f:=ndF (D i).1 (slV (D i).2 (D i).1.vA.length)) (λj hj=>CJ fr D hj)])) ?_;refine mI (show Calls _ _ #[aP (ndF (D i).1 (slV (D i).2 (D i).1.vA.length)) 0 74] _ _ from nM (D i).1 (D i).2.1 (D i).2.2 _ (Sr.below (hag i hin) H.bel) dok.vA) ?_;rintro e w8 ⟨a',c',rfl,o8,k8⟩;refine⟨aP (ndF (D i).1 (slV (a',c') (D i).1.vA.length)) 0 74,rfl,?_⟩;have hsz:=H.size;replace H:=H.add k8 (wI w.heap.size ((D i).1,(a',c'))) (bZ o8 hsz) (λj e=>(o8.lt j e).1);refine qa ?_;refine qg (bD _ _ _ _ rfl ArrK.out SizK.out Qv Qv rfl hin _) ?_;refine eO H.a2 (DL fr E' i ((D i).1,(a',c'))) (bN _ _ _ _) ?_;clear H;intro w9 H z9;refine aC<|bP (zC ?_);refine aI ?_;repeat refine qa ?_
    exact aQ ⟨4-(i+1),Yo,i+1,dX E' i (((D i).1,(a',c')),true),N,Yo,Yo,⟨YA,YB,Qv,Qv,Qv,Qv,Qv,Qv⟩,Qv,Eq.trans Qv YC,λj hj=>by
     by_cases e:j=i
     .rw[e,dI];refine⟨?_,rfl⟩;show (D i).1=wK x fr (gV x c k) k i
      unfold wK;rw[if_pos hbad,hDi]
     .rw[dC _ _ e];exact hN1 j Yo,λj hj=>by rw[dC _ _ Yo];exact hN2 j Yo,λj hj hb=>hN3 j (by
      have:j≠i:=λe=>hb (by rw[e];exact hbad)
      omega) hb,mU (g:=Z8 w) (y:=(((D i).1,(a',c')),true)) i H⟩
   .have hbad:(i:Int)≠x.bad:=by simpa using h
    refine aS<|aD<|fU H ?_;clear H;intro V3 H z3';obtain⟨b13,eb13⟩:∃b13,b13=V2.heap.size:=⟨_,rfl⟩;rw[<-eb13] at H ⊢;refine aC<|aD<|qa ?_;refine aC<|JB (λA W'=>∃(mo:Option Addr) (mc:Nat) (M:List Lm),rfA A w w1 w2 W w6 k/\A.eval (.tmp 11)=.pointer (some ⟨b11,0,none⟩)/\A.eval (.tmp 12)=.int .i64 (i:Int)/\A.eval (.tmp 13)=.pointer (some ⟨b13,0,none⟩)/\A.eval (.tmp 59)=.int .i64 (i:Int)/\A.eval (.tmp 14)=.slice mo M.length mc/\M.map Lm.m=(gV x c k).bx i/\MRd W' mo M/\M.length<=mc/\Cx w W' (vhI 67 b13 4 4 (msF 0 0 0 (.slice none 0 0))::VR w E'::vhI 40 W.heap.size 297 297 (gJ fr (λi=>(E' i).1))::yT w.heap.size N::vhI 81 b11 4 4 (pJ N)::yT w.heap.size T::vhI 81 w6.heap.size 4 4 (pJ T)::SS w w1 w2 x lo lc LL fr D)) (λhT=>?_) (λA V4 hT=>?_)
    .refine aD ?_;iterate 2 refine qa ?_
     refine aC<|dY (λh=>?_) (λh=>?_)
     .have hk0:0<k:=by have:=Xu h;omega
      refine aI ?_;iterate 4 refine qa ?_
      refine qg (Eq.trans (sJ _ _ rfl Qv Qv Yo Yo _) (by rw[show (k:Int)-1=((k-1:Nat):Int) by omega])) ?_;have hmp:(yT w.heap.size T).p V3:=H.o5;refine aNR (show Calls _ _ #[.int .i64 (i:Int),aP (pJ T) 0 4,aP (nP x.rd x.bad (.slice lo LL.length lc)) 0 14,.int .i64 ((k-1:Nat):Int)] _ _ from BP x (λj=>(T j).1.1) (λj=>(T j).1.2) (λj=>(T j).2.map λb=>⟨b,0,none⟩) lo lc LL i (k-1) _ hx (hj.below H.bel) hl4 (λj hj4 _ hb=>by
       obtain⟨⟨b,eb⟩,em⟩:=hTm hk0 j hj4 hb;obtain⟨v1,v2,v3⟩:=aIs hmp hj4 eb;exact⟨b,by rw[eb];rfl,v1,by rw[em, <-ecf];exact aBb hip hcl hj4 hb,v2,v3⟩)) ?_
      rintro e V5 ⟨mo,mc,M,rfl,hM,oM,k5⟩;refine⟨_,rfl,?_⟩;replace H:=H.call k5;refine qa ?_;refine aC ?_;have hM':M.map Lm.m=(gV x c k).bx i:=by
       rw[hM];obtain⟨k',rfl⟩:∃k',k=k'+1:=⟨k-1,Yo⟩;show _=lY x (uO x c.fr (gV x c k') k') i k' 4
       refine BO (λj hj hb=>?_);rw[(hTm hk0 j hj hb).2,ecf];rfl
      have hMo:=IW hM' ((uA hip hcl k).2 i hin);obtain⟨_,_,em,hmc⟩:=dS oM.1
      cases em
      exact hT _ _ ⟨mo,mc,M,⟨YA,YB,Qv,Qv,Qv,Qv,Qv,Qv⟩,Qv,Qv,Qv,Qv,Qv,hM',oM.rd (λc hc=>by have:=(hMo c hc).n;omega),hmc,H⟩
     .have hk0:k=0:=by have:=Xg h;omega
      refine aS ?_;exact hT _ _ ⟨none,0,[],⟨YA,YB,Qv,Qv,Qv,Qv,Qv,Qv⟩,Qv,Qv,Qv,Qv,Qv,by rw[hk0];rfl,⟨λh=>absurd h (by simp),λ_ h=>absurd h (by simp)⟩,Xr _,H⟩
    .clear b2 b3 b4 b8 b9 b10 b11' b59 hs hd H;obtain⟨mo,mc,M,⟨hs,hd,b2,b3,b4,b8,b9,b10⟩,b11',b12,b13',b59,b14,hM,hMr,hMc,H⟩:=hT;have hMo:=IW hM ((uA hip hcl k).2 i hin);have hMl:M.length<=1600:=by
      have h1:=congrArg List.length hM;rw[List.length_map] at h1;rw[h1];exact VA Yo k i
     refine JB (λA W'=>∃(d:Nd×Ad) (m:Ms×Ad),rfA A w w1 w2 W w6 k/\A.eval (.tmp 11)=.pointer (some ⟨b11,0,none⟩)/\A.eval (.tmp 12)=.int .i64 (i:Int)/\A.eval (.tmp 13)=.pointer (some ⟨b13,0,none⟩)/\A.eval (.tmp 59)=.int .i64 (i:Int)/\d.1=wK x fr (gV x c k) k i/\m.1=uO x fr (gV x c k) k i/\Cx w W' (vhI 67 b13 4 4 (msF m.1.K m.1.F m.1.R (slV m.2 m.1.L.length))::tlJ w.heap.size m::VR w (dX E' i (d,true))::vhI 40 W.heap.size 297 297 (gJ fr (λj=>(dX E' i (d,true) j).1))::yT w.heap.size N::vhI 81 b11 4 4 (pJ N)::yT w.heap.size T::vhI 81 w6.heap.size 4 4 (pJ T)::SS w w1 w2 x lo lc LL fr D)) (λhT2=>?_) (λA V5 hT2=>?_)
     .refine aD (aG ?_);refine qa ?_;refine aC<|aK<|aD ?_;iterate 2 refine qa ?_
      refine aC<|dY (λh=>?_) (λh=>?_)
      .obtain rfl:k=0:=by have:=Xu h;omega
       replace H:=H.drew;have hc8:∀q,q<74->V4.drew.cell? ⟨W.heap.size,0+1+i*74+q,none⟩=some (ndF (E' i).1.1 (slV (E' i).1.2 (E' i).1.1.vA.length) q):=λq hq=>by
        rw[<-CJ fr (λi=>(E' i).1) hq];exact H.v2.cell Yo
       have hcf:V4.drew.cell? ⟨w.heap.size,0+0,none⟩=some (.int .i64 fr):=H.v9.cell (show 0<297 by omega);have hcr:∀q,q<3->V4.drew.cell? ⟨w1.heap.size,0+0+i*3+q,none⟩=some (iV (x.rd i q)):=λq hq=>by
        have:=H.v8.cell (i:=0+0+i*3+q) Yo;rw[this];unfold nP;rw[if_pos Yo,show (0+0+i*3+q)/3=i by omega,show (0+0+i*3+q)%3=q by omega]
       have hS:(λW'=>Below V4.drew.heap.size V4.drew W') V4.drew:=Below.refl _ _;refine fD (S:=λW'=>Below V4.drew.heap.size V4.drew W') (.mv 0 (.mv 1 (.mv 2 (.mv 3 (.rd 4 (.mv 5 (.rd 6 (.mv 7 (.mv 8 (.mv 9 (.rd 10 (.mv 15 (.go 11 (.mv 12 (.mv 13 (.mv 14 (.mv 16 (.go 17 (.go 18 .fin))))))))))))))))))) [17,18] Yl Yl ?_;iterate 3 refine qj ?_
       refine fF rfl rfl (λ_ _ _ h=>h) Yw (λw=>bD _ _ _ _ rfl ArrK.out SizK.out Qv Qv rfl hin w) ?_;refine Yr rfl hS (λ_ H=>iM (g:=ndF (E' i).1.1 (slV (E' i).1.2 (E' i).1.1.vA.length)) ManyK.out (λq hq=>aM (hc8 q hq) H) rfl Qv) ?_;refine qj ?_;refine Yr rfl hS (λ_ H=>GH OneK.out (aM hcf H) rfl Qv) ?_;iterate 2 refine qj ?_
       refine fF rfl rfl (λ_ _ _ h=>h) Yw (λw=>bD _ _ _ _ rfl ArrK.out SizK.out Qv Qv rfl hin w) ?_;refine Yr rfl hS (λ_ H=>iM (g:=λa=>iV (x.rd i a)) ManyK.out (λq hq=>aM (hcr q hq) H) rfl Qv) ?_;refine qj ?_;refine cZ rfl rfl Yw (λK0 hK=>iK _ _ _ _ _ _ rfl Qv Qv Qv (EntK.out _ _) (show Calls _ _ #[aP (ndF (E' i).1.1 (slV (E' i).1.2 (E' i).1.1.vA.length)) 0 74,.int .i64 fr,aP (λa=>iV (x.rd i a)) 0 3] _ _ from XD (E' i).1.1 (E' i).1.2.1 (E' i).1.2.2 fr (x.rd i) _ nok (aBP H.o1 H.bel hin) (by rw[<-ecf];exact hcl.1) (hip.rd i)) ?_);rintro e w10 ⟨a',c',a2,c2,rfl,oA,oV,k10⟩;refine⟨.tuple #[aP (ndF (senN (E' i).1.1 fr (x.rd i)) (slV (a',c') (senN (E' i).1.1 fr (x.rd i)).vA.length)) 0 74,aP (msF (lF (E' i).1.1 fr (x.rd i)).K (lF (E' i).1.1 fr (x.rd i)).F (lF (E' i).1.1 fr (x.rd i)).R (slV (a2,c2) (lF (E' i).1.1 fr (x.rd i)).L.length)) 0 4],by rw[CX];rfl,hK _ _ (λ_ h=>h.trans (k10.mono h.size)) ?_⟩;replace H:=M8 (n:=senN (E' i).1.1 fr (x.rd i)) (a1:=(a',c')) (a2:=(a2,c2)) H k10 (RN oA (CX _ _ _)) oV;iterate 3 refine qj ?_
       refine fF rfl rfl (λ_ _ _ h=>h) Yw (λw=>bD _ _ _ _ rfl ArrK.out SizK.out Qv Qv rfl hin w) ?_;refine dF rfl Yw (λK0 hK=>aO _ _ _ _ rfl ManyK.out Qv Qv H.v4 Yo (bN _ _ _ _) rfl (λw11 m11 k11 z11=>hK _ (λh=>absurd h Yc) ?_));replace H:=H.a4.s k11 (m11.congr (DL fr E' i (senN (E' i).1.1 fr (x.rd i),(a',c'))));refine dF rfl Yw (λK0 hK=>aO _ _ _ _ rfl ManyK.out Qv Qv H.v2 Yo (fC _ _ _ _ _ _) rfl (λw12 m12 k12 z12=>hK _ (λh=>absurd h Yc) ?_));replace H:=H.a2.s k12 (m12.congr aT);refine mW ?_;exact hT2 _ _ ⟨(senN (E' i).1.1 fr (x.rd i),(a',c')),(lF (E' i).1.1 fr (x.rd i),(a2,c2)),⟨YA,YB,Qv,Qv,Qv,Qv,Qv,Qv⟩,Qv,Qv,Qv,Qv,by show senN (E' i).1.1 fr (x.rd i)=wK x fr (gV x c 0) 0 i;rw[hEi];unfold wK;rw[if_neg hbad];rfl,by show lF (E' i).1.1 fr (x.rd i)=uO x fr (gV x c 0) 0 i;rw[hEi];unfold uO;rw[if_neg hbad];rfl,(mU (g:=Z8 w) (y:=((senN (E' i).1.1 fr (x.rd i),(a',c')),true)) i H.f3.f1).f2.f2.f1⟩
      .have h0:=Xg h;refine aD ?_;iterate 2 refine qa ?_
       refine aC<|dY (λh=>?_) (λh1=>?_);have hP:PhK k fr (x.rd i) 24:=by
        obtain rfl:k=1:=by have:=Xu h;omega
        exact⟨_,_,YZ,λ_ _=>rfl,λ_ _=>rfl⟩
       rotate_left
       refine aD ?_;iterate 2 refine qa ?_
       refine aC<|dY (λh=>?_) (λh2=>?_);have hP:PhK k fr (x.rd i) 25:=by
        obtain rfl:k=2:=by have:=Xu h;omega
        exact⟨_,_,TE,λ_ _=>rfl,λ_ _=>rfl⟩
       rotate_left
       refine aD ?_;iterate 2 refine qa ?_
       refine aC<|dY (λh=>?_) (λh3=>?_);have hP:PhK k fr (x.rd i) 26:=by
        obtain rfl:k=3:=by have:=Xu h;omega
        exact⟨_,_,aBw,λ_ _=>rfl,λ_ _=>rfl⟩
       rotate_left
       have hP:PhK k fr (x.rd i) 27:=by
        have h1:=Xg h1;have h2:=Xg h2;have h3:=Xg h3;obtain rfl:k=4:=Yo;exact⟨_,_,YH,λ_ _=>rfl,λ_ _=>rfl⟩
       all_goals
        obtain⟨N',M',hP,eN,eM⟩:=hP;have eN:=eN (E' i).1.1 (M.map Lm.m);have eM:=eM (E' i).1.1 (M.map Lm.m);refine aI ?_;iterate 3 refine qa ?_
        refine qg (bD _ _ _ _ rfl ArrK.out SizK.out Qv Qv rfl hin _) ?_;refine qg (Eq.trans (aX _ _ rfl ManyK.out Qv H.v2 Yo) (by rw[jY (f:=ndF (E' i).1.1 (slV (E' i).1.2 (E' i).1.1.vA.length)) (λj hj=>CJ fr (λi=>(E' i).1) hj)])) ?_;refine qa ?_;refine xQ (show Calls _ _ #[aP (ndF (E' i).1.1 (slV (E' i).1.2 (E' i).1.1.vA.length)) 0 74,.slice mo M.length mc] _ _ from hP (E' i).1.1 (E' i).1.2.1 (E' i).1.2.2 mo mc M _ nok (aBP H.o1 H.bel hin) hMr Yo hMc (λm hm=>(hMo m hm).L)) ?_;rintro e w10 ⟨a',c',a2,c2,rfl,oA,oV,k10⟩;generalize N' (E' i).1.1 (M.map Lm.m)=n' at eN oA ⊢;generalize M' (E' i).1.1 (M.map Lm.m)=m' at eM oV ⊢;refine⟨.tuple #[aP (ndF n' (slV (a',c') n'.vA.length)) 0 74,aP (msF m'.K m'.F m'.R (slV (a2,c2) m'.L.length)) 0 4],rfl,?_⟩;replace H:=M8 (a1:=(a',c')) (a2:=(a2,c2)) H k10 oA oV;iterate 4 refine qa ?_
        refine qg (bD _ _ _ _ rfl ArrK.out SizK.out Qv Qv rfl hin _) ?_;refine eO H.a4 (DL fr E' i (n',(a',c'))) (bN _ _ _ _) ?_;clear H;intro w11 H z11;refine eO H.a2 aT (fC _ _ _ _ _ _) ?_;clear H;intro w12 H z12;refine fB ?_;exact hT2 _ _ ⟨(n',(a',c')),(m',(a2,c2)),⟨YA,YB,Qv,Qv,Qv,Qv,Qv,Qv⟩,Qv,Qv,Qv,Qv,by unfold wK;rw[if_neg hbad, <-hEi, <-hM];exact eN.symm,by unfold uO;rw[if_neg hbad, <-hEi, <-hM];exact eM.symm,(mU (g:=Z8 w) (y:=((n',(a',c')),true)) i H.f3.f1).f2.f2.f1⟩
     .clear b2 b3 b4 b8 b9 b10 b11' b59 b12 b13' b14 hs hd H;obtain⟨d,m,⟨hs,hd,b2,b3,b4,b8,b9,b10⟩,b11',b12,b13',b59,hd1,hm1,H⟩:=hT2;refine aI (aG ?_);refine qa ?_;refine qg (bD _ _ _ _ rfl ArrK.out SizK.out Qv Qv rfl hin _) ?_;refine pK (q:=0+i*1) (g':=pJ (dX N i (m,some b13))) (u:=.pointer (some ⟨b13,0,none⟩)) H.a5 (λj hj=>by rw[show 0+i*1=i by omega];exact aFf N i m b13 j hj) ?_;clear H;intro V6 H z6';refine fB<|aI ?_;repeat refine qa ?_
      exact aQ ⟨4-(i+1),Yo,i+1,dX E' i (d,true),dX N i (m,some b13),Yo,Yo,⟨YA,YB,Qv,Qv,Qv,Qv,Qv,Qv⟩,Qv,Eq.trans Qv YC,λj hj=>by
       by_cases e:j=i
       .rw[e,dI];exact⟨hd1,rfl⟩
       .rw[dC _ _ e];exact hN1 j Yo,λj hj=>by rw[dC _ _ Yo];exact hN2 j Yo,λj hj hb=>by
       by_cases e:j=i
       .rw[e,dI];exact⟨⟨b13,rfl⟩,hm1⟩
       .rw[dC _ _ e];exact hN3 j Yo hb,(mU (g:=mpJ w.heap.size) (y:=(m,some b13)) i H.merge.f3.f1).f2.f2⟩
  .obtain rfl:i=4:=by have:=Xg h;omega
   refine bP (dM ?_);refine aI<|qa ?_;refine eO H.a5 aT (aGe _) ?_;clear H;intro V3 H z3';refine fB<|aI ?_;repeat refine qa ?_
   exact aQ ⟨5-(k+1),Yo,k+1,E',N,Yo,Yo,⟨YA,YB,Qv,Qv,Qv,Qv,Qv,Eq.trans Qv YC⟩,λi hi=>by
    show _=wK x c.fr (gV x c k) k i
    rw[ecf];exact (hN1 i hi).1,λ_ i hi=>(hN1 i hi).2,λ_ j hj hb=>hN3 j hj hb,H.sub (.cons_cons _ (.cons_cons _ (.cons_cons _ (.cons _ (.cons _ (List.Sublist.refl _))))))⟩
 obtain rfl:k=5:=by have:=Xg h;omega
 have hE2:=hE2 Yo;have hTm:=hTm Yo;refine bP (dM ?_);refine aD<|qa ?_;refine aC<|aH<|aD<|qa ?_;refine aC<|aK ?_;replace H:=H.add (Below.refl _ _) (dZ w.heap.size 86 14 (.slice none 0 0) 0 []) (World.ownsRow_nil _ _ _ _) (λj e=>nomatch e);refine bW (λr A W'=>∃(i:Nat) (E':Nat->(Nd×Ad)×Bool) (u:Value),i<=4/\4-i<=r/\(A.tmps.size=193/\A.defers=[]/\A.eval (.tmp 2)=.pointer (some ⟨w.heap.size,0,none⟩)/\A.eval (.tmp 3)=.pointer (some ⟨w1.heap.size,0,none⟩)/\A.eval (.tmp 4)=.pointer (some ⟨w2.heap.size,0,none⟩)/\A.eval (.tmp 8)=.pointer (some ⟨W.heap.size,0,none⟩)/\A.eval (.tmp 9)=.pointer (some ⟨w6.heap.size,0,none⟩))/\A.eval (.tmp 15)=u/\A.eval (.tmp 160)=.int .i64 (i:Int)/\(∀j,j<i->(E' j).1.1=wG x c j)/\(∀j,i<=j->E' j=E j)/\(∀j,j<4->(E' j).2=true)/\Cx w W' (dZ w.heap.size 86 14 u (mO x.bad (gV x c 5).nd (gV x c 5).bx i).length (jR jJ 14 (mO x.bad (gV x c 5).nd (gV x c 5).bx i))::VR w E'::vhI 40 W.heap.size 297 297 (gJ fr (λi=>(E' i).1))::yT w.heap.size T::vhI 81 w6.heap.size 4 4 (pJ T)::SS w w1 w2 x lo lc LL fr D)) 4
  ⟨0,E,_,Xz _,Yo,⟨YA,YB,Qv,Qv,Qv,Qv,Qv⟩,Qv,Qv,λj hj=>absurd hj Yo,λ_ _=>rfl,hE2,H⟩ (λr A V2 hI=>?_)
 clear b2 b3 b4 b8 b9 b10 hs hd H;obtain⟨i,E',u,hi,hir,⟨hs,hd,b2,b3,b4,b8,b9⟩,b15,b160,hN1,hN2,hN3,H⟩:=hI;refine aD (aG ?_);refine qa ?_;refine aC<|aH<|dY (λh=>?_) (λh=>?_)
 .have hin:i<4:=by have:=Xu h;omega
  have hEi:(E' i).1.1=(gV x c 5).nd i:=by rw[hN2 i (Xr _),hE1 i hin]
  have nok:NdOK (E' i).1.1:=by rw[hEi];exact hNd 5 i (Xr _) hin
  refine aS<|aH (aK ?_);refine aD ?_;iterate 2 refine qa ?_
  refine aC<|aH<|aD ?_;iterate 4 refine qa ?_
  refine aC<|dY (λh=>?_) (λh=>?_)
  .have hbad:(i:Int)=x.bad:=Xu h;refine bP (zC ?_);refine aI ?_;repeat refine qa ?_
   exact aQ ⟨4-(i+1),Yo,i+1,E',u,Yo,Yo,⟨YA,YB,Qv,Qv,Qv,Qv,Qv⟩,Qv,Eq.trans Qv YC,λj hj=>by
    by_cases e:j=i
    .rw[e,hEi,zP hbad];unfold wG;rw[if_pos hbad]
    .exact hN1 j Yo,λj hj=>hN2 j Yo,hN3,by rw[aAz hbad];exact H⟩
  .have hbad:(i:Int)≠x.bad:=by simpa using h
   refine aS<|aD<|fU H ?_;clear H;intro V3 H z3';obtain⟨b17,eb17⟩:∃b17,b17=V2.heap.size:=⟨_,rfl⟩;rw[<-eb17] at H ⊢;refine aC<|aH ?_;replace H:=H.drew;have hc8:∀q,q<74->V3.drew.cell? ⟨W.heap.size,0+1+i*74+q,none⟩=some (ndF (E' i).1.1 (slV (E' i).1.2 (E' i).1.1.vA.length) q):=λq hq=>by
    rw[<-CJ fr (λi=>(E' i).1) hq];exact H.v3.cell Yo
   have hc9:∀q,q<4->V3.drew.cell? ⟨w6.heap.size,0+q,none⟩=some (pJ T q):=λq hq=>H.v5.cellz hq
   have hc3:∀q,q<14->V3.drew.cell? ⟨w1.heap.size,0+q,none⟩=some (nP x.rd x.bad (.slice lo LL.length lc) q):=λq hq=>H.v7.cellz hq
   have hmp:(yT w.heap.size T).p V3.drew:=H.o4;have hS:(λW'=>Below V3.drew.heap.size V3.drew W') V3.drew:=Below.refl _ _;refine fD (S:=λW'=>Below V3.drew.heap.size V3.drew W') (.mv 0 (.mv 1 (.mv 2 (.mv 3 (.rd 4 (.mv 5 (.rd 6 (.rd 7 (.mv 13 (.go 8 (.go 9 (.mv 10 (.mv 11 (.mv 12 (.mv 14 (.go 15 (.go 16 .fin))))))))))))))))) [15,16] Yl Yl ?_;iterate 3 refine qj ?_
   refine fF rfl rfl (λ_ _ _ h=>h) Yw (λw=>bD _ _ _ _ rfl ArrK.out SizK.out Qv Qv rfl hin w) ?_;refine Yr rfl hS (λ_ H=>iM (g:=ndF (E' i).1.1 (slV (E' i).1.2 (E' i).1.1.vA.length)) ManyK.out (λq hq=>aM (hc8 q hq) H) rfl Qv) ?_;refine qj ?_;refine Yr rfl hS (λ_ H=>iM (g:=pJ T) ManyK.out (λq hq=>aM (hc9 q hq) H) rfl Qv) ?_;refine Yr rfl hS (λ_ H=>iM (g:=nP x.rd x.bad (.slice lo LL.length lc)) ManyK.out (λq hq=>aM (hc3 q hq) H) rfl Qv) ?_;refine qj ?_;refine cZ rfl rfl Yw (λK0 hK=>?_);refine oF _ _ _ _ _ _ _ rfl Qv Qv Qv Qv (EntK.out _ _) (show Calls _ _ #[.int .i64 (i:Int),aP (pJ T) 0 4,aP (nP x.rd x.bad (.slice lo LL.length lc)) 0 14,.int .i64 ((4:Nat):Int)] _ _ from BP x (λj=>(T j).1.1) (λj=>(T j).1.2) (λj=>(T j).2.map λb=>⟨b,0,none⟩) lo lc LL i 4 _ hx (hj.below H.bel) hl4 (λj hj4 _ hb=>by
    obtain⟨⟨b,eb⟩,em⟩:=hTm j hj4 hb;obtain⟨v1,v2,v3⟩:=aIs hmp hj4 eb;exact⟨b,by rw[eb];rfl,v1,by rw[em, <-ecf];exact aBb hip hcl hj4 hb,v2,v3⟩)) ?_
   rintro e V5 ⟨mo,mc,M,rfl,hM,oM,k5⟩;refine⟨_,rfl,hK _ _ (λ_ h=>h.trans (k5.mono h.size)) ?_⟩;clear hK K0;replace H:=H.call k5;have hM':M.map Lm.m=(gV x c 5).bx i:=by
    rw[hM];show _=lY x (uO x c.fr (gV x c 4) 4) i 4 4
    refine BO (λj hj hb=>?_);rw[(hTm j hj hb).2,ecf]
   have hMo:=IW hM' ((uA hip hcl 5).2 i hin);have hMl:M.length<=1600:=by
    have h1:=congrArg List.length hM';rw[List.length_map] at h1;rw[h1];exact VA Yo 5 i
   obtain⟨_,_,em,hmc⟩:=dS oM.1
   cases em
   have hMr:=oM.rd (λc hc=>by have:=(hMo c hc).n;omega);refine cZ rfl rfl Yw (λK0 hK=>?_);refine dG _ _ _ _ _ rfl Qv Qv (EntK.out _ _) (show Calls _ _ #[aP (ndF (E' i).1.1 (slV (E' i).1.2 (E' i).1.1.vA.length)) 0 74,.slice mo M.length mc] _ _ from XZ (E' i).1.1 (E' i).1.2.1 (E' i).1.2.2 mo mc M _ nok (aBP H.o2 H.bel hin) hMr Yo hmc (λm hm=>(hMo m hm).L)) ?_;rintro e V6 ⟨a',c',rfl,oA,k6⟩;have ecr:qC (E' i).1.1 (M.map Lm.m)=gN (E' i).1.1 (M.map Lm.m):=by
    unfold qC;rw[if_neg (by rw[hEi,aIe hE (Xr _) hin,rY hin];decide)]
   rw[ecr];refine⟨.tuple #[aP (ndF (gN (E' i).1.1 (M.map Lm.m)) (slV (a',c') (gN (E' i).1.1 (M.map Lm.m)).vA.length)) 0 74,aP (jJ (gN (E' i).1.1 (M.map Lm.m))) 0 14],rfl,hK _ _ (λ_ h=>h.trans (k6.mono h.size)) ?_⟩;clear hK K0;have hsz6:=H.size;replace H:=H.add k6 (wI w.heap.size (gN (E' i).1.1 (M.map Lm.m),(a',c'))) (bZ oA hsz6) (λj e=>(oA.lt j e).1);iterate 3 refine qj ?_
   refine fF rfl rfl (λ_ _ _ h=>h) Yw (λw=>bD _ _ _ _ rfl ArrK.out SizK.out Qv Qv rfl hin w) ?_;refine dF rfl Yw (λK0 hK=>aO _ _ _ _ rfl ManyK.out Qv Qv H.v4 Yo (bN _ _ _ _) rfl (λV7 m7 k7 z7'=>hK _ (λh=>absurd h Yc) ?_));replace H:=H.a4.s k7 (m7.congr (DL fr E' i (gN (E' i).1.1 (M.map Lm.m),(a',c'))));refine dF rfl Yw (λK0 hK=>aO _ _ _ _ rfl ManyK.out Qv Qv H.v1 Yo (lK _ _) rfl (λV8 m8 k8 z8'=>hK _ (λh=>absurd h Yc) ?_));replace H:=H.a1.s k8 (m8.congr aT);refine fT<|aI ?_;iterate 2 refine qa ?_
   refine bI rfl Yw (λK0 hK=>CV SlcK.out ManyK.out ZerK.out Yc Yc rfl Qv (λV9 m9 k9 z9'=>hK _ _ ?_));have hsz9:=H.size;replace H:=H.call k9;have hln:=ZW x.bad (gV x c 5).nd (gV x c 5).bx i;refine aCb (bytes:=80) H.a2 (vD (I9 (B:=w.heap.size) (F:=jJ) (x:=gN (E' i).1.1 (M.map Lm.m)) m9 Yo)) (wS (λx _=>lK x 3)) Ym Yo ?_;clear H;intro u' V10 H;refine qa ?_;refine fB<|aI ?_;repeat refine qa ?_
   have ecl:mO x.bad (gV x c 5).nd (gV x c 5).bx (i+1)=mO x.bad (gV x c 5).nd (gV x c 5).bx i++[gN (E' i).1.1 (M.map Lm.m)]:=by rw[SE hbad,hEi,hM']
   refine aQ ⟨4-(i+1),Yo,i+1,dX E' i ((gN (E' i).1.1 (M.map Lm.m),(a',c')),true),u',Yo,Yo,⟨YA,YB,Qv,Qv,Qv,Qv,Qv⟩,Qv,Eq.trans Qv YC,λj hj=>?_,λj hj=>by rw[dC _ _ Yo];exact hN2 j Yo,λj hj=>?_,?_⟩
   .by_cases e:j=i
    .rw[e,dI];show gN (E' i).1.1 (M.map Lm.m)=wG x c i
     unfold wG;rw[if_neg hbad,hEi,hM']
    .rw[dC _ _ e];exact hN1 j Yo
   .by_cases e:j=i
    .rw[e,dI]
    .rw[dC _ _ e];exact hN3 j hj
   .rw[ecl,List.length_append,wR];exact (mU (g:=Z8 w) (y:=((gN (E' i).1.1 (M.map Lm.m),(a',c')),true)) i H.f3.f1).f2.f2.tl
 obtain rfl:i=4:=by have:=Xg h;omega
 refine bP (dM ?_);refine aD<|qa ?_;refine qg (aZ (v:=.int .i64 fr) _ _ rfl OneK.out Qv H.v2 Yo rfl) ?_;have hfr:=JY hE;rw[ecf] at hfr;iterate 2 refine qa ?_
 refine pK (q:=0+0) (g':=gJ (fr+1) (λi=>(E' i).1)) (u:=.int .i64 (fr+1)) H.a2 (λj hj=>by
  unfold stW gJ nO;by_cases e:j=0
  .rw[if_pos Yo,if_pos e];rfl
  .rw[if_neg Yo,if_neg e,if_neg e]) ?_
 clear H;intro V4 H z4';refine aC<|aD ?_;iterate 2 refine qa ?_
 refine eO H.a5 aT (kV _ _) ?_;clear H;intro V5 H z5';iterate 2 refine qa ?_
 refine aC ?_;have e1:lZ x c=⟨fr+1,wG x c⟩:=by unfold lZ;rw[if_pos hE,ecf]
 have e2:=aDm (Dn:=(gV x c 5).nd) (Bn:=(gV x c 5).bx) hE (λ_ _=>rfl) (λ_ _=>rfl);rw[e2] at H;refine aW (aN YB (nA rfl Qv Qv Qv ManyK.out H.v5 (Xr _)) ⟨λi=>(E' i).1,u,by rw[e1,hE],λi hi=>by rw[e1];exact hN1 i hi,?_⟩);exact (H.f1.wk (y:=jU w.heap.size (λi=>(E' i).1)) (λh i hi=>by
  have h1:(Z8 w (E' i)).p V5:=h i hi;unfold Z8 at h1;rw[if_pos (hN3 i hi)] at h1;exact h1) (λk ⟨i,hi,hk⟩=>⟨i,hi,by
  show (Z8 w (E' i)).foot k
  unfold Z8;rw[if_pos (hN3 i hi)];exact hk⟩)).f1.sub (.cons_cons _ (.cons_cons _ (List.nil_sublist _)))
def RlE(r s:Rl):Prop:=∀j,j<4->r.I j=s.I j/\r.M j=s.M j/\r.J j=s.J j
theorem RlE.symm{r s:Rl}(h:RlE r s):RlE s r:=λj hj=>⟨(h j hj).1.symm,(h j hj).2.1.symm,(h j hj).2.2.symm⟩
theorem RlE.trans{r s t:Rl}(h:RlE r s)(h':RlE s t):RlE r t:=λj hj=>⟨(h j hj).1.trans (h' j hj).1,(h j hj).2.1.trans (h' j hj).2.1,(h j hj).2.2.trans (h' j hj).2.2⟩
theorem RlE.refl(r:Rl):RlE r r:=λ_ _=>⟨rfl,rfl,rfl⟩
section
variable {x:Ip} {c:Cl}
end
structure Inv (t:Tn) (bad:Int) (c:Cl):Prop where
 id:∀i,i<4->(c.nd i).id=(i:Nat)
 tn:∀i,i<4->(c.nd i).tn=t
 ax:∀i k:Nat,i<4->k<4->(i:Int)≠bad->(k:Int)≠bad->∀a,a<3->(c.nd i).ax a=(c.nd k).ax a
 rl:∀i k:Nat,i<4->k<4->(i:Int)≠bad->(k:Int)≠bad->RlE (c.nd i).rl (c.nd k).rl
 gd:∀i:Nat,i<4->(i:Int)≠bad->lH (c.nd i).rl=true
 on:∀i s:Nat,i<4->s<4->(i:Int)≠bad->(s:Int)≠bad->(c.nd i).rl.I s=true/\(c.nd i).rl.M s=0
theorem tT(t:Tn)(hi:i<4):iQ (i:Nat) t={ bX with id:=(i:Nat),tn:=t,ax:=λ_=>St.beg0,rl:=beginR }:=by
 unfold iQ;rw[if_neg (by rw[rY hi];decide)]
theorem aHs(t:Tn)(bad:Int):Inv t bad (M9 t) where
 id i hi:=by show (iQ (i:Nat) t).id=_;rw[tT t hi]
 tn i hi:=by show (iQ (i:Nat) t).tn=_;rw[tT t hi]
 ax i k hi hk _ _ a _:=by show (iQ (i:Nat) t).ax a=(iQ (k:Nat) t).ax a;rw[tT t hi,tT t hk]
 rl i k hi hk _ _:=by show RlE (iQ (i:Nat) t).rl (iQ (k:Nat) t).rl;rw[tT t hi,tT t hk];exact RlE.refl _
 gd i hi _:=by show lH (iQ (i:Nat) t).rl=true;rw[tT t hi];rfl
 on i s hi _ _ _:=by show (iQ (i:Nat) t).rl.I s=true/\(iQ (i:Nat) t).rl.M s=0;rw[tT t hi];exact⟨rfl,rfl⟩
section
variable {t:Tn} {bad:Int} {x:Ip} {c:Cl}
end
section
variable {t:Tn} {bad:Int} {x:Ip} {c:Cl}
end
section
variable {x:Ip} {c:Cl}
end
section
variable {n:Nd} {l m:List Ms}
end
structure Al (t:Tn) (b:Nat) (q:Nat) (c:Cl):Prop where
 id:∀i,i<4->(c.nd i).id=(i:Nat)
 tn:∀i,i<4->(c.nd i).tn=t
 ax:∀i k:Nat,i<4->k<4->∀a,a<3->(c.nd i).ax a=(c.nd k).ax a
 rl:∀i k:Nat,i<4->k<4->RlE (c.nd i).rl (c.nd k).rl
 gd:∀i:Nat,i<4->lH (c.nd i).rl=true
 on:∀i s:Nat,i<4->s<4->s≠b->(c.nd i).rl.I s=true/\(c.nd i).rl.M s=0
 jn:∀i,i<4->((c.nd i).rl.I b=true)\/(q:Int)<=(c.nd i).rl.J b
section
variable {t:Tn} {b:Nat} {x:Ip} {c:Cl}
end
variable{l:List It}
theorem Cx.plus{w':World}{m:List It}(H:Cx w0 w l)(G:Cx w w' m):Cx w0 w' (m++l):=by
 have H':=H.call G.bel;have hs:=H.size;refine⟨H'.bel,λx hx=>?_,λx hx k hk=>?_,List.pairwise_append.2 ⟨G.dis,H.dis,λx hx y hy k h1 h2=>?_⟩⟩
 .rcases List.mem_append.1 hx with hx|hx
  .exact G.it x hx
  .exact H'.it x hx
 .rcases List.mem_append.1 hx with hx|hx
  .have:=G.up x hx k hk;omega
  .exact H.up x hx k hk
 .have h3:=G.up x hx k h1;have h4:=y.lt (H.it y hy) h2;omega
theorem vP{C:Nat}{t:TypeId}{s:Nat}{n:Nat}{xs:List Value}(H:Cx w0 w (dZ B t s v n xs::l))(h:C<=B):Cx w0 w (dZ C t s v n xs::l):=H.wk (λh1=>bZ h1 h) (λ_ h=>h)
variable{D:Nat->Nd×Ad}
theorem qM{C:Nat}(H:Cx w0 w (jU B D::l))(h:C<=B):Cx w0 w (jU C D::l):=H.wk (λh1 i hi=>bZ (h1 i hi) h) (λ_ h=>h)
variable{c:Cl}{x:Ip}
theorem aFF(h1: -1<=x.bad/\x.bad<4)(h2:0<=c.fr/\c.fr<=1073741823)(h3:x.ly.length<=400)(h4:∀i,i<4->(c.nd i).id=(i:Nat)):gK x c=0:=by grind [gK]
theorem NK{fr:Int}(hf:c.fr=fr)(hn:∀i,i<4->(D i).1=c.nd i):gK x ⟨fr,λi=>(D i).1⟩=gK x c/\(lZ x ⟨fr,λi=>(D i).1⟩).fr=(lZ x c).fr/\(∀i,i<4->(lZ x ⟨fr,λi=>(D i).1⟩).nd i=(lZ x c).nd i)/\nI x ⟨fr,λi=>(D i).1⟩=nI x c:=by
 have hk:∀k,∀i,i<4->(gV x ⟨fr,λi=>(D i).1⟩ k).nd i=(gV x c k).nd i/\(gV x ⟨fr,λi=>(D i).1⟩ k).bx i=(gV x c k).bx i:=by
  intro k
  induction k with
  |zero=>exact λi hi=>⟨hn i hi,rfl⟩
  |succ k ih=>
   intro i hi;obtain⟨h1,h2⟩:=ih i hi;refine⟨?_,?_⟩
   .show wK x fr _ k i=wK x c.fr _ k i
    rw[hf];exact (Y8 h1 h2).1
   .show lY x _ i k 4=lY x _ i k 4
    refine BQ λj hj=>?_
    obtain⟨h3,h4⟩:=ih j hj;show uO x fr _ k j=uO x c.fr _ k j
    rw[hf];exact (Y8 h3 h4).2
 have hN:∀i,i<4->wG x ⟨fr,λi=>(D i).1⟩ i=wG x c i:=λi hi=>by
  unfold wG;rw[(hk 5 i hi).1,(hk 5 i hi).2];show (if _ then (D i).1 else _)=_
  rw[hn i hi]
 have hE:gK x ⟨fr,λi=>(D i).1⟩=gK x c:=by
  unfold gK;dsimp only;simp only[hf,hn 0 Yo,hn 1 Yo,hn 2 Yo,hn 3 Yo]
 refine⟨hE,?_,λi hi=>?_,?_⟩
 .unfold lZ;rw[hE];split
  .show fr+1=c.fr+1;rw[hf]
  .rfl
 .unfold lZ;rw[hE];split
  .exact hN i hi
  .rfl
 .unfold nI;rw[hE];split
  .refine List.map_congr_left λi hi=>hN i ?_
   unfold KR at hi;exact List.mem_range.1 (List.mem_filter.1 hi).1
  .rfl
def rK(t:Tn)(L:List Li)(k:Nat):Rn:=((L.take k).map Li.x).foldl oD ⟨M9 t,[],0⟩
variable{k:Nat}{L:List Li}{t:Tn}{c:Li}
theorem aAJ(h:L[k]?=some c):rK t L (k+1)=oD (rK t L k) c.x:=by
 unfold rK;rw[List.take_add_one,h,List.map_append,List.foldl_append];rfl
variable{s:Rn}
theorem aAO(h:s.e≠0):∀l:List Ip,l.foldl oD s=s
 |[]=>rfl
 |x::l=>by
  show l.foldl oD (oD s x)=s
  have:oD s x=s:=by unfold oD;rw[if_neg h]
  rw[this];exact aAO h l
theorem GZ(hl:L.length<=200)(h:L.length<=k\/(rK t L k).e≠0):rP t (L.map Li.x)=rK t L k:=by
 unfold rP;rw[if_neg (by rw[List.length_map];omega)];have e:L.map Li.x=(L.take k).map Li.x++(L.drop k).map Li.x:=by rw[<-List.map_append,List.take_append_drop]
 rw[e,List.foldl_append];show ((L.drop k).map Li.x).foldl oD (rK t L k)=_
 rcases h with h|h
 .rw[List.drop_of_length_le h];rfl
 .exact aAO h _
theorem aCJ(h:s.e=0)(hE:gK x s.c=0):oD s x=⟨lZ x s.c,s.r++nI x s.c,0⟩:=by unfold oD;rw[if_pos h,if_pos hE]
theorem aEh(h:s.e=0)(hE:gK x s.c≠0):oD s x=⟨qW,[],gK x s.c⟩:=by unfold oD;rw[if_pos h,if_neg hE]
def RuC(fn:Nat):Prop:=∀(t:Tn) (mo:Option Addr) (mc:Nat) (L:List Li) (w:World),t.Ok->RdS qN 14 w mo L->(∀c,c∈L->LiOK w c)->
 Calls Tryz.prog fn #[aP (jA t) 0 4,.slice mo L.length mc] w λe w'=>∃(D:Nat->Nd×Ad) (v:Value),e=.returned (.tuple #[aP (gJ (rP t (L.map Li.x)).c.fr D) 0 297,v,.int .i64 (rP t (L.map Li.x)).e])/\(∀i,i<4->(D i).1=(rP t (L.map Li.x)).c.nd i)/\Cx w w' [dZ w.heap.size 86 14 v (rP t (L.map Li.x)).r.length (jR jJ 14 (rP t (L.map Li.x)).r),jU w.heap.size D]
theorem ME(x:Ip)(c:Cl):(nI x c).length<=4:=by grind [nI,KR]
theorem aGE:RuC 12:=by
 intro t mo mc L w ht hr hok;refine bO Tryz.func12 rfl 44 rfl Yd (λA hs hd hb=>?_);have b0:A.eval (.tmp 0)=aP (jA t) 0 4:=hb 0 _ rfl;have b1:A.eval (.tmp 1)=.slice mo L.length mc:=hb 1 _ rfl;clear hb;have H:=Cx.start w;refine aD (aG ?_);refine iG H ?_;intro w1 H z1;refine fU H ?_;intro w2 H z2;iterate 2 refine qa ?_
 refine aC<|aH<|aD ?_;iterate 3 refine qa ?_
 refine aC<|dY (λh=>?_) (λh=>?_)
 .have hl:200<L.length:=by have:=Xu h;omega
  have eF:rP t (L.map Li.x)=⟨qW,[],6⟩:=by unfold rP;rw[if_pos (by rw[List.length_map];exact hl)]
  refine aD<|qg (oC rfl _) ?_;refine eO H.a0 aT (qV _ _ _ _) ?_;intro w3 H z3;repeat first|refine qa ?_|refine aC ?_
  refine aW (jK (aN YB (nA rfl Qv Qv Qv ManyK.out H.v0 (Xr _)) ⟨λ_=>(bX,(none,0)),_,by rw[eF];rfl,λi hi=>by rw[eF];rfl,?_⟩));rw[eF];exact ((H.tl.tl.add (Below.refl _ _) (jU w.heap.size (λ_=>(bX,(none,0)))) (λ_ _=>World.ownsRow_nil _ _ _ _) (λj ⟨_,_,e⟩=>absurd e (λe=>nomatch e))).add (Below.refl _ _) (dZ _ _ _ _ _ _) (World.ownsRow_nil _ _ _ _) (λj e=>nomatch e))
 have hl:L.length<=200:=by have:=Xg h;omega
 refine aS<|aD<|qa ?_;have hsz:=H.size;refine mI (aBV t w2 ht) ?_;rintro e w3 ⟨D0,rfl,hD0,G⟩;refine⟨_,rfl,?_⟩;replace H:=qM (H.plus G) hsz;refine fU H ?_;intro w4 H z4;refine eO H.a0 aT (kV _ _) ?_;intro w5 H z5;refine aC<|aD<|qa ?_;refine aC<|aH<|aD ?_;iterate 3 refine qa ?_
 refine aC<|aK ?_;have z0:(rK t L 0).c.fr=0/\(rK t L 0).e=0:=by unfold rK;rw[List.take_zero];exact⟨rfl,rfl⟩
 have zc:∀i,(rK t L 0).c.nd i=iQ (i:Nat) t:=λi=>by unfold rK;rw[List.take_zero];rfl
 have zr:(rK t L 0).r=[]:=by unfold rK;rw[List.take_zero];rfl
 refine bW (λr A W => ∃ (k : Nat) (D : Nat -> Nd × Ad) (v : Value), k <= L.length /\ L.length - k <= r /\ A.tmps.size = 44 /\ A.defers = [] /\ A.eval (.tmp 4) = .pointer (some ⟨w1.heap.size, 0, none⟩) /\ A.eval (.tmp 7) = .pointer (some ⟨w3.heap.size, 0, none⟩) /\ A.eval (.tmp 8) = v /\ A.eval (.tmp 20) = .slice mo L.length mc /\ A.eval (.tmp 21) = .int .i64 (L.length : Int) /\ A.eval (.tmp 22) = .int .i64 (k : Int) /\ (rK t L k).e = 0 /\ (rK t L k).r.length <= 4 * k /\ rA (rK t L k).c /\ (∀ i, i < 4 -> (D i).1 = (rK t L k).c.nd i) /\
   Cx w W [vhI 40 w3.heap.size 297 297 (gJ (rK t L k).c.fr D),jU w.heap.size D,dZ w.heap.size 86 14 v (rK t L k).r.length (jR jJ 14 (rK t L k).r),vhI 40 w1.heap.size 297 297 (nO 0 (λ_=>bX) (λ_=>slV (none,0) 0))]) L.length
  ⟨0,D0,_,Xz _,Yo,YA,YB,Qv,Qv,Qv,Qv,Qv,Qv,z0.2,by rw[zr];exact Xz _,by unfold rK;rw[List.take_zero];exact MZ ht,λi hi=>(hD0 i hi).trans (zc i).symm,?_⟩ (λr B W hI=>?_)
 .rw[z0.1,zr];have H1:=H.sub (List.Sublist.cons_cons _ (List.Sublist.cons_cons _ (List.Sublist.cons_cons _ (List.nil_sublist _))));exact (H1.add (Below.refl _ _) (dZ w.heap.size 86 14 (.slice none 0 0) 0 []) (World.ownsRow_nil _ _ _ _) (λj e=>nomatch e)).b2
 clear b0 b1 hs hd H;obtain⟨k,D,v,hk,hrr,hs,hd,b4,b7,b8,b20,b21,b22,hE0,hrl,hcl,hD,H⟩:=hI;refine aD (aG ?_);repeat first|refine qa ?_|refine aC ?_|refine aH ?_
 refine dY (λh=>?_) (λh=>?_)
 .have kn:k<L.length:=by have:=Xu h;omega
  have hc:=List.getElem?_eq_getElem kn;obtain⟨cc,ec⟩:∃cc,cc=L[k]:=⟨_,rfl⟩;rw[<-ec] at hc;have hcc:=hok cc (List.mem_of_getElem? hc);obtain⟨pb,po,rfl,hcell⟩:=hr Yo;have hcell:=hcell k cc hc;obtain⟨s,es⟩:∃s,s=rK t L k:=⟨_,rfl⟩;have hsx:=aAJ (t:=t) hc;rw[<-es] at hE0 hrl hcl hD H hsx;obtain⟨p1,p2,p3,p4⟩:=NK (x:=cc.x) (fr:=s.c.fr) rfl hD;have hcls:rA ⟨s.c.fr,λi=>(D i).1⟩:=⟨hcl.1,λi hi=>by show NdOK (D i).1;rw[hD i hi];exact hcl.2 i hi⟩;refine aS<|aH (aK ?_);refine aD<|qg (mQ _ _ _ _ rfl SlcK.out SizK.out Qv Qv rfl kn _) ?_;refine qg (iM (g:=qN cc) ManyK.out (λj hj=>aM (hcell j hj) H.bel) rfl Qv) ?_;refine fU H ?_;intro w6 H z6;refine eO H.a0 aT (MJ _ _ _ _ _) ?_;intro w7 H z7;refine aC<|aD ?_;iterate 2 refine qa ?_
  have hag:∀i,i<4->sD w7 (D i).1 (D i).2.1 (D i).2.2:=λi hi=>by
   have ho:World.ownsRow _ _ _ _ _ _ _:=H.o2 i hi;obtain⟨a3,c3,e,hs3,_⟩:=iH ho
   cases e
   exact hs3
  have hsz:=H.size;refine xQ (aGR cc.x s.c.fr D cc.lo cc.lc cc.LL _ rfl hcc.ip hcls hag (hcc.jr.below H.bel)) ?_;rintro e w8 ⟨D',vr,rfl,hD',G⟩;rw[p4] at G;replace H:=H.plus G;refine⟨_,rfl,?_⟩;refine qa ?_;refine qg (jM _ rfl Qv _) ?_;refine qg (jO _ rfl Qv _) ?_;refine qg (jP _ rfl Qv _) ?_;refine fU H ?_;intro w9 H z9;refine eO H.a0 aT (kV _ _) ?_;intro w10 H z10;iterate 2 refine qa ?_
  refine aC<|aH<|aD<|qa ?_;refine qg (P6 _ _ rfl Qv Qv rfl _) ?_;refine aC<|dY (λh=>?_) (λh=>?_)
  .have hE:gK cc.x s.c≠0:=by rw[<-p1];exact Xu h
   rw[aEh hE0 hE] at hsx;have eF:rP t (L.map Li.x)=⟨qW,[],gK cc.x s.c⟩:=(GZ hl (k:=k+1) (Or.inr (by rw[hsx];exact hE))).trans hsx;refine aD<|qg (oC rfl _) ?_;refine qa ?_;refine eO H.a7 aT (qV _ _ _ _) ?_;intro w11 H z11;repeat first|refine qa ?_|refine aC ?_
   refine aW (jK (yY (jK (UH (yY (jK (aN YB (nA rfl Qv Qv Qv ManyK.out H.v7 (Xr _)) ⟨λ_=>(bX,(none,0)),_,by rw[eF];rw[p1];rfl,λi hi=>by rw[eF];rfl,?_⟩)))))));rw[eF];exact (((H.sub (List.nil_sublist _)).add (Below.refl _ _) (jU w.heap.size (λ_=>(bX,(none,0)))) (λ_ _=>World.ownsRow_nil _ _ _ _) (λj ⟨_,_,e⟩=>absurd e (λe=>nomatch e))).add (Below.refl _ _) (dZ _ _ _ _ _ _) (World.ownsRow_nil _ _ _ _) (λj e=>nomatch e))
  have hE:gK cc.x s.c=0:=by
   have:decide (gK cc.x ⟨s.c.fr,λi=>(D i).1⟩≠0)=false:=h;rw[p1] at this
   simpa using this
  rw[aCJ hE0 hE] at hsx;refine aS ?_;replace H:=H.drew;have hvr:World.ownsRow _ _ _ _ _ _ _:=H.o1;have hr4:=ME cc.x s.c;have hS:(λW'=>Its [vhI 40 w8.heap.size 297 297 (gJ (lZ cc.x ⟨s.c.fr,λi=>(D i).1⟩).fr D')] W') w10.drew:=Its.cons H.o0 (Its.nil _);refine fD (S:=λW'=>Its [vhI 40 w8.heap.size 297 297 (gJ (lZ cc.x ⟨s.c.fr,λi=>(D i).1⟩).fr D')] W') (.rd 0 (.mv 1 (.mv 2 (.go 3 (.go 4 (.mv 5 .fin)))))) [4] Yl Yl ?_;refine Yr rfl hS (λ_ H=>aX _ _ rfl ManyK.out Qv H.v0 Yo) ?_;iterate 2 refine qj ?_
  refine cZ rfl rfl Yw (λK hK=>?_);refine oJ (bytes:=80) rfl inferInstance H.size Qv Qv H.o6 (vD hvr) (wS (λx _=>lK _ _)) Ym Yo ?_;intro v11 w11 h11 k11 f11;replace H:=H.a6.put (y:=(dZ w.heap.size 86 14 v11 (s.r.length+(nI cc.x s.c).length) (jR jJ 14 s.r++jR jJ 14 (nI cc.x s.c)))) ⟨k11.os,k11.tape,k11.output,k11.size,λj h5 h6=>k11.block j h5 (λe=>h6 e.symm),h11,f11⟩;refine hK _ _ (λ_ _=>Its.cons H.o0 (Its.nil _)) ?_;clear hK K;refine dF rfl Yw (λK hK=>?_);refine aO _ _ _ _ rfl ManyK.out Qv Qv H.v4 Yo (kV _ _) rfl ?_;intro w12 m12 k12 z12;replace H:=H.a4.s k12 (m12.congr aT);refine hK _ (λh=>absurd h Yc) ?_;clear hK K hS;refine qj ?_;refine mW<|aI ?_;repeat refine qa ?_
  refine aQ ⟨L.length-(k+1),Yo,k+1,D',_,Yo,Yo,YA,YB,Qv,Qv,Qv,Qv,Qv,Eq.trans Qv YC,by rw[hsx],?_,?_,?_,?_⟩
  .rw[hsx,List.length_append];omega
  .rw[hsx];exact WL hcc.ip hcl
  .rw[hsx];exact λi hi=>(hD' i hi).trans (p3 i hi)
  .rw[hsx];show Cx w _ [vhI _ _ 297 297 (gJ (lZ cc.x s.c).fr D'),_,dZ _ _ _ _ (s.r++nI cc.x s.c).length (jR jJ 14 (s.r++nI cc.x s.c)),_]
   rw[List.length_append,wR, <-p2];have H2:=qM H.f2 hsz;exact H2.f4.sub (.cons_cons _ (.cons_cons _ (.cons _ (.cons _ (.cons _ (.cons _ (.cons_cons _ (.cons_cons _ (List.nil_sublist _)))))))))
 .have ek:k=L.length:=by have:=Xg h;omega
  have eF:rP t (L.map Li.x)=rK t L k:=GZ hl (Or.inl Yo);refine bP (dM ?_);refine aD ?_;iterate 2 refine qa ?_
  refine eO H.a3 aT (kV _ _) ?_;intro w6 H z6;repeat first|refine qa ?_|refine aC ?_
  refine aW (aN YB (nA rfl Qv Qv Qv ManyK.out H.v3 (Xr _)) ⟨D,_,by rw[eF,hE0],by rw[eF];exact hD,?_⟩);rw[eF];exact H.tl.f1.sub (.cons_cons _ (.cons_cons _ (List.nil_sublist _)))
set_option maxRecDepth 10000 in
theorem aDK:RuC 13:=by
 intro t mo mc L w ht hr hok;refine bO Tryz.func13 rfl 45 rfl Yd (λA hs hd hb=>?_);have b0:A.eval (.tmp 0)=aP (jA t) 0 4:=hb 0 _ rfl;have b1:A.eval (.tmp 1)=.slice mo L.length mc:=hb 1 _ rfl;clear hb;have H:=Cx.start w;refine aD (aG ?_);refine iG H ?_;clear H;intro w1 H z1;refine fU H ?_;clear H;intro w2 H z2;iterate 2 refine qa ?_
 refine aC<|aH<|aD ?_;iterate 3 refine qa ?_
 refine aC<|dY (λh=>?_) (λh=>?_)
 .have hl:200<L.length:=by have:=Xu h;omega
  have eF:rP t (L.map Li.x)=⟨qW,[],6⟩:=by unfold rP;rw[if_pos (by rw[List.length_map];exact hl)]
  refine aD<|qg (oC rfl _) ?_;refine eO H.a0 aT (qV _ _ _ _) ?_;clear H;intro w3 H z3;iterate 2 refine qa ?_
  refine aC<|aW (jK (aN YB (nA rfl Qv Qv Qv ManyK.out H.v0 (Xr _)) ⟨λ_=>(bX,(none,0)),_,by rw[eF];rfl,λi hi=>by rw[eF];rfl,?_⟩));rw[eF];exact ((H.tl.tl.add (Below.refl _ _) (jU w.heap.size (λ_=>(bX,(none,0)))) (λ_ _=>World.ownsRow_nil _ _ _ _) (λj ⟨_,_,e⟩=>absurd e (λe=>nomatch e))).add (Below.refl _ _) (dZ _ _ _ _ _ _) (World.ownsRow_nil _ _ _ _) (λj e=>nomatch e))
 have hl:L.length<=200:=by have:=Xg h;omega
 refine aS<|aD<|qa ?_;have hsz:=H.size;refine mI (Y4 t w2 ht) ?_;rintro e w3 ⟨D0,rfl,hD0,G⟩;refine⟨_,rfl,?_⟩;replace H:=qM (H.plus G) hsz;refine fU H ?_;clear H;intro w4 H z4;refine eO H.a0 aT (kV _ _) ?_;clear H;intro w5 H z5;refine aC<|aD<|qa ?_;refine aC<|aH<|aD ?_;iterate 3 refine qa ?_
 refine aC<|aK ?_;have z0:(rK t L 0).c.fr=0/\(rK t L 0).e=0:=by unfold rK;rw[List.take_zero];exact⟨rfl,rfl⟩
 have zc:∀i,(rK t L 0).c.nd i=iQ (i:Nat) t:=λi=>by unfold rK;rw[List.take_zero];rfl
 have zr:(rK t L 0).r=[]:=by unfold rK;rw[List.take_zero];rfl
 refine bW (λr A W => ∃ (k : Nat) (D : Nat -> Nd × Ad) (v : Value), k <= L.length /\ L.length - k <= r /\ A.tmps.size = 45 /\ A.defers = [] /\ A.eval (.tmp 1) = .slice mo L.length mc /\ A.eval (.tmp 4) = .pointer (some ⟨w1.heap.size, 0, none⟩) /\ A.eval (.tmp 7) = .pointer (some ⟨w3.heap.size, 0, none⟩) /\ A.eval (.tmp 8) = v /\ A.eval (.tmp 20) = .int .i64 (L.length : Int) /\ A.eval (.tmp 21) = .int .i64 (k : Int) /\ (rK t L k).e = 0 /\ (rK t L k).r.length <= 4 * k /\ rA (rK t L k).c /\ (∀ i, i < 4 -> (D i).1 = (rK t L k).c.nd i) /\
   Cx w W [vhI 40 w3.heap.size 297 297 (gJ (rK t L k).c.fr D),jU w.heap.size D,dZ w.heap.size 86 14 v (rK t L k).r.length (jR jJ 14 (rK t L k).r),vhI 40 w1.heap.size 297 297 (nO 0 (λ_=>bX) (λ_=>slV (none,0) 0))]) L.length
  ⟨0,D0,_,Xz _,Yo,YA,YB,Qv,Qv,Qv,Qv,Qv,Qv,z0.2,by rw[zr];exact Xz _,by unfold rK;rw[List.take_zero];exact MZ ht,λi hi=>(hD0 i hi).trans (zc i).symm,?_⟩ (λr B W hI=>?_)
 .rw[z0.1,zr];have H1:=H.sub (List.Sublist.cons_cons _ (List.Sublist.cons_cons _ (List.Sublist.cons_cons _ (List.nil_sublist _))));exact (H1.add (Below.refl _ _) (dZ w.heap.size 86 14 (.slice none 0 0) 0 []) (World.ownsRow_nil _ _ _ _) (λj e=>nomatch e)).b2
 clear b0 b1 hs hd H;obtain⟨k,D,v,hk,hrr,hs,hd,b1,b4,b7,b8,b20,b21,hE0,hrl,hcl,hD,H⟩:=hI;refine aD (aG ?_);refine qa ?_;refine aC<|aH<|dY (λh=>?_) (λh=>?_)
 .have kn:k<L.length:=by have:=Xu h;omega
  have hc:=List.getElem?_eq_getElem kn;obtain⟨cc,ec⟩:∃cc,cc=L[k]:=⟨_,rfl⟩;rw[<-ec] at hc;have hcc:=hok cc (List.mem_of_getElem? hc);obtain⟨pb,po,rfl,hcell⟩:=hr Yo;have hcell:=hcell k cc hc;obtain⟨s,es⟩:∃s,s=rK t L k:=⟨_,rfl⟩;have hsx:=aAJ (t:=t) hc;rw[<-es] at hE0 hrl hcl hD H hsx;obtain⟨p1,p2,p3,p4⟩:=NK (x:=cc.x) (fr:=s.c.fr) rfl hD;have hcls:rA ⟨s.c.fr,λi=>(D i).1⟩:=⟨hcl.1,λi hi=>by show NdOK (D i).1;rw[hD i hi];exact hcl.2 i hi⟩;refine aS<|aH (aK ?_);refine aD ?_;iterate 2 refine qa ?_
  refine aC ?_;replace H:=H.drew;have hag:∀i,i<4->sD W.drew (D i).1 (D i).2.1 (D i).2.2:=λi hi=>by
   have ho:World.ownsRow _ _ _ _ _ _ _:=H.o1 i hi;obtain⟨a3,c3,e,hs3,_⟩:=iH ho
   cases e
   exact hs3
  have hFr:∀U,Below W.drew.heap.size W.drew U->Calls Tryz.prog 8 #[aP (gJ s.c.fr D) 0 297,aP (qN cc) 0 14] U _:=λU kU=>YJ cc.x s.c.fr D cc.lo cc.lc cc.LL U rfl hcc.ip hcls (λi hi=>Sr.below (hag i hi) kU) (hcc.jr.below (H.call kU).bel)
  have hc7:∀q,q<297->W.drew.cell? ⟨w3.heap.size,0+q,none⟩=some (gJ s.c.fr D q):=λq hq=>H.v0.cellz hq
  have hS:(λW'=>Below W.drew.heap.size W.drew W') W.drew:=Below.refl _ _;have hszW:=H.size;refine JB (λA W'=>∃(b10:Nat) (D':Nat->Nd×Ad) (vr:Value),A.tmps.size=45/\A.defers=[]/\A.eval (.tmp 1)=.slice (some ⟨pb,po,none⟩) L.length mc/\A.eval (.tmp 4)=.pointer (some ⟨w1.heap.size,0,none⟩)/\A.eval (.tmp 7)=.pointer (some ⟨w3.heap.size,0,none⟩)/\A.eval (.tmp 8)=v/\A.eval (.tmp 20)=.int .i64 (L.length:Int)/\A.eval (.tmp 21)=.int .i64 (k:Int)/\A.eval (.tmp 10)=.pointer (some ⟨b10,0,none⟩)/\A.eval (.tmp 11)=vr/\A.eval (.tmp 12)=.int .i64 (gK cc.x s.c)/\(∀i,i<4->(D' i).1=(lZ cc.x s.c).nd i)/\
   Cx w W' [vhI 40 b10 297 297 (gJ (lZ cc.x s.c).fr D'),dZ w.heap.size 86 14 vr (nI cc.x s.c).length (jR jJ 14 (nI cc.x s.c)),jU w.heap.size D',vhI 40 w3.heap.size 297 297 (gJ s.c.fr D),jU w.heap.size D,dZ w.heap.size 86 14 v s.r.length (jR jJ 14 s.r),vhI 40 w1.heap.size 297 297 (nO 0 (λ_=>bX) (λ_=>slV (none,0) 0))]) (λhT=>?_) (λA V hT=>?_)
  .refine fD (S:=λW'=>Below W.drew.heap.size W.drew W') (.rd 0 (.mv 1 (.mv 2 (.mv 3 (.rd 4 (.two 5 10 (.mv 6 (.mv 7 (.mv 8 (.mv 9 (.go 10 (.go 11 (.mv 12 (.mv 13 .fin)))))))) (.go 5 (.mv 6 (.mv 7 (.mv 8 (.mv 9 (.go 11 (.mv 12 (.mv 13 .fin)))))))))))))) [] Yl Yl ?_;refine Yr rfl hS (λ_ H=>iM (g:=gJ s.c.fr D) ManyK.out (λq hq=>aM (hc7 q hq) H) rfl Qv) ?_;iterate 2 refine qj ?_
   refine fF rfl rfl (λ_ _ _ h=>h) Yw (λw=>mQ _ _ _ _ rfl SlcK.out SizK.out Qv Qv rfl kn w) ?_;refine Yr rfl hS (λ_ K=>iM (g:=qN cc) ManyK.out (λj hj=>aM (aM (hcell j hj) H.bel) K) rfl Qv) ?_;refine aEk (r:=.go 11 (.mv 12 (.mv 13 .fin))) (λA W'=>∃(b10:Nat) (D':Nat->Nd×Ad) (vr:Value),A.tmps.size=45/\A.defers=[]/\A.eval (.tmp 1)=.slice (some ⟨pb,po,none⟩) L.length mc/\A.eval (.tmp 4)=.pointer (some ⟨w1.heap.size,0,none⟩)/\A.eval (.tmp 7)=.pointer (some ⟨w3.heap.size,0,none⟩)/\A.eval (.tmp 8)=v/\A.eval (.tmp 20)=.int .i64 (L.length:Int)/\A.eval (.tmp 21)=.int .i64 (k:Int)/\A.eval (.tmp 10)=.pointer (some ⟨b10,0,none⟩)/\A.eval (.tmp 31)=aP (gJ (lZ cc.x s.c).fr D') 0 297/\A.eval (.tmp 32)=vr/\A.eval (.tmp 33)=.int .i64 (gK cc.x s.c)/\(∀i,i<4->(D' i).1=(lZ cc.x s.c).nd i)/\W.drew.heap.size<=b10/\Below W.drew.heap.size W.drew W'/\
    Cx w W' [vhI 40 b10 297 297 (nO 0 (λ_=>bX) (λ_=>slV (none,0) 0)),dZ w.heap.size 86 14 vr (nI cc.x s.c).length (jR jJ 14 (nI cc.x s.c)),jU w.heap.size D',vhI 40 w3.heap.size 297 297 (gJ s.c.fr D),jU w.heap.size D,dZ w.heap.size 86 14 v s.r.length (jR jJ 14 s.r),vhI 40 w1.heap.size 297 297 (nO 0 (λ_=>bX) (λ_=>slV (none,0) 0))]) (λA U hT'=>?_) (λhT'=>?_)
   .clear b1 b4 b7 b8 b20 b21 hs hd H hS;obtain⟨b10,D',vr,hs,hd,b1,b4,b7,b8,b20,b21,b10',b31,b32,b33,hD',hb10,kU,H⟩:=hT';refine A8 ?_;refine dF rfl Yw (λK0 hK=>aO _ _ _ _ rfl ManyK.out Qv Qv H.v0 Yo (kV _ _) rfl (λU2 m2 k2 z2'=>hK _ (λ_ _=>aF kU k2 hb10 kU.size) ?_));replace H:=H.a0.s k2 (m2.congr aT);iterate 2 refine qj ?_
    exact fT (hT _ _ ⟨b10,D',vr,YA,YB,Qv,Qv,Qv,Qv,Qv,Qv,Qv,Qv,Qv,hD',H⟩)
   refine yF ?_ ?_
   .refine cZ rfl rfl Yw (λK0 hK=>?_);refine dG _ _ _ _ _ rfl Qv Qv (EntK.out _ _) (hFr _ (Below.refl _ _)) ?_;rintro e U ⟨D',vr,rfl,hD',G⟩;have kG:=G.bel;rw[p4] at G;rw[p1,p2];refine⟨_,rfl,hK _ _ (λ_ h=>h.trans (kG.mono h.size)) ?_⟩;clear hK K0;replace H:=vP (qM (H.plus G).f1 hszW).f1 hszW;refine qj ?_;refine fF rfl rfl (λ_ _ _ h=>h) Yw (λw=>jM _ rfl Qv w) ?_;refine fF rfl rfl (λ_ _ _ h=>h) Yw (λw=>jO _ rfl Qv w) ?_;refine fF rfl rfl (λ_ _ _ h=>h) Yw (λw=>jP _ rfl Qv w) ?_;refine cZ rfl rfl Yw (λK0 hK=>gY _ _ rfl ZerK.out Yd (λU1 m1 k1 z1'=>hK _ _ (λ_ h=>h.trans (k1.mono h.size)) ?_));replace H:=H.add k1 (vhI _ _ _ _ _) m1 (λj (e:j=_)=>Nat.le_of_eq e.symm);exact hT' _ _ ⟨_,D',vr,YA,YB,Qv,Qv,Qv,Qv,Qv,Qv,Qv,Qv,Qv,Qv,λi hi=>(hD' i hi).trans (p3 i hi),kG.size,kG.trans (k1.mono kG.size),H⟩
   .refine cZ rfl rfl Yw (λK0 hK=>gY _ _ rfl ZerK.out Yd (λU1 m1 k1 z1'=>hK _ _ (λ_ h=>h.trans (k1.mono h.size)) ?_));replace H:=H.add k1 (vhI _ _ _ _ _) m1 (λj (e:j=_)=>Nat.le_of_eq e.symm);have hsz1:=k1.size;refine cZ rfl rfl Yw (λK0 hK=>?_);refine dG _ _ _ _ _ rfl Qv Qv (EntK.out _ _) (hFr _ k1) ?_;rintro e U ⟨D',vr,rfl,hD',G⟩;have kG:=G.bel;rw[p4] at G;rw[p1,p2];refine⟨_,rfl,hK _ _ (λ_ h=>h.trans (kG.mono h.size)) ?_⟩;clear hK K0;replace H:=vP (qM (H.plus G).f1 (Nat.le_trans hszW hsz1)).f1 (Nat.le_trans hszW hsz1);refine qj ?_;refine fF rfl rfl (λ_ _ _ h=>h) Yw (λw=>jM _ rfl Qv w) ?_;refine fF rfl rfl (λ_ _ _ h=>h) Yw (λw=>jO _ rfl Qv w) ?_;refine fF rfl rfl (λ_ _ _ h=>h) Yw (λw=>jP _ rfl Qv w) ?_;exact hT' _ _ ⟨_,D',vr,YA,YB,Qv,Qv,Qv,Qv,Qv,Qv,Qv,Qv,Qv,Qv,λi hi=>(hD' i hi).trans (p3 i hi),Xr _,k1.trans (kG.mono k1.size),H.f2⟩
  clear b1 b4 b7 b8 b20 b21 hs hd H hS hFr hag hc7;obtain⟨b10,D',vr,hs,hd,b1,b4,b7,b8,b20,b21,b10',b11,b12,hD',H⟩:=hT;refine aH<|aD (aG ?_);refine qa ?_;refine qg (P6 _ _ rfl Qv Qv rfl _) ?_;refine aC<|dY (λh=>?_) (λh=>?_)
  .have hE:gK cc.x s.c≠0:=Xu h;rw[aEh hE0 hE] at hsx;have eF:rP t (L.map Li.x)=⟨qW,[],gK cc.x s.c⟩:=(GZ hl (k:=k+1) (Or.inr (by rw[hsx];exact hE))).trans hsx;refine aD<|qg (oC rfl _) ?_;refine qa ?_;refine eO H.a6 aT (qV _ _ _ _) ?_;clear H;intro w11 H z11;iterate 2 refine qa ?_
   refine aC<|aW (jK (yY (jK (UH (yY (jK (aN YB (nA rfl Qv Qv Qv ManyK.out H.v6 (Xr _)) ⟨λ_=>(bX,(none,0)),_,by rw[eF];rfl,λi hi=>by rw[eF];rfl,?_⟩)))))));rw[eF];exact (((H.sub (List.nil_sublist _)).add (Below.refl _ _) (jU w.heap.size (λ_=>(bX,(none,0)))) (λ_ _=>World.ownsRow_nil _ _ _ _) (λj ⟨_,_,e⟩=>absurd e (λe=>nomatch e))).add (Below.refl _ _) (dZ _ _ _ _ _ _) (World.ownsRow_nil _ _ _ _) (λj e=>nomatch e))
  have hE:gK cc.x s.c=0:=by simpa using h
  rw[aCJ hE0 hE] at hsx;refine aS ?_;replace H:=H.drew;have hvr:World.ownsRow _ _ _ _ _ _ _:=H.o1;have hr4:=ME cc.x s.c;have hS:(λW'=>Its [vhI 40 b10 297 297 (gJ (lZ cc.x s.c).fr D')] W') V.drew:=Its.cons H.o0 (Its.nil _);refine fD (S:=λW'=>Its [vhI 40 b10 297 297 (gJ (lZ cc.x s.c).fr D')] W') (.rd 0 (.mv 1 (.mv 2 (.go 3 (.go 4 (.mv 5 .fin)))))) [4] Yl Yl ?_;refine Yr rfl hS (λ_ H=>aX _ _ rfl ManyK.out Qv H.v0 Yo) ?_;iterate 2 refine qj ?_
  refine cZ rfl rfl Yw (λK hK=>?_);refine oJ (bytes:=80) rfl inferInstance H.size Qv Qv H.o5 (vD hvr) (wS (λx _=>lK _ _)) Ym Yo ?_;intro v11 w11 h11 k11 f11;replace H:=H.a5.put (y:=(dZ w.heap.size 86 14 v11 (s.r.length+(nI cc.x s.c).length) (jR jJ 14 s.r++jR jJ 14 (nI cc.x s.c)))) ⟨k11.os,k11.tape,k11.output,k11.size,λj h5 h6=>k11.block j h5 (λe=>h6 e.symm),h11,f11⟩;refine hK _ _ (λ_ _=>Its.cons H.o0 (Its.nil _)) ?_;clear hK K;refine dF rfl Yw (λK hK=>?_);refine aO _ _ _ _ rfl ManyK.out Qv Qv H.v3 Yo (kV _ _) rfl ?_;intro w12 m12 k12 z12;replace H:=H.a3.s k12 (m12.congr aT);refine hK _ (λh=>absurd h Yc) ?_;clear hK K hS;refine qj ?_;refine mW<|aI ?_;repeat refine qa ?_
  refine aQ ⟨L.length-(k+1),Yo,k+1,D',_,Yo,Yo,YA,YB,Qv,Qv,Qv,Qv,Qv,Eq.trans Qv YC,by rw[hsx],?_,?_,?_,?_⟩
  .rw[hsx,List.length_append];omega
  .rw[hsx];exact WL hcc.ip hcl
  .rw[hsx];exact hD'
  .rw[hsx];show Cx w _ [vhI _ _ 297 297 (gJ (lZ cc.x s.c).fr D'),_,dZ _ _ _ _ (s.r++nI cc.x s.c).length (jR jJ 14 (s.r++nI cc.x s.c)),_]
   rw[List.length_append,wR];exact H.f2.f3.sub (.cons_cons _ (.cons_cons _ (.cons _ (.cons _ (.cons _ (.cons_cons _ (.cons_cons _ (List.nil_sublist _))))))))
 .have ek:k=L.length:=by have:=Xg h;omega
  have eF:rP t (L.map Li.x)=rK t L k:=GZ hl (Or.inl Yo);refine bP (dM ?_);refine aD ?_;iterate 2 refine qa ?_
  refine eO H.a3 aT (kV _ _) ?_;clear H;intro w6 H z6;iterate 2 refine qa ?_
  refine aC<|aW (aN YB (nA rfl Qv Qv Qv ManyK.out H.v3 (Xr _)) ⟨D,_,by rw[eF,hE0],by rw[eF];exact hD,?_⟩);rw[eF];exact H.tl.f1.sub (.cons_cons _ (.cons_cons _ (List.nil_sublist _)))
def t1:Tn:=⟨4294967296,0,4294967296,429496729600⟩
def aOc(_ a:Nat):Int:=if a=0 then 4294967296 else 0
def x1:Ip:=⟨aOc, -1,[]⟩
theorem hE1:gK x1 (M9 t1)=0:=aFF (by unfold x1;decide) (show (0:Int)<=0/\(0:Int)<=1073741823 by decide) (Xz _) (λi hi=>(aHs t1 (-1)).id i hi)
section
variable {f:Operand->Value} {o:Oper}
end
instance:ZerK Tryz.prog 35 3 (nU 0 false (.slice none 0 0)):=⟨λw=>Yl⟩
structure Twn (n m:Nd):Prop where
 ax:∀a,a<3->n.ax a=m.ax a
 rl:RlE n.rl m.rl
 ag:∀s a,s<4->a<3->n.ag s a=m.ag s a
 us:∀a,a<3->n.us a=m.us a
 dg:n.dg=m.dg
 fr:n.fr=m.fr
 vX:n.vX=m.vX
 vS:n.vS=m.vS
 vA:n.vA=m.vA
section
variable {n m:Nd} {v u:Value}
end
section
variable {t:Tn} {bad:Int} {L:List Li} {k:Nat} {c:Li}
end
set_option maxRecDepth 100000 in
theorem aBj(x y:Operand)(ho:o.op=.binOp .neq 86 x y 86){n:Nd}(hx:f x=aP (jJ n) 0 14)(hy:f y=aP (jJ n) 0 14)(w:World):(execOp f o).run Tryz.prog w=.ok (.value (.bool false)) w:=by
 have hx':f x=.agg #[.int .i64 n.id,.int .i64 n.fr,.int .i64 (n.us 0),.int .i64 (n.us 1),.int .i64 (n.us 2),.int .i64 (n.ax 0).X,.int .i64 (n.ax 1).X,.int .i64 (n.ax 2).X,.int .i64 n.dg,.bool n.vS,.bool (n.rl.I 0),.bool (n.rl.I 1),.bool (n.rl.I 2),.bool (n.rl.I 3)]:=hx;have hy':f y=.agg #[.int .i64 n.id,.int .i64 n.fr,.int .i64 (n.us 0),.int .i64 (n.us 1),.int .i64 (n.us 2),.int .i64 (n.ax 0).X,.int .i64 (n.ax 1).X,.int .i64 (n.ax 2).X,.int .i64 n.dg,.bool n.vS,.bool (n.rl.I 0),.bool (n.rl.I 1),.bool (n.rl.I 2),.bool (n.rl.I 3)]:=hy;clear hx hy;have u3:=Tryz.underlying3;have a3:=Tryz.isAgg3;have z3:=Tryz.sizeOf3;have u4:=Tryz.underlying4;have a4:=Tryz.isAgg4;have z4:=Tryz.sizeOf4;have h0:(Op.equalIn 9999 31 (.agg #[.int .i64 (n.us 0),.int .i64 (n.us 1),.int .i64 (n.us 2)]) (.agg #[.int .i64 (n.us 0),.int .i64 (n.us 1),.int .i64 (n.us 2)])).run Tryz.prog w=.ok true w:=sF 9997 n.us w;have h1:(Op.equalIn 9999 31 (.agg #[.int .i64 (n.ax 0).X,.int .i64 (n.ax 1).X,.int .i64 (n.ax 2).X]) (.agg #[.int .i64 (n.ax 0).X,.int .i64 (n.ax 1).X,.int .i64 (n.ax 2).X])).run Tryz.prog w=.ok true w:=sF 9997 (λj=>(n.ax j).X) w;have h2:(Op.equalIn 9999 27 (.agg #[.bool (n.rl.I 0),.bool (n.rl.I 1),.bool (n.rl.I 2),.bool (n.rl.I 3)]) (.agg #[.bool (n.rl.I 0),.bool (n.rl.I 1),.bool (n.rl.I 2),.bool (n.rl.I 3)])).run Tryz.prog w=.ok true w:=TB 9997 (n.rl.I 0) (n.rl.I 1) (n.rl.I 2) (n.rl.I 3) w;have t0:(n.id==n.id)=true:=by simp
 have t1:(n.fr==n.fr)=true:=by simp
 have t2:(n.dg==n.dg)=true:=by simp
 have t3:(n.vS==n.vS)=true:=by simp
 unfold execOp;rw[ho];dsimp only;rw[hx',hy'];go_simp
theorem aBe(ao:Option Addr)(len cap:Nat)(f:Nat->Value)(w:World)(hl:len<=140737488355328)(h1:∀i,(f i).oneCell'=true)(hr:Sr w ao len cap f):Calls Tryz.prog 21 #[.slice ao len cap] w λe w'=>∃v,e=.returned v/\w'.ownsRow w.heap.size 5 1 v len (rowV f len)/\Below w.heap.size w w':=by
 go_enter Tryz.func21,Tryz.ntmps21
 go_wp2_with (at_builtin;refine iU _ rfl _ _ rfl w.heap.size (Xr _) (.slice none 0 0) 0 [] rfl (World.ownsRow_nil _ _ _ _) ao len cap f rfl hr (λi _=>h1 i) Yo ?_)
 intro v' w' h2 k2
 try rw[Nat.zero_add] at h2
 try rw[List.nil_append] at h2
 go_wp2_with fail
 go_ret
 exact⟨_,rfl,h2,k2⟩
instance iRefCl5_1:EntK Tryz.prog 11:=⟨λargs w=>Yh⟩
theorem AP(R:List Nd)(a1 a2:Option Addr)(c1 c2:Nat)(w:World)(h1:RdS jJ 14 w a1 R)(h2:RdS jJ 14 w a2 R)(hl:R.length<=1000):Calls Tryz.prog 11 #[.slice a1 R.length c1,.slice a2 R.length c2] w λe w'=>e=.returned (.bool true)/\Below w.heap.size w w':=by
 refine bO Tryz.func11 rfl 26 rfl Yd (λA hs hd hb=>?_);have b0:A.eval (.tmp 0)=.slice a1 R.length c1:=hb 0 _ rfl;have b1:A.eval (.tmp 1)=.slice a2 R.length c2:=hb 1 _ rfl;clear hb;have H:=Cx.start w;refine aD (aG ?_);refine qa ?_;refine aC<|aH<|aD ?_;iterate 4 refine qa ?_
 refine qg (eB (b:=false) _ _ rfl Qv Qv (by simp) _) ?_;refine aC<|zD rfl (aS ?_);refine aH<|aD ?_;iterate 3 refine qa ?_
 refine aC<|aK ?_;refine bW (λr A W=>∃i:Nat,i<=R.length/\R.length-i<=r/\A.tmps.size=26/\A.defers=[]/\A.eval (.tmp 0)=.slice a1 R.length c1/\A.eval (.tmp 1)=.slice a2 R.length c2/\A.eval (.tmp 12)=.int .i64 (R.length:Int)/\A.eval (.tmp 13)=.int .i64 (i:Int)/\Cx w W []) R.length
  ⟨0,Xz _,Yo,YA,YB,Qv,Qv,Qv,Qv,H⟩ (λr A W hI=>?_)
 clear b0 b1 hs hd H;obtain⟨i,hi,hir,hs,hd,b0,b1,b12,b13,H⟩:=hI;refine aD (aG ?_);refine qa ?_;refine aC<|aH<|dY (λh=>?_) (λh=>?_)
 .have hin:i<R.length:=by have:=Xu h;omega
  have hc:=List.getElem?_eq_getElem hin;obtain⟨n,en⟩:∃n,n=R[i]:=⟨_,rfl⟩;rw[<-en] at hc;obtain⟨p1,o1,rfl,hc1⟩:=h1 Yo;obtain⟨p2,o2,rfl,hc2⟩:=h2 Yo;have hc1:=hc1 i n hc;have hc2:=hc2 i n hc;refine aS<|aH (aK ?_);refine aD ?_;iterate 2 refine qa ?_
  refine aC<|aH ?_;replace H:=H.drew;have hS:(λW'=>Below w.heap.size w W') W.drew:=H.bel;refine fD (S:=λW'=>Below w.heap.size w W') (.mv 0 (.mv 1 (.mv 2 (.rd 3 (.mv 4 (.mv 5 (.mv 6 (.rd 7 (.mv 8 .fin))))))))) [] Yl Yl ?_;iterate 2 refine qj ?_
  refine fF rfl rfl (λ_ _ _ h=>h) Yw (λw=>mQ _ _ _ _ rfl SlcK.out SizK.out Qv Qv rfl hin w) ?_;refine Yr rfl hS (λ_ H=>iM (g:=jJ n) ManyK.out (λq hq=>aM (hc1 q hq) H) rfl Qv) ?_;iterate 2 refine qj ?_
  refine fF rfl rfl (λ_ _ _ h=>h) Yw (λw=>mQ _ _ _ _ rfl SlcK.out SizK.out Qv Qv rfl hin w) ?_;refine Yr rfl hS (λ_ H=>iM (g:=jJ n) ManyK.out (λq hq=>aM (hc2 q hq) H) rfl Qv) ?_;refine fF rfl rfl (λ_ _ _ h=>h) Yw (λw=>aBj _ _ rfl Qv Qv w) ?_;refine fT<|zD rfl (fP ?_);refine aI ?_;repeat refine qa ?_
  exact aQ ⟨R.length-(i+1),Yo,i+1,Yo,Yo,YA,YB,Qv,Qv,Qv,Eq.trans Qv YC,H⟩
 .refine bP (dM ?_);refine aD<|qa ?_;refine aC ?_;exact aW (aN YB (dW rfl Qv) ⟨rfl,H.bel⟩)
def lbJ(B:Nat)(c:Lj):It:=dZ B 5 1 (ljV c) c.y.n (rowV (bF c.y.g) c.y.n)
def wM{α:Type}(f:α->It)(L:List α):It:=⟨λw=>∀c,c∈L->(f c).p w,λk=>∃c,c∈L/\(f c).foot k,λh e c hc=>(f c).ok (h c hc) (λk h1 h2=>e k h1 ⟨c,hc,h2⟩),λh ⟨c,hc,e⟩=>(f c).lt (h c hc) e⟩
theorem TK{α:Type}{f:α->It}{L:List α}{c:α}(H:Cx w0 w (f c::wM f L::l)):Cx w0 w (wM f (L++[c])::l):=
 H.merge.wk (λh d hd=>by
  rcases List.mem_append.1 hd with hd|hd
  .exact h.2 d hd
  .rw[List.mem_singleton.1 hd];exact h.1) (λk ⟨d,hd,hk⟩=>by
  rcases List.mem_append.1 hd with hd|hd
  .exact Or.inr ⟨d,hd,hk⟩
  .rw[List.mem_singleton.1 hd] at hk;exact Or.inl hk)
def liJ(B:Nat)(c:Li):It:=(dZ B 78 3 (.slice c.lo c.LL.length c.lc) c.LL.length (jR CB 3 c.LL)).and (wM (lbJ B) c.LL)
theorem aNv(h:(liJ B c).p w)(hb:∀d,d∈c.LL->d.y.n<=140737488351232/\∀i,d.y.g i<256):JRd w c.lo c.LL:=by
 refine⟨DC (F:=CB) (s:=3) h.1 Yc,λd hd=>?_⟩;have h2:World.ownsRow _ _ _ _ _ _ _:=h.2 d hd;obtain⟨a,q,e,s,hc⟩:=iH h2;unfold ljV at e
 cases e
 exact⟨s,hc,hb d hd⟩
theorem aAx(rd:Nat->Nat->Int)(bad:Int)(u v:Value):∀j,j<14->stW (nP rd bad u) (0+13) v j=nP rd bad v j:=by grind [stW,nP]
theorem aIL(ph wo:Int)(u v:Value):∀j,j<3->stW (lyF ph wo u) (0+2) v j=lyF ph wo v j:=λj hj=>by
 match j,hj with
 |0,_=>rfl
 |1,_=>rfl
 |2,_=>rfl
set_option maxRecDepth 10000 in
theorem aCl(mo:Option Addr)(mc:Nat)(L:List Li)(w:World)(hr:RdS qN 14 w mo L)(hok:∀c,c∈L->LiOK w c)(hln:L.length*128<=140737488351232)(hll:∀c,c∈L->c.LL.length*40<=140737488351232):Calls Tryz.prog 7 #[.slice mo L.length mc] w λe w'=>∃(mo':Option Addr) (mc':Nat) (L':List Li),e=.returned (.slice mo' L'.length mc')/\L'.map Li.x=L.map Li.x/\RdS qN 14 w' mo' L'/\(∀c,c∈L'->LiOK w' c)/\Below w.heap.size w w':=by
 refine bO Tryz.func7 rfl 52 rfl Yd (λA hs hd hb=>?_);have b0:A.eval (.tmp 0)=.slice mo L.length mc:=hb 0 _ rfl;clear hb;have H:=Cx.start w;refine aD (aG ?_);refine qa ?_;refine aC<|aD<|qa ?_;refine aC<|aH<|aD<|qa ?_;refine aC<|aK ?_;refine bW (λr A W=>∃(i:Nat) (u:Value) (M:List Li),i<=L.length/\L.length-i<=r/\A.tmps.size=52/\A.defers=[]/\A.eval (.tmp 0)=.slice mo L.length mc/\A.eval (.tmp 3)=u/\A.eval (.tmp 4)=.int .i64 (i:Int)/\M.map Li.x=(L.map Li.x).take i/\M.length=i/\(∀c,c∈M->IpOK c.x/\c.LL.length<=c.lc/\∀d,d∈c.LL->d.y.n<=140737488351232/\∀i,d.y.g i<256)/\Cx w W [dZ w.heap.size 43 14 u M.length (jR qN 14 M),wM (liJ w.heap.size) M]) L.length
  ⟨0,_,[],Xz _,Yo,YA,YB,Qv,Qv,Qv,rfl,rfl,λ_ h=>absurd h (by simp),(H.add (Below.refl _ _) (wM (liJ w.heap.size) []) (λ_ h=>absurd h (by simp)) (λj ⟨_,h,_⟩=>absurd h (by simp))).add (Below.refl _ _) (dZ _ _ _ _ _ _) (World.ownsRow_nil _ _ _ _) (λj e=>nomatch e)⟩ (λr A W hI=>?_)
 clear b0 hs hd H;obtain⟨i,u,M,hi,hir,hs,hd,b0,b3,b4,hM,hMl,hMo,H⟩:=hI;refine aH<|aD (aG ?_);iterate 4 refine qa ?_
 refine aC<|dY (λh=>?_) (λh=>?_)
 .have hin:i<L.length:=by have:=Xu h;omega
  have hc:=List.getElem?_eq_getElem hin;obtain⟨cc,ec⟩:∃cc,cc=L[i]:=⟨_,rfl⟩;rw[<-ec] at hc;have hcm:=List.mem_of_getElem? hc;have hcc:=hok cc hcm;have hcl:=hll cc hcm;obtain⟨pb,po,rfl,hcell⟩:=hr Yo;have hcell:=hcell i cc hc;refine aS<|aH (aK ?_);refine aD ?_;iterate 2 refine qa ?_
  refine qg (mQ _ _ _ _ rfl SlcK.out SizK.out Qv Qv rfl hin _) ?_;refine qg (iM (g:=qN cc) ManyK.out (λj hj=>aM (hcell j hj) H.bel) rfl Qv) ?_;refine fU H ?_;clear H;intro V1 H z1;obtain⟨b5,eb5⟩:∃b5,b5=W.heap.size:=⟨_,rfl⟩;rw[<-eb5] at H ⊢;refine eO H.a0 aT (MJ _ _ _ _ _) ?_;clear H;intro V2 H z2;refine aC<|aD<|qa ?_;refine pK (u:=.slice none 0 0) (g':=nP cc.rd cc.bad (.slice none 0 0)) H.a0 (aAx _ _ _ _) ?_;clear H;intro V3 H z3;refine aC<|aH<|aD<|qa ?_;refine aC<|aK ?_;replace H:=((H.add (Below.refl _ _) (wM (lbJ w.heap.size) []) (λ_ h=>absurd h (by simp)) (λj ⟨_,h,_⟩=>absurd h (by simp))).add (Below.refl _ _) (dZ w.heap.size 78 3 (.slice none 0 0) 0 []) (World.ownsRow_nil _ _ _ _) (λj e=>nomatch e));refine bW (λr A W=>∃(k:Nat) (lo:Option Addr) (lc:Nat) (N:List Lj),k<=cc.LL.length/\cc.LL.length-k<=r/\A.tmps.size=52/\A.defers=[]/\A.eval (.tmp 0)=.slice (some ⟨pb,po,none⟩) L.length mc/\A.eval (.tmp 3)=u/\A.eval (.tmp 4)=.int .i64 (i:Int)/\A.eval (.tmp 5)=.pointer (some ⟨b5,0,none⟩)/\A.eval (.tmp 6)=.int .i64 (k:Int)/\N.map Lj.y=(cc.LL.map Lj.y).take k/\N.length=k/\N.length<=lc/\(∀d,d∈N->d.y.n<=140737488351232/\∀i,d.y.g i<256)/\Cx w W [dZ w.heap.size 78 3 (.slice lo N.length lc) N.length (jR CB 3 N),wM (lbJ w.heap.size) N,vhI 43 b5 14 14 (nP cc.rd cc.bad (.slice lo N.length lc)),dZ w.heap.size 43 14 u M.length (jR qN 14 M),wM (liJ w.heap.size) M]) cc.LL.length
   ⟨0,none,0,[],Xz _,Yo,YA,YB,Qv,Qv,Qv,Qv,Qv,rfl,rfl,Xr _,λ_ h=>absurd h (by simp),H⟩ (λr A W2 hI=>?_)
  clear b0 b3 b4 hs hd H;obtain⟨k,lo,lc,N,hk,hkr,hs,hd,b0,b3,b4,b5',b6,hN,hNl,hNc,hNo,H⟩:=hI;refine aH<|aD (aG ?_);iterate 3 refine qa ?_
  refine qg (mQ _ _ _ _ rfl SlcK.out SizK.out Qv Qv rfl hin _) ?_;refine qa ?_;have hlie:W2.cell? ⟨pb,po+i*14+13,none⟩=some (.slice cc.lo cc.LL.length cc.lc):=aM (hcell 13 Yo) H.bel;refine qg (GH OneK.out hlie rfl Qv) ?_;iterate 2 refine qa ?_
  refine aC<|dY (λh=>?_) (λh=>?_)
  .have hkn:k<cc.LL.length:=by have:=Xu h;omega
   have hd0:=List.getElem?_eq_getElem hkn;obtain⟨dd,ed⟩:∃dd,dd=cc.LL[k]:=⟨_,rfl⟩;rw[<-ed] at hd0;have hlb:=hcc.jr.2 dd (List.mem_of_getElem? hd0);obtain⟨qb,qo,eqo,hdc⟩:=hcc.jr.1 Yo;have hdc:=hdc k dd hd0;rw[eqo] at hlie;refine aS<|aH (aK ?_);refine aD ?_;iterate 2 refine qa ?_
   refine qg (mQ _ _ _ _ rfl SlcK.out SizK.out Qv Qv rfl hin _) ?_;refine qa ?_;refine qg (GH OneK.out hlie rfl Qv) ?_;refine qa ?_;refine qg (mQ _ _ _ _ rfl SlcK.out SizK.out Qv Qv rfl hkn _) ?_;refine qg (iM (g:=CB dd) ManyK.out (λj hj=>aM (hdc j hj) H.bel) rfl Qv) ?_;refine fU H ?_;clear H;intro V4 H z4;refine eO H.a0 aT (DK _ _ _ _ _) ?_;clear H;intro V5 H z5;refine aC<|aD ?_;iterate 2 refine qa ?_
   have hsz:=H.size;refine mI (aBe dd.ao dd.y.n dd.cap (bF dd.y.g) _ (by have:=hlb.2.2.1;omega) (λ_=>rfl) (hlb.1.below H.bel)) ?_;rintro e V6 ⟨v6,rfl,o6,k6⟩;obtain⟨a6,c6,rfl,hc6⟩:=dS o6;refine⟨_,rfl,?_⟩;replace H:=H.add k6 (lbJ w.heap.size ⟨dd.y,a6,c6⟩) (bZ o6 hsz) (λj e=>(o6.lt j e).1);refine qa ?_;refine pK (u:=.slice a6 dd.y.n c6) (g':=CB ⟨dd.y,a6,c6⟩) H.a1 (aIL _ _ _ _) ?_;clear H;intro V7 H z7;refine aC<|aI ?_;iterate 3 refine qa ?_
   refine bI rfl Yw (λK hK=>CV SlcK.out ManyK.out ZerK.out Yc Yc rfl Qv (λV8 m8 k8 z8=>hK _ _ ?_));have hsz8:=H.size;replace H:=H.call k8;refine aCb (bytes:=40) H.a2 (vD (I9 (B:=w.heap.size) (F:=CB) (x:=⟨dd.y,a6,c6⟩) m8 Yo)) (wS (λx _=>DK _ _ _ _ _)) Ym Yo ?_;clear H;intro v9 V9 H;have hr9:World.ownsRow _ _ _ _ _ _ _:=H.o2;obtain⟨a9,c9,rfl,hc9⟩:=dS hr9;refine qa ?_;refine pK (u:=.slice a9 (N.length+1) c9) (g':=nP cc.rd cc.bad (.slice a9 (N.length+1) c9)) H.a4 (aAx _ _ _ _) ?_;clear H;intro V10 H z10;refine fB<|aI ?_;repeat refine qa ?_
   have eN:(N++[(⟨dd.y,a6,c6⟩:Lj)]).length=N.length+1:=List.length_append;refine aQ ⟨cc.LL.length-(k+1),Yo,k+1,a9,c9,N++[⟨dd.y,a6,c6⟩],Yo,Yo,YA,YB,Qv,Qv,Qv,Qv,Eq.trans Qv YC,?_,by rw[eN,hNl],by rw[eN];exact hc9,λd hd=>?_,?_⟩
   .rw[List.map_append,hN,List.take_add_one,List.getElem?_map,hd0];rfl
   .rcases List.mem_append.1 hd with hd|hd
    .exact hNo d hd
    .rw[List.mem_singleton.1 hd];exact hlb.2.2
   .rw[eN,wR];exact (TK (f:=lbJ w.heap.size) (c:=⟨dd.y,a6,c6⟩) (H.f1.tl.f2.f1)).f1
  .obtain rfl:k=cc.LL.length:=by have:=Xg h;omega
   refine bP (dM ?_);refine aI ?_;iterate 2 refine qa ?_
   refine bI rfl Yw (λK hK=>CV SlcK.out ManyK.out ZerK.out Yc Yc rfl Qv (λV8 m8 k8 z8=>hK _ _ ?_));have hsz8:=H.size;replace H:=H.call k8;refine aCb (bytes:=128) H.a3 (vD (I9 (B:=w.heap.size) (F:=qN) (x:=⟨cc.rd,cc.bad,N,lo,lc⟩) m8 Yo)) (wS (λx _=>MJ _ _ _ _ _)) Ym Yo ?_;clear H;intro v9 V9 H;refine qa ?_;refine fB<|aI ?_;repeat refine qa ?_
   have hN':N.map Lj.y=cc.LL.map Lj.y:=by rw[hN];exact List.take_of_length_le (by rw[List.length_map];exact Xr _)
   have ex:Li.x ⟨cc.rd,cc.bad,N,lo,lc⟩=cc.x:=by unfold Li.x;dsimp only;rw[hN']
   have eM:(M++[(⟨cc.rd,cc.bad,N,lo,lc⟩:Li)]).length=M.length+1:=List.length_append;refine aQ ⟨L.length-(i+1),Yo,i+1,v9,M++[⟨cc.rd,cc.bad,N,lo,lc⟩],Yo,Yo,YA,YB,Qv,Qv,Eq.trans Qv YC,?_,by rw[eM,hMl],λd hd=>?_,?_⟩
   .rw[List.map_append,hM,List.take_add_one,List.getElem?_map,hc];show _++[Li.x _]=_++[cc.x]
    rw[ex]
   .rcases List.mem_append.1 hd with hd|hd
    .exact hMo d hd
    .rw[List.mem_singleton.1 hd];exact⟨by rw[ex];exact hcc.ip,hNc,hNo⟩
   .rw[eM,wR];exact (TK (f:=liJ w.heap.size) (c:=⟨cc.rd,cc.bad,N,lo,lc⟩) (H.merge.f1.tl.f2.f1)).f1
 .obtain rfl:i=L.length:=by have:=Xg h;omega
  refine bP (dM ?_);refine aD ?_;iterate 2 refine qa ?_
  refine aC ?_;have hrow:World.ownsRow _ _ _ _ _ _ _:=H.o0;obtain⟨mo',mc',rfl,hmc⟩:=dS hrow;have hmn:(wM (liJ w.heap.size) M).p W:=H.o1;exact aW (aN YB (dW rfl Qv) ⟨mo',mc',M,rfl,by rw[hM];exact List.take_of_length_le (by rw[List.length_map];exact Xr _),DC hrow Yc,λc hc=>⟨(hMo c hc).1,aNv (hmn c hc) (hMo c hc).2.2,(hMo c hc).2.1⟩,H.bel⟩)
theorem aLh:(rP t (L.map Li.x)).r.length<=800:=by
 by_cases hl:L.length<=200
 .have key:∀(l:List Ip) (s:Rn),(l.foldl oD s).r.length<=s.r.length+4*l.length:=by
   intro l
   induction l with
   |nil=>intro s;exact Xr _
   |cons x l ih=>
    intro s;have h1:=ih (oD s x);have h2:(oD s x).r.length<=s.r.length+4:=by
     unfold oD;split
     .split
      .have:=ME x s.c;rw[List.length_append];omega
      .exact Xz _
     .omega
    show (l.foldl oD (oD s x)).r.length<=s.r.length+4*(l.length+1)
    omega
  unfold rP;rw[if_neg (by rw[List.length_map];omega)];have:=key (L.map Li.x) ⟨M9 t,[],0⟩;rw[List.length_map] at this;have e0:(⟨M9 t,[],0⟩:Rn).r.length=0:=rfl;omega
 .unfold rP;rw[if_pos (by rw[List.length_map];omega)];exact Xz _
theorem aNa(ht:t.Ok)(hok:∀c,c∈L->LiOK w c)(i:Nat)(hi:i<4):((rP t (L.map Li.x)).c.nd i).vA.length<=140737488351232:=by
 have key:∀(l:List Ip) (s:Rn),(∀x,x∈l->IpOK x)->((s.e=0->rA s.c)/\(s.e≠0->s.c=qW))->(((l.foldl oD s).e=0->rA (l.foldl oD s).c)/\((l.foldl oD s).e≠0->(l.foldl oD s).c=qW)):=by
  intro l
  induction l with
  |nil=>intro s _ h;exact h
  |cons x l ih=>
   intro s hx h;refine ih (oD s x) (λy hy=>hx y (List.mem_cons_of_mem _ hy)) ?_;unfold oD;split
   .rename_i h0;split
    .exact⟨λ_=>WL (hx x List.mem_cons_self) (h.1 h0),λh1=>absurd rfl h1⟩
    .rename_i h1;exact⟨λh2=>absurd h2 h1,λ_=>rfl⟩
   .exact h
 have hz:(qW.nd i).vA.length<=140737488351232:=Xz _;unfold rP;split
 .exact hz
 .have h:=key (L.map Li.x) ⟨M9 t,[],0⟩ (λx hx=>by
   obtain⟨c,hc,rfl⟩:=List.mem_map.1 hx;exact (hok c hc).ip) ⟨λ_=>MZ ht,λh=>absurd rfl h⟩
  by_cases e:((L.map Li.x).foldl oD ⟨M9 t,[],0⟩).e=0
  .exact ((h.1 e).2 i hi).vA
  .rw[h.2 e];exact hz
set_option maxRecDepth 10000 in
theorem KU(t:Tn)(mo:Option Addr)(mc:Nat)(L:List Li)(ht:t.Ok)(hr:RdS qN 14 w mo L)(hok:∀c,c∈L->LiOK w c)(hln:L.length*128<=140737488351232)(hll:∀c,c∈L->c.LL.length*40<=140737488351232):Calls Tryz.prog 4 #[aP (jA t) 0 4,.slice mo L.length mc] w λe w'=>e=.returned (.bool true)/\Below w.heap.size w w':=by
 refine bO Tryz.func4 rfl 39 rfl Yd (λA hs hd hb=>?_);have b0:A.eval (.tmp 0)=aP (jA t) 0 4:=hb 0 _ rfl;have b1:A.eval (.tmp 1)=.slice mo L.length mc:=hb 1 _ rfl;clear hb;have H:=Cx.start w;refine aD (aG ?_);refine iG H ?_;clear H;intro w1 H z1;refine qa ?_;refine aC ?_;obtain⟨F,eF⟩:∃F,F=rP t (L.map Li.x):=⟨_,rfl⟩;have hFl:F.r.length<=800:=by rw[eF];exact aLh
 replace H:=H.drew;have hS:(λW'=>Below w1.drew.heap.size w1.drew W') w1.drew:=Below.refl _ _;have hc2:∀q,q<4->w1.drew.cell? ⟨w.heap.size,0+q,none⟩=some (jA t q):=λq hq=>H.v0.cellz hq
 have hIn:∀U,Below w1.drew.heap.size w1.drew U->Calls Tryz.prog 7 #[.slice mo L.length mc] U _:=λU k=>aCl mo mc L U (hr.below (H.call k).bel) (λc hc=>(hok c hc).below (H.call k).bel) hln hll
 have hRu:∀(U:World) (mo':Option Addr) (mc':Nat) (L':List Li),L'.map Li.x=L.map Li.x->RdS qN 14 U mo' L'->(∀c,c∈L'->LiOK U c)->Calls Tryz.prog 12 #[aP (jA t) 0 4,.slice mo' L'.length mc'] U λe w'=>∃(D:Nat->Nd×Ad) (v:Value),e=.returned (.tuple #[aP (gJ F.c.fr D) 0 297,v,.int .i64 F.e])/\(∀i,i<4->(D i).1=F.c.nd i)/\Cx U w' [dZ U.heap.size 86 14 v F.r.length (jR jJ 14 F.r),jU U.heap.size D]:=λU mo' mc' L' e h1 h2=>by
  have:=aGE t mo' mc' L' U ht h1 h2;rw[e, <-eF] at this;exact this
 have hszw:=H.size;refine JB (λA W'=>∃(b5:Nat) (D:Nat->Nd×Ad) (v:Value),A.tmps.size=39/\A.defers=[]/\A.eval (.tmp 1)=.slice mo L.length mc/\A.eval (.tmp 2)=.pointer (some ⟨w.heap.size,0,none⟩)/\A.eval (.tmp 5)=.pointer (some ⟨b5,0,none⟩)/\A.eval (.tmp 6)=v/\A.eval (.tmp 7)=.int .i64 F.e/\(∀i,i<4->(D i).1=F.c.nd i)/\Cx w W' [vhI 40 b5 297 297 (gJ F.c.fr D),dZ w.heap.size 86 14 v F.r.length (jR jJ 14 F.r),jU w.heap.size D,vhI 23 w.heap.size 4 4 (jA t)]) (λhT=>?_) (λA V hT=>?_)
 .refine fD (S:=λW'=>Below w1.drew.heap.size w1.drew W') (.rd 0 (.mv 1 (.two 2 8 (.two 3 8 (.mv 4 (.mv 5 (.mv 6 (.mv 7 (.go 8 (.go 9 (.mv 10 (.mv 11 .fin)))))))) (.go 3 (.mv 4 (.mv 5 (.mv 6 (.mv 7 (.go 9 (.mv 10 (.mv 11 .fin))))))))) (.go 2 (.go 3 (.mv 4 (.mv 5 (.mv 6 (.mv 7 (.go 9 (.mv 10 (.mv 11 .fin)))))))))))) [] Yl Yl ?_;refine Yr rfl hS (λ_ H=>iM (g:=jA t) ManyK.out (λq hq=>aM (hc2 q hq) H) rfl Qv) ?_;refine qj ?_;refine aEk (r:=.go 9 (.mv 10 (.mv 11 .fin))) (λA W'=>∃(b5:Nat) (D:Nat->Nd×Ad) (v:Value),A.tmps.size=39/\A.defers=[]/\A.eval (.tmp 1)=.slice mo L.length mc/\A.eval (.tmp 2)=.pointer (some ⟨w.heap.size,0,none⟩)/\A.eval (.tmp 5)=.pointer (some ⟨b5,0,none⟩)/\A.eval (.tmp 16)=aP (gJ F.c.fr D) 0 297/\A.eval (.tmp 17)=v/\A.eval (.tmp 18)=.int .i64 F.e/\(∀i,i<4->(D i).1=F.c.nd i)/\w1.drew.heap.size<=b5/\Below w1.drew.heap.size w1.drew W'/\Cx w W' [vhI 40 b5 297 297 (nO 0 (λ_=>bX) (λ_=>slV (none,0) 0)),dZ w.heap.size 86 14 v F.r.length (jR jJ 14 F.r),jU w.heap.size D,vhI 23 w.heap.size 4 4 (jA t)]) (λA U hT'=>?_) (λhT'=>?_)
  .clear b0 b1 hs hd H hS;obtain⟨b5,D,v,hs,hd,b1,b2,b5',b16,b17,b18,hD,hb5,kU,H⟩:=hT';refine A8 ?_;refine dF rfl Yw (λK0 hK=>aO _ _ _ _ rfl ManyK.out Qv Qv H.v0 Yo (kV _ _) rfl (λU2 m2 k2 z2'=>hK _ (λ_ _=>aF kU k2 hb5 kU.size) ?_));replace H:=H.a0.s k2 (m2.congr aT);iterate 2 refine qj ?_
   exact fT (hT _ _ ⟨b5,D,v,YA,YB,Qv,Qv,Qv,Qv,Qv,hD,H⟩)
  refine yF ?_ ?_
  .refine cZ rfl rfl Yw (λK0 hK=>bQ _ _ _ _ rfl Qv (EntK.out _ _) (hIn _ (Below.refl _ _)) ?_);rintro e U ⟨mo',mc',L',rfl,hx',hr',ho',kU⟩;refine⟨_,rfl,hK _ _ (λ_ h=>h.trans (kU.mono h.size)) ?_⟩;replace H:=H.call kU;refine yF ?_ ?_
   .refine cZ rfl rfl Yw (λK0 hK=>dG _ _ _ _ _ rfl Qv Qv (EntK.out _ _) (hRu U mo' mc' L' hx' hr' ho') ?_);rintro e U3 ⟨D,v,rfl,hD,G⟩;have kG:=G.bel;refine⟨_,rfl,hK _ _ (λ_ h=>h.trans (kG.mono h.size)) ?_⟩;have hsU:=H.size;replace H:=vP (qM (H.plus G).f1 hsU).f1 hsU;refine qj ?_;refine fF rfl rfl (λ_ _ _ h=>h) Yw (λw=>jM _ rfl Qv w) ?_;refine fF rfl rfl (λ_ _ _ h=>h) Yw (λw=>jO _ rfl Qv w) ?_;refine fF rfl rfl (λ_ _ _ h=>h) Yw (λw=>jP _ rfl Qv w) ?_;refine cZ rfl rfl Yw (λK0 hK=>gY _ _ rfl ZerK.out Yd (λU1 m1 k1 z1'=>hK _ _ (λ_ h=>h.trans (k1.mono h.size)) ?_));replace H:=H.add k1 (vhI _ _ _ _ _) m1 (λj (e:j=_)=>Nat.le_of_eq e.symm);have kA:=kU.trans (kG.mono kU.size);exact hT' _ _ ⟨_,D,v,YA,YB,Qv,Qv,Qv,Qv,Qv,Qv,hD,kA.size,kA.trans (k1.mono kA.size),H⟩
   .refine cZ rfl rfl Yw (λK0 hK=>gY _ _ rfl ZerK.out Yd (λU1 m1 k1 z1'=>hK _ _ (λ_ h=>h.trans (k1.mono h.size)) ?_));replace H:=H.add k1 (vhI _ _ _ _ _) m1 (λj (e:j=_)=>Nat.le_of_eq e.symm);refine cZ rfl rfl Yw (λK0 hK=>dG _ _ _ _ _ rfl Qv Qv (EntK.out _ _) (hRu U1 mo' mc' L' hx' (hr'.below k1) (λc hc=>(ho' c hc).below k1)) ?_);rintro e U3 ⟨D,v,rfl,hD,G⟩;have kG:=G.bel;refine⟨_,rfl,hK _ _ (λ_ h=>h.trans (kG.mono h.size)) ?_⟩;have hsU:=H.size;replace H:=vP (qM (H.plus G).f1 hsU).f1 hsU;refine qj ?_;refine fF rfl rfl (λ_ _ _ h=>h) Yw (λw=>jM _ rfl Qv w) ?_;refine fF rfl rfl (λ_ _ _ h=>h) Yw (λw=>jO _ rfl Qv w) ?_;refine fF rfl rfl (λ_ _ _ h=>h) Yw (λw=>jP _ rfl Qv w) ?_;have kA:=(kU.trans (k1.mono kU.size));exact hT' _ _ ⟨_,D,v,YA,YB,Qv,Qv,Qv,Qv,Qv,Qv,hD,kU.size,kA.trans (kG.mono kA.size),H.f2⟩
  .refine cZ rfl rfl Yw (λK0 hK=>gY _ _ rfl ZerK.out Yd (λU1 m1 k1 z1'=>hK _ _ (λ_ h=>h.trans (k1.mono h.size)) ?_));refine cZ rfl rfl Yw (λK0 hK=>bQ _ _ _ _ rfl Qv (EntK.out _ _) (hIn _ k1) ?_);rintro e U ⟨mo',mc',L',rfl,hx',hr',ho',kU⟩;refine⟨_,rfl,hK _ _ (λ_ h=>h.trans (kU.mono h.size)) ?_⟩;replace H:=(H.add k1 (vhI _ _ _ _ _) m1 (λj (e:j=_)=>Nat.le_of_eq e.symm)).call kU;refine cZ rfl rfl Yw (λK0 hK=>dG _ _ _ _ _ rfl Qv Qv (EntK.out _ _) (hRu U mo' mc' L' hx' hr' ho') ?_);rintro e U3 ⟨D,v,rfl,hD,G⟩;have kG:=G.bel;refine⟨_,rfl,hK _ _ (λ_ h=>h.trans (kG.mono h.size)) ?_⟩;have hsU:=H.size;replace H:=vP (qM (H.plus G).f1 hsU).f1 hsU;refine qj ?_;refine fF rfl rfl (λ_ _ _ h=>h) Yw (λw=>jM _ rfl Qv w) ?_;refine fF rfl rfl (λ_ _ _ h=>h) Yw (λw=>jO _ rfl Qv w) ?_;refine fF rfl rfl (λ_ _ _ h=>h) Yw (λw=>jP _ rfl Qv w) ?_;have kA:=(k1.trans (kU.mono k1.size));exact hT' _ _ ⟨_,D,v,YA,YB,Qv,Qv,Qv,Qv,Qv,Qv,hD,Xr _,kA.trans (kG.mono kA.size),H.f2⟩
 clear b0 b1 hs hd H hS hIn hRu hc2;obtain⟨b5,D,v,hs,hd,b1,b2,b5',b6,b7,hD,H⟩:=hT;refine aD (aG ?_);iterate 2 refine qa ?_
 have hRf:=aDK t mo mc L V ht (hr.below H.bel) (λc hc=>(hok c hc).below H.bel);rw[<-eF] at hRf;refine xQ hRf ?_;rintro e V1 ⟨E,u,rfl,hE,G⟩;refine⟨_,rfl,?_⟩;replace H:=H.plus G;refine qa ?_;refine qg (jM _ rfl Qv _) ?_;refine qg (jO _ rfl Qv _) ?_;refine qg (jP _ rfl Qv _) ?_;refine fU H ?_;clear H;intro V2 H z2;refine eO H.a0 aT (kV _ _) ?_;clear H;intro V3 H z3;iterate 2 refine qa ?_
 refine aC ?_;have rd:∀(B:Nat) (D:Nat->Nd×Ad),(jU B D).p V3->∀i,i<4->sD V3 (D i).1 (D i).2.1 (D i).2.2:=λB D h i hi=>by
  have ho:World.ownsRow _ _ _ _ _ _ _:=h i hi;obtain⟨a3,c3,e,hs3,_⟩:=iH ho
  cases e
  exact hs3
 have hv:World.ownsRow _ _ _ _ _ _ _:=H.o4;have hu:World.ownsRow _ _ _ _ _ _ _:=H.o1;obtain⟨va,vc,rfl,_⟩:=dS hv;obtain⟨ua,uc,rfl,_⟩:=dS hu;have hlen:∀i,i<4->(D i).1.vA.length<=140737488351232:=λi hi=>by rw[hD i hi,eF];exact aNa ht hok i hi
 have hSC:=Z5 F.c.fr D E V3 (λi hi=>by rw[hE i hi,hD i hi]) (rd _ D H.o5) (rd _ E H.o2) hlen;refine aD ?_;iterate 2 refine qa ?_
 refine qg (qG (b:=true) _ _ rfl Qv Qv (Xt rfl) _) ?_;refine qa ?_;iterate 2 refine qa ?_
 refine bI rfl (dB rfl rfl rfl Qv) (λK0 hK=>dG _ _ _ _ _ rfl Qv Qv (EntK.out _ _) hSC ?_);rintro e V4 ⟨rfl,k4⟩;refine⟨_,rfl,hK _ _ ?_⟩;refine qg (aL _ _ _ rfl Qv Qv _) ?_;iterate 3 refine qa ?_
 refine bI rfl (dB rfl rfl rfl Qv) (λK0 hK=>dG _ _ _ _ _ rfl Qv Qv (EntK.out _ _) (AP F.r va ua vc uc V4 ((DC hv Yc).below k4) ((DC hu Yc).below k4) Yo) ?_);rintro e V5 ⟨rfl,k5⟩;refine⟨_,rfl,hK _ _ ?_⟩;replace H:=(H.call k4).call k5;refine qg (aL _ _ _ rfl Qv Qv _) ?_;refine qa ?_;refine aC ?_;exact aW (aN YB (dW rfl Qv) ⟨rfl,H.bel⟩)
theorem FX(t:Tn)(mo:Option Addr)(mc:Nat)(L:List Li)(ht:t.Ok)(hr:RdS qN 14 w mo L)(hok:∀c,c∈L->LiOK w c/\c.LL.length*40<=140737488351232)(hln:L.length*128<=140737488351232):Calls Tryz.prog 4 #[aP (jA t) 0 4,.slice mo L.length mc] w λe w'=>e=.returned (.bool true)/\Below w.heap.size w w':=KU t mo mc L ht hr (λc hc=>(hok c hc).1) hln (λc hc=>(hok c hc).2)
end Go.Proofs.YthimcecbgpamdaaGreat
