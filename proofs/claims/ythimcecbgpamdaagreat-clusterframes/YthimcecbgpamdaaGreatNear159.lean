import Derived.Test.YthimcecbgpamdaaGreatNear139
set_option maxHeartbeats 4000000
namespace Go.Proofs.YthimcecbgpamdaaGreat
open Go.RowKit
variable{v:Value}{w:World}{o:Oper}{f:Operand->Value}{P:Program}
theorem FP{ty:TypeId}{x:Operand}(T:OneC P ty){b off:Nat}(hc:w.cell? ⟨b,off,none⟩=some v)(ho:o.op=.load ty x)(hx:f x=.pointer (some ⟨b,off,none⟩)):(execOp f o).run P w=.ok (.value v) w:=by
 unfold execOp;simp only[ho,hx,Instr.loadAt,Instr.sureAddr,loadVar,Sem.run_bind,Sem.run_pure,Result.andThen_ok,T.agg];go_simp
variable{Q:Exit->Act->World->Prop}{a:Act}
theorem aLU{x y:Code}(T:Act->World->Prop)(hx:(∀A W,T A W->CodI P y Q A W)->CodI P (.seq x y) Q a w)(hy:∀A W,T A W->CodI P y Q A W):CodI P (.seq x y) Q a w:=hx hy
def aOn(w0:World)(d:Nd×Ad):It:=⟨λ_=>nJ w0 d.1 d.2.1 d.2.2,λ_=>False,λh _=>h,λ_ h=>h.elim⟩
def wC(w0:World)(e:(Nd×Ad)×Bool):It:=if e.2=true then vU w0.heap.size e.1 else aOn w0 e.1
def EF(w0:World)(E:Nat->(Nd×Ad)×Bool):It:=M9 (λi=>wC w0 (E i))
variable{w0:World}{E:Nat->(Nd×Ad)×Bool}{i:Nat}
theorem QG(h:(EF w0 E).p w)(k:Below w0.heap.size w0 w)(hi:i<4):nJ w (E i).1.1 (E i).1.2.1 (E i).1.2.2:=by
 have h1:(wC w0 (E i)).p w:=h i hi;unfold wC at h1;split at h1
 .have h2:World.ownsRow _ _ _ _ _ _ _:=h1;obtain⟨a,c,e,s,_⟩:=iT h2;unfold slV at e
  cases e
  exact s
 .exact Sr.below h1 k
def noT:It:=⟨λ_=>True,λ_=>False,λ_ _=>trivial,λ_ h=>h.elim⟩
def mpJ(B:Nat)(t:(Ms×Ad)×Option Nat):It:=match t.2 with
 |some b=>(vhI 67 b 4 4 (msF t.1.1.K t.1.1.F t.1.1.R (slV t.1.2 t.1.1.L.length))).and (tlJ B t.1)
 |none=>noT
def xV(B:Nat)(T:Nat->(Ms×Ad)×Option Nat):It:=M9 (λi=>mpJ B (T i))
def pG(T:Nat->(Ms×Ad)×Option Nat)(j:Nat):Value:=.pointer ((T j).2.map λb=>⟨b,0,none⟩)
def noM:Nat->(Ms×Ad)×Option Nat:=λ_=>((jD,(none,0)),none)
theorem aHR(T:Nat->(Ms×Ad)×Option Nat)(i:Nat)(m:Ms×Ad)(b:Nat):∀j,j<4->stW (pG T) i (.pointer (some ⟨b,0,none⟩)) j=pG (dS T i (m,some b)) j:=λj _=>by
 unfold stW pG dS;split<;>rfl
theorem aHH(T:Nat->(Ms×Ad)×Option Nat):∀j,j<4->(pG T j).oneCell'=true:=λ_ _=>rfl
instance iRefCl3_1:ZerK Tryz.prog 81 4 (pG noM):=⟨λw=>Yl⟩
theorem ZW(B:Nat)(w:World):(xV B noM).p w:=λ_ _=>trivial
variable{T:Nat->(Ms×Ad)×Option Nat}{B:Nat}
theorem aIn{j b:Nat}(h:(xV B T).p w)(hj:j<4)(e:(T j).2=some b):Vh 67 w b 4 4 (msF (T j).1.1.K (T j).1.1.F (T j).1.1.R (slV (T j).1.2 (T j).1.1.L.length))/\(T j).1.1.L.length<=(T j).1.2.2/\Sr w (T j).1.2.1 (T j).1.1.L.length (T j).1.2.2 (iF (gL (T j).1.1.L)):=by
 have h1:(mpJ B (T j)).p w:=h j hj;unfold mpJ at h1;rw[e] at h1;have h2:World.ownsRow _ _ _ _ _ _ _:=h1.2;obtain⟨a,c,ec,s,hc⟩:=iT h2;unfold slV at ec
 cases ec
 exact⟨h1.1,hc,s⟩
theorem zM(fr:Int)(D:Nat->Nd×Ad){j:Nat}(hj:j<74):gF fr D (0+1+i*74+j)=ndF (D i).1 (slV (D i).2 (D i).1.vA.length) j:=by
 unfold gF;rw[Nat.zero_add];exact TV _ _ _ hj
theorem Y8{x:Ip}{t u:Nat->Ms}{wo ph:Nat}:∀{k:Nat},(∀j:Nat,j<k->(j:Int)≠x.bad->t j=u j)->mQ x t wo ph k=mQ x u wo ph k
 |0,_=>rfl
 |k+1,h=>by
  show mQ x t wo ph k++_=mQ x u wo ph k++_
  rw[Y8 (λj hj hb=>h j Yo hb)];by_cases hb:(k:Int)=x.bad
  .rw[if_pos hb,if_pos hb]
  .rw[h k Yo hb]
theorem zQ(fr:Int)(E:Nat->(Nd×Ad)×Bool)(i:Nat)(d:Nd×Ad):∀j,j<297->stP (gF fr (λi=>(E i).1)) (0+1+i*74) 74 (ndF d.1 (slV d.2 d.1.vA.length)) j=gF fr (λj=>(dS E i (d,true) j).1) j:=by
 rw[vL (λe:(Nd×Ad)×Bool=>e.1),Nat.zero_add];exact aAi fr _ i d
theorem TK{x y:Code}(T:Act->World->Prop)(hx:(∀A W,T A W->CodI P y Q A W)->CodI P x (Nx P y Q) a w)(hy:∀A W,T A W->CodI P y Q A W):CodI P (.seq x y) Q a w:=aH (hx hy)
abbrev rfA(A:Act)(w w1 w2 W w6:World)(k:Nat):Prop:=A.tmps.size=193/\A.defers=[]/\A.eval (.tmp 2)=.pointer (some ⟨w.heap.size,0,none⟩)/\A.eval (.tmp 3)=.pointer (some ⟨w1.heap.size,0,none⟩)/\A.eval (.tmp 4)=.pointer (some ⟨w2.heap.size,0,none⟩)/\A.eval (.tmp 8)=.pointer (some ⟨W.heap.size,0,none⟩)/\A.eval (.tmp 9)=.pointer (some ⟨w6.heap.size,0,none⟩)/\A.eval (.tmp 10)=.int .i64 (k:Int)
abbrev QV(w w1 w2:World)(x:Ip)(lo:Option Addr)(lc:Nat)(LL:List Lj)(fr:Int)(D:Nat->Nd×Ad):List It:=[vhI 40 w2.heap.size 297 297 (pO 0 (λ_=>dI) (λ_=>slV (none,0) 0)),vhI 43 w1.heap.size 14 14 (mE x.rd x.bad (.slice lo LL.length lc)),vhI 40 w.heap.size 297 297 (gF fr D)]
def PhK(k:Nat)(fr:Int)(rd:Nat->Int)(fn:Nat):Prop:=∃N M,xN N M fn/\(∀n l,phN k n fr rd l=N n l)/\∀n l,phM k n fr rd l=M n l
set_option maxRecDepth 10000 in
theorem ZG:aIc 8:=by
 intro x fr D lo lc LL w hx hip hcl hag hj;have hxl:x.ly.length=LL.length:=by rw[hx,List.length_map]
 obtain⟨c,ec⟩:∃c,c=(⟨fr,λi=>(D i).1⟩:Cl):=⟨_,rfl⟩;have ecf:c.fr=fr:=by rw[ec]
 have ecn:∀i,c.nd i=(D i).1:=λi=>by rw[ec]
 rw[<-ec] at hcl ⊢;have hno:∀(E:Int) (W:World) (l:List It),iU x c=E->E≠0->Cx w W l->∃(D':Nat->Nd×Ad) (v:Value),Ending.returned (.tuple #[aN (pO 0 (λ_=>dI) (λ_=>slV (none,0) 0)) 0 297,.slice none 0 0,.int .i64 E])=.returned (.tuple #[aN (gF (vJ x c).fr D') 0 297,v,.int .i64 (iU x c)])/\(∀i,i<4->(D' i).1=(vJ x c).nd i)/\Cx w W [gB w.heap.size 86 14 v (xU x c).length (nO nG 14 (xU x c)),lX w.heap.size D']:=λE W l he h0 H=>by
  have e1:vJ x c=aBb:=by unfold vJ;rw[if_neg (by rw[he];exact h0)]
  have e2:xU x c=[]:=by unfold xU;rw[if_neg (by rw[he];exact h0)]
  refine⟨λ_=>(dI,(none,0)),.slice none 0 0,by rw[e1,he];rfl,λi hi=>by rw[e1];rfl,?_⟩;rw[e2];exact (((H.sub (List.nil_sublist _)).add (Below.refl _ _) (lX w.heap.size (λ_=>(dI,(none,0)))) (λ_ _=>World.ownsRow_nil _ _ _ _) (λj ⟨_,_,e⟩=>absurd e (λe=>nomatch e))).add (Below.refl _ _) (gB _ _ _ _ _ _) (World.ownsRow_nil _ _ _ _) (λj e=>nomatch e))
 refine bO Tryz.func8 rfl 193 rfl Yd (λA hs hd hb=>?_);have b0:A.eval (.tmp 0)=aN (gF fr D) 0 297:=hb 0 _ rfl;have b1:A.eval (.tmp 1)=aN (mE x.rd x.bad (.slice lo LL.length lc)) 0 14:=hb 1 _ rfl;clear hb;have H:=Cx.start w;refine aD (aG ?_);refine iH H ?_;clear H;intro w1 H z1;refine iH H ?_;clear H;intro w2 H z2;refine gJ H ?_;clear H;intro w3 H z3;iterate 2 refine qa ?_
 refine aC<|aH<|aLU (λA W=>A.tmps.size=193/\A.defers=[]/\A.eval (.tmp 2)=.pointer (some ⟨w.heap.size,0,none⟩)/\A.eval (.tmp 3)=.pointer (some ⟨w1.heap.size,0,none⟩)/\A.eval (.tmp 4)=.pointer (some ⟨w2.heap.size,0,none⟩)/\A.eval (.tmp 35)=.bool (decide (x.bad< -1\/4<=x.bad\/fr<0\/1073741823<fr))/\Cx w W (QV w w1 w2 x lo lc LL fr D)) (λhT=>?_) (λA W hT=>?_)
 .refine aD ?_;iterate 2 refine qa ?_
  by_cases g1:x.bad< -1
  .refine qg (fO (b:=true) _ _ rfl Qv Qv (Xt g1) _) ?_;refine qa ?_;iterate 3 refine fU ?_
   refine qg (aL _ _ _ rfl Qv Qv _) ?_;refine qa ?_;iterate 3 refine fU ?_
   refine qg (aL _ _ _ rfl Qv Qv _) ?_;refine qa ?_;iterate 3 refine fU ?_
   refine qg (aL _ _ _ rfl Qv Qv _) ?_;refine aC ?_;exact hT _ _ ⟨YA,YB,Qv,Qv,Qv,Eq.trans Qv (by rw[Xt (Or.inl g1)]),H⟩
  refine qg (fO (b:=false) _ _ rfl Qv Qv (Xf g1) _) ?_;iterate 3 refine qa ?_
  by_cases g2:3<x.bad
  .refine qg (fF (b:=true) _ _ rfl Qv Qv (Xt g2) _) ?_;refine qg (aO _ _ _ rfl Qv Qv _) ?_;refine qa ?_;iterate 3 refine fU ?_
   refine qg (aL _ _ _ rfl Qv Qv _) ?_;refine qa ?_;iterate 3 refine fU ?_
   refine qg (aL _ _ _ rfl Qv Qv _) ?_;refine aC ?_;exact hT _ _ ⟨YA,YB,Qv,Qv,Qv,Eq.trans Qv (by rw[Xt (show x.bad< -1\/4<=x.bad\/fr<0\/1073741823<fr by omega)]),H⟩
  refine qg (fF (b:=false) _ _ rfl Qv Qv (Xf g2) _) ?_;refine qg (aO _ _ _ rfl Qv Qv _) ?_;iterate 2 refine qa ?_
  refine qg (aY (v:=.int .i64 fr) _ _ rfl OneK.out Qv H.v2 Yo rfl) ?_;by_cases g3:fr<0
  .refine qg (fO (b:=true) _ _ rfl Qv Qv (Xt g3) _) ?_;refine qg (aO _ _ _ rfl Qv Qv _) ?_;refine qa ?_;iterate 3 refine fU ?_
   refine qg (aL _ _ _ rfl Qv Qv _) ?_;refine aC ?_;exact hT _ _ ⟨YA,YB,Qv,Qv,Qv,Eq.trans Qv (by rw[Xt (show x.bad< -1\/4<=x.bad\/fr<0\/1073741823<fr by omega)]),H⟩
  refine qg (fO (b:=false) _ _ rfl Qv Qv (Xf g3) _) ?_;refine qg (aO _ _ _ rfl Qv Qv _) ?_;iterate 2 refine qa ?_
  refine qg (aY (v:=.int .i64 fr) _ _ rfl OneK.out Qv H.v2 Yo rfl) ?_;refine qa ?_;refine qg (aO _ _ _ rfl Qv Qv _) ?_;refine aC ?_;exact hT _ _ ⟨YA,YB,Qv,Qv,Qv,Eq.trans Qv (congrArg Value.bool (decide_eq_decide.2 Yo)),H⟩
 clear b0 b1 hs hd H;obtain⟨hs,hd,b2,b3,b4,b35,H⟩:=hT;refine lL b35 (λh=>?_) (λh=>?_)
 .have hE:iU x c=3:=by unfold iU;rw[if_pos (by rw[ecf];exact Xu h)]
  refine aD (aG ?_);refine qg (yL rfl _) ?_;refine fJ H.a0 aV (zN _ _ _ _) ?_;clear H;intro w4 H z4;iterate 2 refine qa ?_
  refine aC ?_;exact aW (lY (aP YB (wL rfl Qv Qv Qv ManyK.out H.v0 (Xr _)) (hno 3 _ _ hE Yo H)))
 have g0:=Xg h;refine aU<|aH<|aD (aG ?_);iterate 3 refine qa ?_
 refine qa ?_;refine aC<|fB (λh=>?_) (λh=>?_)
 .have hE:iU x c=6:=by
   have:=Xu h;unfold iU;rw[if_neg (by rw[ecf];exact g0),if_pos Yo]
  refine aD<|qg (yL rfl _) ?_;refine fJ H.a0 aV (zN _ _ _ _) ?_;clear H;intro w4 H z4;iterate 2 refine qa ?_
  refine aC ?_;exact aW (lY (aP YB (wL rfl Qv Qv Qv ManyK.out H.v0 (Xr _)) (hno 6 _ _ hE Yo H)))
 have hl4:LL.length<=400:=by have:=Xg h;omega
 refine aU<|aH<|aD<|qa ?_;refine aC<|aK ?_;refine bX (λr A W=>∃i:Nat,i<=4/\4-i<=r/\A.tmps.size=193/\A.defers=[]/\A.eval (.tmp 2)=.pointer (some ⟨w.heap.size,0,none⟩)/\A.eval (.tmp 3)=.pointer (some ⟨w1.heap.size,0,none⟩)/\A.eval (.tmp 4)=.pointer (some ⟨w2.heap.size,0,none⟩)/\A.eval (.tmp 42)=.int .i64 (i:Int)/\(∀j:Nat,j<i->(c.nd j).id=(j:Nat))/\Cx w W (QV w w1 w2 x lo lc LL fr D)) 4
  ⟨0,Xz _,Yo,YA,YB,Qv,Qv,Qv,Qv,λj hj=>absurd hj Yo,H⟩ (λr A W hI=>?_)
 clear b2 b3 b4 b35 hs hd H;obtain⟨i,hi,hr,hs,hd,b2,b3,b4,b42,hid,H⟩:=hI;refine aD (aG ?_);refine qa ?_;refine aC<|aH<|fB (λh=>?_) (λh=>?_)
 .have hin:i<4:=by have:=Xu h;omega
  refine aU<|aH (aK ?_);refine aD ?_;iterate 2 refine qa ?_
  refine aC<|aD ?_;iterate 2 refine qa ?_
  refine qg (bD _ _ _ _ rfl ArrK.out SizK.out Qv Qv rfl hin _) ?_;refine qa ?_;refine qg (aY (v:=.int .i64 (D i).1.id) _ _ rfl OneK.out Qv H.v2 Yo (zM fr D (i:=i) (j:=0) Yo)) ?_;refine qa ?_;refine qa ?_;refine aC<|fB (λh=>?_) (λh=>?_)
  .have hE:iU x c=7:=by
    have:=Xu h;unfold iU;rw[if_neg (by rw[ecf];exact g0),if_neg Yo,if_neg (λ⟨e0,e1,e2,e3⟩=>this (by
     rw[<-ecn];have:i=0\/i=1\/i=2\/i=3:=Yo;rcases this with rfl|rfl|rfl|rfl
     .exact e0
     .exact e1
     .exact e2
     .exact e3))]
   refine aD<|qg (yL rfl _) ?_;refine fJ H.a0 aV (zN _ _ _ _) ?_;clear H;intro w4 H z4;iterate 2 refine qa ?_
   refine aC ?_;exact aW (MM (lY (aGe (MM (lY (aP YB (wL rfl Qv Qv Qv ManyK.out H.v0 (Xr _)) (hno 7 _ _ hE Yo H)))))))
  .have hidi:(D i).1.id=(i:Nat):=by simpa using h
   refine fM<|aI ?_;repeat refine qa ?_
   exact aS ⟨4-(i+1),Yo,i+1,Yo,Yo,YA,YB,Qv,Qv,Qv,Eq.trans Qv YC,λj hj=>by
    by_cases e:j=i
    .rw[e,ecn];exact hidi
    .exact hid j Yo,H⟩
 obtain rfl:i=4:=by have:=Xg h;omega
 have hE:iU x c=0:=by
  unfold iU;rw[if_neg (by rw[ecf];exact g0),if_neg Yo,if_pos ⟨hid 0 Yo,hid 1 Yo,hid 2 Yo,hid 3 Yo⟩]
 refine bQ (dU ?_);refine aD<|qa ?_;refine gJ H ?_;clear H;intro w5 H z5;refine fJ H.a0 aV (sW _ _) ?_;clear H;intro w6 H z6;refine aC<|aD<|gJ H ?_;clear H;intro w7 H z7;refine aC<|aH<|aD<|qa ?_;refine aC<|aK ?_;have hNd:∀k i,k<=5->i<4->NdOK ((iA x c k).nd i):=λk i _ hi=>(tT hip hcl k).1 i hi
 replace H:=(H.add (Below.refl _ _) (xV w.heap.size noM) (ZW _ _) (λj ⟨_,_,e⟩=>e.elim)).f2;replace H:=H.add (Below.refl _ _) (EF w (λi=>(D i,false))) (λi hi=>hag i hi) (λj ⟨_,_,e⟩=>e.elim);refine bX (λr A W'=>∃(k:Nat) (E:Nat->(Nd×Ad)×Bool) (T:Nat->(Ms×Ad)×Option Nat),k<=5/\5-k<=r/\rfA A w w1 w2 W w6 k/\(∀i,i<4->(E i).1.1=(iA x c k).nd i)/\(0<k->∀i,i<4->(E i).2=true)/\(0<k->∀j:Nat,j<4->(j:Int)≠x.bad->(∃b,(T j).2=some b)/\(T j).1.1=vY x fr (iA x c (k-1)) (k-1) j)/\Cx w W' (EF w E::vhI 40 W.heap.size 297 297 (gF fr (λi=>(E i).1))::xV w.heap.size T::vhI 81 w6.heap.size 4 4 (pG T)::QV w w1 w2 x lo lc LL fr D)) 5
  ⟨0,λi=>(D i,false),noM,Xz _,Yo,⟨YA,YB,Qv,Qv,Qv,Qv,Qv,Qv⟩,λi hi=>(ecn i).symm,λh=>absurd h Yo,λh=>absurd h Yo,H⟩ (λr A V hI=>?_)
 clear b2 b3 b4 b42 hs hd H;obtain⟨k,E,T,hk,hkr,⟨hs,hd,b2,b3,b4,b8,b9,b10⟩,hE1,hE2,hTm,H⟩:=hI;refine aH<|aD (aG ?_);iterate 2 refine qa ?_
 refine aC<|fB (λh=>?_) (λh=>?_)
 .have hk5:k<5:=by have:=Xu h;omega
  refine aU<|aH (aK ?_);refine aD<|gJ H ?_;clear H;intro V1 H z1';obtain⟨b11,eb11⟩:∃b11,b11=V.heap.size:=⟨_,rfl⟩;rw[<-eb11] at H ⊢;refine aC<|aH<|aD<|qa ?_;refine aC<|aK ?_;replace H:=(H.add (Below.refl _ _) (xV w.heap.size noM) (ZW _ _) (λj ⟨_,_,e⟩=>e.elim)).f2.f3.f1;refine bX (λr A W'=>∃(i:Nat) (E':Nat->(Nd×Ad)×Bool) (N:Nat->(Ms×Ad)×Option Nat),i<=4/\4-i<=r/\rfA A w w1 w2 W w6 k/\A.eval (.tmp 11)=.pointer (some ⟨b11,0,none⟩)/\A.eval (.tmp 59)=.int .i64 (i:Int)/\(∀j,j<i->(E' j).1.1=yF x fr (iA x c k) k j/\(E' j).2=true)/\(∀j,i<=j->E' j=E j)/\(∀j:Nat,j<i->(j:Int)≠x.bad->(∃b,(N j).2=some b)/\(N j).1.1=vY x fr (iA x c k) k j)/\Cx w W' (EF w E'::vhI 40 W.heap.size 297 297 (gF fr (λi=>(E' i).1))::xV w.heap.size N::vhI 81 b11 4 4 (pG N)::xV w.heap.size T::vhI 81 w6.heap.size 4 4 (pG T)::QV w w1 w2 x lo lc LL fr D)) 4
   ⟨0,E,noM,Xz _,Yo,⟨YA,YB,Qv,Qv,Qv,Qv,Qv,Qv⟩,Qv,Qv,λj hj=>absurd hj Yo,λ_ _=>rfl,λj hj=>absurd hj Yo,H⟩ (λr A V2 hI=>?_)
  clear b2 b3 b4 b8 b9 b10 hs hd H;obtain⟨i,E',N,hi,hir,⟨hs,hd,b2,b3,b4,b8,b9,b10⟩,b11',b59,hN1,hN2,hN3,H⟩:=hI;refine aD (aG ?_);refine qa ?_;refine aC<|aH<|fB (λh=>?_) (λh=>?_)
  .have hin:i<4:=by have:=Xu h;omega
   have hEi:(E' i).1.1=(iA x c k).nd i:=by rw[hN2 i (Xr _),hE1 i hin]
   have nok:NdOK (E' i).1.1:=by rw[hEi];exact hNd k i hk hin
   refine aU<|aH (aK ?_);refine aD ?_;iterate 2 refine qa ?_
   refine aC<|aH<|aD ?_;iterate 4 refine qa ?_
   refine aC<|fB (λh=>?_) (λh=>?_)
   .have hbad:(i:Int)=x.bad:=Xu h;have hDi:(D i).1=(iA x c k).nd i:=by rw[zZ hbad,ecn]
    have dok:NdOK (D i).1:=by rw[hDi];exact hNd k i hk hin
    refine aD ?_;iterate 3 refine qa ?_
    refine qg (bD _ _ _ _ rfl ArrK.out SizK.out Qv Qv rfl hin _) ?_;refine qg (Eq.trans (aX _ _ rfl ManyK.out Qv H.v8 Yo) (by rw[jG (f:=ndF (D i).1 (slV (D i).2 (D i).1.vA.length)) (λj hj=>zM fr D hj)])) ?_;refine mO (show Calls _ _ #[aN (ndF (D i).1 (slV (D i).2 (D i).1.vA.length)) 0 74] _ _ from lT (D i).1 (D i).2.1 (D i).2.2 _ (Sr.below (hag i hin) H.bel) dok.vA) ?_;rintro e w8 ⟨a',c',rfl,o8,k8⟩;refine⟨aN (ndF (D i).1 (slV (a',c') (D i).1.vA.length)) 0 74,rfl,?_⟩;have hsz:=H.size;replace H:=H.add k8 (vU w.heap.size ((D i).1,(a',c'))) (bY o8 hsz) (λj e=>(o8.lt j e).1);refine qa ?_;refine qg (bD _ _ _ _ rfl ArrK.out SizK.out Qv Qv rfl hin _) ?_;refine fJ H.a2 (zQ fr E' i ((D i).1,(a',c'))) (bP _ _ _ _) ?_;clear H;intro w9 H z9;refine aC<|bQ (yX ?_);refine aI ?_;repeat refine qa ?_
    exact aS ⟨4-(i+1),Yo,i+1,dS E' i (((D i).1,(a',c')),true),N,Yo,Yo,⟨YA,YB,Qv,Qv,Qv,Qv,Qv,Qv⟩,Qv,Eq.trans Qv YC,λj hj=>by
     by_cases e:j=i
     .rw[e,dD];refine⟨?_,rfl⟩;show (D i).1=yF x fr (iA x c k) k i
      unfold yF;rw[if_pos hbad,hDi]
     .rw[bZ _ _ e];exact hN1 j Yo,λj hj=>by rw[bZ _ _ Yo];exact hN2 j Yo,λj hj hb=>hN3 j (by
      have:j≠i:=λe=>hb (by rw[e];exact hbad)
      omega) hb,mJ (g:=wC w) (y:=(((D i).1,(a',c')),true)) i H⟩
   .have hbad:(i:Int)≠x.bad:=by simpa using h
    refine aU<|aD<|gJ H ?_;clear H;intro V3 H z3';obtain⟨b13,eb13⟩:∃b13,b13=V2.heap.size:=⟨_,rfl⟩;rw[<-eb13] at H ⊢;refine aC<|aD<|qa ?_;refine aC<|TK (λA W'=>∃(mo:Option Addr) (mc:Nat) (M:List Lm),rfA A w w1 w2 W w6 k/\A.eval (.tmp 11)=.pointer (some ⟨b11,0,none⟩)/\A.eval (.tmp 12)=.int .i64 (i:Int)/\A.eval (.tmp 13)=.pointer (some ⟨b13,0,none⟩)/\A.eval (.tmp 59)=.int .i64 (i:Int)/\A.eval (.tmp 14)=.slice mo M.length mc/\M.map Lm.m=(iA x c k).bx i/\MRd W' mo M/\M.length<=mc/\Cx w W' (vhI 67 b13 4 4 (msF 0 0 0 (.slice none 0 0))::EF w E'::vhI 40 W.heap.size 297 297 (gF fr (λi=>(E' i).1))::xV w.heap.size N::vhI 81 b11 4 4 (pG N)::xV w.heap.size T::vhI 81 w6.heap.size 4 4 (pG T)::QV w w1 w2 x lo lc LL fr D)) (λhT=>?_) (λA V4 hT=>?_)
    .refine aD ?_;iterate 2 refine qa ?_
     refine aC<|fB (λh=>?_) (λh=>?_)
     .have hk0:0<k:=by have:=Xu h;omega
      refine aI ?_;iterate 4 refine qa ?_
      refine qg (Eq.trans (rZ _ _ rfl Qv Qv Yo Yo _) (by rw[show (k:Int)-1=((k-1:Nat):Int) by omega])) ?_;have hmp:(xV w.heap.size T).p V3:=H.o5;refine aNY (show Calls _ _ #[.int .i64 (i:Int),aN (pG T) 0 4,aN (mE x.rd x.bad (.slice lo LL.length lc)) 0 14,.int .i64 ((k-1:Nat):Int)] _ _ from BP x (λj=>(T j).1.1) (λj=>(T j).1.2) (λj=>(T j).2.map λb=>⟨b,0,none⟩) lo lc LL i (k-1) _ hx (hj.below H.bel) hl4 (λj hj4 _ hb=>by
       obtain⟨⟨b,eb⟩,em⟩:=hTm hk0 j hj4 hb;obtain⟨v1,v2,v3⟩:=aIn hmp hj4 eb;exact⟨b,by rw[eb];rfl,v1,by rw[em, <-ecf];exact aBi hip hcl hj4 hb,v2,v3⟩)) ?_
      rintro e V5 ⟨mo,mc,M,rfl,hM,oM,k5⟩;refine⟨_,rfl,?_⟩;replace H:=H.call k5;refine qa ?_;refine aC ?_;have hM':M.map Lm.m=(iA x c k).bx i:=by
       rw[hM];obtain⟨k',rfl⟩:∃k',k=k'+1:=⟨k-1,Yo⟩;show _=mQ x (vY x c.fr (iA x c k') k') i k' 4
       refine Y8 (λj hj hb=>?_);rw[(hTm hk0 j hj hb).2,ecf];rfl
      have hMo:=JR hM' ((tT hip hcl k).2 i hin);obtain⟨_,_,em,hmc⟩:=dP oM.1
      cases em
      exact hT _ _ ⟨mo,mc,M,⟨YA,YB,Qv,Qv,Qv,Qv,Qv,Qv⟩,Qv,Qv,Qv,Qv,Qv,hM',oM.rd (λc hc=>by have:=(hMo c hc).n;omega),hmc,H⟩
     .have hk0:k=0:=by have:=Xg h;omega
      refine aU ?_;exact hT _ _ ⟨none,0,[],⟨YA,YB,Qv,Qv,Qv,Qv,Qv,Qv⟩,Qv,Qv,Qv,Qv,Qv,by rw[hk0];rfl,⟨λh=>absurd h (by simp),λ_ h=>absurd h (by simp)⟩,Xr _,H⟩
    .clear b2 b3 b4 b8 b9 b10 b11' b59 hs hd H;obtain⟨mo,mc,M,⟨hs,hd,b2,b3,b4,b8,b9,b10⟩,b11',b12,b13',b59,b14,hM,hMr,hMc,H⟩:=hT;have hMo:=JR hM ((tT hip hcl k).2 i hin);have hMl:M.length<=1600:=by
      have h1:=congrArg List.length hM;rw[List.length_map] at h1;rw[h1];exact UB Yo k i
     refine TK (λA W'=>∃(d:Nd×Ad) (m:Ms×Ad),rfA A w w1 w2 W w6 k/\A.eval (.tmp 11)=.pointer (some ⟨b11,0,none⟩)/\A.eval (.tmp 12)=.int .i64 (i:Int)/\A.eval (.tmp 13)=.pointer (some ⟨b13,0,none⟩)/\A.eval (.tmp 59)=.int .i64 (i:Int)/\d.1=yF x fr (iA x c k) k i/\m.1=vY x fr (iA x c k) k i/\Cx w W' (vhI 67 b13 4 4 (msF m.1.K m.1.F m.1.R (slV m.2 m.1.L.length))::tlJ w.heap.size m::EF w (dS E' i (d,true))::vhI 40 W.heap.size 297 297 (gF fr (λj=>(dS E' i (d,true) j).1))::xV w.heap.size N::vhI 81 b11 4 4 (pG N)::xV w.heap.size T::vhI 81 w6.heap.size 4 4 (pG T)::QV w w1 w2 x lo lc LL fr D)) (λhT2=>?_) (λA V5 hT2=>?_)
     .refine aD (aG ?_);refine qa ?_;refine aC<|aK<|aD ?_;iterate 2 refine qa ?_
      refine aC<|fB (λh=>?_) (λh=>?_)
      .obtain rfl:k=0:=by have:=Xu h;omega
       replace H:=H.drew;have hc8:∀q,q<74->V4.drew.cell? ⟨W.heap.size,0+1+i*74+q,none⟩=some (ndF (E' i).1.1 (slV (E' i).1.2 (E' i).1.1.vA.length) q):=λq hq=>by
        rw[<-zM fr (λi=>(E' i).1) hq];exact H.v2.cell Yo
       have hcf:V4.drew.cell? ⟨w.heap.size,0+0,none⟩=some (.int .i64 fr):=H.v9.cell (show 0<297 by omega);have hcr:∀q,q<3->V4.drew.cell? ⟨w1.heap.size,0+0+i*3+q,none⟩=some (iV (x.rd i q)):=λq hq=>by
        have:=H.v8.cell (i:=0+0+i*3+q) Yo;rw[this];unfold mE;rw[if_pos Yo,show (0+0+i*3+q)/3=i by omega,show (0+0+i*3+q)%3=q by omega]
       have hS:(λW'=>Below V4.drew.heap.size V4.drew W') V4.drew:=Below.refl _ _;refine fG (S:=λW'=>Below V4.drew.heap.size V4.drew W') (.mv 0 (.mv 1 (.mv 2 (.mv 3 (.rd 4 (.mv 5 (.rd 6 (.mv 7 (.mv 8 (.mv 9 (.rd 10 (.mv 15 (.go 11 (.mv 12 (.mv 13 (.mv 14 (.mv 16 (.go 17 (.go 18 .fin))))))))))))))))))) [17,18] Yl Yl ?_;iterate 3 refine qj ?_
       refine fE rfl rfl (λ_ _ _ h=>h) Yw (λw=>bD _ _ _ _ rfl ArrK.out SizK.out Qv Qv rfl hin w) ?_;refine Yr rfl hS (λ_ H=>iM (g:=ndF (E' i).1.1 (slV (E' i).1.2 (E' i).1.1.vA.length)) ManyK.out (λq hq=>aM (hc8 q hq) H) rfl Qv) ?_;refine qj ?_;refine Yr rfl hS (λ_ H=>FP OneK.out (aM hcf H) rfl Qv) ?_;iterate 2 refine qj ?_
       refine fE rfl rfl (λ_ _ _ h=>h) Yw (λw=>bD _ _ _ _ rfl ArrK.out SizK.out Qv Qv rfl hin w) ?_;refine Yr rfl hS (λ_ H=>iM (g:=λa=>iV (x.rd i a)) ManyK.out (λq hq=>aM (hcr q hq) H) rfl Qv) ?_;refine qj ?_;refine dC rfl rfl Yw (λK0 hK=>iD _ _ _ _ _ _ rfl Qv Qv Qv (EntK.out _ _) (show Calls _ _ #[aN (ndF (E' i).1.1 (slV (E' i).1.2 (E' i).1.1.vA.length)) 0 74,.int .i64 fr,aN (λa=>iV (x.rd i a)) 0 3] _ _ from ZF (E' i).1.1 (E' i).1.2.1 (E' i).1.2.2 fr (x.rd i) _ nok (QG H.o1 H.bel hin) (by rw[<-ecf];exact hcl.1) (hip.rd i)) ?_);rintro e w10 ⟨a',c',a2,c2,rfl,oA,oV,k10⟩;refine⟨.tuple #[aN (ndF (senN (E' i).1.1 fr (x.rd i)) (slV (a',c') (senN (E' i).1.1 fr (x.rd i)).vA.length)) 0 74,aN (msF (kV (E' i).1.1 fr (x.rd i)).K (kV (E' i).1.1 fr (x.rd i)).F (kV (E' i).1.1 fr (x.rd i)).R (slV (a2,c2) (kV (E' i).1.1 fr (x.rd i)).L.length)) 0 4],by rw[CV];rfl,hK _ _ (λ_ h=>h.trans (k10.mono h.size)) ?_⟩;replace H:=I1 (n:=senN (E' i).1.1 fr (x.rd i)) (a1:=(a',c')) (a2:=(a2,c2)) H k10 (TH oA (CV _ _ _)) oV;iterate 3 refine qj ?_
       refine fE rfl rfl (λ_ _ _ h=>h) Yw (λw=>bD _ _ _ _ rfl ArrK.out SizK.out Qv Qv rfl hin w) ?_;refine dK rfl Yw (λK0 hK=>aR _ _ _ _ rfl ManyK.out Qv Qv H.v4 Yo (bP _ _ _ _) rfl (λw11 m11 k11 z11=>hK _ (λh=>absurd h Yc) ?_));replace H:=H.a4.s k11 (m11.congr (zQ fr E' i (senN (E' i).1.1 fr (x.rd i),(a',c'))));refine dK rfl Yw (λK0 hK=>aR _ _ _ _ rfl ManyK.out Qv Qv H.v2 Yo (eY _ _ _ _ _ _) rfl (λw12 m12 k12 z12=>hK _ (λh=>absurd h Yc) ?_));replace H:=H.a2.s k12 (m12.congr aV);refine nT ?_;exact hT2 _ _ ⟨(senN (E' i).1.1 fr (x.rd i),(a',c')),(kV (E' i).1.1 fr (x.rd i),(a2,c2)),⟨YA,YB,Qv,Qv,Qv,Qv,Qv,Qv⟩,Qv,Qv,Qv,Qv,by show senN (E' i).1.1 fr (x.rd i)=yF x fr (iA x c 0) 0 i;rw[hEi];unfold yF;rw[if_neg hbad];rfl,by show kV (E' i).1.1 fr (x.rd i)=vY x fr (iA x c 0) 0 i;rw[hEi];unfold vY;rw[if_neg hbad];rfl,(mJ (g:=wC w) (y:=((senN (E' i).1.1 fr (x.rd i),(a',c')),true)) i H.f3.f1).f2.f2.f1⟩
      .have h0:=Xg h;refine aD ?_;iterate 2 refine qa ?_
       refine aC<|fB (λh=>?_) (λh1=>?_);have hP:PhK k fr (x.rd i) 24:=by
        obtain rfl:k=1:=by have:=Xu h;omega
        exact⟨_,_,XU,λ_ _=>rfl,λ_ _=>rfl⟩
       rotate_left
       refine aD ?_;iterate 2 refine qa ?_
       refine aC<|fB (λh=>?_) (λh2=>?_);have hP:PhK k fr (x.rd i) 25:=by
        obtain rfl:k=2:=by have:=Xu h;omega
        exact⟨_,_,RN,λ_ _=>rfl,λ_ _=>rfl⟩
       rotate_left
       refine aD ?_;iterate 2 refine qa ?_
       refine aC<|fB (λh=>?_) (λh3=>?_);have hP:PhK k fr (x.rd i) 26:=by
        obtain rfl:k=3:=by have:=Xu h;omega
        exact⟨_,_,aBE,λ_ _=>rfl,λ_ _=>rfl⟩
       rotate_left
       have hP:PhK k fr (x.rd i) 27:=by
        have h1:=Xg h1;have h2:=Xg h2;have h3:=Xg h3;obtain rfl:k=4:=Yo;exact⟨_,_,ZE,λ_ _=>rfl,λ_ _=>rfl⟩
       all_goals
        obtain⟨N',M',hP,eN,eM⟩:=hP;have eN:=eN (E' i).1.1 (M.map Lm.m);have eM:=eM (E' i).1.1 (M.map Lm.m);refine aI ?_;iterate 3 refine qa ?_
        refine qg (bD _ _ _ _ rfl ArrK.out SizK.out Qv Qv rfl hin _) ?_;refine qg (Eq.trans (aX _ _ rfl ManyK.out Qv H.v2 Yo) (by rw[jG (f:=ndF (E' i).1.1 (slV (E' i).1.2 (E' i).1.1.vA.length)) (λj hj=>zM fr (λi=>(E' i).1) hj)])) ?_;refine qa ?_;refine yU (show Calls _ _ #[aN (ndF (E' i).1.1 (slV (E' i).1.2 (E' i).1.1.vA.length)) 0 74,.slice mo M.length mc] _ _ from hP (E' i).1.1 (E' i).1.2.1 (E' i).1.2.2 mo mc M _ nok (QG H.o1 H.bel hin) hMr Yo hMc (λm hm=>(hMo m hm).L)) ?_;rintro e w10 ⟨a',c',a2,c2,rfl,oA,oV,k10⟩;generalize N' (E' i).1.1 (M.map Lm.m)=n' at eN oA ⊢;generalize M' (E' i).1.1 (M.map Lm.m)=m' at eM oV ⊢;refine⟨.tuple #[aN (ndF n' (slV (a',c') n'.vA.length)) 0 74,aN (msF m'.K m'.F m'.R (slV (a2,c2) m'.L.length)) 0 4],rfl,?_⟩;replace H:=I1 (a1:=(a',c')) (a2:=(a2,c2)) H k10 oA oV;iterate 4 refine qa ?_
        refine qg (bD _ _ _ _ rfl ArrK.out SizK.out Qv Qv rfl hin _) ?_;refine fJ H.a4 (zQ fr E' i (n',(a',c'))) (bP _ _ _ _) ?_;clear H;intro w11 H z11;refine fJ H.a2 aV (eY _ _ _ _ _ _) ?_;clear H;intro w12 H z12;refine fD ?_;exact hT2 _ _ ⟨(n',(a',c')),(m',(a2,c2)),⟨YA,YB,Qv,Qv,Qv,Qv,Qv,Qv⟩,Qv,Qv,Qv,Qv,by unfold yF;rw[if_neg hbad, <-hEi, <-hM];exact eN.symm,by unfold vY;rw[if_neg hbad, <-hEi, <-hM];exact eM.symm,(mJ (g:=wC w) (y:=((n',(a',c')),true)) i H.f3.f1).f2.f2.f1⟩
     .clear b2 b3 b4 b8 b9 b10 b11' b59 b12 b13' b14 hs hd H;obtain⟨d,m,⟨hs,hd,b2,b3,b4,b8,b9,b10⟩,b11',b12,b13',b59,hd1,hm1,H⟩:=hT2;refine aI (aG ?_);refine qa ?_;refine qg (bD _ _ _ _ rfl ArrK.out SizK.out Qv Qv rfl hin _) ?_;refine pE (q:=0+i*1) (g':=pG (dS N i (m,some b13))) (u:=.pointer (some ⟨b13,0,none⟩)) H.a5 (λj hj=>by rw[show 0+i*1=i by omega];exact aHR N i m b13 j hj) ?_;clear H;intro V6 H z6';refine fD<|aI ?_;repeat refine qa ?_
      exact aS ⟨4-(i+1),Yo,i+1,dS E' i (d,true),dS N i (m,some b13),Yo,Yo,⟨YA,YB,Qv,Qv,Qv,Qv,Qv,Qv⟩,Qv,Eq.trans Qv YC,λj hj=>by
       by_cases e:j=i
       .rw[e,dD];exact⟨hd1,rfl⟩
       .rw[bZ _ _ e];exact hN1 j Yo,λj hj=>by rw[bZ _ _ Yo];exact hN2 j Yo,λj hj hb=>by
       by_cases e:j=i
       .rw[e,dD];exact⟨⟨b13,rfl⟩,hm1⟩
       .rw[bZ _ _ e];exact hN3 j Yo hb,(mJ (g:=mpJ w.heap.size) (y:=(m,some b13)) i H.merge.f3.f1).f2.f2⟩
  .obtain rfl:i=4:=by have:=Xg h;omega
   refine bQ (dU ?_);refine aI<|qa ?_;refine fJ H.a5 aV (aHH _) ?_;clear H;intro V3 H z3';refine fD<|aI ?_;repeat refine qa ?_
   exact aS ⟨5-(k+1),Yo,k+1,E',N,Yo,Yo,⟨YA,YB,Qv,Qv,Qv,Qv,Qv,Eq.trans Qv YC⟩,λi hi=>by
    show _=yF x c.fr (iA x c k) k i
    rw[ecf];exact (hN1 i hi).1,λ_ i hi=>(hN1 i hi).2,λ_ j hj hb=>hN3 j hj hb,H.sub (.cons_cons _ (.cons_cons _ (.cons_cons _ (.cons _ (.cons _ (List.Sublist.refl _))))))⟩
 obtain rfl:k=5:=by have:=Xg h;omega
 have hE2:=hE2 Yo;have hTm:=hTm Yo;refine bQ (dU ?_);refine aD<|qa ?_;refine aC<|aH<|aD<|qa ?_;refine aC<|aK ?_;replace H:=H.add (Below.refl _ _) (gB w.heap.size 86 14 (.slice none 0 0) 0 []) (World.ownsRow_nil _ _ _ _) (λj e=>nomatch e);refine bX (λr A W'=>∃(i:Nat) (E':Nat->(Nd×Ad)×Bool) (u:Value),i<=4/\4-i<=r/\(A.tmps.size=193/\A.defers=[]/\A.eval (.tmp 2)=.pointer (some ⟨w.heap.size,0,none⟩)/\A.eval (.tmp 3)=.pointer (some ⟨w1.heap.size,0,none⟩)/\A.eval (.tmp 4)=.pointer (some ⟨w2.heap.size,0,none⟩)/\A.eval (.tmp 8)=.pointer (some ⟨W.heap.size,0,none⟩)/\A.eval (.tmp 9)=.pointer (some ⟨w6.heap.size,0,none⟩))/\A.eval (.tmp 15)=u/\A.eval (.tmp 160)=.int .i64 (i:Int)/\(∀j,j<i->(E' j).1.1=zY x c j)/\(∀j,i<=j->E' j=E j)/\(∀j,j<4->(E' j).2=true)/\Cx w W' (gB w.heap.size 86 14 u (lZ x.bad (iA x c 5).nd (iA x c 5).bx i).length (nO nG 14 (lZ x.bad (iA x c 5).nd (iA x c 5).bx i))::EF w E'::vhI 40 W.heap.size 297 297 (gF fr (λi=>(E' i).1))::xV w.heap.size T::vhI 81 w6.heap.size 4 4 (pG T)::QV w w1 w2 x lo lc LL fr D)) 4
  ⟨0,E,_,Xz _,Yo,⟨YA,YB,Qv,Qv,Qv,Qv,Qv⟩,Qv,Qv,λj hj=>absurd hj Yo,λ_ _=>rfl,hE2,H⟩ (λr A V2 hI=>?_)
 clear b2 b3 b4 b8 b9 b10 hs hd H;obtain⟨i,E',u,hi,hir,⟨hs,hd,b2,b3,b4,b8,b9⟩,b15,b160,hN1,hN2,hN3,H⟩:=hI;refine aD (aG ?_);refine qa ?_;refine aC<|aH<|fB (λh=>?_) (λh=>?_)
 .have hin:i<4:=by have:=Xu h;omega
  have hEi:(E' i).1.1=(iA x c 5).nd i:=by rw[hN2 i (Xr _),hE1 i hin]
  have nok:NdOK (E' i).1.1:=by rw[hEi];exact hNd 5 i (Xr _) hin
  refine aU<|aH (aK ?_);refine aD ?_;iterate 2 refine qa ?_
  refine aC<|aH<|aD ?_;iterate 4 refine qa ?_
  refine aC<|fB (λh=>?_) (λh=>?_)
  .have hbad:(i:Int)=x.bad:=Xu h;refine bQ (yX ?_);refine aI ?_;repeat refine qa ?_
   exact aS ⟨4-(i+1),Yo,i+1,E',u,Yo,Yo,⟨YA,YB,Qv,Qv,Qv,Qv,Qv⟩,Qv,Eq.trans Qv YC,λj hj=>by
    by_cases e:j=i
    .rw[e,hEi,zZ hbad];unfold zY;rw[if_pos hbad]
    .exact hN1 j Yo,λj hj=>hN2 j Yo,hN3,by rw[aAB hbad];exact H⟩
  .have hbad:(i:Int)≠x.bad:=by simpa using h
   refine aU<|aD<|gJ H ?_;clear H;intro V3 H z3';obtain⟨b17,eb17⟩:∃b17,b17=V2.heap.size:=⟨_,rfl⟩;rw[<-eb17] at H ⊢;refine aC<|aH ?_;replace H:=H.drew;have hc8:∀q,q<74->V3.drew.cell? ⟨W.heap.size,0+1+i*74+q,none⟩=some (ndF (E' i).1.1 (slV (E' i).1.2 (E' i).1.1.vA.length) q):=λq hq=>by
    rw[<-zM fr (λi=>(E' i).1) hq];exact H.v3.cell Yo
   have hc9:∀q,q<4->V3.drew.cell? ⟨w6.heap.size,0+q,none⟩=some (pG T q):=λq hq=>H.v5.cellz hq
   have hc3:∀q,q<14->V3.drew.cell? ⟨w1.heap.size,0+q,none⟩=some (mE x.rd x.bad (.slice lo LL.length lc) q):=λq hq=>H.v7.cellz hq
   have hmp:(xV w.heap.size T).p V3.drew:=H.o4;have hS:(λW'=>Below V3.drew.heap.size V3.drew W') V3.drew:=Below.refl _ _;refine fG (S:=λW'=>Below V3.drew.heap.size V3.drew W') (.mv 0 (.mv 1 (.mv 2 (.mv 3 (.rd 4 (.mv 5 (.rd 6 (.rd 7 (.mv 13 (.go 8 (.go 9 (.mv 10 (.mv 11 (.mv 12 (.mv 14 (.go 15 (.go 16 .fin))))))))))))))))) [15,16] Yl Yl ?_;iterate 3 refine qj ?_
   refine fE rfl rfl (λ_ _ _ h=>h) Yw (λw=>bD _ _ _ _ rfl ArrK.out SizK.out Qv Qv rfl hin w) ?_;refine Yr rfl hS (λ_ H=>iM (g:=ndF (E' i).1.1 (slV (E' i).1.2 (E' i).1.1.vA.length)) ManyK.out (λq hq=>aM (hc8 q hq) H) rfl Qv) ?_;refine qj ?_;refine Yr rfl hS (λ_ H=>iM (g:=pG T) ManyK.out (λq hq=>aM (hc9 q hq) H) rfl Qv) ?_;refine Yr rfl hS (λ_ H=>iM (g:=mE x.rd x.bad (.slice lo LL.length lc)) ManyK.out (λq hq=>aM (hc3 q hq) H) rfl Qv) ?_;refine qj ?_;refine dC rfl rfl Yw (λK0 hK=>?_);refine nW _ _ _ _ _ _ _ rfl Qv Qv Qv Qv (EntK.out _ _) (show Calls _ _ #[.int .i64 (i:Int),aN (pG T) 0 4,aN (mE x.rd x.bad (.slice lo LL.length lc)) 0 14,.int .i64 ((4:Nat):Int)] _ _ from BP x (λj=>(T j).1.1) (λj=>(T j).1.2) (λj=>(T j).2.map λb=>⟨b,0,none⟩) lo lc LL i 4 _ hx (hj.below H.bel) hl4 (λj hj4 _ hb=>by
    obtain⟨⟨b,eb⟩,em⟩:=hTm j hj4 hb;obtain⟨v1,v2,v3⟩:=aIn hmp hj4 eb;exact⟨b,by rw[eb];rfl,v1,by rw[em, <-ecf];exact aBi hip hcl hj4 hb,v2,v3⟩)) ?_
   rintro e V5 ⟨mo,mc,M,rfl,hM,oM,k5⟩;refine⟨_,rfl,hK _ _ (λ_ h=>h.trans (k5.mono h.size)) ?_⟩;clear hK K0;replace H:=H.call k5;have hM':M.map Lm.m=(iA x c 5).bx i:=by
    rw[hM];show _=mQ x (vY x c.fr (iA x c 4) 4) i 4 4
    refine Y8 (λj hj hb=>?_);rw[(hTm j hj hb).2,ecf]
   have hMo:=JR hM' ((tT hip hcl 5).2 i hin);have hMl:M.length<=1600:=by
    have h1:=congrArg List.length hM';rw[List.length_map] at h1;rw[h1];exact UB Yo 5 i
   obtain⟨_,_,em,hmc⟩:=dP oM.1
   cases em
   have hMr:=oM.rd (λc hc=>by have:=(hMo c hc).n;omega);refine dC rfl rfl Yw (λK0 hK=>?_);refine dG _ _ _ _ _ rfl Qv Qv (EntK.out _ _) (show Calls _ _ #[aN (ndF (E' i).1.1 (slV (E' i).1.2 (E' i).1.1.vA.length)) 0 74,.slice mo M.length mc] _ _ from XM (E' i).1.1 (E' i).1.2.1 (E' i).1.2.2 mo mc M _ nok (QG H.o2 H.bel hin) hMr Yo hmc (λm hm=>(hMo m hm).L)) ?_;rintro e V6 ⟨a',c',rfl,oA,k6⟩;have ecr:qC (E' i).1.1 (M.map Lm.m)=gP (E' i).1.1 (M.map Lm.m):=by
    unfold qC;rw[if_neg (by rw[hEi,aIm hE (Xr _) hin,qB hin];decide)]
   rw[ecr];refine⟨.tuple #[aN (ndF (gP (E' i).1.1 (M.map Lm.m)) (slV (a',c') (gP (E' i).1.1 (M.map Lm.m)).vA.length)) 0 74,aN (nG (gP (E' i).1.1 (M.map Lm.m))) 0 14],rfl,hK _ _ (λ_ h=>h.trans (k6.mono h.size)) ?_⟩;clear hK K0;have hsz6:=H.size;replace H:=H.add k6 (vU w.heap.size (gP (E' i).1.1 (M.map Lm.m),(a',c'))) (bY oA hsz6) (λj e=>(oA.lt j e).1);iterate 3 refine qj ?_
   refine fE rfl rfl (λ_ _ _ h=>h) Yw (λw=>bD _ _ _ _ rfl ArrK.out SizK.out Qv Qv rfl hin w) ?_;refine dK rfl Yw (λK0 hK=>aR _ _ _ _ rfl ManyK.out Qv Qv H.v4 Yo (bP _ _ _ _) rfl (λV7 m7 k7 z7'=>hK _ (λh=>absurd h Yc) ?_));replace H:=H.a4.s k7 (m7.congr (zQ fr E' i (gP (E' i).1.1 (M.map Lm.m),(a',c'))));refine dK rfl Yw (λK0 hK=>aR _ _ _ _ rfl ManyK.out Qv Qv H.v1 Yo (mU _ _) rfl (λV8 m8 k8 z8'=>hK _ (λh=>absurd h Yc) ?_));replace H:=H.a1.s k8 (m8.congr aV);refine fV<|aI ?_;iterate 2 refine qa ?_
   refine bI rfl Yw (λK0 hK=>zP SlcK.out ManyK.out ZerK.out Yc Yc rfl Qv (λV9 m9 k9 z9'=>hK _ _ ?_));have hsz9:=H.size;replace H:=H.call k9;have hln:=aAM x.bad (iA x c 5).nd (iA x c 5).bx i;refine aBP (bytes:=80) H.a2 (zU (J9 (B:=w.heap.size) (F:=nG) (x:=gP (E' i).1.1 (M.map Lm.m)) m9 Yo)) (CK (λx _=>mU x 3)) Ym Yo ?_;clear H;intro u' V10 H;refine qa ?_;refine fD<|aI ?_;repeat refine qa ?_
   have ecl:lZ x.bad (iA x c 5).nd (iA x c 5).bx (i+1)=lZ x.bad (iA x c 5).nd (iA x c 5).bx i++[gP (E' i).1.1 (M.map Lm.m)]:=by rw[UH hbad,hEi,hM']
   refine aS ⟨4-(i+1),Yo,i+1,dS E' i ((gP (E' i).1.1 (M.map Lm.m),(a',c')),true),u',Yo,Yo,⟨YA,YB,Qv,Qv,Qv,Qv,Qv⟩,Qv,Eq.trans Qv YC,λj hj=>?_,λj hj=>by rw[bZ _ _ Yo];exact hN2 j Yo,λj hj=>?_,?_⟩
   .by_cases e:j=i
    .rw[e,dD];show gP (E' i).1.1 (M.map Lm.m)=zY x c i
     unfold zY;rw[if_neg hbad,hEi,hM']
    .rw[bZ _ _ e];exact hN1 j Yo
   .by_cases e:j=i
    .rw[e,dD]
    .rw[bZ _ _ e];exact hN3 j hj
   .rw[ecl,List.length_append,CB];exact (mJ (g:=wC w) (y:=((gP (E' i).1.1 (M.map Lm.m),(a',c')),true)) i H.f3.f1).f2.f2.tl
 obtain rfl:i=4:=by have:=Xg h;omega
 refine bQ (dU ?_);refine aD<|qa ?_;refine qg (aY (v:=.int .i64 fr) _ _ rfl OneK.out Qv H.v2 Yo rfl) ?_;have hfr:=JS hE;rw[ecf] at hfr;iterate 2 refine qa ?_
 refine pE (q:=0+0) (g':=gF (fr+1) (λi=>(E' i).1)) (u:=.int .i64 (fr+1)) H.a2 (λj hj=>by
  unfold stW gF pO;by_cases e:j=0
  .rw[if_pos Yo,if_pos e];rfl
  .rw[if_neg Yo,if_neg e,if_neg e]) ?_
 clear H;intro V4 H z4';refine aC<|aD ?_;iterate 2 refine qa ?_
 refine fJ H.a5 aV (sW _ _) ?_;clear H;intro V5 H z5';iterate 2 refine qa ?_
 refine aC ?_;have e1:vJ x c=⟨fr+1,zY x c⟩:=by unfold vJ;rw[if_pos hE,ecf]
 have e2:=aCH (Dn:=(iA x c 5).nd) (Bn:=(iA x c 5).bx) hE (λ_ _=>rfl) (λ_ _=>rfl);rw[e2] at H;refine aW (aP YB (wL rfl Qv Qv Qv ManyK.out H.v5 (Xr _)) ⟨λi=>(E' i).1,u,by rw[e1,hE],λi hi=>by rw[e1];exact hN1 i hi,?_⟩);exact (H.f1.wk (y:=lX w.heap.size (λi=>(E' i).1)) (λh i hi=>by
  have h1:(wC w (E' i)).p V5:=h i hi;unfold wC at h1;rw[if_pos (hN3 i hi)] at h1;exact h1) (λk ⟨i,hi,hk⟩=>⟨i,hi,by
  show (wC w (E' i)).foot k
  unfold wC;rw[if_pos (hN3 i hi)];exact hk⟩)).f1.sub (.cons_cons _ (.cons_cons _ (List.nil_sublist _)))
def RlE(r s:Rl):Prop:=∀j,j<4->r.I j=s.I j/\r.M j=s.M j/\r.J j=s.J j
theorem RlE.symm{r s:Rl}(h:RlE r s):RlE s r:=λj hj=>⟨(h j hj).1.symm,(h j hj).2.1.symm,(h j hj).2.2.symm⟩
theorem RlE.trans{r s t:Rl}(h:RlE r s)(h':RlE s t):RlE r t:=λj hj=>⟨(h j hj).1.trans (h' j hj).1,(h j hj).2.1.trans (h' j hj).2.1,(h j hj).2.2.trans (h' j hj).2.2⟩
theorem RlE.refl(r:Rl):RlE r r:=λ_ _=>⟨rfl,rfl,rfl⟩
section
variable {x:Ip} {c:Cl}
end
structure Inv (t:Tn) (bad:Int) (c:Cl):Prop where
 id:∀i,i<4->(c.nd i).id=(i:Nat)
 tn:∀i,i<4->(c.nd i).tn=t
 ax:∀i k:Nat,i<4->k<4->(i:Int)≠bad->(k:Int)≠bad->∀a,a<3->(c.nd i).ax a=(c.nd k).ax a
 rl:∀i k:Nat,i<4->k<4->(i:Int)≠bad->(k:Int)≠bad->RlE (c.nd i).rl (c.nd k).rl
 gd:∀i:Nat,i<4->(i:Int)≠bad->kY (c.nd i).rl=true
 on:∀i s:Nat,i<4->s<4->(i:Int)≠bad->(s:Int)≠bad->(c.nd i).rl.I s=true/\(c.nd i).rl.M s=0
theorem sI(t:Tn)(hi:i<4):jY (i:Nat) t={ dI with id:=(i:Nat),tn:=t,ax:=λ_=>St.beg0,rl:=beginR }:=by
 unfold jY;rw[if_neg (by rw[qB hi];decide)]
theorem aHa(t:Tn)(bad:Int):Inv t bad (aHL t) where
 id i hi:=by show (jY (i:Nat) t).id=_;rw[sI t hi]
 tn i hi:=by show (jY (i:Nat) t).tn=_;rw[sI t hi]
 ax i k hi hk _ _ a _:=by show (jY (i:Nat) t).ax a=(jY (k:Nat) t).ax a;rw[sI t hi,sI t hk]
 rl i k hi hk _ _:=by show RlE (jY (i:Nat) t).rl (jY (k:Nat) t).rl;rw[sI t hi,sI t hk];exact RlE.refl _
 gd i hi _:=by show kY (jY (i:Nat) t).rl=true;rw[sI t hi];rfl
 on i s hi _ _ _:=by show (jY (i:Nat) t).rl.I s=true/\(jY (i:Nat) t).rl.M s=0;rw[sI t hi];exact⟨rfl,rfl⟩
section
variable {t:Tn} {bad:Int} {x:Ip} {c:Cl}
end
section
variable {t:Tn} {bad:Int} {x:Ip} {c:Cl}
end
section
variable {x:Ip} {c:Cl}
end
section
variable {n:Nd} {l m:List Ms}
end
structure Al (t:Tn) (b:Nat) (q:Nat) (c:Cl):Prop where
 id:∀i,i<4->(c.nd i).id=(i:Nat)
 tn:∀i,i<4->(c.nd i).tn=t
 ax:∀i k:Nat,i<4->k<4->∀a,a<3->(c.nd i).ax a=(c.nd k).ax a
 rl:∀i k:Nat,i<4->k<4->RlE (c.nd i).rl (c.nd k).rl
 gd:∀i:Nat,i<4->kY (c.nd i).rl=true
 on:∀i s:Nat,i<4->s<4->s≠b->(c.nd i).rl.I s=true/\(c.nd i).rl.M s=0
 jn:∀i,i<4->((c.nd i).rl.I b=true)\/(q:Int)<=(c.nd i).rl.J b
section
variable {t:Tn} {b:Nat} {x:Ip} {c:Cl}
end
variable{l:List It}
theorem Cx.plus{w':World}{m:List It}(H:Cx w0 w l)(G:Cx w w' m):Cx w0 w' (m++l):=by
 have H':=H.call G.bel;have hs:=H.size;refine⟨H'.bel,λx hx=>?_,λx hx k hk=>?_,List.pairwise_append.2 ⟨G.dis,H.dis,λx hx y hy k h1 h2=>?_⟩⟩
 .rcases List.mem_append.1 hx with hx|hx
  .exact G.it x hx
  .exact H'.it x hx
 .rcases List.mem_append.1 hx with hx|hx
  .have:=G.up x hx k hk;omega
  .exact H.up x hx k hk
 .have h3:=G.up x hx k h1;have h4:=y.lt (H.it y hy) h2;omega
theorem xS{C:Nat}{t:TypeId}{s:Nat}{n:Nat}{xs:List Value}(H:Cx w0 w (gB B t s v n xs::l))(h:C<=B):Cx w0 w (gB C t s v n xs::l):=H.wk (λh1=>bY h1 h) (λ_ h=>h)
theorem oI{C:Nat}{D:Nat->Nd×Ad}(H:Cx w0 w (lX B D::l))(h:C<=B):Cx w0 w (lX C D::l):=H.wk (λh1 i hi=>bY (h1 i hi) h) (λ_ h=>h)
theorem aGR{x:Ip}{c:Cl}(h1: -1<=x.bad/\x.bad<4)(h2:0<=c.fr/\c.fr<=1073741823)(h3:x.ly.length<=400)(h4:∀i,i<4->(c.nd i).id=(i:Nat)):iU x c=0:=by grind [iU]
theorem aIE(x:Ip)(c:Cl):(xU x c).length<=4:=by grind [xU,NS]
def t1:Tn:=⟨4294967296,0,4294967296,429496729600⟩
def aOp(_ a:Nat):Int:=if a=0 then 4294967296 else 0
def x1:Ip:=⟨aOp, -1,[]⟩
theorem hE1:iU x1 (aHL t1)=0:=aGR (by unfold x1;decide) (show (0:Int)<=0/\(0:Int)<=1073741823 by decide) (Xz _) (λi hi=>(aHa t1 (-1)).id i hi)
section
variable {f:Operand->Value} {o:Oper}
end
instance:ZerK Tryz.prog 35 3 (nP 0 false (.slice none 0 0)):=⟨λw=>Yl⟩
structure Twn (n m:Nd):Prop where
 ax:∀a,a<3->n.ax a=m.ax a
 rl:RlE n.rl m.rl
 ag:∀s a,s<4->a<3->n.ag s a=m.ag s a
 us:∀a,a<3->n.us a=m.us a
 dg:n.dg=m.dg
 fr:n.fr=m.fr
 vX:n.vX=m.vX
 vS:n.vS=m.vS
 vA:n.vA=m.vA
section
variable {n m:Nd} {v u:Value}
end
section
variable {t:Tn} {bad:Int} {L:List Li} {k:Nat} {c:Li}
end
set_option maxRecDepth 100000 in
theorem aBZ(x y:Operand)(ho:o.op=.binOp .neq 86 x y 86){n:Nd}(hx:f x=aN (nG n) 0 14)(hy:f y=aN (nG n) 0 14)(w:World):(execOp f o).run Tryz.prog w=.ok (.value (.bool false)) w:=by
 have hx':f x=.agg #[.int .i64 n.id,.int .i64 n.fr,.int .i64 (n.us 0),.int .i64 (n.us 1),.int .i64 (n.us 2),.int .i64 (n.ax 0).X,.int .i64 (n.ax 1).X,.int .i64 (n.ax 2).X,.int .i64 n.dg,.bool n.vS,.bool (n.rl.I 0),.bool (n.rl.I 1),.bool (n.rl.I 2),.bool (n.rl.I 3)]:=hx;have hy':f y=.agg #[.int .i64 n.id,.int .i64 n.fr,.int .i64 (n.us 0),.int .i64 (n.us 1),.int .i64 (n.us 2),.int .i64 (n.ax 0).X,.int .i64 (n.ax 1).X,.int .i64 (n.ax 2).X,.int .i64 n.dg,.bool n.vS,.bool (n.rl.I 0),.bool (n.rl.I 1),.bool (n.rl.I 2),.bool (n.rl.I 3)]:=hy;clear hx hy;have u3:=Tryz.underlying3;have a3:=Tryz.isAgg3;have z3:=Tryz.sizeOf3;have u4:=Tryz.underlying4;have a4:=Tryz.isAgg4;have z4:=Tryz.sizeOf4;have h0:(Op.equalIn 9999 31 (.agg #[.int .i64 (n.us 0),.int .i64 (n.us 1),.int .i64 (n.us 2)]) (.agg #[.int .i64 (n.us 0),.int .i64 (n.us 1),.int .i64 (n.us 2)])).run Tryz.prog w=.ok true w:=rQ 9997 n.us w;have h1:(Op.equalIn 9999 31 (.agg #[.int .i64 (n.ax 0).X,.int .i64 (n.ax 1).X,.int .i64 (n.ax 2).X]) (.agg #[.int .i64 (n.ax 0).X,.int .i64 (n.ax 1).X,.int .i64 (n.ax 2).X])).run Tryz.prog w=.ok true w:=rQ 9997 (λj=>(n.ax j).X) w;have h2:(Op.equalIn 9999 27 (.agg #[.bool (n.rl.I 0),.bool (n.rl.I 1),.bool (n.rl.I 2),.bool (n.rl.I 3)]) (.agg #[.bool (n.rl.I 0),.bool (n.rl.I 1),.bool (n.rl.I 2),.bool (n.rl.I 3)])).run Tryz.prog w=.ok true w:=WZ 9997 (n.rl.I 0) (n.rl.I 1) (n.rl.I 2) (n.rl.I 3) w;have t0:(n.id==n.id)=true:=by simp
 have t1:(n.fr==n.fr)=true:=by simp
 have t2:(n.dg==n.dg)=true:=by simp
 have t3:(n.vS==n.vS)=true:=by simp
 unfold execOp;rw[ho];dsimp only;rw[hx',hy'];go_simp
theorem aCp(ao:Option Addr)(len cap:Nat)(f:Nat->Value)(w:World)(hl:len<=140737488355328)(h1:∀i,(f i).oneCell'=true)(hr:Sr w ao len cap f):Calls Tryz.prog 21 #[.slice ao len cap] w λe w'=>∃v,e=.returned v/\w'.ownsRow w.heap.size 5 1 v len (rowV f len)/\Below w.heap.size w w':=by
 go_enter Tryz.func21,Tryz.ntmps21
 go_wp2_with (at_builtin;refine iO _ rfl _ _ rfl w.heap.size (Xr _) (.slice none 0 0) 0 [] rfl (World.ownsRow_nil _ _ _ _) ao len cap f rfl hr (λi _=>h1 i) Yo ?_)
 intro v' w' h2 k2
 try rw[Nat.zero_add] at h2
 try rw[List.nil_append] at h2
 go_wp2_with fail
 go_ret
 exact⟨_,rfl,h2,k2⟩
instance iRefCl5_1:EntK Tryz.prog 11:=⟨λargs w=>Yh⟩
theorem BA(R:List Nd)(a1 a2:Option Addr)(c1 c2:Nat)(w:World)(h1:RdS nG 14 w a1 R)(h2:RdS nG 14 w a2 R)(hl:R.length<=1000):Calls Tryz.prog 11 #[.slice a1 R.length c1,.slice a2 R.length c2] w λe w'=>e=.returned (.bool true)/\Below w.heap.size w w':=by
 refine bO Tryz.func11 rfl 26 rfl Yd (λA hs hd hb=>?_);have b0:A.eval (.tmp 0)=.slice a1 R.length c1:=hb 0 _ rfl;have b1:A.eval (.tmp 1)=.slice a2 R.length c2:=hb 1 _ rfl;clear hb;have H:=Cx.start w;refine aD (aG ?_);refine qa ?_;refine aC<|aH<|aD ?_;iterate 4 refine qa ?_
 refine qg (dY (b:=false) _ _ rfl Qv Qv (by simp) _) ?_;refine aC<|yV rfl (aU ?_);refine aH<|aD ?_;iterate 3 refine qa ?_
 refine aC<|aK ?_;refine bX (λr A W=>∃i:Nat,i<=R.length/\R.length-i<=r/\A.tmps.size=26/\A.defers=[]/\A.eval (.tmp 0)=.slice a1 R.length c1/\A.eval (.tmp 1)=.slice a2 R.length c2/\A.eval (.tmp 12)=.int .i64 (R.length:Int)/\A.eval (.tmp 13)=.int .i64 (i:Int)/\Cx w W []) R.length
  ⟨0,Xz _,Yo,YA,YB,Qv,Qv,Qv,Qv,H⟩ (λr A W hI=>?_)
 clear b0 b1 hs hd H;obtain⟨i,hi,hir,hs,hd,b0,b1,b12,b13,H⟩:=hI;refine aD (aG ?_);refine qa ?_;refine aC<|aH<|fB (λh=>?_) (λh=>?_)
 .have hin:i<R.length:=by have:=Xu h;omega
  have hc:=List.getElem?_eq_getElem hin;obtain⟨n,en⟩:∃n,n=R[i]:=⟨_,rfl⟩;rw[<-en] at hc;obtain⟨p1,o1,rfl,hc1⟩:=h1 Yo;obtain⟨p2,o2,rfl,hc2⟩:=h2 Yo;have hc1:=hc1 i n hc;have hc2:=hc2 i n hc;refine aU<|aH (aK ?_);refine aD ?_;iterate 2 refine qa ?_
  refine aC<|aH ?_;replace H:=H.drew;have hS:(λW'=>Below w.heap.size w W') W.drew:=H.bel;refine fG (S:=λW'=>Below w.heap.size w W') (.mv 0 (.mv 1 (.mv 2 (.rd 3 (.mv 4 (.mv 5 (.mv 6 (.rd 7 (.mv 8 .fin))))))))) [] Yl Yl ?_;iterate 2 refine qj ?_
  refine fE rfl rfl (λ_ _ _ h=>h) Yw (λw=>mG _ _ _ _ rfl SlcK.out SizK.out Qv Qv rfl hin w) ?_;refine Yr rfl hS (λ_ H=>iM (g:=nG n) ManyK.out (λq hq=>aM (hc1 q hq) H) rfl Qv) ?_;iterate 2 refine qj ?_
  refine fE rfl rfl (λ_ _ _ h=>h) Yw (λw=>mG _ _ _ _ rfl SlcK.out SizK.out Qv Qv rfl hin w) ?_;refine Yr rfl hS (λ_ H=>iM (g:=nG n) ManyK.out (λq hq=>aM (hc2 q hq) H) rfl Qv) ?_;refine fE rfl rfl (λ_ _ _ h=>h) Yw (λw=>aBZ _ _ rfl Qv Qv w) ?_;refine fV<|yV rfl (fM ?_);refine aI ?_;repeat refine qa ?_
  exact aS ⟨R.length-(i+1),Yo,i+1,Yo,Yo,YA,YB,Qv,Qv,Qv,Eq.trans Qv YC,H⟩
 .refine bQ (dU ?_);refine aD<|qa ?_;refine aC ?_;exact aW (aP YB (dW rfl Qv) ⟨rfl,H.bel⟩)
def lbJ(B:Nat)(c:Lj):It:=gB B 5 1 (ljV c) c.y.n (rowV (bF c.y.g) c.y.n)
def wF{α:Type}(f:α->It)(L:List α):It:=⟨λw=>∀c,c∈L->(f c).p w,λk=>∃c,c∈L/\(f c).foot k,λh e c hc=>(f c).ok (h c hc) (λk h1 h2=>e k h1 ⟨c,hc,h2⟩),λh ⟨c,hc,e⟩=>(f c).lt (h c hc) e⟩
theorem TN{α:Type}{f:α->It}{L:List α}{c:α}(H:Cx w0 w (f c::wF f L::l)):Cx w0 w (wF f (L++[c])::l):=
 H.merge.wk (λh d hd=>by
  rcases List.mem_append.1 hd with hd|hd
  .exact h.2 d hd
  .rw[List.mem_singleton.1 hd];exact h.1) (λk ⟨d,hd,hk⟩=>by
  rcases List.mem_append.1 hd with hd|hd
  .exact Or.inr ⟨d,hd,hk⟩
  .rw[List.mem_singleton.1 hd] at hk;exact Or.inl hk)
def ZT(B:Nat)(c:Li):It:=(gB B 78 3 (.slice c.lo c.LL.length c.lc) c.LL.length (nO Y7 3 c.LL)).and (wF (lbJ B) c.LL)
theorem aNW{c:Li}(h:(ZT B c).p w)(hb:∀d,d∈c.LL->d.y.n<=140737488351232/\∀i,d.y.g i<256):JRd w c.lo c.LL:=by
 refine⟨BZ (F:=Y7) (s:=3) h.1 Yc,λd hd=>?_⟩;have h2:World.ownsRow _ _ _ _ _ _ _:=h.2 d hd;obtain⟨a,q,e,s,hc⟩:=iT h2;unfold ljV at e
 cases e
 exact⟨s,hc,hb d hd⟩
theorem aAn(rd:Nat->Nat->Int)(bad:Int)(u v:Value):∀j,j<14->stW (mE rd bad u) (0+13) v j=mE rd bad v j:=by grind [stW,mE]
theorem aJV(ph wo:Int)(u v:Value):∀j,j<3->stW (lyF ph wo u) (0+2) v j=lyF ph wo v j:=λj hj=>by
 match j,hj with
 |0,_=>rfl
 |1,_=>rfl
 |2,_=>rfl
set_option maxRecDepth 10000 in
theorem GX(mo:Option Addr)(mc:Nat)(L:List Li)(w:World)(hr:RdS kE 14 w mo L)(hok:∀c,c∈L->LiOK w c)(hln:L.length*128<=140737488351232)(hll:∀c,c∈L->c.LL.length*40<=140737488351232):Calls Tryz.prog 7 #[.slice mo L.length mc] w λe w'=>∃(mo':Option Addr) (mc':Nat) (L':List Li),e=.returned (.slice mo' L'.length mc')/\L'.map Li.x=L.map Li.x/\RdS kE 14 w' mo' L'/\(∀c,c∈L'->LiOK w' c)/\Below w.heap.size w w':=by
 refine bO Tryz.func7 rfl 52 rfl Yd (λA hs hd hb=>?_);have b0:A.eval (.tmp 0)=.slice mo L.length mc:=hb 0 _ rfl;clear hb;have H:=Cx.start w;refine aD (aG ?_);refine qa ?_;refine aC<|aD<|qa ?_;refine aC<|aH<|aD<|qa ?_;refine aC<|aK ?_;refine bX (λr A W=>∃(i:Nat) (u:Value) (M:List Li),i<=L.length/\L.length-i<=r/\A.tmps.size=52/\A.defers=[]/\A.eval (.tmp 0)=.slice mo L.length mc/\A.eval (.tmp 3)=u/\A.eval (.tmp 4)=.int .i64 (i:Int)/\M.map Li.x=(L.map Li.x).take i/\M.length=i/\(∀c,c∈M->IpOK c.x/\c.LL.length<=c.lc/\∀d,d∈c.LL->d.y.n<=140737488351232/\∀i,d.y.g i<256)/\Cx w W [gB w.heap.size 43 14 u M.length (nO kE 14 M),wF (ZT w.heap.size) M]) L.length
  ⟨0,_,[],Xz _,Yo,YA,YB,Qv,Qv,Qv,rfl,rfl,λ_ h=>absurd h (by simp),(H.add (Below.refl _ _) (wF (ZT w.heap.size) []) (λ_ h=>absurd h (by simp)) (λj ⟨_,h,_⟩=>absurd h (by simp))).add (Below.refl _ _) (gB _ _ _ _ _ _) (World.ownsRow_nil _ _ _ _) (λj e=>nomatch e)⟩ (λr A W hI=>?_)
 clear b0 hs hd H;obtain⟨i,u,M,hi,hir,hs,hd,b0,b3,b4,hM,hMl,hMo,H⟩:=hI;refine aH<|aD (aG ?_);iterate 4 refine qa ?_
 refine aC<|fB (λh=>?_) (λh=>?_)
 .have hin:i<L.length:=by have:=Xu h;omega
  have hc:=List.getElem?_eq_getElem hin;obtain⟨cc,ec⟩:∃cc,cc=L[i]:=⟨_,rfl⟩;rw[<-ec] at hc;have hcm:=List.mem_of_getElem? hc;have hcc:=hok cc hcm;have hcl:=hll cc hcm;obtain⟨pb,po,rfl,hcell⟩:=hr Yo;have hcell:=hcell i cc hc;refine aU<|aH (aK ?_);refine aD ?_;iterate 2 refine qa ?_
  refine qg (mG _ _ _ _ rfl SlcK.out SizK.out Qv Qv rfl hin _) ?_;refine qg (iM (g:=kE cc) ManyK.out (λj hj=>aM (hcell j hj) H.bel) rfl Qv) ?_;refine gJ H ?_;clear H;intro V1 H z1;obtain⟨b5,eb5⟩:∃b5,b5=W.heap.size:=⟨_,rfl⟩;rw[<-eb5] at H ⊢;refine fJ H.a0 aV (aAq _ _ _ _ _) ?_;clear H;intro V2 H z2;refine aC<|aD<|qa ?_;refine pE (u:=.slice none 0 0) (g':=mE cc.rd cc.bad (.slice none 0 0)) H.a0 (aAn _ _ _ _) ?_;clear H;intro V3 H z3;refine aC<|aH<|aD<|qa ?_;refine aC<|aK ?_;replace H:=((H.add (Below.refl _ _) (wF (lbJ w.heap.size) []) (λ_ h=>absurd h (by simp)) (λj ⟨_,h,_⟩=>absurd h (by simp))).add (Below.refl _ _) (gB w.heap.size 78 3 (.slice none 0 0) 0 []) (World.ownsRow_nil _ _ _ _) (λj e=>nomatch e));refine bX (λr A W=>∃(k:Nat) (lo:Option Addr) (lc:Nat) (N:List Lj),k<=cc.LL.length/\cc.LL.length-k<=r/\A.tmps.size=52/\A.defers=[]/\A.eval (.tmp 0)=.slice (some ⟨pb,po,none⟩) L.length mc/\A.eval (.tmp 3)=u/\A.eval (.tmp 4)=.int .i64 (i:Int)/\A.eval (.tmp 5)=.pointer (some ⟨b5,0,none⟩)/\A.eval (.tmp 6)=.int .i64 (k:Int)/\N.map Lj.y=(cc.LL.map Lj.y).take k/\N.length=k/\N.length<=lc/\(∀d,d∈N->d.y.n<=140737488351232/\∀i,d.y.g i<256)/\Cx w W [gB w.heap.size 78 3 (.slice lo N.length lc) N.length (nO Y7 3 N),wF (lbJ w.heap.size) N,vhI 43 b5 14 14 (mE cc.rd cc.bad (.slice lo N.length lc)),gB w.heap.size 43 14 u M.length (nO kE 14 M),wF (ZT w.heap.size) M]) cc.LL.length
   ⟨0,none,0,[],Xz _,Yo,YA,YB,Qv,Qv,Qv,Qv,Qv,rfl,rfl,Xr _,λ_ h=>absurd h (by simp),H⟩ (λr A W2 hI=>?_)
  clear b0 b3 b4 hs hd H;obtain⟨k,lo,lc,N,hk,hkr,hs,hd,b0,b3,b4,b5',b6,hN,hNl,hNc,hNo,H⟩:=hI;refine aH<|aD (aG ?_);iterate 3 refine qa ?_
  refine qg (mG _ _ _ _ rfl SlcK.out SizK.out Qv Qv rfl hin _) ?_;refine qa ?_;have hlie:W2.cell? ⟨pb,po+i*14+13,none⟩=some (.slice cc.lo cc.LL.length cc.lc):=aM (hcell 13 Yo) H.bel;refine qg (FP OneK.out hlie rfl Qv) ?_;iterate 2 refine qa ?_
  refine aC<|fB (λh=>?_) (λh=>?_)
  .have hkn:k<cc.LL.length:=by have:=Xu h;omega
   have hd0:=List.getElem?_eq_getElem hkn;obtain⟨dd,ed⟩:∃dd,dd=cc.LL[k]:=⟨_,rfl⟩;rw[<-ed] at hd0;have hlb:=hcc.jr.2 dd (List.mem_of_getElem? hd0);obtain⟨qb,qo,eqo,hdc⟩:=hcc.jr.1 Yo;have hdc:=hdc k dd hd0;rw[eqo] at hlie;refine aU<|aH (aK ?_);refine aD ?_;iterate 2 refine qa ?_
   refine qg (mG _ _ _ _ rfl SlcK.out SizK.out Qv Qv rfl hin _) ?_;refine qa ?_;refine qg (FP OneK.out hlie rfl Qv) ?_;refine qa ?_;refine qg (mG _ _ _ _ rfl SlcK.out SizK.out Qv Qv rfl hkn _) ?_;refine qg (iM (g:=Y7 dd) ManyK.out (λj hj=>aM (hdc j hj) H.bel) rfl Qv) ?_;refine gJ H ?_;clear H;intro V4 H z4;refine fJ H.a0 aV (CW _ _ _ _ _) ?_;clear H;intro V5 H z5;refine aC<|aD ?_;iterate 2 refine qa ?_
   have hsz:=H.size;refine mO (aCp dd.ao dd.y.n dd.cap (bF dd.y.g) _ (by have:=hlb.2.2.1;omega) (λ_=>rfl) (hlb.1.below H.bel)) ?_;rintro e V6 ⟨v6,rfl,o6,k6⟩;obtain⟨a6,c6,rfl,hc6⟩:=dP o6;refine⟨_,rfl,?_⟩;replace H:=H.add k6 (lbJ w.heap.size ⟨dd.y,a6,c6⟩) (bY o6 hsz) (λj e=>(o6.lt j e).1);refine qa ?_;refine pE (u:=.slice a6 dd.y.n c6) (g':=Y7 ⟨dd.y,a6,c6⟩) H.a1 (aJV _ _ _ _) ?_;clear H;intro V7 H z7;refine aC<|aI ?_;iterate 3 refine qa ?_
   refine bI rfl Yw (λK hK=>zP SlcK.out ManyK.out ZerK.out Yc Yc rfl Qv (λV8 m8 k8 z8=>hK _ _ ?_));have hsz8:=H.size;replace H:=H.call k8;refine aBP (bytes:=40) H.a2 (zU (J9 (B:=w.heap.size) (F:=Y7) (x:=⟨dd.y,a6,c6⟩) m8 Yo)) (CK (λx _=>CW _ _ _ _ _)) Ym Yo ?_;clear H;intro v9 V9 H;have hr9:World.ownsRow _ _ _ _ _ _ _:=H.o2;obtain⟨a9,c9,rfl,hc9⟩:=dP hr9;refine qa ?_;refine pE (u:=.slice a9 (N.length+1) c9) (g':=mE cc.rd cc.bad (.slice a9 (N.length+1) c9)) H.a4 (aAn _ _ _ _) ?_;clear H;intro V10 H z10;refine fD<|aI ?_;repeat refine qa ?_
   have eN:(N++[(⟨dd.y,a6,c6⟩:Lj)]).length=N.length+1:=List.length_append;refine aS ⟨cc.LL.length-(k+1),Yo,k+1,a9,c9,N++[⟨dd.y,a6,c6⟩],Yo,Yo,YA,YB,Qv,Qv,Qv,Qv,Eq.trans Qv YC,?_,by rw[eN,hNl],by rw[eN];exact hc9,λd hd=>?_,?_⟩
   .rw[List.map_append,hN,List.take_add_one,List.getElem?_map,hd0];rfl
   .rcases List.mem_append.1 hd with hd|hd
    .exact hNo d hd
    .rw[List.mem_singleton.1 hd];exact hlb.2.2
   .rw[eN,CB];exact (TN (f:=lbJ w.heap.size) (c:=⟨dd.y,a6,c6⟩) (H.f1.tl.f2.f1)).f1
  .obtain rfl:k=cc.LL.length:=by have:=Xg h;omega
   refine bQ (dU ?_);refine aI ?_;iterate 2 refine qa ?_
   refine bI rfl Yw (λK hK=>zP SlcK.out ManyK.out ZerK.out Yc Yc rfl Qv (λV8 m8 k8 z8=>hK _ _ ?_));have hsz8:=H.size;replace H:=H.call k8;refine aBP (bytes:=128) H.a3 (zU (J9 (B:=w.heap.size) (F:=kE) (x:=⟨cc.rd,cc.bad,N,lo,lc⟩) m8 Yo)) (CK (λx _=>aAq _ _ _ _ _)) Ym Yo ?_;clear H;intro v9 V9 H;refine qa ?_;refine fD<|aI ?_;repeat refine qa ?_
   have hN':N.map Lj.y=cc.LL.map Lj.y:=by rw[hN];exact List.take_of_length_le (by rw[List.length_map];exact Xr _)
   have ex:Li.x ⟨cc.rd,cc.bad,N,lo,lc⟩=cc.x:=by unfold Li.x;dsimp only;rw[hN']
   have eM:(M++[(⟨cc.rd,cc.bad,N,lo,lc⟩:Li)]).length=M.length+1:=List.length_append;refine aS ⟨L.length-(i+1),Yo,i+1,v9,M++[⟨cc.rd,cc.bad,N,lo,lc⟩],Yo,Yo,YA,YB,Qv,Qv,Eq.trans Qv YC,?_,by rw[eM,hMl],λd hd=>?_,?_⟩
   .rw[List.map_append,hM,List.take_add_one,List.getElem?_map,hc];show _++[Li.x _]=_++[cc.x]
    rw[ex]
   .rcases List.mem_append.1 hd with hd|hd
    .exact hMo d hd
    .rw[List.mem_singleton.1 hd];exact⟨by rw[ex];exact hcc.ip,hNc,hNo⟩
   .rw[eM,CB];exact (TN (f:=ZT w.heap.size) (c:=⟨cc.rd,cc.bad,N,lo,lc⟩) (H.merge.f1.tl.f2.f1)).f1
 .obtain rfl:i=L.length:=by have:=Xg h;omega
  refine bQ (dU ?_);refine aD ?_;iterate 2 refine qa ?_
  refine aC ?_;have hrow:World.ownsRow _ _ _ _ _ _ _:=H.o0;obtain⟨mo',mc',rfl,hmc⟩:=dP hrow;have hmn:(wF (ZT w.heap.size) M).p W:=H.o1;exact aW (aP YB (dW rfl Qv) ⟨mo',mc',M,rfl,by rw[hM];exact List.take_of_length_le (by rw[List.length_map];exact Xr _),BZ hrow Yc,λc hc=>⟨(hMo c hc).1,aNW (hmn c hc) (hMo c hc).2.2,(hMo c hc).2.1⟩,H.bel⟩)
end Go.Proofs.YthimcecbgpamdaaGreat
