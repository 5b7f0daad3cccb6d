import Derived.Test.YtdhblehhgpdpdacGreatNear34
namespace Go.Proofs.YtdhblehhgpdpdacGreat
open Go.RowKit
theorem aDz(x y z:Value)(w:World):(callFunc 106 #[x,y,z]).run Tryz.prog w=.ok (.enter 106 #[x,y,z]) w:=by go_simp
theorem aJm(x y z:Value)(w:World):(callFunc 105 #[x,y,z]).run Tryz.prog w=.ok (.enter 105 #[x,y,z]) w:=by go_simp
theorem aAz(x y z u v:Value)(w:World):(callFunc 89 #[x,y,z,u,v]).run Tryz.prog w=.ok (.enter 89 #[x,y,z,u,v]) w:=by go_simp
theorem aGa (n : Nd) (mo : Option Addr) (L : List Lm) (many i k : Nat) (w : World) (hmr : MRd w mo L) (hi4 : i < 4) (hk : k < many) :
  Calls Tryz.prog 105 #[aV (fE n.id n.fr L 2 (many:Int)) 0 4,.int .i64 (i:Int),.int .i64 (k:Int)] w λe w'=>e=.returned (.int .i64 (iX n (L.map Lm.m) i k many))∧Below w.heap.size w w':=by
 refine bX Tryz.func105 rfl 18 rfl Yd (λA hs hd hb=>?_)
 have b0:=hb 0 _ rfl
 have b1:=hb 1 _ rfl
 have b2:=hb 2 _ rfl
 clear hb
 rcases hfl:fL n.id n.fr L (i:Int) 2 (many:Int) with _|cm
 ·have hho:fE n.id n.fr L 2 (many:Int) (0+i*1)=.slice none 0 0:=by unfold fE;rw[Nat.zero_add,Nat.mul_one,hfl]
  refine aD (aJ ?_)
  refine aS rfl Yw (λK hK=>?_)
  refine dX _ _ _ rfl (aB rfl b0) Yd ?_
  intro w1 m1 k1 z1
  refine hK _ _ ?_
  clear hK K
  refine Yp ?_
  refine aF ?_
  refine aK ?_
  refine aD ?_
  refine Yp ?_
  refine Yq (dP _ _ _ _ rfl Tryz.underlying147 gI.size (Ye rfl) (Ye rfl) rfl hi4 _) ?_
  refine Yq (aN _ _ rfl gI (Ye rfl) m1 Yo hho) ?_
  refine Yq (eP _ rfl (Ye rfl) _) ?_
  refine Yq (dA (b:=true) _ _ rfl (Ye rfl) (aG _ _) (decide_eq_true Yo) _) ?_
  refine aF ?_
  refine bP (Ye rfl) ?_
  refine aD ?_
  refine Yp ?_
  refine aF ?_
  refine bD ?_
  simp only[Nx,Exit.then]
  exact bB ((aO _ _).trans hd) (dW rfl (Ye rfl)) ⟨by rw[aKE hfl],k1⟩
 ·have hho0:fE n.id n.fr L 2 (many:Int) (0+i*1)=lmV cm:=by unfold fE;rw[Nat.zero_add,Nat.mul_one,hfl]
  obtain⟨cmem,cfit⟩:=uX hfl
  have clen:=uO cfit
  obtain⟨ca,cmy,hy⟩:∃y,cm.ao=some y∧∀W',Below w.heap.size w W'→∀i,i<cm.m.L.length→W'.cell? (y.add i)=some (.int .i64 (gL cm.m.L i)):=by
   obtain⟨y,e,_⟩:=(hmr.2 cm cmem).at Yo
   refine⟨y,e,λW' k=>?_⟩
   obtain⟨y',e',hy'⟩:=((hmr.2 cm cmem).below k).at Yo
   rw[e] at e';cases e'
   exact hy'
  obtain⟨mm,mo2,mc2⟩:=cm
  dsimp only at cmy hy clen
  subst cmy
  have hho:fE n.id n.fr L 2 (many:Int) (0+i*1)=.slice (some ca) mm.L.length mc2:=hho0
  refine aD (aJ ?_)
  refine aS rfl Yw (λK hK=>?_)
  refine dX _ _ _ rfl (aB rfl b0) Yd ?_
  intro w1 m1 k1 z1
  refine hK _ _ ?_
  clear hK K
  refine Yp ?_
  refine aF ?_
  refine aK ?_
  refine aD ?_
  refine Yp ?_
  refine Yq (dP _ _ _ _ rfl Tryz.underlying147 gI.size (Ye rfl) (Ye rfl) rfl hi4 _) ?_
  refine Yq (aN _ _ rfl gI (Ye rfl) m1 Yo hho) ?_
  refine Yq (eP _ rfl (Ye rfl) _) ?_
  refine Yq (dA (b:=false) _ _ rfl (Ye rfl) (aG _ _) (decide_eq_false Yo) _) ?_
  refine aF ?_
  refine bM (Ye rfl) (bL ?_)
  refine aD ?_
  refine Yp ?_
  refine Yq (dP _ _ _ _ rfl Tryz.underlying147 gI.size (Ye rfl) (Ye rfl) rfl hi4 _) ?_
  refine Yq (aN _ _ rfl gI (Ye rfl) m1 Yo hho) ?_
  refine Yp ?_
  refine Yq (fT _ _ rfl (a:=ca) (n:=mm.L.length) (cap:=mc2) (Ye rfl) (Ye rfl) (i:=k) rfl Yo _) ?_
  refine Yq (fQ _ rfl (Ye rfl) (hy _ k1 k Yo)) ?_
  refine Yp ?_
  refine aF ?_
  refine bD ?_
  exact bB ((aO _ _).trans hd) (dW rfl (Ye rfl)) ⟨by rw[aKM hfl],k1⟩
def tl2(I s:Nat)(T:Nat→Int):Nat→List Int
 |0=>[]
 |i+1=>tl2 I s T i++if i=I∨i=s then [] else [T i]
theorem aPD(I s:Nat)(T:Nat→Int)(i:Nat):(tl2 I s T i).length≤i:=by
 induction i with
 |zero=>exact Nat.le_refl 0
 |succ i ih=>
  show (tl2 I s T i++_).length≤_
  rw[List.length_append]
  split
  ·show _+0≤_;omega
  ·show _+1≤_;omega
theorem aDR{I s i:Nat}{T:Nat→Int}(e:i=I∨i=s):tl2 I s T (i+1)=tl2 I s T i:=by
 show tl2 I s T i++_=_
 rw[if_pos e,List.append_nil]
theorem aKz{I s i:Nat}{T:Nat→Int}(e1:i≠I)(e2:i≠s):tl2 I s T (i+1)=tl2 I s T i++[T i]:=by
 show tl2 I s T i++_=_
 rw[if_neg (λc=>c.elim e1 e2)]
theorem aMl{I s:Nat}{T:Nat→Int}(hI:I<4)(hs:s<4)(e:I≠s):tl2 I s T 4=[T (o1 I s),T (o2 I s)]:=by
 have:I=0∨I=1∨I=2∨I=3:=Yo
 have:s=0∨s=1∨s=2∨s=3:=Yo
 rcases ‹I=0∨_› with rfl|rfl|rfl|rfl<;>rcases ‹s=0∨_› with rfl|rfl|rfl|rfl<;>first|(exact absurd rfl e)|rfl
theorem aAD{w:World}{B n c:Nat}{a:Option Addr}{g:Nat→Value}{t:TypeId}(h:w.ownsRow B t 1 (.slice a n c) n (rowV g n)):Sr w a n c g:=by
 obtain⟨ao,cap,e,hs,_⟩:=kN h
 cases e
 exact hs
set_option maxHeartbeats 2000000 in
theorem yP (n : Nd) (mo : Option Addr) (L : List Lm) (I s : Nat) (h : Int) (k many : Nat) (w : World) (hI : n.id = (I : Int)) (hI4 : I < 4) (hs4 : s < 4) (hk : k < many) (hh : R64 h) (hmr : MRd w mo L) (hRL : ∀ m, m ∈ L → ∀ i, R64 (gL m.m.L i)) :
  Calls Tryz.prog 89 #[aV (fE n.id n.fr L 2 (many:Int)) 0 4,.int .i64 n.id,.int .i64 (s:Int),.int .i64 h,.int .i64 (k:Int)] w λe w'=>e=.returned (.int .i64 (xN n (L.map Lm.m) s h k many))∧Below w.heap.size w w':=by
 refine bX Tryz.func89 rfl 44 rfl Yd (λA hs hd hb=>?_)
 have b0:=hb 0 _ rfl
 have b1:=hb 1 _ rfl
 have b2:=hb 2 _ rfl
 have b3:=hb 3 _ rfl
 have b4:=hb 4 _ rfl
 clear hb
 refine aD (aJ ?_)
 refine aS rfl Yw (λK hK=>?_)
 refine dX _ _ _ rfl (aB rfl b0) Yd ?_
 intro w1 m1 k1 z1
 refine hK _ _ ?_
 clear hK K
 refine Yp ?_
 refine aF ?_
 refine aK ?_
 refine aD ?_
 by_cases hs0:(s:Int)=n.id
 ·refine Yp ?_
  refine Yp ?_
  refine Yq (dA (b:=true) _ _ rfl (Ye rfl) (Ye rfl) (decide_eq_true hs0) _) ?_
  refine aF ?_
  refine bP (Ye rfl) ?_
  refine aD ?_
  iterate 2 refine Yp ?_
  refine aF ?_
  refine bD ?_
  simp only[Nx,Exit.then]
  refine bB ((aO _ _).trans hd) (dW rfl (Ye rfl)) ⟨?_,k1⟩
  unfold xN
  rw[if_pos hs0]
  rfl
 ·refine Yp ?_
  refine Yp ?_
  refine Yq (dA (b:=false) _ _ rfl (Ye rfl) (Ye rfl) (decide_eq_false hs0) _) ?_
  refine aF ?_
  refine bM (Ye rfl) (bL ?_)
  refine aD ?_
  refine Yp ?_
  refine aF ?_
  refine aK ?_
  refine aD ?_
  refine Yp ?_
  refine aF ?_
  refine aU ?_
  refine dY (λq a W=>∃(i:Nat) (v:Value),i≤4∧4-i≤q∧a.tmps.size=44∧a.defers=[]∧a.eval (.tmp 1)=.int .i64 n.id∧a.eval (.tmp 2)=.int .i64 (s:Int)∧a.eval (.tmp 3)=.int .i64 h∧a.eval (.tmp 4)=.int .i64 (k:Int)∧a.eval (.tmp 5)=.pointer (some ⟨w.heap.size,0,none⟩)∧a.eval (.tmp 17)=.int .i64 (i:Int)∧a.eval (.tmp 11)=v∧Vh 147 W w.heap.size 4 4 (fE n.id n.fr L 2 (many:Int))∧W.ownsRow w1.heap.size 3 1 v (tl2 I s (λi=>iX n (L.map Lm.m) i k many) i).length ((tl2 I s (λi=>iX n (L.map Lm.m) i k many) i).map iV)∧Below w.heap.size w W∧w1.heap.size≤W.heap.size) 4 ⟨0,_,Yo,Yo,(bZ _ _).trans hs,(aO _ _).trans hd,(aB rfl b1),(aB rfl b2),(aB rfl b3),(aB rfl b4),(Ye rfl),(Ye rfl),(Ye rfl),m1,World.ownsRow_nil _ _ _ _,k1,Yo⟩ (λq B W hI=>?_)
  clear b0 b1 b2 b3 b4 hs hd
  obtain⟨i,v,hi,hr2,hs,hd,b1,b2,b3,b4,b5,b17,b11,mh,ov,kB,hW⟩:=hI
  have hlen:=aPD I s (λi=>iX n (L.map Lm.m) i k many) i
  by_cases hin:i<4
  ·by_cases e1:i=I
   ·refine aD (aJ ?_)
    refine Yq (aZ (b:=true) _ _ rfl (aB rfl b17) (aG _ _) (decide_eq_true Yo) _) ?_
    refine aF ?_
    refine aK (bP (Ye rfl) (bL ?_))
    refine aK (aU ?_)
    refine aD ?_
    iterate 2 refine Yp ?_
    refine aF ?_
    refine aD ?_
    iterate 2 refine Yp ?_
    refine Yq (eQ (b:=false) _ _ rfl (Ye rfl) (Ye rfl) (decide_eq_false Yo) _) ?_
    refine Yp ?_
    iterate 3 refine Yu ?_
    refine Yq (bI _ _ _ rfl (Ye rfl) (aG _ _) _) ?_
    refine aF ?_
    refine bM (Ye rfl) (iW ?_)
    refine aR ?_
    refine Yq (bW _ _ rfl (aB rfl b17) (aG _ _) Yo Yo _) ?_
    refine Yp ?_
    exact bQ ⟨4-(i+1),Yo,i+1,_,Yo,Yo,(bZ _ _).trans hs,(aO _ _).trans hd,(aB rfl b1),(aB rfl b2),(aB rfl b3),(aB rfl b4),(aB rfl b5),(Ye rfl).trans (by rw[Int.natCast_add];rfl),(aB rfl b11),mh,by rw[aDR Yo];exact ov,kB,Yo⟩
   ·by_cases e2:i=s
    ·refine aD (aJ ?_)
     refine Yq (aZ (b:=true) _ _ rfl (aB rfl b17) (aG _ _) (decide_eq_true Yo) _) ?_
     refine aF ?_
     refine aK (bP (Ye rfl) (bL ?_))
     refine aK (aU ?_)
     refine aD ?_
     iterate 2 refine Yp ?_
     refine aF ?_
     refine aD ?_
     iterate 2 refine Yp ?_
     refine Yq (eQ (b:=true) _ _ rfl (Ye rfl) (Ye rfl) (decide_eq_true Yo) _) ?_
     iterate 3 refine Yp ?_
     refine Yq (eQ (b:=false) _ _ rfl (Ye rfl) (Ye rfl) (decide_eq_false Yo) _) ?_
     refine Yq (aX _ _ _ rfl (Ye rfl) (Ye rfl) _) ?_
     refine aF ?_
     refine bM (Ye rfl) (iW ?_)
     refine aR ?_
     refine Yq (bW _ _ rfl (aB rfl b17) (aG _ _) Yo Yo _) ?_
     refine Yp ?_
     exact bQ ⟨4-(i+1),Yo,i+1,_,Yo,Yo,(bZ _ _).trans hs,(aO _ _).trans hd,(aB rfl b1),(aB rfl b2),(aB rfl b3),(aB rfl b4),(aB rfl b5),(Ye rfl).trans (by rw[Int.natCast_add];rfl),(aB rfl b11),mh,by rw[aDR Yo];exact ov,kB,Yo⟩
    ·refine aD (aJ ?_)
     refine Yq (aZ (b:=true) _ _ rfl (aB rfl b17) (aG _ _) (decide_eq_true Yo) _) ?_
     refine aF ?_
     refine aK (bP (Ye rfl) (bL ?_))
     refine aK (aU ?_)
     refine aD ?_
     iterate 2 refine Yp ?_
     refine aF ?_
     refine aD ?_
     iterate 2 refine Yp ?_
     refine Yq (eQ (b:=true) _ _ rfl (Ye rfl) (Ye rfl) (decide_eq_true Yo) _) ?_
     iterate 3 refine Yp ?_
     refine Yq (eQ (b:=true) _ _ rfl (Ye rfl) (Ye rfl) (decide_eq_true Yo) _) ?_
     refine Yq (aX _ _ _ rfl (Ye rfl) (Ye rfl) _) ?_
     refine aF ?_
     refine bP (Ye rfl) ?_
     refine aR ?_
     refine Yp ?_
     refine Yq (aP _ _ rfl vM (aB rfl b5) mh Yc) ?_
     iterate 2 refine Yp ?_
     refine aS rfl Yw (λK hK=>?_)
     refine gQ _ 105 _ _ _ _ rfl (Ye rfl) (Ye rfl) (Ye rfl) (aJm _ _ _ _) (aGa n mo L many i k _ (hmr.below kB) hin hk) ?_
     rintro e w11 ⟨rfl,k11⟩
     have n11:=k11.size
     have mh11:=mh.below k11
     have ov11:=bG ov k11
     refine⟨_,rfl,?_⟩
     refine hK _ _ ?_
     clear hK K
     refine aS rfl Yw (λK hK=>?_)
     refine aCr _ _ rfl (Ye rfl) ?_
     intro w12 m12 k12 z12
     have mh12:=mh11.below k12
     have ov12:=bG ov11 k12
     refine hK _ _ ?_
     clear hK K
     refine aS rfl Yw (λK hK=>?_)
     refine⟨qA _ _ _ rfl w1.heap.size Yo v _ _ (Ye rfl) ov12 _ 1 1 _ (Ye rfl) (Or.inr ⟨_,rfl,λi hi=>by rw[add_at,Nat.zero_add];exact m12.cell hi⟩) (λi _=>rfl) Yo ?_⟩
     intro v13 w13 ov13 k13
     have n13:=k13.size
     have mh13:=mh12.same (k13.block _ Yo)
     refine hK _ _ ?_
     clear hK K
     refine Yp ?_
     refine iE ?_
     refine aR ?_
     refine Yq (bW _ _ rfl (aB rfl b17) (aG _ _) Yo Yo _) ?_
     refine Yp ?_
     exact bQ ⟨4-(i+1),Yo,i+1,_,Yo,Yo,(bZ _ _).trans hs,(aO _ _).trans hd,(aB rfl b1),(aB rfl b2),(aB rfl b3),(aB rfl b4),(aB rfl b5),(Ye rfl).trans (by rw[Int.natCast_add];rfl),(Ye rfl),mh13,by rw[aKz Yo Yo,List.length_append,List.map_append];exact ov13,((kB.trans (k11.mono Yo)).trans (k12.mono Yo)).trans (k13.mono Yo),Yo⟩
  ·refine aD (aJ ?_)
   refine Yq (aZ (b:=false) _ _ rfl (aB rfl b17) (aG _ _) (decide_eq_false Yo) _) ?_
   obtain rfl:i=4:=Yo
   refine aF ?_
   refine aK (bM (Ye rfl) (dS (fU ?_)))
   refine aK ?_
   have et:=aMl (T:=(λi=>iX n (L.map Lm.m) i k many)) hI4 hs4 (show I≠s by omega)
   rw[et,aFe] at ov
   obtain⟨ta,tc,rfl,htc⟩:=gG ov
   obtain⟨y,rfl,hy⟩:∃y,ta=some y∧∀i,i<2→W.cell? (y.add i)=some (.int .i64 (gL [iX n (L.map Lm.m) (o1 I s) k many,iX n (L.map Lm.m) (o2 I s) k many] i)):=by
    rcases aAD ov with ⟨_,e,_⟩|⟨y,e,hc⟩
    ·exact absurd (show (2:Nat)=0 from e) Yc
    ·exact⟨y,e,λi hi=>hc i hi⟩
   have hS0:(λZ=>∀i,i<2→Z.cell? (y.add i)=some (.int .i64 (gL [iX n (L.map Lm.m) (o1 I s) k many,iX n (L.map Lm.m) (o2 I s) k many] i))) W.drew:=hy
   have ez:W.drew.heap.size=W.heap.size:=rfl
   refine fZ (S:=λZ=>∀i,i<2→Z.cell? (y.add i)=some (.int .i64 (gL [iX n (L.map Lm.m) (o1 I s) k many,iX n (L.map Lm.m) (o2 I s) k many] i))) (.mv 0 (.mv 1 (.mv 2 (.rd 3 (.mv 4 (.mv 5 (.rd 6 (.go 7 (.mv 8 .fin))))))))) [7] (by kernel_rfl) (by kernel_rfl) ?_
   iterate 2 refine Yj ?_
   refine Yk rfl (λ_=>fT _ _ rfl (a:=y) (n:=2) (cap:=tc) (Ye rfl) (aG _ _) (i:=0) rfl Yc _) ?_
   refine Yr rfl hS0 (λ_ hS=>fQ _ rfl (Ye rfl) (hS 0 Yc)) ?_
   refine Yj ?_
   refine Yk rfl (λ_=>fT _ _ rfl (a:=y) (n:=2) (cap:=tc) (Ye rfl) (aG _ _) (i:=1) rfl Yc _) ?_
   refine Yr rfl hS0 (λ_ hS=>fQ _ rfl (Ye rfl) (hS 1 Yc)) ?_
   refine dI rfl rfl Yw (λK hK=>?_)
   refine gQ _ 106 _ _ _ _ rfl (Ye rfl) (Ye rfl) (Ye rfl) (aDz _ _ _ _) (aCk h (iX n (L.map Lm.m) (o1 I s) k many) (iX n (L.map Lm.m) (o2 I s) k many) _ hh (aGG hRL _ _ _) (aGG hRL _ _ _)) ?_
   rintro e w11 ⟨rfl,k11⟩
   have n11:=k11.size
   refine⟨_,rfl,?_⟩
   refine hK _ _ (λh=>absurd h Yc) ?_
   clear hK K
   refine Yj ?_
   refine iA ?_
   refine bD ?_
   refine bB ((aO _ _).trans hd) (dW rfl (Ye rfl)) ⟨?_,(aQ kB).trans (k11.mono Yo)⟩
   unfold xN
   rw[if_neg hs0,hI,Int.toNat_natCast]
theorem aDo(x y:Value)(w:World):(callFunc 74 #[x,y]).run Tryz.prog w=.ok (.enter 74 #[x,y]) w:=by go_simp
theorem aFg(w:World):(zeroValue 27).run Tryz.prog w=.ok (aV (λ_=>iV 0) 0 3) w:=by kernel_rfl
theorem aAt(g:Nat→Value)(h:Nat→Value):∀j,j<3→fG g 0 3 h j=h j:=λj hj=>by
 have:=mE g (o:=0) (n:=3) h hj
 rwa [Nat.zero_add] at this
theorem aJS{P:Program}{Q:Exit→Act→World→Prop}{J:Act→World→Prop}{a:Act}{w:World}{x y:Code}{id id2:Nat}(h:CodI P y Q a w):Nx P x (Exit.then J (Exit.inBlock id (Exit.inBlock id2 (Nx P y Q)))) (.exit id) a w:=aFi h
def qE(d:Nat→Nat→Int)(j:Nat):Value:=iV (d (j/3) (j%3))
theorem aNn(n:Nd)(v:Value):∀j,j<12→ndF n v (0+39+j)=qE n.di j:=λj hj=>by
 unfold ndF qE
 rw[if_neg Yo,if_neg Yo,if_neg Yo,if_neg Yo,if_pos Yo,show 0+39+j-39=j by omega]
theorem aCM(d:Nat→Nat→Int){x:Nat}:aV (qE d) (x*3) 3=aV (λa=>iV (d x a)) 0 3:=by
 unfold aV qE
 congr 2
 refine List.map_congr_left (λj hj=>?_)
 have:=List.mem_range.1 hj
 rw[show (x*3+j)/3=x by omega,show (x*3+j)%3=j by omega,Nat.zero_add]
def agF(n:Nd)(l:List Ms)(m j:Nat):Value:=iV (if j<m then decG n l (j/3) (j%3) else n.di (j/3) (j%3))
theorem aQE(n:Nd)(l:List Ms):∀j,j<12→qE n.di j=agF n l (3*0) j:=λj _=>by unfold agF qE;rw[if_neg Yo]
theorem aOa(n:Nd)(l:List Ms){i x:Nat}(hx:x<3):∀j,j<12→iJ (agF n l (3*i+x)) (0+i*3+x*1) (.int .i64 (xN n l i (n.di i x) (3*i+x) 12)) j=agF n l (3*i+(x+1)) j:=by
 intro j _
 unfold iJ
 rw[show 0+i*3+x*1=3*i+x by omega]
 by_cases e:j=3*i+x
 ·rw[if_pos e]
  unfold agF
  rw[if_pos Yo,show j/3=i by omega,show j%3=x by omega]
  rfl
 ·rw[if_neg e]
  unfold agF
  by_cases c:j<3*i+x
  ·rw[if_pos c,if_pos Yo]
  ·rw[if_neg c,if_neg Yo]
theorem aQA(n:Nd)(l:List Ms):∀j,j<12→agF n l (3*4) j=qE (decG n l) j:=λj hj=>by
 unfold agF qE
 rw[if_pos Yo]
set_option maxHeartbeats 2000000 in
theorem aHI (n : Nd) (nv : Value) (mo : Option Addr) (L : List Lm) (I : Nat) (w : World) (hok : NdOK n) (hI : n.id = (I : Int)) (hI4 : I < 4) (hmr : MRd w mo L) (hRL : ∀ m, m ∈ L → ∀ i, R64 (gL m.m.L i)) :
  Calls Tryz.prog 74 #[kT n nv,aV (fE n.id n.fr L 2 ((12:Nat):Int)) 0 4] w λe w'=>e=.returned (aV (qE (decG n (L.map Lm.m))) 0 12)∧Below w.heap.size w w':=by
 refine bX Tryz.func74 rfl 40 rfl Yd (λA hs hd hb=>?_)
 have b0:A.eval (.tmp 0)=kT n nv:=hb 0 _ rfl
 have b1:A.eval (.tmp 1)=aV (fE n.id n.fr L 2 ((12:Nat):Int)) 0 4:=hb 1 _ rfl
 clear hb
 refine aD (aJ ?_)
 refine aS rfl Yw (λK hK=>?_)
 refine dX _ _ _ rfl (aB rfl b0) Yd ?_
 intro w1 m1 k1 z1
 refine hK _ _ ?_
 clear hK K
 refine aS rfl Yw (λK hK=>?_)
 refine dX _ _ _ rfl (aB rfl b1) Yd ?_
 intro w2 m2 k2 z2
 have mn2:=m1.below k2
 refine hK _ _ ?_
 clear hK K
 refine aS rfl Yw (λK hK=>?_)
 refine aT _ _ rfl aJg Yd ?_
 intro w3 m3 k3 z3
 have mn3:=mn2.below k3
 have mh3:=m2.below k3
 refine hK _ _ ?_
 clear hK K
 refine aF ?_
 refine aD ?_
 refine Yq (wG rfl (Ye rfl) _) ?_
 refine Yq (dM (h:=qE n.di) _ _ rfl pE (Ye rfl) mn3 Yc (aNn n nv)) ?_
 refine aS rfl Yw (λK hK=>?_)
 refine aT _ _ rfl aJg Yd ?_
 intro w4 m4 k4 z4
 have mn4:=mn3.below k4
 have mh4:=mh3.below k4
 have mr4:=m3.below k4
 refine hK _ _ ?_
 clear hK K
 refine bS Yw (λK hK=>?_)
 refine aI _ _ _ _ rfl pE (Ye rfl) (Ye rfl) m4 Yc (λj hj=>rfl) rfl ?_
 intro w5 mm5 k5 z5
 have ml5:=Vh.congr mm5 (fI _ _)
 have mn5:=mn4.kept k5 Yo
 have mh5:=mh4.kept k5 Yo
 have mr5:=mr4.kept k5 Yo
 refine hK _ ?_
 clear hK K
 refine aF ?_
 refine aK ?_
 refine aD ?_
 refine Yq (wG rfl (Ye rfl) _) ?_
 refine Yq (dM (h:=qE n.di) _ _ rfl pE (Ye rfl) mn5 Yc (aNn n nv)) ?_
 refine Yp ?_
 refine aF ?_
 refine aU ?_
 refine dY (λq a W=>∃i:Nat,i≤4∧4-i≤q∧a.tmps.size=40∧a.defers=[]∧a.eval (.tmp 2)=.pointer (some ⟨w.heap.size,0,none⟩)∧a.eval (.tmp 3)=.pointer (some ⟨w1.heap.size,0,none⟩)∧a.eval (.tmp 4)=.pointer (some ⟨w2.heap.size,0,none⟩)∧a.eval (.tmp 5)=.pointer (some ⟨w3.heap.size,0,none⟩)∧a.eval (.tmp 13)=aV (qE n.di) 0 12∧a.eval (.tmp 14)=.int .i64 (i:Int)∧Vh 55 W w.heap.size 74 74 (ndF n nv)∧Vh 147 W w1.heap.size 4 4 (fE n.id n.fr L 2 ((12:Nat):Int))∧Vh 28 W w2.heap.size 12 12 (λ_=>iV 0)∧Vh 28 W w3.heap.size 12 12 (agF n (L.map Lm.m) (3*i))∧Below w.heap.size w W∧w5.heap.size≤W.heap.size) 4 ⟨0,Yo,Yo,(bZ _ _).trans hs,(aO _ _).trans hd,(Ye rfl),(Ye rfl),(Ye rfl),(Ye rfl),(Ye rfl),(Ye rfl),mn5,mh5,mr5,Vh.congr ml5 (aQE n (L.map Lm.m)),aC ((((k1).trans (k2.mono Yo)).trans (k3.mono Yo)).trans (k4.mono Yo)) k5 Yo Yo,Yo⟩ (λq B W hI2=>?_)
 clear b0 b1 hs hd
 obtain⟨i,hi,hr2,hs,hd,b2,b3,b4,b5,b13,b14,mn,mh,mr,ml,kB,hW⟩:=hI2
 by_cases hin:i<4
 ·refine aD (aJ ?_)
  refine Yq (aZ (b:=true) _ _ rfl (aB rfl b14) (aG _ _) (decide_eq_true Yo) _) ?_
  refine aF ?_
  refine aK (bP (Ye rfl) (bL ?_))
  refine aK (aU ?_)
  refine aD ?_
  refine Yp ?_
  refine Yq ((jJ _ _ _ _ rfl Tryz.underlying28 lT (aB rfl b13) rfl (aB rfl b14) rfl hin _).trans (by rw[aCM n.di])) ?_
  refine aS rfl Yw (λK hK=>?_)
  refine aT _ _ rfl aFg Yd ?_
  intro w11 m11 k11 z11
  have mn11:=mn.below k11
  have mh11:=mh.below k11
  have mr11:=mr.below k11
  have ml11:=ml.below k11
  refine hK _ _ ?_
  clear hK K
  refine Yp ?_
  refine bS Yw (λK hK=>?_)
  refine aI _ _ _ _ rfl lT (Ye rfl) (Ye rfl) m11 Yc (λj hj=>rfl) rfl ?_
  intro w12 mm12 k12 z12
  have mw12:=Vh.congr mm12 (aAt _ _)
  have mn12:=mn11.kept k12 Yo
  have mh12:=mh11.kept k12 Yo
  have mr12:=mr11.kept k12 Yo
  have ml12:=ml11.kept k12 Yo
  refine hK _ ?_
  clear hK K
  refine aF ?_
  refine aD ?_
  refine Yq (aP _ _ rfl lT (Ye rfl) mw12 Yc) ?_
  refine Yp ?_
  refine aF ?_
  refine aU ?_
  refine dY (λq a W=>∃x:Nat,x≤3∧3-x≤q∧a.tmps.size=40∧a.defers=[]∧a.eval (.tmp 2)=.pointer (some ⟨w.heap.size,0,none⟩)∧a.eval (.tmp 3)=.pointer (some ⟨w1.heap.size,0,none⟩)∧a.eval (.tmp 4)=.pointer (some ⟨w2.heap.size,0,none⟩)∧a.eval (.tmp 5)=.pointer (some ⟨w3.heap.size,0,none⟩)∧a.eval (.tmp 13)=aV (qE n.di) 0 12∧a.eval (.tmp 14)=.int .i64 (i:Int)∧a.eval (.tmp 6)=.int .i64 (i:Int)∧a.eval (.tmp 18)=aV (λa=>iV (n.di i a)) 0 3∧a.eval (.tmp 19)=.int .i64 (x:Int)∧Vh 55 W w.heap.size 74 74 (ndF n nv)∧Vh 147 W w1.heap.size 4 4 (fE n.id n.fr L 2 ((12:Nat):Int))∧Vh 28 W w2.heap.size 12 12 (λ_=>iV 0)∧Vh 28 W w3.heap.size 12 12 (agF n (L.map Lm.m) (3*i+x))∧Below w.heap.size w W∧w5.heap.size≤W.heap.size) 3 ⟨0,Yo,Yo,(bZ _ _).trans hs,(aO _ _).trans hd,(aB rfl b2),(aB rfl b3),(aB rfl b4),(aB rfl b5),(aB rfl b13),(aB rfl b14),(Ye rfl),(Ye rfl),(Ye rfl),mn12,mh12,mr12,ml12,aC (kB.trans (k11.mono Yo)) k12 Yo Yo,Yo⟩ (λq3 B3 W3 hI3=>?_)
  clear b2 b3 b4 b5 b13 b14 hs hd mn mh mr ml
  obtain⟨x,hx,hr3,hs,hd,b2,b3,b4,b5,b13,b14,b6,b18,b19,mn,mh,mr,ml,kB3,hW3⟩:=hI3
  by_cases hin3:x<3
  ·refine aD (aJ ?_)
   refine Yq (aZ (b:=true) _ _ rfl (aB rfl b19) (aG _ _) (decide_eq_true Yo) _) ?_
   refine aF ?_
   refine aK (bP (Ye rfl) (bL ?_))
   refine aK (aU ?_)
   refine aD ?_
   refine Yp ?_
   refine Yq (mV _ _ _ _ rfl Tryz.underlying27 bT (aB rfl b18) (aB rfl b19) rfl hin3 _) ?_
   iterate 2 refine Yp ?_
   refine aF ?_
   have hS0:(λW=>Vh 55 W w.heap.size 74 74 (ndF n nv)∧Vh 147 W w1.heap.size 4 4 (fE n.id n.fr L 2 ((12:Nat):Int))) W3.drew:=⟨mn,mh⟩
   have mn0:Vh _ W3.drew _ _ _ _:=mn
   have mh0:Vh _ W3.drew _ _ _ _:=mh
   have mr0:Vh _ W3.drew _ _ _ _:=mr
   have ml0:Vh _ W3.drew _ _ _ _:=ml
   have ez:W3.drew.heap.size=W3.heap.size:=rfl
   have ekx:((i:Int)*3+(x:Int))=((3*i+x:Nat):Int):=Yo
   refine fZ (S:=λW=>Vh 55 W w.heap.size 74 74 (ndF n nv)∧Vh 147 W w1.heap.size 4 4 (fE n.id n.fr L 2 ((12:Nat):Int))) (.mv 0 (.mv 1 (.rd 2 (.mv 3 (.rd 4 (.mv 5 (.mv 6 (.mv 7 (.mv 8 (.mv 9 (.mv 10 (.mv 12 (.go 11 (.mv 13 (.go 14 .fin))))))))))))))) [14] (by kernel_rfl) (by kernel_rfl) ?_
   iterate 2 refine Yj ?_
   refine Yr rfl hS0 (λ_ hS=>aP _ _ rfl vM (aB rfl b3) hS.2 Yc) ?_
   refine Yk rfl (λ_=>kE rfl (aB rfl b2) _) ?_
   refine Yr rfl hS0 (λ_ hS=>aN _ _ rfl bT (Ye rfl) hS.1 Yc rfl) ?_
   iterate 3 refine Yj ?_
   refine Yk rfl (λ_=>aBx _ _ rfl (Ye rfl) (aG _ _) Yo Yo _) ?_
   refine Yj ?_
   refine Yk rfl (λ_=>bW _ _ rfl (Ye rfl) (Ye rfl) Yo Yo _) ?_
   refine Yk rfl (λ_=>dP _ _ _ _ rfl Tryz.underlying28 lT.size (aB rfl b5) (Ye rfl) rfl hin _) ?_
   refine dI rfl rfl Yw (λK hK=>?_)
   refine aBt _ 89 _ _ _ _ _ _ rfl (Ye rfl) (Ye rfl) (Ye rfl) (Ye rfl) ((Ye rfl).trans (by rw[ekx])) (aAz _ _ _ _ _ _) (yP n mo L I i (n.di i x) (3*i+x) 12 _ hI hI4 hin Yo (hok.di i x) (hmr.below (aQ kB3)) hRL) ?_
   rintro e w21 ⟨rfl,k21⟩
   have n21:=k21.size
   have mn21:=mn0.below k21
   have mh21:=mh0.below k21
   have mr21:=mr0.below k21
   have ml21:=ml0.below k21
   have hS21:(λW=>Vh 55 W w.heap.size 74 74 (ndF n nv)∧Vh 147 W w1.heap.size 4 4 (fE n.id n.fr L 2 ((12:Nat):Int))) w21:=⟨mn21,mh21⟩
   refine⟨_,rfl,?_⟩
   refine hK _ _ (λ_ _=>hS21) ?_
   clear hK K
   refine Yk rfl (λ_=>dP _ _ _ _ rfl Tryz.underlying27 bT.size (Ye rfl) (Ye rfl) rfl hin3 _) ?_
   refine eU rfl Yw (λK hK=>?_)
   refine iH _ _ _ _ rfl bT (Ye rfl) (Ye rfl) ml21 Yo rfl rfl rfl ?_
   intro w22 mm22 k22 z22
   have ml22:=Vh.congr mm22 (aOa n (L.map Lm.m) hin3)
   have mn22:=mn21.kept k22 Yo
   have mh22:=mh21.kept k22 Yo
   have mr22:=mr21.kept k22 Yo
   refine hK _ (λh=>absurd h Yc) ?_
   clear hK K
   refine yN ?_
   refine aR ?_
   refine Yq (bW _ _ rfl (aB rfl b19) (aG _ _) Yo Yo _) ?_
   refine Yp ?_
   exact bQ ⟨3-(x+1),Yo,x+1,Yo,Yo,(bZ _ _).trans hs,(aO _ _).trans hd,(aB rfl b2),(aB rfl b3),(aB rfl b4),(aB rfl b5),(aB rfl b13),(aB rfl b14),(aB rfl b6),(aB rfl b18),(Ye rfl).trans (by rw[Int.natCast_add];rfl),mn22,mh22,mr22,ml22,aC ((aQ kB3).trans (k21.mono Yo)) k22 Yo Yo,Yo⟩
  ·refine aD (aJ ?_)
   refine Yq (aZ (b:=false) _ _ rfl (aB rfl b19) (aG _ _) (decide_eq_false Yo) _) ?_
   obtain rfl:x=3:=Yo
   refine aF ?_
   refine aK (bM (Ye rfl) (dS (aJS ?_)))
   refine aR ?_
   refine Yq (bW _ _ rfl (aB rfl b14) (aG _ _) Yo Yo _) ?_
   refine Yp ?_
   exact bQ ⟨4-(i+1),Yo,i+1,Yo,Yo,(bZ _ _).trans hs,(aO _ _).trans hd,(aB rfl b2),(aB rfl b3),(aB rfl b4),(aB rfl b5),(aB rfl b13),(Ye rfl).trans (by rw[Int.natCast_add];rfl),mn,mh,mr,ml,kB3,hW3⟩
 ·refine aD (aJ ?_)
  refine Yq (aZ (b:=false) _ _ rfl (aB rfl b14) (aG _ _) (decide_eq_false Yo) _) ?_
  obtain rfl:i=4:=Yo
  have ml:=Vh.congr ml (aQA n (L.map Lm.m))
  refine aF ?_
  refine aK (bM (Ye rfl) (dS (fU ?_)))
  refine aD ?_
  refine Yq (aP _ _ rfl pE (aB rfl b5) ml Yc) ?_
  refine bS Yw (λK hK=>?_)
  refine aI _ _ _ _ rfl pE (aB rfl b4) (Ye rfl) mr Yc (λj hj=>rfl) rfl ?_
  intro w11 mm11 k11 z11
  have mr11:=Vh.congr mm11 (fI _ _)
  have mn11:=mn.kept k11 Yo
  have mh11:=mh.kept k11 Yo
  have ml11:=ml.kept k11 Yo
  refine hK _ ?_
  clear hK K
  refine aF ?_
  refine bD (bB ((aO _ _).trans hd) (qN rfl (aB rfl b4) pE mr11 (Nat.le_refl _)) ⟨rfl,aC kB k11 Yo Yo⟩)
end Go.Proofs.YtdhblehhgpdpdacGreat
