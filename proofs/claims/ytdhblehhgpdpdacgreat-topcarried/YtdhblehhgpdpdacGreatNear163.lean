import Derived.Test.YtdhblehhgpdpdacGreatNear114
import Derived.Test.YtdhblehhgpdpdacGreatNear92
namespace Go.Proofs.YtdhblehhgpdpdacGreat
open Go.RowKit
theorem aFK(x y z:Value)(w:World):(callFunc 75 #[x,y,z]).run Tryz.prog w=.ok (.enter 75 #[x,y,z]) w:=by go_simp
theorem aDA(x:Value)(w:World):(callFunc 90 #[x]).run Tryz.prog w=.ok (.enter 90 #[x]) w:=by go_simp
theorem aEH (l : List Int) (w : World) (ao : Option Addr) (cap : Nat) (hl : l.length ≤ 4) (hc : l.length ≤ cap) (hR : ∀ x, x ∈ l → R64 x) (hs : Sr w ao l.length cap (iF (gL l))) :
  Calls Tryz.prog 90 #[.slice ao l.length cap] w λe w'=>∃E,e=.returned (.tuple #[.int .i64 (qL l),.int .i64 E])∧Below w.heap.size w w':=by
 refine (aCm ao l.length cap (gL l) w (xW hR) Yo hc hs).mono ?_
 rintro e w' ⟨m,E,hm,rfl,k⟩
 have em:m=qL l:=by
  rcases hm with ⟨h1,h2,_,h4⟩|⟨h1,_,h3⟩
  ·rw[aCB h1 h2 h4,aSr]
  ·have:l=[]:=List.eq_nil_of_length_eq_zero Yo
   rw[h3,this]
   rfl
 rw[em]
 exact⟨E,rfl,k⟩
set_option maxHeartbeats 2000000 in
theorem aLu (d : Nat → Nat → Int) (b : Nat → Bool) (a : Nat) (w : World) (ha : a < 3) (hd4 : ∀ s, R64 (d s a)) :
  Calls Tryz.prog 75 #[aV (qE d) 0 12,aV (tF b) 0 4,.int .i64 (a:Int)] w λe w'=>e=.returned (.int .i64 (qL (jK b (λs=>d s a) 4)))∧Below w.heap.size w w':=by
 refine bX Tryz.func75 rfl 33 rfl Yd (λA hs hd hb=>?_)
 have b0:=hb 0 _ rfl
 have b1:=hb 1 _ rfl
 have b2:=hb 2 _ rfl
 clear hb
 refine aD (aJ ?_)
 refine aS rfl Yw (λK hK=>?_)
 refine dX _ _ _ rfl (aB rfl b0) Yd ?_
 intro w1 m1 k1 z1
 refine hK _ _ ?_
 clear hK K
 refine aS rfl Yw (λK hK=>?_)
 refine dX _ _ _ rfl (aB rfl b1) Yd ?_
 intro w2 m2 k2 z2
 have ma2:=m1.below k2
 refine hK _ _ ?_
 clear hK K
 refine Yp ?_
 refine aF ?_
 refine aD ?_
 refine Yp ?_
 refine aF ?_
 refine aK ?_
 refine aD ?_
 refine Yq (aP _ _ rfl pE (Ye rfl) ma2 Yc) ?_
 refine Yp ?_
 refine aF ?_
 refine aU ?_
 refine dY (λq A W=>∃(i:Nat) (v:Value),i≤4∧4-i≤q∧A.tmps.size=33∧A.defers=[]∧A.eval (.tmp 2)=.int .i64 (a:Int)∧A.eval (.tmp 4)=.pointer (some ⟨w1.heap.size,0,none⟩)∧A.eval (.tmp 12)=aV (qE d) 0 12∧A.eval (.tmp 13)=.int .i64 (i:Int)∧A.eval (.tmp 7)=v∧Vh 47 W w1.heap.size 4 4 (tF b)∧W.ownsRow w2.heap.size 3 1 v (jK b (λs=>d s a) i).length ((jK b (λs=>d s a) i).map iV)∧Below w.heap.size w W∧w2.heap.size≤W.heap.size) 4 ⟨0,_,Yo,Yo,(bZ _ _).trans hs,(aO _ _).trans hd,(aB rfl b2),(Ye rfl),(Ye rfl),(Ye rfl),(Ye rfl),m2,World.ownsRow_nil _ _ _ _,k1.trans (k2.mono Yo),Yo⟩ (λq B W hI2=>?_)
 clear b0 b1 b2 hs hd
 obtain⟨i,v,hi,hr2,hs,hd,b2,b4,b12,b13,b7,mb,ov,kB,hW⟩:=hI2
 have hlen:=aKU b (λs=>d s a) i
 by_cases hin:i<4
 ·rcases hb:b i with _|_
  ·refine aD (aJ ?_)
   refine Yq (aZ (b:=true) _ _ rfl (aB rfl b13) (aG _ _) (decide_eq_true Yo) _) ?_
   refine aF ?_
   refine aK (bP (Ye rfl) (bL ?_))
   refine aK (aU ?_)
   refine aD ?_
   refine Yp ?_
   refine Yq ((jJ _ _ _ _ rfl Tryz.underlying28 lT (aB rfl b12) rfl (aB rfl b13) rfl hin _).trans (by rw[aCM d])) ?_
   refine aS rfl Yw (λK hK=>?_)
   refine aT _ _ rfl aFg Yd ?_
   intro w11 m11 k11 z11
   have mb11:=mb.below k11
   have ov11:=bG ov k11
   refine hK _ _ ?_
   clear hK K
   refine Yp ?_
   refine bS Yw (λK hK=>?_)
   refine aI _ _ _ _ rfl lT (Ye rfl) (Ye rfl) m11 Yc (λj hj=>rfl) rfl ?_
   intro w12 mm12 k12 z12
   have mw12:=Vh.congr mm12 (aAt _ _)
   have mb12:=mb11.kept k12 Yo
   have ov12:=bK ov11 k12 (λe=>by have e2:=(ov.lt _ e).2;omega)
   refine hK _ ?_
   clear hK K
   refine aF ?_
   refine aD ?_
   refine Yp ?_
   refine Yq (dP _ _ _ _ rfl Tryz.underlying47 uD.size (aB rfl b4) (Ye rfl) rfl hin _) ?_
   refine Yq (aN (v:=.bool false) _ _ rfl uD (Ye rfl) mb12 Yo (by unfold tF;rw[show 0+i*1=i by omega,hb])) ?_
   refine aF ?_
   refine bM (Ye rfl) (iW ?_)
   refine aR ?_
   refine Yq (bW _ _ rfl (aB rfl b13) (aG _ _) Yo Yo _) ?_
   refine Yp ?_
   exact bQ ⟨4-(i+1),Yo,i+1,_,Yo,Yo,(bZ _ _).trans hs,(aO _ _).trans hd,(aB rfl b2),(aB rfl b4),(aB rfl b12),(Ye rfl).trans (by rw[Int.natCast_add];rfl),(aB rfl b7),mb12,by rw[aSK hb];exact ov12,aC (kB.trans (k11.mono Yo)) k12 Yo Yo,Yo⟩
  ·refine aD (aJ ?_)
   refine Yq (aZ (b:=true) _ _ rfl (aB rfl b13) (aG _ _) (decide_eq_true Yo) _) ?_
   refine aF ?_
   refine aK (bP (Ye rfl) (bL ?_))
   refine aK (aU ?_)
   refine aD ?_
   refine Yp ?_
   refine Yq ((jJ _ _ _ _ rfl Tryz.underlying28 lT (aB rfl b12) rfl (aB rfl b13) rfl hin _).trans (by rw[aCM d])) ?_
   refine aS rfl Yw (λK hK=>?_)
   refine aT _ _ rfl aFg Yd ?_
   intro w11 m11 k11 z11
   have mb11:=mb.below k11
   have ov11:=bG ov k11
   refine hK _ _ ?_
   clear hK K
   refine Yp ?_
   refine bS Yw (λK hK=>?_)
   refine aI _ _ _ _ rfl lT (Ye rfl) (Ye rfl) m11 Yc (λj hj=>rfl) rfl ?_
   intro w12 mm12 k12 z12
   have mw12:=Vh.congr mm12 (aAt _ _)
   have mb12:=mb11.kept k12 Yo
   have ov12:=bK ov11 k12 (λe=>by have e2:=(ov.lt _ e).2;omega)
   refine hK _ ?_
   clear hK K
   refine aF ?_
   refine aD ?_
   refine Yp ?_
   refine Yq (dP _ _ _ _ rfl Tryz.underlying47 uD.size (aB rfl b4) (Ye rfl) rfl hin _) ?_
   refine Yq (aN (v:=.bool true) _ _ rfl uD (Ye rfl) mb12 Yo (by unfold tF;rw[show 0+i*1=i by omega,hb])) ?_
   refine aF ?_
   refine bP (Ye rfl) ?_
   refine aR ?_
   iterate 2 refine Yp ?_
   refine Yq (dP _ _ _ _ rfl Tryz.underlying27 bT.size (Ye rfl) (Ye rfl) rfl ha _) ?_
   refine Yq (aN (v:=.int .i64 (d i a)) _ _ rfl bT (Ye rfl) mw12 Yo (by show iV (d i (0+a*1))=_;rw[show 0+a*1=a by omega];rfl)) ?_
   refine aS rfl Yw (λK hK=>?_)
   refine aCr _ _ rfl (Ye rfl) ?_
   intro w13 m13 k13 z13
   have mb13:=mb12.below k13
   have mw13:=mw12.below k13
   have ov13:=bG ov12 k13
   refine hK _ _ ?_
   clear hK K
   refine aS rfl Yw (λK hK=>?_)
   refine⟨qA _ _ _ rfl w2.heap.size Yo v _ _ (Ye rfl) ov13 _ 1 1 _ (Ye rfl) (Or.inr ⟨_,rfl,λi hi=>by rw[add_at,Nat.zero_add];exact m13.cell hi⟩) (λi _=>rfl) Yo ?_⟩
   intro v14 w14 ov14 k14
   have n14:=k14.size
   have mb14:=mb13.same (k14.block _ Yo)
   refine hK _ _ ?_
   clear hK K
   refine Yp ?_
   refine iE ?_
   refine aR ?_
   refine Yq (bW _ _ rfl (aB rfl b13) (aG _ _) Yo Yo _) ?_
   refine Yp ?_
   exact bQ ⟨4-(i+1),Yo,i+1,_,Yo,Yo,(bZ _ _).trans hs,(aO _ _).trans hd,(aB rfl b2),(aB rfl b4),(aB rfl b12),(Ye rfl).trans (by rw[Int.natCast_add];rfl),(Ye rfl),mb14,by rw[aST hb,List.length_append,List.map_append];exact ov14,((aC (kB.trans (k11.mono Yo)) k12 Yo Yo).trans (k13.mono Yo)).trans (k14.mono Yo),Yo⟩
 ·refine aD (aJ ?_)
  refine Yq (aZ (b:=false) _ _ rfl (aB rfl b13) (aG _ _) (decide_eq_false Yo) _) ?_
  obtain rfl:i=4:=Yo
  refine aF ?_
  refine aK (bM (Ye rfl) (dS (fU ?_)))
  rw[aFe] at ov
  obtain⟨ta,tc,rfl,htc⟩:=gG ov
  refine aD ?_
  refine Yp ?_
  refine aS rfl Yw (λK hK=>?_)
  refine bN _ 90 _ _ rfl (Ye rfl) (aDA _ _) (aEH (jK b (λs=>d s a) 4) _ ta tc Yo htc (λx hx=>aBi hd4 4 x hx) (aAD ov)) ?_
  rintro e w11 ⟨E,rfl,k11⟩
  have n11:=k11.size
  refine⟨_,rfl,?_⟩
  refine hK _ _ ?_
  clear hK K
  refine Yp ?_
  refine Yq (mX _ rfl (Ye rfl) _) ?_
  refine Yq (mW _ rfl (Ye rfl) _) ?_
  iterate 2 refine Yp ?_
  refine aF ?_
  refine aD ?_
  iterate 2 refine Yp ?_
  refine aF ?_
  exact bD (bB ((aO _ _).trans hd) (dW rfl (Ye rfl)) ⟨rfl,kB.trans (k11.mono Yo)⟩)
structure PkOK (ax:Nat→St):Prop where
 ax:∀a,(ax a).Ok
theorem aQd(ax:Nat→St)(r:Rl):∀i,vU ax r i<256:=λi=>by unfold vU bt;omega
end Go.Proofs.YtdhblehhgpdpdacGreat
