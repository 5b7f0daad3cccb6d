import Derived.Test.YtdhblehhgpdpdacGreatNear161
namespace Go.Proofs.YtdhblehhgpdpdacGreat
open Go.RowKit
theorem yM:aTK 138:=by
 intro r w
 obtain⟨w1,e1,m1,k1,z1⟩:=uQ w r
 have p0:=m1.inn (i:=0) Yo
 have p1:=m1.inn (i:=1) Yo
 have p2:=m1.inn (i:=2) Yo
 have p3:=m1.inn (i:=3) Yo
 rw[e1] at p0 p1 p2 p3
 have E1:=aA e1;have K1:=aA k1
 clear e1 m1 k1 z1
 unfold gK
 go_enter Tryz.func138,Tryz.ntmps138
 go_wp2_with fail
 rw[←unhide E1]
 clear p0 p1 p2 p3
 go_loopw [3,8] (λns is wr=>w1=wr∧∃i:Nat,is=.int .i64 i∧i≤4∧ns=.int .i64 (cn r.I i:Nat)) (λ_ is _=>4-(intOf is).toNat)
 case atStart=>exact⟨rfl,0,rfl,Yo,rfl⟩
 case round=>
  obtain⟨rfl,i,rfl,hi,rfl⟩:=hrel
  have hn:cn r.I i≤i:=aDK _ _
  by_cases hin:i<4
  ·have hin':(i:Int)<4:=Yo
   have at_:=aAX r.I hin
   have S:=aA (show cn r.I (i+1)=cn r.I i+if r.I i=true then 1 else 0 from rfl)
   cases hb:r.I i with
   |true=>
    rw[hb] at at_
    have T:=aA (show cn r.I (i+1)=cn r.I i+1 by rw[unhide S,hb,if_pos rfl])
    clear hb
    go_wp2_with fail
    go_roundw
    case rel=>exact⟨trivial,i+1,by go_num,Yo,by rw[unhide T];go_num⟩
    case measure=>simp[intOf]<;>omega
   |false=>
    rw[hb] at at_
    have T:=aA (show cn r.I (i+1)=cn r.I i by rw[unhide S,hb,if_neg Yc];rfl)
    clear hb
    go_wp2_with fail
    go_roundw
    case rel=>exact⟨trivial,i+1,by go_num,Yo,by rw[unhide T]⟩
    case measure=>simp[intOf]<;>omega
  ·have e9:i=4:=Yo
   subst e9
   rw[show ((4:Nat):Int)=4 from rfl]
   go_wp2_with fail
   go_ret
   exact⟨rfl,unhide K1⟩
set_option maxHeartbeats 1000000 in
theorem aDU (b i : Nat) (x : Bool) (R : Rl) (w : World) (hi : i < 4) (h : RAt w b R) :
  Calls Tryz.prog 139 #[.pointer (some ⟨b,0,none⟩),.int .i64 (i:Int),.bool x] w λe w'=>e=.returned (.tuple #[])∧RAt w' b ⟨dF R.I i x,dF R.M i 0,dF R.J i 0⟩∧Kept b w w':=by
 have c1:=h.inn hi;have f1:=h.free i
 have h1:=h.setI hi x
 have c2:=h.mis hi;have f2:=h.free (4+i)
 have h2:=h1.setM hi 0
 have c3:=h.joi hi;have f3:=h.free (8+i)
 have H3:=aA ((h2.setJ hi 0).below (aQ (Below.refl _ _)))
 have hi':(i:Int)<4:=Yo
 clear h h1 h2
 go_enter Tryz.func139,Tryz.ntmps139
 go_region
 go_wp2_with fail
 go_end0
 refine⟨rfl,unhide H3,?_⟩
 exact (((kept_set _ _ _ _).trans (kept_set _ _ _ _) (Or.inl rfl)).trans (kept_set _ _ _ _) (Or.inl rfl)).trans (mJ _) (Or.inl rfl)
set_option maxHeartbeats 1000000 in
theorem aGJ (b i : Nat) (A : Nat → Bool) (R : Rl) (w : World) (hi : i < 4) (h : RAt w b R) (hI : R.I i = false) (hA : A i = true) (hg : gd R i = true) :
  Calls Tryz.prog 125 #[.pointer (some ⟨b,0,none⟩),.int .i64 (i:Int)] w λe w'=>e=.returned (.int .i64 (if 3≤R.J i+1 then 2 else 0))∧RAt w' b (lZ A i R)∧Kept b w w':=by
 obtain⟨g1,g2,g3⟩:=(tO hI).1 hg
 have hi':(i:Int)<4:=Yo
 obtain⟨t,et⟩:∃t,R.J i=t:=⟨_,rfl⟩
 have c1:=h.joi hi;have f1:=h.free (8+i)
 have h1:=h.setJ hi (t+1)
 have c2:(w.setCell ⟨b,8+i,none⟩ (.int .i64 (t+1))).cell? ⟨b,8+i,none⟩=some (.int .i64 (t+1)):=by have q:=h1.joi hi;rw[q];show some (Value.int .i64 (dF R.J i (t+1) i))=_;rw[cB]
 rw[et] at c1 g2 g3 ⊢
 have H1:=aA (h1.below (aQ (Below.refl _ _)));have ET:=aA et;have G1:=aA g1;have HI:=aA hI
 clear h h1 et hg g1 hI
 have kk:Kept b w (w.setCell ⟨b,8+i,none⟩ (.int .i64 (t+1))).drew:=(kept_set _ _ _ _).trans (mJ _) (Or.inl rfl)
 have KK:=aA kk
 clear kk
 by_cases h3:3≤t+1
 ·have d3:decide (t+1<3)=false:=decide_eq_false Yo
  rw[if_pos h3]
  have ST:=aA (aNJ (unhide HI) hA (by rw[unhide ET];exact h3))
  go_enter Tryz.func125,Tryz.ntmps125
  go_wp2_with fail
  go_region
  go_wp2_with fail
  refine (aDU b i true _ _ hi (unhide H1)).mono ?_
  rintro e w2 ⟨rfl,h2,k2⟩
  have H2:=aA h2;have K2:=aA ((unhide KK).trans k2 (Or.inl rfl))
  clear h2 k2 c1 c2 f1
  go_wp2_with fail
  go_ret
  refine⟨rfl,?_,unhide K2⟩
  rw[(unhide ST).1]
  refine (unhide H2).alike (λj hj=>⟨rfl,?_,?_⟩)
  ·show dF R.M i 0 j=R.M j
   by_cases e:j=i
   ·rw[e,cB,unhide G1]
   ·rw[upM_other _ _ e]
  ·show dF (dF R.J i (t+1)) i 0 j=dF R.J i 0 j
   by_cases e:j=i
   ·rw[e,cB,cB]
   ·rw[upM_other _ _ e,upM_other _ _ e,upM_other _ _ e]
 ·have d3:decide (t+1<3)=true:=decide_eq_true Yo
  rw[if_neg h3]
  have ST:=aA (aGu (unhide HI) hA (by rw[unhide ET];exact h3))
  go_enter Tryz.func125,Tryz.ntmps125
  go_wp2_with fail
  go_region
  go_wp2_with fail
  go_ret
  refine⟨rfl,?_,unhide KK⟩
  rw[(unhide ST).1,unhide ET]
  exact unhide H1
set_option maxHeartbeats 1000000 in
theorem aFY (b i : Nat) (A : Nat → Bool) (R : Rl) (w : World) (hi : i < 4) (h : RAt w b R) (hI : R.I i = true) (hA : A i = false) (hg : gd R i = true) :
  Calls Tryz.prog 124 #[.pointer (some ⟨b,0,none⟩),.int .i64 (i:Int)] w λe w'=>e=.returned (.int .i64 (if 2≤R.M i+1∧2<cn R.I 4 then 1 else 0))∧RAt w' b (lZ A i R)∧Kept b w w':=by
 obtain⟨g1,g2,g3⟩:=(gd_in hI).1 hg
 have hi':(i:Int)<4:=Yo
 obtain⟨t,et⟩:∃t,R.M i=t:=⟨_,rfl⟩
 have c1:=h.mis hi;have f1:=h.free (4+i)
 have h1:=h.setM hi (t+1)
 have c2:(w.setCell ⟨b,4+i,none⟩ (.int .i64 (t+1))).cell? ⟨b,4+i,none⟩=some (.int .i64 (t+1)):=by have q:=h1.mis hi;rw[q];show some (Value.int .i64 (dF R.M i (t+1) i))=_;rw[cB]
 rw[et] at c1 g1 g2 ⊢
 have H1:=aA (h1.below (aQ (Below.refl _ _)));have ET:=aA et;have G3:=aA g3;have HI:=aA hI
 clear h h1 et hg g3 hI
 have kk:Kept b w (w.setCell ⟨b,4+i,none⟩ (.int .i64 (t+1))).drew:=(kept_set _ _ _ _).trans (mJ _) (Or.inl rfl)
 have KK:=aA kk
 clear kk
 have hcl:cn R.I 4≤4:=aDK _ _
 by_cases h3:2≤t+1
 ·have d3:decide (t+1<2)=false:=decide_eq_false Yo
  by_cases h4:2<cn R.I 4
  ·have h4':(2:Int)<((cn R.I 4:Nat):Int):=Yo
   rw[if_pos ⟨h3,h4⟩]
   have ST:=aA (aIh (unhide HI) hA (by rw[unhide ET];exact⟨h3,h4⟩))
   go_enter Tryz.func124,Tryz.ntmps124
   go_wp2_with fail
   go_region
   go_wp2_with (refine wpList_loadRl _ rfl (.tmp 23) rfl rfl (unhide H1) ?_)
   refine (yM _ _).mono ?_
   rintro e w1 ⟨rfl,k1⟩
   have H1:=aA ((unhide H1).below k1);have K1:=aA ((unhide KK).trans (Kept.of_below k1) (Or.inl rfl))
   clear k1 c1 c2 f1
   go_wp2_with fail
   refine (aDU b i false _ _ hi (unhide H1)).mono ?_
   rintro e w2 ⟨rfl,h2,k2⟩
   have H2:=aA h2;have K2:=aA ((unhide K1).trans k2 (Or.inl rfl))
   clear h2 k2
   go_wp2_with fail
   go_ret
   refine⟨rfl,?_,unhide K2⟩
   rw[(unhide ST).1]
   refine (unhide H2).alike (λj hj=>⟨rfl,?_,?_⟩)
   ·show dF (dF R.M i (t+1)) i 0 j=dF R.M i 0 j
    by_cases e:j=i
    ·rw[e,cB,cB]
    ·rw[upM_other _ _ e,upM_other _ _ e,upM_other _ _ e]
   ·show dF R.J i 0 j=R.J j
    by_cases e:j=i
    ·rw[e,cB,unhide G3]
    ·rw[upM_other _ _ e]
  ·have h4':¬(2:Int)<((cn R.I 4:Nat):Int):=Yo
   rw[if_neg (λh=>h4 h.2)]
   have ST:=aA (aCt (unhide HI) hA (by rw[unhide ET];exact λh=>h4 h.2))
   go_enter Tryz.func124,Tryz.ntmps124
   go_wp2_with fail
   go_region
   go_wp2_with (refine wpList_loadRl _ rfl (.tmp 23) rfl rfl (unhide H1) ?_)
   refine (yM _ _).mono ?_
   rintro e w1 ⟨rfl,k1⟩
   have h1:=(unhide H1).below k1;have K1:=aA ((unhide KK).trans (Kept.of_below k1) (Or.inl rfl))
   clear k1 c1 c2 f1
   have c1:=h1.mis hi;have f1:=h1.free (4+i)
   have H2:=aA (h1.setM hi 2);have K2:=aA ((unhide K1).trans (kept_set w1 b (4+i) (.int .i64 2)) (Or.inl rfl))
   clear h1
   go_wp2_with fail
   go_ret
   refine⟨rfl,?_,unhide K2⟩
   rw[(unhide ST).1,unhide ET]
   refine (unhide H2).alike (λj hj=>⟨rfl,?_,rfl⟩)
   show dF (dF R.M i (t+1)) i 2 j=dF R.M i (min (t+1) 2) j
   by_cases e:j=i
   ·rw[e,cB,cB];omega
   ·rw[upM_other _ _ e,upM_other _ _ e,upM_other _ _ e]
 ·have d3:decide (t+1<2)=true:=decide_eq_true Yo
  rw[if_neg (λh=>h3 h.1)]
  have ST:=aA (aCt (unhide HI) hA (by rw[unhide ET];exact λh=>h3 h.1))
  go_enter Tryz.func124,Tryz.ntmps124
  go_wp2_with fail
  go_region
  go_wp2_with fail
  go_ret
  refine⟨rfl,?_,unhide KK⟩
  rw[(unhide ST).1,unhide ET,show min (t+1) 2=t+1 by omega]
  exact unhide H1
def kdN(A:Nat→Bool)(i:Nat)(R:Rl):Int:=if R.I i=true then (if A i=true then 0 else if 2≤R.M i+1∧2<cn R.I 4 then 1 else 0) else if A i=true then (if 3≤R.J i+1 then 2 else 0) else 0
theorem aSZ(A:Nat→Bool)(i:Nat)(R:Rl):(kdN A i R=0∧mI A i R=[])∨((kdN A i R=1∨kdN A i R=2)∧mI A i R=[(kdN A i R,i)]):=by
 unfold kdN mI
 split
 ·split
  ·exact Or.inl ⟨rfl,rfl⟩
  ·split
   ·exact Or.inr ⟨Or.inl rfl,rfl⟩
   ·exact Or.inl ⟨rfl,rfl⟩
 ·split
  ·split
   ·exact Or.inr ⟨Or.inr rfl,rfl⟩
   ·exact Or.inl ⟨rfl,rfl⟩
  ·exact Or.inl ⟨rfl,rfl⟩
set_option maxHeartbeats 1000000 in
theorem aMI (b i : Nat) (A : Nat → Bool) (R : Rl) (w : World) (hi : i < 4) (h : RAt w b R) (hg : gd R i = true) :
  Calls Tryz.prog 112 #[.pointer (some ⟨b,0,none⟩),.int .i64 (i:Int),.bool (A i)] w λe w'=>e=.returned (.int .i64 (kdN A i R))∧RAt w' b (lZ A i R)∧Kept b w w':=by
 have hi':(i:Int)<4:=Yo
 have ci:=h.inn hi
 cases hI:R.I i with
 |true=>
  rw[hI] at ci
  cases hA:A i with
  |true=>
   have K:=aA (show kdN A i R=0 by unfold kdN;rw[if_pos hI,if_pos hA])
   have c1:=h.mis hi;have f1:=h.free (4+i)
   have H2:=aA (h.setM hi 0);have K2:=aA (kept_set w b (4+i) (.int .i64 0))
   have ST:=aA (st_agree (A:=A) hI hA)
   clear h hI hA hg
   go_enter Tryz.func112,Tryz.ntmps112
   go_wp2_with fail
   go_ret
   refine⟨by rw[unhide K];rfl,?_,unhide K2⟩
   rw[(unhide ST).1]
   exact unhide H2
  |false=>
   have K:=aA (show kdN A i R=if 2≤R.M i+1∧2<cn R.I 4 then 1 else 0 by unfold kdN;rw[if_pos hI,if_neg (by rw[hA];decide)])
   have D:=aA (aFY b i A R w hi h hI hA hg)
   clear h hI hA hg
   go_enter Tryz.func112,Tryz.ntmps112
   go_wp2_with fail
   refine (unhide D).mono ?_
   rintro e w2 ⟨rfl,h2,k2⟩
   have H2:=aA h2;have K2:=aA k2
   clear h2 k2 D ci
   rw[←unhide K]
   go_wp2_with fail
   go_ret
   exact⟨rfl,unhide H2,unhide K2⟩
 |false=>
  rw[hI] at ci
  cases hA:A i with
  |true=>
   have K:=aA (show kdN A i R=if 3≤R.J i+1 then 2 else 0 by unfold kdN;rw[if_neg (by rw[hI];decide),if_pos hA])
   have D:=aA (aGJ b i A R w hi h hI hA hg)
   clear h hI hA hg
   go_enter Tryz.func112,Tryz.ntmps112
   go_wp2_with fail
   refine (unhide D).mono ?_
   rintro e w2 ⟨rfl,h2,k2⟩
   have H2:=aA h2;have K2:=aA k2
   clear h2 k2 D ci
   rw[←unhide K]
   go_wp2_with fail
   go_ret
   exact⟨rfl,unhide H2,unhide K2⟩
  |false=>
   have K:=aA (show kdN A i R=0 by unfold kdN;rw[if_neg (by rw[hI];decide),if_neg (by rw[hA];decide)])
   have c1:=h.joi hi;have f1:=h.free (8+i)
   have H2:=aA (h.setJ hi 0);have K2:=aA (kept_set w b (8+i) (.int .i64 0))
   have ST:=aA (aJv (A:=A) hI hA)
   clear h hI hA hg
   go_enter Tryz.func112,Tryz.ntmps112
   go_wp2_with fail
   go_ret
   refine⟨by rw[unhide K];rfl,?_,unhide K2⟩
   rw[(unhide ST).1]
   exact unhide H2
def BgI(w:World)(i:Nat)(wr:World):Prop:=RAt wr (w.heap.size+1) ⟨λj=>decide (j<i),λ_=>0,λ_=>0⟩∧RAt wr w.heap.size zeroR∧Below w.heap.size w wr
theorem BgI.set{w wr:World}{i:Nat}(h:BgI w i wr)(hi:i<4):BgI w (i+1) (wr.setCell ⟨w.heap.size+1,i,none⟩ (.bool true)):=by
 have kk:=kept_set wr (w.heap.size+1) i (.bool true)
 refine⟨(h.1.setI hi true).alike (λj hj=>⟨?_,rfl,rfl⟩),h.2.1.kept kk Yo,aC h.2.2 kk Yo h.2.2.size⟩
 show dF (λj=>decide (j<i)) i true j=decide (j<i+1)
 by_cases e:j=i
 ·rw[e,cB];simp
 ·rw[upM_other _ _ e];by_cases h:j<i<;>simp[h]<;>omega
theorem yV:aTH 53:=by
 intro w
 obtain⟨w1,e1,m1,k1,z1⟩:=uQ w zeroR
 obtain⟨w2,e2,m2,k2,z2⟩:=uQ w1 zeroR
 rw[z1] at m2
 have H0:=aA (show BgI w 0 w2 from ⟨m2.alike (λj _=>⟨rfl,rfl,rfl⟩),m1.below k2,k1.trans (k2.mono k1.size)⟩)
 unfold zeroR at e1 e2
 dsimp only at e1 e2
 have E1:=aA e1;have E2:=aA e2
 clear e1 e2 m1 m2 k1 k2 z1 z2
 go_enter Tryz.func53,Tryz.ntmps53
 go_wp2_with fail
 rw[←unhide E1, ←unhide E2]
 go_loopw [4] (λis wr=>∃i:Nat,is=.int .i64 i∧i≤4∧BgI w i wr) (λis _=>4-(intOf is).toNat)
 case atStart=>exact⟨0,rfl,Yo,unhide H0⟩
 case round=>
  obtain⟨i,rfl,hi,hI⟩:=hrel
  rename World=>wr
  by_cases hin:i<4
  ·have hin':(i:Int)<4:=Yo
   have c1:=hI.1.inn hin;have f1:=hI.1.free i
   have H5:=aA (hI.set hin)
   clear hI
   go_wp2_with fail
   go_roundw
   case rel=>exact⟨i+1,by go_num,Yo,unhide H5⟩
   case measure=>simp[intOf]<;>omega
  ·have e9:i=4:=Yo
   subst e9
   rw[show ((4:Nat):Int)=4 from rfl]
   have HI:=aA hI
   clear hI
   go_wp2_with (first|refine wpList_loadRl _ rfl (.tmp 1) rfl rfl (unhide HI).1 ?_|(refine wpList_storeRl _ rfl (.tmp 0) (.tmp 11) rfl rfl rfl (unhide HI).2.1 rfl ?_;intro w5 m5 k5))
   have K5:=aA (aC (unhide HI).2.2 k5 Yo (unhide HI).2.2.size)
   clear k5
   go_wp2_with fail
   have p0:=m5.inn (i:=0) Yo
   have p1:=m5.inn (i:=1) Yo
   have p2:=m5.inn (i:=2) Yo
   have p3:=m5.inn (i:=3) Yo
   have p4:=m5.mis (i:=0) Yo
   have p5:=m5.mis (i:=1) Yo
   have p6:=m5.mis (i:=2) Yo
   have p7:=m5.mis (i:=3) Yo
   have p8:=m5.joi (i:=0) Yo
   have p9:=m5.joi (i:=1) Yo
   have p10:=m5.joi (i:=2) Yo
   have p11:=m5.joi (i:=3) Yo
   refine bodyPost_ret (v:=gK beginR) (by unfold gK;simp[beginR,results,Tryz.results53,go_sem,p0,p1,p2,p3,p4,p5,p6,p7,p8,p9,p10,p11]) rfl ⟨rfl,unhide K5⟩
set_option maxHeartbeats 2000000 in
theorem aMy (b : Nat) (R : Rl) (A : Nat → Bool) (ao : Option Addr) (cap : Nat) (w : World) (h : RAt w b R) (hg : nK R = true) (hs : Rd w ao 4 (tF A)) (hb : ∀ x o, ao = some ⟨x, o, none⟩ → x ≠ b) :
  Calls Tryz.prog 99 #[.pointer (some ⟨b,0,none⟩),.slice ao 4 cap] w λe w'=>∃(lo:Option Addr) (lc:Nat),e=.returned (.slice lo (rnN A R 4).2.length lc)∧ChRd w.heap.size w' lo (rnN A R 4).2∧RAt w' b (rnN A R 4).1∧Kept b w w':=by
 obtain⟨x,o,rfl,hcc⟩:=hs Yo
 have hx:=hb x o rfl
 have HC:=aA hcc;have HG:=aA hg;have H:=aA h;have LT:=aA h.lt
 clear h hg hs hb hcc
 go_enter Tryz.func99,Tryz.ntmps99
 go_wp2_with fail
 go_loopw [5,11] (λls is wr=>∃i:Nat,is=.int .i64 i∧i≤4∧OwnC wr w.heap.size ls (rnN A R i).2∧RAt wr b (rnN A R i).1∧Kept b w wr) (λ_ is _=>4-(intOf is).toNat)
 case atStart=>exact⟨0,rfl,Yo,OwnC.nil _ _,unhide H,aDn _ _⟩
 case round=>
  obtain⟨i,rfl,hi,hO,hR,hk⟩:=hrel
  rename World=>wr
  by_cases hin:i<4
  ·have hin':(i:Int)<4:=Yo
   have ca:wr.cell? ⟨x,o+i,none⟩=some (.bool (A i)):=uR (unhide HC i hin) hk hx
   have N:=aA (aMI b i A (rnN A R i).1 wr hin hR (yS.1 (aCu (A:=A) (unhide HG) i) i hin))
   have OX:=aA hO;have KX:=aA hk
   clear hO hR hk
   go_wp2_with fail
   refine (unhide N).mono ?_
   rintro e w2 ⟨rfl,h2,k2⟩
   have O2:=aA ((unhide OX).kept k2 (unhide LT));have K2:=aA ((unhide KX).trans k2 (Or.inl rfl))
   have R2:=aA (show RAt w2 b (rnN A R (i+1)).1 from h2)
   clear h2 k2 OX KX N ca
   rcases aSZ A i (rnN A R i).1 with ⟨q,l⟩|⟨q,l⟩
   ·have O3:=aA (show OwnC w2 w.heap.size u5 (rnN A R (i+1)).2 by
     show OwnC _ _ u5 ((rnN A R i).2++mI A i (rnN A R i).1)
     rw[l,List.append_nil];exact unhide O2)
    rw[q]
    clear q l
    go_wp2_with fail
    go_roundw
    case rel=>exact⟨i+1,by go_num,Yo,unhide O3,unhide R2,unhide K2⟩
    case measure=>simp[intOf]<;>omega
   ·have L:=aA l
    clear l
    generalize kdN A i (rnN A R i).1=kd at*
    have q0:(kd !=0)=true:=by rcases q with rfl|rfl<;>rfl
    have KA:=aA (bR w2 (.cells #[.int .i64 kd,.int .i64 (i:Nat)] 201))
    have V4:=aA (Vh.new w2 201 #[.int .i64 kd,.int .i64 (i:Nat)] (λt=>if t=0 then .int .i64 kd else .int .i64 (i:Nat)) (by show 2≤maxLen;decide) (λt ht=>by
     have:t=0∨t=1:=by simp at ht;omega
     rcases this with rfl|rfl<;>rfl))
    have hl4:(rnN A R i).2.length≤1000:=by have:=aIx A R i;omega
    clear q
    go_wp2_with (refine wpList_joinC _ rfl (.tmp 22) (.tmp 26) rfl w.heap.size (Nat.le_trans (unhide K2).size (unhide KA).size) u5 (rnN A R i).2 rfl ((unhide O2).below (unhide KA)) w2.heap.size (kd,i) rfl ((unhide V4).cell (i:=0) (by show 0<2;omega)) ((unhide V4).cell (i:=1) (by show 1<2;omega)) hl4 ?_)
    intro v6 w6 o6 l6
    have R6:=aA (((unhide R2).below (unhide KA)).under l6 (unhide LT))
    have O6:=aA (show OwnC w6 w.heap.size v6 (rnN A R (i+1)).2 by
     show OwnC _ _ v6 ((rnN A R i).2++mI A i (rnN A R i).1)
     rw[unhide L];exact o6)
    have K6:=aA (show Kept b w w6 from by
     have a:=(unhide K2).trans (Kept.of_below (unhide KA)) (Or.inl rfl)
     exact⟨l6.os.trans a.os,l6.tape.trans a.tape,l6.output.trans a.output,Nat.le_trans a.size l6.size,λk hk hz=>(l6.block k hk).trans (a.block k hk hz)⟩)
    clear o6 l6 KA V4 O2 R2 K2 L q0
    go_wp2_with fail
    go_roundw
    case rel=>exact⟨i+1,by go_num,Yo,unhide O6,unhide R6,unhide K6⟩
    case measure=>simp[intOf]<;>omega
  ·have e9:i=4:=Yo
   subst e9
   rw[show ((4:Nat):Int)=4 from rfl]
   obtain⟨lo,lc,el⟩:=hO.slice
   subst el
   have C:=aA hO.rd;have RR:=aA hR;have KK:=aA hk
   clear hO hR hk
   go_wp2_with fail
   go_ret
   exact⟨lo,lc,rfl,unhide C,unhide RR,unhide KK⟩
set_option maxRecDepth 100000 in
set_option maxHeartbeats 2000000 in
theorem aDs:aTU 81:=by
 intro r X st ao n cap A w hRJ _ hn hcap hs
 obtain⟨w3,e3,j3⟩:=aFE w r X st (.slice ao n cap)
 have J3:=aA j3;have E3:=aA e3;have HR:=aA hs.rd;have RJ:=aA hRJ
 have v2':=j3.v.cell2
 rw[e3] at v2'
 clear j3 e3 hs hRJ
 by_cases h4:n=4
 ·subst h4
  unfold gK vdV
  go_enter Tryz.func81,Tryz.ntmps81
  go_wp2_with (refine wpList_loadRl _ rfl (.tmp 2) rfl rfl (by rw[←unhide E3];exact (unhide J3).r) ?_)
  rw[←unhide E3]
  clear v2'
  refine (aAh r _ (unhide RJ)).mono ?_
  rintro e w4 ⟨rfl,k4⟩
  have J4:=aA ((unhide J3).below k4)
  clear k4 J3 E3
  cases hg:nK r with
  |false=>
   go_wp2_with (refine wpList_storeRl _ rfl (.tmp 4) (.tmp 16) rfl rfl (r:=zeroR) rfl (unhide J4).z rfl ?_)
   intro w5 m5 k5
   have K5:=aA (aC (unhide J4).k k5 Yo (unhide J4).k.size)
   clear k5
   go_wp2_with fail
   have e:stR r st 4 A=(zeroR,[],3):=by unfold stR;rw[if_neg Yo,if_pos hg]
   have p0:=m5.inn (i:=0) Yo
   have p1:=m5.inn (i:=1) Yo
   have p2:=m5.inn (i:=2) Yo
   have p3:=m5.inn (i:=3) Yo
   have p4:=m5.mis (i:=0) Yo
   have p5:=m5.mis (i:=1) Yo
   have p6:=m5.mis (i:=2) Yo
   have p7:=m5.mis (i:=3) Yo
   have p8:=m5.joi (i:=0) Yo
   have p9:=m5.joi (i:=1) Yo
   have p10:=m5.joi (i:=2) Yo
   have p11:=m5.joi (i:=3) Yo
   refine bodyPost_ret (v:=.tuple #[gK zeroR,.slice none 0 0,.int .i64 3]) (by unfold gK;simp[results,Tryz.results81,go_sem,p0,p1,p2,p3,p4,p5,p6,p7,p8,p9,p10,p11]) rfl ⟨none,0,?_,?_,unhide K5⟩
   ·rw[e];rfl
   ·rw[e];exact λh=>absurd h Yc
  |true=>
   have HG:=aA hg
   clear hg
   have c1:=(unhide J4).v.cell1;have c2:=(unhide J4).v.cell2
   cases st with
   |false=>
    have RE:=aA (show stR r false 4 A=(r,[],0) from aNe (unhide HG))
    go_wp2_with (first|refine wpList_loadRl _ rfl (.tmp 2) rfl rfl (unhide J4).r ?_|(refine wpList_storeRl _ rfl (.tmp 4) (.tmp 20) rfl rfl rfl (unhide J4).z rfl ?_;intro w5 m5 k5))
    have K5:=aA (aC (unhide J4).k k5 Yo (unhide J4).k.size)
    clear k5 c1 c2
    go_wp2_with fail
    have p0:=m5.inn (i:=0) Yo
    have p1:=m5.inn (i:=1) Yo
    have p2:=m5.inn (i:=2) Yo
    have p3:=m5.inn (i:=3) Yo
    have p4:=m5.mis (i:=0) Yo
    have p5:=m5.mis (i:=1) Yo
    have p6:=m5.mis (i:=2) Yo
    have p7:=m5.mis (i:=3) Yo
    have p8:=m5.joi (i:=0) Yo
    have p9:=m5.joi (i:=1) Yo
    have p10:=m5.joi (i:=2) Yo
    have p11:=m5.joi (i:=3) Yo
    refine bodyPost_ret (v:=.tuple #[gK r,.slice none 0 0,.int .i64 0]) (by unfold gK;simp[results,Tryz.results81,go_sem,p0,p1,p2,p3,p4,p5,p6,p7,p8,p9,p10,p11]) rfl ⟨none,0,?_,?_,unhide K5⟩
    ·rw[unhide RE];rfl
    ·rw[unhide RE];exact λh=>absurd h (Nat.lt_irrefl 0)
   |true=>
    have RE:=aA (show stR r true 4 A=((rnN A r 4).1,(rnN A r 4).2,0) from aHR (unhide HG))
    have GO:=aA (aMy w.heap.size r A ao cap w4 (unhide J4).r (unhide HG) (λh=>by
     obtain⟨x,o,e,hc⟩:=unhide HR h
     exact⟨x,o,e,λi hi=>bE (hc i hi) (unhide J4).k⟩) (λx o e=>by
     obtain⟨x',o',e',hc⟩:=unhide HR Yo
     rw[e] at e'
     cases e'
     have:=World.block_lt_of_cell? w _ (hc 0 Yo)
     exact Nat.ne_of_lt this))
    have Z4:=aA (unhide J4).n
    go_wp2_with fail
    refine (unhide GO).mono ?_
    rintro e w5 ⟨lo,lc,rfl,g5,r5,k5⟩
    have J5:=aA ((unhide J4).put k5 r5);have G5:=aA g5
    clear g5 r5 k5 J4 GO c1 c2
    go_wp2_with (first|refine wpList_loadRl _ rfl (.tmp 2) rfl rfl (unhide J5).r ?_|(refine wpList_storeRl _ rfl (.tmp 4) (.tmp 24) rfl rfl rfl (unhide J5).z rfl ?_;intro w6 m5 k5))
    have K5:=aA (aC (unhide J5).k k5 Yo (unhide J5).k.size)
    have C5:=aA (((unhide G5).young k5 (by have:=unhide Z4;omega)).weak (show w.heap.size≤w4.heap.size by have:=unhide Z4;omega))
    clear k5
    go_wp2_with fail
    have p0:=m5.inn (i:=0) Yo
    have p1:=m5.inn (i:=1) Yo
    have p2:=m5.inn (i:=2) Yo
    have p3:=m5.inn (i:=3) Yo
    have p4:=m5.mis (i:=0) Yo
    have p5:=m5.mis (i:=1) Yo
    have p6:=m5.mis (i:=2) Yo
    have p7:=m5.mis (i:=3) Yo
    have p8:=m5.joi (i:=0) Yo
    have p9:=m5.joi (i:=1) Yo
    have p10:=m5.joi (i:=2) Yo
    have p11:=m5.joi (i:=3) Yo
    refine bodyPost_ret (v:=.tuple #[gK (rnN A r 4).1,.slice lo (rnN A r 4).2.length lc,.int .i64 0]) (by unfold gK;simp[results,Tryz.results81,go_sem,p0,p1,p2,p3,p4,p5,p6,p7,p8,p9,p10,p11]) rfl ⟨lo,lc,by rw[unhide RE];rfl,by rw[unhide RE];exact unhide C5,unhide K5⟩
 ·have h4':(n:Int)≠4:=Yo
  have t4:((n:Int)!=4)=true:=by simp[h4']
  unfold gK vdV
  go_enter Tryz.func81,Tryz.ntmps81
  go_wp2_with (refine wpList_storeRl _ rfl (.tmp 4) (.tmp 12) rfl rfl (r:=zeroR) rfl (by rw[←unhide E3];exact (unhide J3).z) rfl ?_)
  intro w5 m5 k5
  rw[←unhide E3] at k5
  have K5:=aA (aC (unhide J3).k k5 Yo (unhide J3).k.size)
  clear k5 v2'
  go_wp2_with fail
  have e:stR r st n A=(zeroR,[],8):=by unfold stR;rw[if_pos h4]
  have p0:=m5.inn (i:=0) Yo
  have p1:=m5.inn (i:=1) Yo
  have p2:=m5.inn (i:=2) Yo
  have p3:=m5.inn (i:=3) Yo
  have p4:=m5.mis (i:=0) Yo
  have p5:=m5.mis (i:=1) Yo
  have p6:=m5.mis (i:=2) Yo
  have p7:=m5.mis (i:=3) Yo
  have p8:=m5.joi (i:=0) Yo
  have p9:=m5.joi (i:=1) Yo
  have p10:=m5.joi (i:=2) Yo
  have p11:=m5.joi (i:=3) Yo
  refine bodyPost_ret (v:=.tuple #[gK zeroR,.slice none 0 0,.int .i64 8]) (by unfold gK;simp[results,Tryz.results81,go_sem,p0,p1,p2,p3,p4,p5,p6,p7,p8,p9,p10,p11]) rfl ⟨none,0,?_,?_,unhide K5⟩
  ·rw[e];rfl
  ·rw[e];exact λh=>absurd h Yc
end Go.Proofs.YtdhblehhgpdpdacGreat
