import Derived.Test.YtdhblehhgpdpdacGreatNear151
namespace Go.Proofs.YtdhblehhgpdpdacGreat
open Go.RowKit
def turL(a m:Nat)(c:Lp):Lp:=⟨nS a m c.p,c.ao,c.cap⟩
theorem aIk(a m:Nat)(c:Lp):iG (turL a m c)=iG c:=by unfold iG turL;dsimp only;rw[vP]
theorem turL_C(a m:Nat)(c:Lp):lpC (turL a m c)=lpC c:=by unfold lpC turL;dsimp only;rw[vP];rfl
theorem aGX(a m:Nat)(L:List Lp):∀i,lpL (L.modify i (turL a m))=lpL L:=by
 induction L with
 |nil=>intro i;simp
 |cons c l ih=>
  intro i
  cases i with
  |zero=>show lpC (turL a m c)++lpL l=_;rw[turL_C];rfl
  |succ i=>show lpC c++lpL (l.modify i (turL a m))=_;rw[ih i];rfl
theorem aFj{M:List Lp}{q:List Pc}(h:These M q)(a m i:Nat):These (M.modify i (turL a m)) (q.modify i (nS a m)):=by
 unfold These at*
 rw[←h]
 clear h
 induction M generalizing i with
 |nil=>simp
 |cons c l ih=>
  cases i with
  |zero=>rfl
  |succ i=>show c.p::(l.modify i (turL a m)).map Lp.p=c.p::(l.map Lp.p).modify i (nS a m);rw[ih i]
theorem aGR{M:List Lp}{f:Lp→Lp}:∀{i:Nat} {d:Lp},d∈M.modify i f→∃j c,M[j]?=some c∧((j=i∧d=f c)∨(j≠i∧d=c)):=by
 intro i d hd
 obtain⟨j,hj⟩:=List.getElem?_of_mem hd
 rw[List.getElem?_modify] at hj
 rcases e:M[j]? with _|c
 ·rw[e] at hj;cases hj
 ·rw[e] at hj
  simp only[Option.map_eq_map,Option.map_some] at hj
  by_cases ei:i=j
  ·rw[if_pos ei] at hj;cases hj;exact⟨j,c,e,Or.inl ⟨ei.symm,rfl⟩⟩
  ·rw[if_neg ei] at hj;cases hj;exact⟨j,d,e,Or.inr ⟨λh=>ei h.symm,rfl⟩⟩
theorem aDZ{M:List Lp}(a m i:Nat)(h:aAI M):aAI (M.modify i (turL a m)):=by
 unfold aAI at*
 rw[List.pairwise_iff_getElem] at*
 intro x y hx hy hxy g hg
 have hx':x<M.length:=by simpa using hx
 have hy':y<M.length:=by simpa using hy
 have ev:∀(z:Nat) (hz:z<(M.modify i (turL a m)).length) (hz':z<M.length),iG ((M.modify i (turL a m))[z])=iG M[z]:=by
  intro z hz hz'
  rw[List.getElem_modify]
  split
  ·exact aIk a m _
  ·rfl
 rw[ev x hx hx'] at hg
 rw[ev y hy hy']
 exact h x y hx' hy' hxy g hg
theorem aRG{ds:List Nat}{a:Nat}(ha:a<ds.length)(x:Nat)(i:Nat):gF (ds.set a x) i=if i=a then x else gF ds i:=by
 unfold gF
 rw[List.getD_eq_getElem?_getD,List.getD_eq_getElem?_getD,List.getElem?_set]
 by_cases e:a=i
 ·subst e;rw[if_pos rfl,if_pos rfl,if_pos ha];rfl
 ·rw[if_neg e,if_neg (λh=>e h.symm)]
theorem OwnB.turn{w:World}{B a m gb:Nat}{c:Lp}(h:OwnB w B c)(ha:a<c.p.ds.length)(hg:c.ao=some ⟨gb,0,none⟩):OwnB (w.setCell ⟨gb,a,none⟩ (.int .u8 ((gF c.p.ds a^^^m:Nat):Int))) B (turL a m c):=by
 have V:Vh 5 w gb c.p.ds.length c.cap (bF (gF c.p.ds)):=by
  obtain⟨r,cap,e,hb,hV⟩:=Vh.of_owns Yo h
  unfold iG at e
  rw[hg] at e
  cases e
  exact hV
 have hB:B≤gb:=(h.lt gb (by unfold iG;rw[hg];rfl)).1
 have V2:=Vh.set V a (.int .u8 ((gF c.p.ds a^^^m:Nat):Int))
 have V3:Vh 5 (w.setCell ⟨gb,a,none⟩ (.int .u8 ((gF c.p.ds a^^^m:Nat):Int))) gb c.p.ds.length c.cap (bF (gF (nS a m c.p).ds)):=Vh.congr V2 (λi _=>by
  unfold iJ bF bV nS
  dsimp only
  rw[aRG ha]
  by_cases e:i=a
  ·rw[if_pos e,if_pos e];rfl
  ·rw[if_neg e,if_neg e])
 unfold OwnB
 rw[aIk]
 unfold iG turL
 dsimp only
 rw[vP,hg]
 exact V3.owns hB
theorem OwnQ.turn{w:World}{B a m gb i:Nat}{v:Value}{M:List Lp}{c:Lp}(h:OwnQ w B v M)(hi:M[i]?=some c)(ha:a<c.p.ds.length)(hg:c.ao=some ⟨gb,0,none⟩):OwnQ (w.setCell ⟨gb,a,none⟩ (.int .u8 ((gF c.p.ds a^^^m:Nat):Int))) B v (M.modify i (turL a m)):=by
 have hc:=h.2.1 c (List.mem_of_getElem? hi)
 have hgb:(iG c).ownBlock=some gb:=by unfold iG;rw[hg];rfl
 have k:=kept_set w gb a (.int .u8 ((gF c.p.ds a^^^m:Nat):Int))
 refine⟨?_,λd hd=>?_,aDZ a m i h.2.2⟩
 ·rw[List.length_modify,aGX]
  refine fJ h.1 k (λe=>?_)
  obtain⟨u1,h1⟩:=gP h.1 e
  obtain⟨u2,h2⟩:=gP hc hgb
  rw[h1] at h2;cases h2
 ·obtain⟨j,d',hj,⟨rfl,rfl⟩|⟨hji,rfl⟩⟩:=aGR hd
  ·rw[hi] at hj;cases hj
   exact hc.turn ha hg
  ·refine fJ (h.2.1 d (List.mem_of_getElem? hj)) k (λe=>?_)
   have hp:=h.2.2
   unfold aAI at hp
   rw[List.pairwise_iff_getElem] at hp
   obtain⟨lj,ej⟩:=List.getElem?_eq_some_iff.1 hj
   obtain⟨li,ei⟩:=List.getElem?_eq_some_iff.1 hi
   rcases Nat.lt_or_gt_of_ne hji with hlt|hlt
   ·exact hp j i lj li hlt gb (by rw[ej];exact e) (by rw[ei];exact hgb)
   ·exact hp i j li lj hlt gb (by rw[ei];exact hgb) (by rw[ej];exact e)
theorem aEQ {b : Bs} {s a m : Int} {w w' : World} {e : Nat} (h : turnE b s a m = e) (h0 : e ≠ 0) (k : Below w.heap.size w w') :
  ∃(ao':Option Addr) (cap':Nat) (L':List Lp),Ending.returned (.tuple #[.agg #[.int .i64 0,.int .i64 0,.slice none 0 0],.int .i64 (e:Nat)])=.returned (.tuple #[lI (mP b s a m).now (mP b s a m).ser (.slice ao' L'.length cap'),.int .i64 (turnE b s a m:Nat)])∧These L' (mP b s a m).q∧BNew w.heap.size w' ao' cap' L'∧Below w.heap.size w w':=by
 have hz:mP b s a m=jG:=by unfold mP;rw[if_neg (by rw[h];exact h0)]
 rw[hz,h]
 exact⟨none,0,[],rfl,rfl,zG _ _,k⟩
theorem aOw {b : Bs} {s a m : Int} {w w' : World} {i : Nat} (he : turnE b s a m = 0) (h : fsP s b.q = i) {ao : Option Addr} {cap n B : Nat} {M : List Lp} (hM : These M b.q) (o : OwnQ w' B (.slice ao n cap) (M.modify i (turL a.toNat m.toNat))) (hn : n = M.length) (hB : w.heap.size ≤ B) (k : Below w.heap.size w w') :
  ∃(ao':Option Addr) (cap':Nat) (L':List Lp),Ending.returned (.tuple #[.agg #[.int .i64 b.now,.int .i64 b.ser,.slice ao n cap],.int .i64 0])=.returned (.tuple #[lI (mP b s a m).now (mP b s a m).ser (.slice ao' L'.length cap'),.int .i64 (turnE b s a m:Nat)])∧These L' (mP b s a m).q∧BNew w.heap.size w' ao' cap' L'∧Below w.heap.size w w':=by
 have hz:mP b s a m=⟨b.now,b.ser,b.q.modify i (nS a.toNat m.toNat)⟩:=by unfold mP;rw[if_pos he,h]
 rw[hz,he]
 have hl:(M.modify i (turL a.toNat m.toNat)).length=n:=by rw[List.length_modify,hn]
 rw[←hl] at o
 refine⟨ao,cap,M.modify i (turL a.toNat m.toNat),?_,aFj hM _ _ _,o.new.weak hB,k⟩
 rw[hl];rfl
def SdI(w:World)(gp:Nat)(N S:Int)(u:Value)(p:Pc)(r:Value)(W:World):Prop:=BuAt W w.heap.size N S u∧PvAt W gp p r
theorem SdI.below{w W W':World}{gp:Nat}{N S:Int}{u r:Value}{p:Pc}(h:SdI w gp N S u p r W)(k:Below W.heap.size W W'):SdI w gp N S u p r W':=⟨h.1.below k,h.2.below k⟩
theorem aLx{f:Operand→Value}{o:Oper}(x y:Operand)(ho:o.op=.binOp .add 3 x y 3){u:Int}(hx:f x=.int .i64 u)(hy:f y=.int .i64 1)(r:R64 u)(w:World):(execOp f o).run Tryz.prog w=.ok (.value (.int .i64 (lV u))) w:=by
 unfold R64 at r
 have e:IntKind.i64.wrap (u+1)=lV u:=by rw[IntKind.wrap_i64];unfold lV;split<;>omega
 unfold execOp
 rw[ho]
 dsimp only
 rw[hx,hy]
 go_simp
theorem aBU {f : Operand → Value} {o : Oper} (x y z : Operand) (ho : o.op = .build 74 #[(0, x), (1, y), (2, z)]) {N S : Int} {ao : Option Addr} {n c : Nat} (h0 : f x = .int .i64 N) (h1 : f y = .int .i64 S) (h2 : f z = .slice ao n c) (w : World) :
  (execOp f o).run Tryz.prog w=.ok (.value (lI N S (.slice ao n c))) w:=by
 unfold execOp
 rw[ho]
 unfold lI
 go_simp
set_option maxHeartbeats 4000000 in
set_option maxRecDepth 100000 in
theorem aHE:aTG 16:=by
 intro b ao cap L f t d bo bc ds w hb ht hr rf rt rd hs hbc h256 hlen
 obtain⟨N,S,q⟩:=b
 have hN:L.length≤2513169434843:=by rw[ht.len];exact hb.2.2.2
 have OK:=aA (show ∀c,c∈L→aCw c.p from λc hc=>hb.2.2.1 c.p (ht.mem hc))
 obtain⟨w1,e1,m1,m2,k1,s1⟩:=aCy w N S (.slice ao L.length cap)
 have C1:=aFz f t w1
 have C2:=kR d 1000 w1
 have C3:=kR N 1099511627776 w1
 have x0:=m1.cell0;have x1:=m1.cell1;have x2:=m1.cell2
 have y0:=m2.cell0;have y1:=m2.cell1;have y2:=m2.cell2;have f0:=m2.free 0;have f1:=m2.free 1;have f2:=m2.free 2
 obtain⟨w8,e8,m8,k8,z8⟩:=m2.put 0 0 (.slice none 0 0)
 have p0:=m8.cell0;have p1:=m8.cell1;have p2:=m8.cell2
 have E8:=aA e8;have K8:=aA (aC k1 k8 Yo k1.size)
 have E1:=aA e1;have M1:=aA m1;have M2:=aA m2;have K1:=aA k1;have S1:=aA s1;have HT:=aA (show L.map Lp.p=q from ht);have HR:=aA (hr.below k1);have SR:=aA (hs.below k1)
 have LN:=aA (show L.length=q.length from ht.len)
 have RS:=aA (show R64 S from hb.2.1)
 clear e1 m1 m2 k1 s1 hb ht hr hs e8 m8 k8 z8
 unfold lI
 dsimp only
 go_enter Tryz.func16,Tryz.ntmps16
 by_cases hL:(0≤f∧f≤3)∧(0≤t∧t≤3)∧f≠t
 ·rw[decide_eq_true hL] at C1
  have HL:=aA hL
  clear hL
  go_wp2_with fail
  rw[←unhide E1]
  refine C1.mono ?_
  rintro e wx ⟨rfl,ex⟩
  obtain rfl:w1=wx:=ex.symm
  clear ex
  by_cases hD:0≤d∧d≤1000
  ·rw[decide_eq_true hD] at C2
   have HD:=aA hD
   clear hD
   go_wp2_with fail
   refine C2.mono ?_
   rintro e wx ⟨rfl,ex⟩
   obtain rfl:w1=wx:=ex.symm
   clear ex
   by_cases hT:0≤N∧N≤1099511627776
   ·rw[decide_eq_true hT] at C3
    have HTT:=aA hT
    clear hT
    go_wp2_with fail
    refine C3.mono ?_
    rintro e wx ⟨rfl,ex⟩
    obtain rfl:w1=wx:=ex.symm
    clear ex
    by_cases h5:220<ds.length
    ·have h5z:(220:Int)<(ds.length:Int):=Yo
     go_wp2_with fail
     rw[←unhide E8]
     refine bodyPost_ret (v:=.tuple #[.agg #[.int .i64 0,.int .i64 0,.slice none 0 0],.int .i64 1]) (by simp[results,Tryz.results16,go_sem,p0,p1,p2]) rfl ?_
     exact aAE (b:=⟨N,S,q⟩) (e:=1) (by unfold kJ;dsimp only;have hL:=unhide HL;have hD:=unhide HD;have hT:=unhide HTT;rw[if_neg Yo,if_pos Yo]) Yc (unhide K8)
    ·have h5z:¬(220:Int)<(ds.length:Int):=Yo
     by_cases h6:400≤L.length
     ·have h6z:(400:Int)≤(L.length:Int):=Yo
      go_wp2_with fail
      rw[←unhide E8]
      refine bodyPost_ret (v:=.tuple #[.agg #[.int .i64 0,.int .i64 0,.slice none 0 0],.int .i64 6]) (by simp[results,Tryz.results16,go_sem,p0,p1,p2]) rfl ?_
      exact aAE (b:=⟨N,S,q⟩) (e:=6) (by unfold kJ;dsimp only;have hL:=unhide HL;have hD:=unhide HD;have hT:=unhide HTT;have:=unhide LN;rw[if_neg Yo,if_neg Yo,if_pos Yo]) Yc (unhide K8)
     ·have h6z:¬(400:Int)≤(L.length:Int):=Yo
      have h140:ds.length≤140737488351232:=Yo
      have SE:=aA (show kJ N q.length f t d ds.length=0 by have hL:=unhide HL;have hD:=unhide HD;have hT:=unhide HTT;unfold kJ;rw[if_neg Yo,if_neg Yo,if_neg (by have:=unhide LN;omega)])
      go_wp2_with fail
      have hL:=unhide HL;have hD:=unhide HD;have hT:=unhide HTT
      clear C1 C2 C3 p0 p1 p2 y0 y1 y2 f0 f1 f2 x0 x1 x2
      refine wp_leaves (λa0 a' w'=>∃(a3:Option Addr) (c3 gp:Nat),PvAt w' gp ⟨f,t,N+d,S,ds⟩ (.slice a3 ds.length c3)∧OwnB w' w1.heap.size ⟨⟨f,t,N+d,S,ds⟩,a3,c3⟩∧Below w1.heap.size w1 w'∧w1.heap.size≤gp∧a'=((((((((((((a0.put (some 38) (.int .i64 f)).put (some 39) (.int .i64 t)).put (some 40) (.pointer (some ⟨w.heap.size,0,none⟩))).put (some 41) (.int .i64 N)).put (some 42) (.int .i64 d)).put (some 43) (.int .i64 (N+d))).put (some 44) (.pointer (some ⟨w.heap.size,1,none⟩))).put (some 45) (.int .i64 S)).put (some 46) (.slice bo ds.length bc)).put (some 12) (.pointer (some ⟨gp,0,none⟩))).put (some 47) (.slice a3 ds.length c3)).put (some 48) (lQ ⟨f,t,N+d,S,ds⟩ (.slice a3 ds.length c3)))) ?reg ?rest
      case reg=>
       intro A eA
       have b1:A.eval (.tmp 1)=.int .i64 f:=by rw[eA];rfl
       have b2:A.eval (.tmp 2)=.int .i64 t:=by rw[eA];rfl
       have b3:A.eval (.tmp 3)=.slice bo ds.length bc:=by rw[eA];rfl
       have b4:A.eval (.tmp 4)=.int .i64 d:=by rw[eA];rfl
       have b5:A.eval (.tmp 5)=.pointer (some ⟨w.heap.size,0,none⟩):=by rw[eA];rfl
       have hs:61≤A.tmps.size:=by rw[eA];exact of_decide_eq_true rfl
       clear eA
       have hS:BuAt w1.drew w.heap.size N S (.slice ao L.length cap):=unhide M1
       have hB:Sr w1.drew bo ds.length bc (bF (gF ds)):=unhide SR
       refine nZ (S:=λW=>BuAt W w.heap.size N S (.slice ao L.length cap)) (.rd 0 (.rd 1 (.rd 2 (.rd 3 (.rd 4 (.rd 5 (.rd 6 (.rd 7 (.rd 8 (.two 9 11 (.rd 10 (.go 11 (.go 12 .fin))) (.go 9 (.rd 10 (.go 12 .fin))))))))))))) [] (by kernel_rfl) (by kernel_rfl) ?_
       refine aY (v:=(.int .i64 f)) rfl Yn Yw hS (λwx _=>aH (.tmp 1) rfl b1 wx) ?_
       show SeqI _ _ _ _ _ _ (Act.put _ (some 38) _) _
       refine aY (v:=(.int .i64 t)) rfl Yn Yw hS (λwx _=>aH (.tmp 2) rfl (Ex b2) wx) ?_
       show SeqI _ _ _ _ _ _ (Act.put _ (some 39) _) _
       refine aY (v:=(.pointer (some ⟨w.heap.size,0,none⟩))) rfl Yn Yw hS (λwx _=>vH (.tmp 5) 0 rfl (Ex (Ex b5)) Yo wx) ?_
       show SeqI _ _ _ _ _ _ (Act.put _ (some 40) _) _
       refine aY (v:=(.int .i64 N)) rfl Yn Yw hS (λwx hx=>nR (.tmp 40) rfl Es hx.cell0) ?_
       show SeqI _ _ _ _ _ _ (Act.put _ (some 41) _) _
       refine aY (v:=(.int .i64 d)) rfl Yn Yw hS (λwx _=>aH (.tmp 4) rfl (Ex (Ex (Ex (Ex b4)))) wx) ?_
       show SeqI _ _ _ _ _ _ (Act.put _ (some 42) _) _
       refine aY (v:=(.int .i64 (N+d))) rfl Yn Yw hS (λwx _=>pU (.tmp 41) (.tmp 42) rfl (Ex Es) Es Yo Yo wx) ?_
       show SeqI _ _ _ _ _ _ (Act.put _ (some 43) _) _
       refine aY (v:=(.pointer (some ⟨w.heap.size,1,none⟩))) rfl Yn Yw hS (λwx _=>vH (.tmp 5) 1 rfl (Ex (Ex (Ex (Ex (Ex (Ex b5)))))) Yo wx) ?_
       show SeqI _ _ _ _ _ _ (Act.put _ (some 44) _) _
       refine aY (v:=(.int .i64 S)) rfl Yn Yw hS (λwx hx=>nR (.tmp 44) rfl Es hx.cell1) ?_
       show SeqI _ _ _ _ _ _ (Act.put _ (some 45) _) _
       refine aY (v:=(.slice bo ds.length bc)) rfl Yn Yw hS (λwx _=>aH (.tmp 3) rfl (Ex (Ex (Ex (Ex (Ex (Ex (Ex (Ex b3)))))))) wx) ?_
       show SeqI _ _ _ _ _ _ (Act.put _ (some 46) _) _
       refine aET rfl rfl Yw Yw ?_ ?_
       ·intro K hK
        refine bN _ 28 (.tmp 46) _ rfl Es (by go_simp) (aAc bo bc ds _ hB h140) ?_
        rintro e w2 ⟨a3,c3,rfl,o3,k2⟩
        have h2:=hS.below k2
        refine⟨_,rfl,?_⟩
        refine hK _ _ (λ_=>h2) ?_
        clear hK K
        show SeqI _ _ _ _ _ _ (Act.put _ (some 47) _) _
        refine aY (v:=(lQ ⟨f,t,N+d,S,ds⟩ (.slice a3 ds.length c3))) rfl Yn Yw h2 (λwx _=>aAW (.tmp 38) (.tmp 39) (.tmp 43) (.tmp 45) (.tmp 47) rfl ds (Ex (Ex (Ex (Ex (Ex (Ex (Ex (Ex (Ex Et))))))))) (Ex (Ex (Ex (Ex (Ex (Ex (Ex (Ex Es)))))))) (Ex (Ex (Ex (Ex Es)))) (Ex (Ex Es)) Es wx) ?_
        show SeqI _ _ _ _ _ _ (Act.put _ (some 48) _) _
        refine iN rfl Yw (λK hK=>?_)
        refine aCY _ rfl ?_
        intro w3 m3 k3 z3
        have h3:=h2.below k3
        refine hK _ _ (λ_=>h3) ?_
        clear hK K
        show SeqI _ _ _ _ _ _ (Act.put _ (some 12) _) _
        refine iN rfl Yw (λK hK=>?_)
        refine aDe _ (.tmp 12) (.tmp 48) rfl Es (Ex Es) m3 rfl ?_
        intro w4 m4 k4 z4
        have ez:w1.drew.heap.size=w1.heap.size:=rfl
        have hk2:=k2.size
        have hk3:=k3.size
        have hlt:=hS.lt
        have h4:=h3.kept k4 Yo
        refine hK _ _ (λ_=>h4) ?_
        clear hK K
        exact mZ ⟨rfl,a3,c3,w2.heap.size,m4,(show OwnB w4 w1.heap.size ⟨⟨f,t,N+d,S,ds⟩,a3,c3⟩ from fJ (mO o3 k3) k4 (λe=>by have:=(o3.lt _ e).2;omega)),aC ((aQ (Below.refl _ _)).trans (show Below w1.heap.size w1.drew w3 from k2.trans (k3.mono k2.size))) k4 Yo Yo,Yo,(by rw[wC _ 48 12 _ _ Yc,wC _ 47 12 _ _ Yc])⟩
       ·intro K hK
        refine aCY _ rfl ?_
        intro w2 m2 k2 z2
        have h2:=hS.below k2
        refine hK _ _ (λ_=>h2) ?_
        clear hK K
        show SeqI _ _ _ _ _ _ (Act.put _ (some 12) _) _
        refine iN rfl Yw (λK hK=>?_)
        refine bN _ 28 (.tmp 46) _ rfl (Ex Es) (by go_simp) (aAc bo bc ds _ (hB.below k2) h140) ?_
        rintro e w3 ⟨a3,c3,rfl,o3,k3⟩
        have h3:=h2.below k3
        refine⟨_,rfl,?_⟩
        refine hK _ _ (λ_=>h3) ?_
        clear hK K
        show SeqI _ _ _ _ _ _ (Act.put _ (some 47) _) _
        refine aY (v:=(lQ ⟨f,t,N+d,S,ds⟩ (.slice a3 ds.length c3))) rfl Yn Yw h3 (λwx _=>aAW (.tmp 38) (.tmp 39) (.tmp 43) (.tmp 45) (.tmp 47) rfl ds (Ex (Ex (Ex (Ex (Ex (Ex (Ex (Ex (Ex (Ex Et)))))))))) (Ex (Ex (Ex (Ex (Ex (Ex (Ex (Ex (Ex Es))))))))) (Ex (Ex (Ex (Ex (Ex Es))))) (Ex (Ex (Ex Es))) Es wx) ?_
        show SeqI _ _ _ _ _ _ (Act.put _ (some 48) _) _
        refine iN rfl Yw (λK hK=>?_)
        refine aDe _ (.tmp 12) (.tmp 48) rfl (Ex (Ex Es)) Es (m2.below k3) rfl ?_
        intro w4 m4 k4 z4
        have ez:w1.drew.heap.size=w1.heap.size:=rfl
        have hk2:=k2.size
        have hk3:=k3.size
        have hlt:=hS.lt
        have h4:=h3.kept k4 Yo
        refine hK _ _ (λ_=>h4) ?_
        clear hK K
        exact mZ ⟨rfl,a3,c3,w1.drew.heap.size,m4,(show OwnB w4 w1.heap.size ⟨⟨f,t,N+d,S,ds⟩,a3,c3⟩ from lG (fJ o3 k4 (λe=>by have:=(o3.lt _ e).1;omega)) Yo),aC ((aQ (Below.refl _ _)).trans (show Below w1.heap.size w1.drew w3 from k2.trans (k3.mono k2.size))) k4 Yo Yo,Yo,rfl⟩
      case rest=>
       rintro a' w7 ⟨a3,c3,gp,m7,o7,k7,g7,rfl⟩
       have s1:=unhide S1
       have MB7:=aA ((unhide M1).below k7);have MR7:=aA ((unhide M2).below k7);have PV7:=aA m7;have BR7:=aA ((unhide HR).below k7)
       rw[s1] at o7
       have OB7:=aA o7;have K7:=aA ((unhide K1).trans (k7.mono Yo));have GP7:=aA (show w.heap.size+1+1≤gp by omega);have Z7:=aA (show w.heap.size+1+1≤w7.heap.size by have:=k7.size;omega)
       clear m7 o7 k7 g7 s1 hL hD hT
       go_frame
       go_wp2_with fail
       refine wp_leaves (λa0 a' w'=>∃(va:Option Addr) (vc:Nat) (a6:Option Addr) (c6:Nat) (M:List Lp) (gr:Nat),M.map Lp.p=L.map Lp.p∧BuAt w' (w.heap.size+1) N (lV S) (.slice a6 (M.length+1) c6)∧OwnQ w' (w.heap.size+1+1) (.slice a6 (M.length+1) c6) (M++[⟨⟨f,t,N+d,S,ds⟩,a3,c3⟩])∧Below w.heap.size w w'∧a'=(((((((((((((a0.put (some 49) (.pointer (some ⟨w.heap.size,0,none⟩))).put (some 50) (.int .i64 N)).put (some 51) (.pointer (some ⟨w.heap.size,1,none⟩))).put (some 52) (.int .i64 S)).put (some 53) (.int .i64 (lV S))).put (some 54) (.pointer (some ⟨w.heap.size,2,none⟩))).put (some 55) (.slice ao L.length cap)).put (some 57) (lQ ⟨f,t,N+d,S,ds⟩ (.slice a3 ds.length c3))).put (some 56) (.slice va M.length vc)).put (some 58) (.slice (some ⟨gr,0,none⟩) 1 1)).put (some 59) (.slice a6 (M.length+1) c6)).put (some 60) (lI N (lV S) (.slice a6 (M.length+1) c6))).put (some 11) (.int .i64 0))) ?reg ?rest
       case reg=>
        intro A eA
        have b5:A.eval (.tmp 5)=.pointer (some ⟨w.heap.size,0,none⟩):=by rw[eA];rfl
        have b10:A.eval (.tmp 10)=.pointer (some ⟨w.heap.size+1,0,none⟩):=by rw[eA];rfl
        have b12:A.eval (.tmp 12)=.pointer (some ⟨gp,0,none⟩):=by rw[eA];rfl
        have hs:61≤A.tmps.size:=by rw[eA];exact of_decide_eq_true rfl
        clear eA
        have hS:SdI w gp N S (.slice ao L.length cap) ⟨f,t,N+d,S,ds⟩ (.slice a3 ds.length c3) w7.drew:=⟨unhide MB7,unhide PV7⟩
        have hO:OwnB w7.drew (w.heap.size+1+1) ⟨⟨f,t,N+d,S,ds⟩,a3,c3⟩:=unhide OB7
        have hr:BuAt w7.drew (w.heap.size+1) 0 0 (.slice none 0 0):=unhide MR7
        have hBr:BRd w7.drew ao cap L:=unhide BR7
        have ez:w7.drew.heap.size=w7.heap.size:=rfl
        have hz7:=unhide Z7
        have hgp:=unhide GP7
        refine nZ (S:=λW=>SdI w gp N S (.slice ao L.length cap) ⟨f,t,N+d,S,ds⟩ (.slice a3 ds.length c3) W) (.rd 0 (.rd 1 (.rd 2 (.rd 3 (.rd 4 (.rd 5 (.rd 6 (.rd 8 (.two 7 9 (.go 9 (.go 10 (.rd 11 (.go 12 (.rd 13 .fin))))) (.go 7 (.go 10 (.rd 11 (.go 12 (.rd 13 .fin)))))))))))))) [] (by kernel_rfl) (by kernel_rfl) ?_
        refine aY (v:=(.pointer (some ⟨w.heap.size,0,none⟩))) rfl Yn Yw hS (λwx _=>vH (.tmp 5) 0 rfl b5 Yo wx) ?_
        show SeqI _ _ _ _ _ _ (Act.put _ (some 49) _) _
        refine aY (v:=(.int .i64 N)) rfl Yn Yw hS (λwx hx=>nR (.tmp 49) rfl Et hx.1.cell0) ?_
        show SeqI _ _ _ _ _ _ (Act.put _ (some 50) _) _
        refine aY (v:=(.pointer (some ⟨w.heap.size,1,none⟩))) rfl Yn Yw hS (λwx _=>vH (.tmp 5) 1 rfl (Ex (Ex b5)) Yo wx) ?_
        show SeqI _ _ _ _ _ _ (Act.put _ (some 51) _) _
        refine aY (v:=(.int .i64 S)) rfl Yn Yw hS (λwx hx=>nR (.tmp 51) rfl Es hx.1.cell1) ?_
        show SeqI _ _ _ _ _ _ (Act.put _ (some 52) _) _
        refine aY (v:=(.int .i64 (lV S))) rfl Yn Yw hS (λwx _=>aLx (.tmp 52) (.const (.int .i64 1)) rfl Es rfl (unhide RS) wx) ?_
        show SeqI _ _ _ _ _ _ (Act.put _ (some 53) _) _
        refine aY (v:=(.pointer (some ⟨w.heap.size,2,none⟩))) rfl Yn Yw hS (λwx _=>vH (.tmp 5) 2 rfl (Ex (Ex (Ex (Ex (Ex b5))))) Yo wx) ?_
        show SeqI _ _ _ _ _ _ (Act.put _ (some 54) _) _
        refine aY (v:=(.slice ao L.length cap)) rfl Yn Yw hS (λwx hx=>aMO (.tmp 54) rfl Es hx.1.cell2) ?_
        show SeqI _ _ _ _ _ _ (Act.put _ (some 55) _) _
        refine aY (v:=(lQ ⟨f,t,N+d,S,ds⟩ (.slice a3 ds.length c3))) rfl Yn Yw hS (λwx hx=>aEP (.tmp 12) rfl (Ex (Ex (Ex (Ex (Ex (Ex (Ex b12))))))) hx.2.pc) ?_
        show SeqI _ _ _ _ _ _ (Act.put _ (some 57) _) _
        refine aET rfl rfl Yw Yw ?_ ?_
        ·intro K hK
         refine bN _ 29 (.tmp 55) _ rfl (Ex Es) (by go_simp) (pK ao cap L _ (unhide OK) hN hBr) ?_
         rintro e w8 ⟨va,vc,M,rfl,tM,oM,k8⟩
         have h8:SdI w gp N S (.slice ao L.length cap) ⟨f,t,N+d,S,ds⟩ (.slice a3 ds.length c3) w8:=hS.below k8
         have n8:=k8.size
         refine⟨_,rfl,?_⟩
         refine hK _ _ (λ_=>h8) ?_
         clear hK K
         show SeqI _ _ _ _ _ _ (Act.put _ (some 56) _) _
         refine iN rfl Yw (λK hK=>?_)
         refine aEw _ (.tmp 57) rfl (Ex Es) ?_
         intro w9 m9 k9 z9
         have h9:SdI w gp N S (.slice ao L.length cap) ⟨f,t,N+d,S,ds⟩ (.slice a3 ds.length c3) w9:=h8.below k9
         have n9:=k9.size
         refine hK _ _ (λ_=>h9) ?_
         clear hK K
         show SeqI _ _ _ _ _ _ (Act.put _ (some 58) _) _
         refine iN rfl Yw (λK hK=>?_)
         have hq:=(show OwnQ w9 (w.heap.size+1+1) (.slice va M.length vc) M from OwnQ.base (oM.below k9) Yo)
         refine⟨aBC _ (.tmp 56) (.tmp 58) rfl (w.heap.size+1+1) Yo _ M (Ex Es) hq _ ⟨⟨f,t,N+d,S,ds⟩,a3,c3⟩ Es m9.pc (lG ((hO.below k8).below k9) Yo) (λc hc g9 hg e=>by have u1:=((oM.2.1 c hc).lt g9 hg).1;have u2:=(hO.lt g9 e).2;omega) (by rw[show M.length=(M.map Lp.p).length by simp,tM];simp;omega) ?_⟩
         intro v10 w10 o10 k10 g10
         obtain⟨a6,c6,rfl,hc6⟩:=o10.slice
         rw[show (M++[(⟨⟨f,t,N+d,S,ds⟩,a3,c3⟩:Lp)]).length=M.length+1 by simp] at o10 ⊢
         have h10:SdI w gp N S (.slice ao L.length cap) ⟨f,t,N+d,S,ds⟩ (.slice a3 ds.length c3) w10:=⟨h9.1.grown hq.1 g10,h9.2.same (g10.block gp h9.2.lt (λe=>by have u1:=(oM.1.lt gp e.symm).1;have u2:=hS.2.lt;omega))⟩
         have r10:BuAt w10 (w.heap.size+1) 0 0 (.slice none 0 0):=BuAt.grown ((hr.below k8).below k9) hq.1 g10
         refine hK _ _ (λ_=>h10) ?_
         clear hK K
         show SeqI _ _ _ _ _ _ (Act.put _ (some 59) _) _
         refine aY (v:=(lI N (lV S) (.slice a6 (M.length+1) c6))) rfl Yn Yw h10 (λwx _=>aBU (.tmp 50) (.tmp 53) (.tmp 59) rfl (Ex (Ex (Ex (Ex (Ex (Ex (Ex (Ex (Ex Es))))))))) (Ex (Ex (Ex (Ex (Ex (Ex Es)))))) Es wx) ?_
         show SeqI _ _ _ _ _ _ (Act.put _ (some 60) _) _
         refine iN rfl Yw (λK hK=>?_)
         refine aCW _ (.tmp 10) (.tmp 60) rfl (Ex (Ex (Ex (Ex (Ex (Ex (Ex (Ex (Ex (Ex (Ex (Ex b10)))))))))))) Es r10 rfl ?_
         intro w11 m11 k11 z11
         have h11:SdI w gp N S (.slice ao L.length cap) ⟨f,t,N+d,S,ds⟩ (.slice a3 ds.length c3) w11:=⟨h10.1.kept k11 Yo,h10.2.kept k11 Yo⟩
         refine hK _ _ (λ_=>h11) ?_
         clear hK K
         refine aY (v:=(.int .i64 0)) rfl Yn Yw h11 (λwx _=>jP (.const (.int .i64 0)) rfl rfl wx) ?_
         show SeqI _ _ _ _ _ _ (Act.put _ (some 11) _) _
         have kA:Below w.heap.size w w9:=(unhide K7).trans ((aQ (Below.refl _ _)).trans (show Below w.heap.size w7.drew w9 from (k8.mono Yo).trans (k9.mono Yo)))
         have kB:Below w.heap.size w w10:=kA.trans (k10.mono Yo)
         exact mZ ⟨rfl,va,vc,a6,c6,M,w8.heap.size,tM,m11,o10.bus r10 k11,aC kB k11 Yo kB.size,rfl⟩
        ·intro K hK
         refine aEw _ (.tmp 57) rfl Es ?_
         intro w8 m8 k8 z8
         have h8:SdI w gp N S (.slice ao L.length cap) ⟨f,t,N+d,S,ds⟩ (.slice a3 ds.length c3) w8:=hS.below k8
         have n8:=k8.size
         refine hK _ _ (λ_=>h8) ?_
         clear hK K
         show SeqI _ _ _ _ _ _ (Act.put _ (some 58) _) _
         refine iN rfl Yw (λK hK=>?_)
         refine bN _ 29 (.tmp 55) _ rfl (Ex (Ex Es)) (by go_simp) (pK ao cap L _ (unhide OK) hN (hBr.below k8)) ?_
         rintro e w9 ⟨va,vc,M,rfl,tM,oM,k9⟩
         have h9:SdI w gp N S (.slice ao L.length cap) ⟨f,t,N+d,S,ds⟩ (.slice a3 ds.length c3) w9:=h8.below k9
         have n9:=k9.size
         refine⟨_,rfl,?_⟩
         refine hK _ _ (λ_=>h9) ?_
         clear hK K
         show SeqI _ _ _ _ _ _ (Act.put _ (some 56) _) _
         refine iN rfl Yw (λK hK=>?_)
         have hq:=(show OwnQ w9 (w.heap.size+1+1) (.slice va M.length vc) M from OwnQ.base oM Yo)
         refine⟨aBC _ (.tmp 56) (.tmp 58) rfl (w.heap.size+1+1) Yo _ M Es hq _ ⟨⟨f,t,N+d,S,ds⟩,a3,c3⟩ (Ex Es) (m8.below k9).pc (lG ((hO.below k8).below k9) Yo) (λc hc g9 hg e=>by have u1:=((oM.2.1 c hc).lt g9 hg).1;have u2:=((hO.below k8).lt g9 e).2;omega) (by rw[show M.length=(M.map Lp.p).length by simp,tM];simp;omega) ?_⟩
         intro v10 w10 o10 k10 g10
         obtain⟨a6,c6,rfl,hc6⟩:=o10.slice
         rw[show (M++[(⟨⟨f,t,N+d,S,ds⟩,a3,c3⟩:Lp)]).length=M.length+1 by simp] at o10 ⊢
         have h10:SdI w gp N S (.slice ao L.length cap) ⟨f,t,N+d,S,ds⟩ (.slice a3 ds.length c3) w10:=⟨h9.1.grown hq.1 g10,h9.2.same (g10.block gp h9.2.lt (λe=>by have u1:=(oM.1.lt gp e.symm).1;have u2:=hS.2.lt;omega))⟩
         have r10:BuAt w10 (w.heap.size+1) 0 0 (.slice none 0 0):=BuAt.grown ((hr.below k8).below k9) hq.1 g10
         refine hK _ _ (λ_=>h10) ?_
         clear hK K
         show SeqI _ _ _ _ _ _ (Act.put _ (some 59) _) _
         refine aY (v:=(lI N (lV S) (.slice a6 (M.length+1) c6))) rfl Yn Yw h10 (λwx _=>aBU (.tmp 50) (.tmp 53) (.tmp 59) rfl (Ex (Ex (Ex (Ex (Ex (Ex (Ex (Ex (Ex Es))))))))) (Ex (Ex (Ex (Ex (Ex (Ex Es)))))) Es wx) ?_
         show SeqI _ _ _ _ _ _ (Act.put _ (some 60) _) _
         refine iN rfl Yw (λK hK=>?_)
         refine aCW _ (.tmp 10) (.tmp 60) rfl (Ex (Ex (Ex (Ex (Ex (Ex (Ex (Ex (Ex (Ex (Ex (Ex b10)))))))))))) Es r10 rfl ?_
         intro w11 m11 k11 z11
         have h11:SdI w gp N S (.slice ao L.length cap) ⟨f,t,N+d,S,ds⟩ (.slice a3 ds.length c3) w11:=⟨h10.1.kept k11 Yo,h10.2.kept k11 Yo⟩
         refine hK _ _ (λ_=>h11) ?_
         clear hK K
         refine aY (v:=(.int .i64 0)) rfl Yn Yw h11 (λwx _=>jP (.const (.int .i64 0)) rfl rfl wx) ?_
         show SeqI _ _ _ _ _ _ (Act.put _ (some 11) _) _
         have kA:Below w.heap.size w w9:=(unhide K7).trans ((aQ (Below.refl _ _)).trans (show Below w.heap.size w7.drew w9 from (k8.mono Yo).trans (k9.mono Yo)))
         have kB:Below w.heap.size w w10:=kA.trans (k10.mono Yo)
         exact mZ ⟨rfl,va,vc,a6,c6,M,w7.drew.heap.size,tM,m11,o10.bus r10 k11,aC kB k11 Yo kB.size,(by rw[wC _ 58 56 _ _ Yc])⟩
       case rest=>
        rintro a' w9 ⟨va,vc,a6,c6,M,gr,tM,m9,o9,k9,rfl⟩
        have q0:=m9.cell0;have q1:=m9.cell1;have q2:=m9.cell2
        have TM:=aA tM;have O9:=aA o9;have K9:=aA k9
        clear tM o9 k9 m9
        go_frame
        go_wp2_with fail
        refine bodyPost_ret (v:=.tuple #[.agg #[.int .i64 N,.int .i64 (lV S),.slice a6 (M.length+1) c6],.int .i64 0]) (by simp[results,Tryz.results16,go_sem,q0,q1,q2]) rfl ?_
        exact aOv (b:=⟨N,S,q⟩) (unhide SE) (L:=M++[⟨⟨f,t,N+d,S,ds⟩,a3,c3⟩]) (by rw[show (M++[(⟨⟨f,t,N+d,S,ds⟩,a3,c3⟩:Lp)]).length=M.length+1 by simp];exact unhide O9) Yo (show These _ _ by unfold These;rw[List.map_append,unhide TM];show _++_=_;rw[show L.map Lp.p=q from unhide HT];rfl) (unhide K9) rfl (by simp)
   ·rw[decide_eq_false hT] at C3
    have HTT:=aA hT
    clear hT
    go_wp2_with fail
    refine C3.mono ?_
    rintro e wx ⟨rfl,ex⟩
    obtain rfl:w1=wx:=ex.symm
    clear ex
    go_wp2_with fail
    rw[←unhide E8]
    refine bodyPost_ret (v:=.tuple #[.agg #[.int .i64 0,.int .i64 0,.slice none 0 0],.int .i64 3]) (by simp[results,Tryz.results16,go_sem,p0,p1,p2]) rfl ?_
    exact aAE (b:=⟨N,S,q⟩) (e:=3) (by unfold kJ;dsimp only;have hT:=unhide HTT;rw[if_pos Yo]) Yc (unhide K8)
  ·rw[decide_eq_false hD] at C2
   have HD:=aA hD
   clear hD
   go_wp2_with fail
   refine C2.mono ?_
   rintro e wx ⟨rfl,ex⟩
   obtain rfl:w1=wx:=ex.symm
   clear ex
   go_wp2_with fail
   rw[←unhide E8]
   refine bodyPost_ret (v:=.tuple #[.agg #[.int .i64 0,.int .i64 0,.slice none 0 0],.int .i64 3]) (by simp[results,Tryz.results16,go_sem,p0,p1,p2]) rfl ?_
   exact aAE (b:=⟨N,S,q⟩) (e:=3) (by unfold kJ;dsimp only;have hD:=unhide HD;rw[if_pos Yo]) Yc (unhide K8)
 ·rw[decide_eq_false hL] at C1
  have HL:=aA hL
  clear hL
  go_wp2_with fail
  rw[←unhide E1]
  refine C1.mono ?_
  rintro e wx ⟨rfl,ex⟩
  obtain rfl:w1=wx:=ex.symm
  clear ex
  go_wp2_with fail
  rw[←unhide E8]
  refine bodyPost_ret (v:=.tuple #[.agg #[.int .i64 0,.int .i64 0,.slice none 0 0],.int .i64 3]) (by simp[results,Tryz.results16,go_sem,p0,p1,p2]) rfl ?_
  exact aAE (b:=⟨N,S,q⟩) (e:=3) (by unfold kJ;dsimp only;have hL:=unhide HL;rw[if_pos Yo]) Yc (unhide K8)
def aAp (b : Bs) (t : Int) (w : World) (e : Ending) (w' : World) : Prop := ∃ (ao' : Option Addr) (cap' : Nat) (L' : List Lp) (ao2 : Option Addr) (cap2 : Nat) (L2 : List Lp),
  e=.returned (.tuple #[lI (jB b t).now (jB b t).ser (.slice ao' L'.length cap'),.slice ao2 L2.length cap2,.int .i64 (nI b.now t:Nat)])∧These L' (jB b t).q∧BNew w.heap.size w' ao' cap' L'∧These L2 (oH b t)∧BNew w.heap.size w' ao2 cap2 L2∧RowP w' w.heap.size (.slice ao2 L2.length cap2) L2∧Below w.heap.size w w'
theorem aGp{b:Bs}{t:Int}{w w':World}(h:nI b.now t=3)(k:Below w.heap.size w w'):aAp b t w (.returned (.tuple #[.agg #[.int .i64 0,.int .i64 0,.slice none 0 0],.slice none 0 0,.int .i64 3])) w':=by
 have hz:jB b t=jG:=by unfold jB;rw[if_neg (by rw[h];decide)]
 have hc:oH b t=[]:=by unfold oH;rw[if_neg (by rw[h];decide)]
 unfold aAp
 rw[hz,h,hc]
 exact⟨none,0,[],none,0,[],rfl,rfl,zG _ _,rfl,zG _ _,World.ownsRow_nil _ _ _ _,k⟩
theorem aRn {b : Bs} {t : Int} {w w' : World} (h : nI b.now t = 0) {ao : Option Addr} {cap : Nat} {X : List Lp} {ca : Option Addr} {cc : Nat} {C : List Lp} (hx : X.map Lp.p = b.q.filter (λp => !fK t p)) (hc : C.map Lp.p = xV (b.q.filter (fK t))) {n m : Nat} (hn : n = X.length) (hm : m = C.length) (o : BNew w.heap.size w' ao cap X) (o2 : BNew w.heap.size w' ca cc C) (r : RowP w' w.heap.size (.slice ca C.length cc) C) (k : Below w.heap.size w w') :
  aAp b t w (.returned (.tuple #[.agg #[.int .i64 t,.int .i64 b.ser,.slice ao n cap],.slice ca m cc,.int .i64 0])) w':=by
 have hz:jB b t=⟨t,b.ser,X.map Lp.p⟩:=by unfold jB;rw[if_pos h,hx]
 have hc':oH b t=C.map Lp.p:=by unfold oH;rw[if_pos h,hc]
 unfold aAp
 rw[hz,h,hc',hn,hm]
 exact⟨ao,cap,X,ca,cc,C,rfl,rfl,o,rfl,o2,r,k⟩
theorem aEu{M:List Lp}{q:List Pc}(h:M.map Lp.p=q)(f:Pc→Bool):(M.filter λc=>f c.p).map Lp.p=q.filter f:=by
 subst h
 induction M with
 |nil=>rfl
 |cons c M ih=>
  rw[List.map_cons,List.filter_cons,List.filter_cons]
  split
  ·rw[List.map_cons,ih]
  ·exact ih
set_option maxHeartbeats 4000000 in
set_option maxRecDepth 100000 in
theorem xS (b : Bs) (ao : Option Addr) (cap : Nat) (L : List Lp) (t : Int) (w : World) (hb : zZ b) (ht : These L b.q) (hr : BRd w ao cap L) (_rt : R64 t) :
  Calls Tryz.prog 17 #[lI b.now b.ser (.slice ao L.length cap),.int .i64 t] w (aAp b t w):=by
 obtain⟨N,S,q⟩:=b
 have hN:L.length≤2513169434843:=by rw[ht.len];exact hb.2.2.2
 obtain⟨w1,e1,m1,m2,k1,s1⟩:=aCy w N S (.slice ao L.length cap)
 have C1:=pK ao cap L w1 (λc hc=>hb.2.2.1 c.p (ht.mem hc)) hN (hr.below k1)
 have x0:=m1.cell0;have x1:=m1.cell1;have x2:=m1.cell2
 have y0:=m2.cell0;have y1:=m2.cell1;have y2:=m2.cell2;have f0:=m2.free 0;have f1:=m2.free 1;have f2:=m2.free 2
 have E1:=aA e1;have M1:=aA m1;have M2:=aA m2;have K1:=aA k1;have S1:=aA s1;have HT:=aA (show L.map Lp.p=q from ht)
 rw[e1] at x0 x1 x2 y0 y1 y2 f0 f1 f2
 clear e1 m1 m2 k1 s1 hb ht hr
 unfold lI
 dsimp only
 go_enter Tryz.func17,Tryz.ntmps17
 by_cases h1:t<N
 ·go_wp2_with fail
  rw[←unhide E1]
  have p0:=(unhide M2).cell0;have p1:=(unhide M2).cell1;have p2:=(unhide M2).cell2
  refine bodyPost_ret (v:=.tuple #[.agg #[.int .i64 0,.int .i64 0,.slice none 0 0],.slice none 0 0,.int .i64 3]) (by simp[results,Tryz.results17,go_sem,p0,p1,p2]) rfl ?_
  exact aGp (b:=⟨N,S,q⟩) (by unfold nI;dsimp only;rw[if_pos Yo]) (unhide K1)
 ·by_cases h2:1099511627776<t
  ·go_wp2_with fail
   rw[←unhide E1]
   have p0:=(unhide M2).cell0;have p1:=(unhide M2).cell1;have p2:=(unhide M2).cell2
   refine bodyPost_ret (v:=.tuple #[.agg #[.int .i64 0,.int .i64 0,.slice none 0 0],.slice none 0 0,.int .i64 3]) (by simp[results,Tryz.results17,go_sem,p0,p1,p2]) rfl ?_
   exact aGp (b:=⟨N,S,q⟩) (by unfold nI;dsimp only;rw[if_pos Yo]) (unhide K1)
  ·have SE:=aA (show nI N t=0 by unfold nI;rw[if_neg Yo])
   go_wp2_with fail
   rw[←unhide E1]
   clear x0 x1 x2 y0 y1 y2 f0 f1 f2
   refine C1.mono ?_
   rintro e w2 ⟨va,vc,M,rfl,tM,oM,k2⟩
   clear C1
   have hNM:M.length≤2513169434843:=by rw[show M.length=(M.map Lp.p).length by simp,tM];simp;omega
   have C2:=aDq w1.heap.size va vc M t w2 oM.1 hNM
   have TM:=aA tM;have OM:=aA oM;have K2:=aA k2
   clear tM oM k2
   go_wp2_with fail
   refine C2.mono ?_
   rintro e w3 ⟨vC,vW,rfl,hP⟩
   clear C2
   obtain⟨ca,cc,rfl,hcc⟩:=qM hP.1
   obtain⟨wa,wc,rfl,hwc⟩:=qM hP.2.1
   have hNC:(M.filter λc=>fK t c.p).length≤2513169434843:=Nat.le_trans (List.length_filter_le ..) hNM
   have C3:=aCj w3 w2.heap.size _ _ hP.1 hNC
   obtain⟨C,eC⟩:∃C,C=M.filter λc=>fK t c.p:=⟨_,rfl⟩
   obtain⟨X,eX⟩:∃X,X=M.filter λc=> !fK t c.p:=⟨_,rfl⟩
   rw[←eC] at hP C3 hcc hNC ⊢
   rw[←eX] at hP hwc ⊢
   have EC:=aA eC;have EX:=aA eX;have HP:=aA hP
   clear eC eX hP hcc hwc
   go_wp2_with fail
   refine C3.mono ?_
   rintro e w4 ⟨rfl,L',tL,mL,lL,rL,hk⟩
   clear C3
   have hp:=unhide HP
   have s1:=unhide S1
   have kk2:=(unhide K2).size
   have kk3:=hp.2.2.2.size
   have B3:Below w.heap.size w w3:=(unhide K1).trans (((unhide K2).mono Yo).trans (hp.2.2.2.mono Yo))
   have OB3:∀c,c∈M→OwnB w3 w1.heap.size c:=λc hc=>((unhide OM).2.1 c hc).below hp.2.2.2
   have BX3:=((unhide M1).below (unhide K2)).below hp.2.2.2
   have BR3:=((unhide M2).below (unhide K2)).below hp.2.2.2
   have Z:BuAt w4 w.heap.size N S (.slice ao L.length cap)∧BuAt w4 (w.heap.size+1) 0 0 (.slice none 0 0)∧RowP w4 w2.heap.size (.slice wa X.length wc) X∧(∀c,c∈M→OwnB w4 w1.heap.size c)∧Below w.heap.size w w4:=by
    rcases hk with ⟨_,rfl⟩|⟨g,hg,hk⟩
    ·exact⟨BX3,BR3,hp.2.1,OB3,B3⟩
    ·have hgl:=(hp.1.lt g hg)
     refine⟨BX3.kept hk Yo,BR3.kept hk Yo,fJ hp.2.1 hk (λe=>hp.2.2.1 g hg e),λc hc=>fJ (OB3 c hc) hk (λe=>?_),aC B3 hk Yo B3.size⟩
     obtain⟨u1,h1⟩:=gP (OB3 c hc) e
     obtain⟨u2,h2⟩:=gP hp.1 hg
     rw[h1] at h2;cases h2
   obtain⟨BX4,BR4,RX4,OB4,B4⟩:=Z
   have z1:=BX4.cell1
   have y0:=BR4.cell0;have y1:=BR4.cell1;have y2:=BR4.cell2;have f0:=BR4.free 0;have f1:=BR4.free 1;have f2:=BR4.free 2
   obtain⟨w5,e5,m5,k5,z5⟩:=BR4.put t S (.slice wa X.length wc)
   have q0:=m5.cell0;have q1:=m5.cell1;have q2:=m5.cell2
   have OB5:∀c,c∈M→OwnB w5 w1.heap.size c:=λc hc=>(OB4 c hc).otherB BR4 k5
   have N1:=aA (show BNew w.heap.size w5 wa wc X from RowP.new (RX4.otherB BR4 k5) (C:=w1.heap.size) (λc hc=>OB5 c (by rw[unhide EX] at hc;exact (List.mem_filter.1 hc).1)) Yo Yo)
   rw[←lL] at rL ⊢
   have N2:=aA (show BNew w.heap.size w5 ca cc L' from RowP.new (RowP.otherB rL BR4 k5) (C:=w1.heap.size) (λc hc=>OB5 c (by have hc2:=mL c hc;rw[unhide EC] at hc2;exact (List.mem_filter.1 hc2).1)) Yo Yo)
   have R5:=aA (lG (RowP.otherB rL BR4 k5) (show w.heap.size≤w2.heap.size by omega))
   have K5:=aA (aC B4 k5 Yo B4.size)
   have E5:=aA e5
   have TX:=aA (show X.map Lp.p=q.filter (λp=> !fK t p) by rw[unhide EX];exact aEu ((unhide TM).trans (unhide HT)) (λp=> !fK t p))
   have TC:=aA (show L'.map Lp.p=xV (q.filter (fK t)) by rw[tL,unhide EC,aEu ((unhide TM).trans (unhide HT)) (fK t)])
   clear BX4 BR4 RX4 OB4 B4 e5 m5 k5 z5 OB5 hp B3 OB3 BX3 BR3 hk tL mL lL rL s1 kk2 kk3
   go_wp2_with fail
   rw[←unhide E5]
   refine bodyPost_ret (v:=.tuple #[.agg #[.int .i64 t,.int .i64 S,.slice wa X.length wc],.slice ca L'.length cc,.int .i64 0]) (by simp[results,Tryz.results17,go_sem,q0,q1,q2]) rfl ?_
   exact aRn (b:=⟨N,S,q⟩) (unhide SE) (unhide TX) (unhide TC) rfl rfl (unhide N1) (unhide N2) (unhide R5) (unhide K5)
set_option maxHeartbeats 4000000 in
set_option maxRecDepth 100000 in
theorem aGL:aTN 19:=by
 intro b ao cap L s a m w hb ht hr rs ra rm
 obtain⟨N,S,q⟩:=b
 have hN:L.length≤2513169434843:=by rw[ht.len];exact hb.2.2.2
 have OK:=aA (show ∀c,c∈L→aCw c.p from λc hc=>hb.2.2.1 c.p (ht.mem hc))
 obtain⟨w1,e1,m1,m2,k1,s1⟩:=aCy w N S (.slice ao L.length cap)
 have C1:=aFw ao cap L s w1 (hr.below k1).1 hN
 rw[show L.map Lp.p=q from ht] at C1
 have x2:=m1.cell2
 have E1:=aA e1;have M1:=aA m1;have M2:=aA m2;have K1:=aA k1;have S1:=aA s1;have HT:=aA (show L.map Lp.p=q from ht);have HR:=aA (hr.below k1)
 have LN:=aA (show L.length=q.length from ht.len)
 rw[e1] at x2
 clear e1 m1 m2 k1 s1 hb ht hr
 unfold lI
 dsimp only
 go_enter Tryz.func19,Tryz.ntmps19
 go_wp2_with fail
 rw[←unhide E1]
 clear x2
 refine C1.mono ?_
 rintro e w2 ⟨rfl,k2⟩
 clear C1
 have BX:=(unhide M1).below k2;have BR:=(unhide M2).below k2
 have KB:=(unhide K1).trans (k2.mono (by have:=unhide S1;omega))
 have y0:=BR.cell0;have y1:=BR.cell1;have y2:=BR.cell2;have f0:=BR.free 0;have f1:=BR.free 1;have f2:=BR.free 2
 obtain⟨w8,e8,m8,k8,z8⟩:=BR.put 0 0 (.slice none 0 0)
 have q0:=m8.cell0;have q1:=m8.cell1;have q2:=m8.cell2
 have K8:=aA (aC KB k8 Yo KB.size)
 have E8:=aA e8
 clear e8 m8 k8 z8
 by_cases hf:fsP s q<q.length
 ·obtain⟨i,ei⟩:∃i,i=fsP s q:=⟨_,rfl⟩
  have hz:fdZ s q=(i:Int):=by unfold fdZ;rw[if_pos hf,ei]
  rw[hz]
  have x2:=BX.cell2
  have R2:=(unhide HR).below k2
  have C2:=pK ao cap L w2 (unhide OK) hN R2
  have hiL:i<L.length:=by rw[unhide LN,ei];exact hf
  have hc:=List.getElem?_eq_getElem hiL
  obtain⟨c,ec⟩:∃c,c=L[i]:=⟨_,rfl⟩
  rw[←ec] at hc
  obtain⟨x,o,rfl,hq⟩:=R2.1 Yo
  obtain⟨p0,p1,p2,p3,p4⟩:=hq i c hc
  have po:=unhide OK c (List.mem_of_getElem? hc)
  have QI:=aA (show q[fsP s q]?=some c.p by rw[←ei, ←unhide HT,List.getElem?_map,hc];rfl)
  have HC:=aA hc
  obtain⟨⟨fr,tt,du,se,ds⟩,ba,bc⟩:=c
  unfold iG at p4
  dsimp only at p4 po QI
  have hds:ds.length≤140737488351232:=po.2.2.2.2.2
  have PO:=aA po
  have C3:=kR a ((ds.length:Int)-1) w2
  have C4:=kR m 255 w2
  have EI:=aA ei;have BX2:=aA BX;have BR2:=aA BR;have KB2:=aA KB
  have Z2:=aA (show w.heap.size+1+1≤w2.heap.size by have:=unhide S1;have:=k2.size;omega)
  have hiz:(i:Int)<(L.length:Int):=Yo
  clear ei BX BR KB hz k2 hf hc ec hq p0 p1 p2 p3 po R2
  by_cases h1:0≤a∧a≤(ds.length:Int)-1
  ·rw[decide_eq_true h1] at C3
   have H1:=aA h1
   clear h1
   go_wp2_with fail
   refine C3.mono ?_
   rintro e wx ⟨rfl,ex⟩
   obtain rfl:w2=wx:=ex.symm
   clear C3 ex
   by_cases h2:0≤m∧m≤255
   ·rw[decide_eq_true h2] at C4
    have H2:=aA h2
    clear h2
    go_wp2_with fail
    refine C4.mono ?_
    rintro e wx ⟨rfl,ex⟩
    obtain rfl:w2=wx:=ex.symm
    clear C4 ex
    go_wp2_with fail
    refine C2.mono ?_
    rintro e w3 ⟨va,vc,M,rfl,tM,oM,k3⟩
    clear C2 x2 p4 y0 y1 y2 f0 f1 f2 q0 q1 q2
    have eM:M.length=L.length:=by rw[←List.length_map (f:=Lp.p),tM,List.length_map]
    obtain⟨gq,rfl⟩:=aBn oM.1 Yo
    have z2:=unhide Z2
    have BX3:=(unhide BX2).below k3
    have BR3:=(unhide BR2).below k3
    have KB3:=(unhide KB2).trans (k3.mono Yo)
    have c2:=BX3.cell2;have fz:=BX3.free 2
    obtain⟨w4,e4,m4,k4,z4⟩:=BX3.put2 (.slice (some ⟨gq,0,none⟩) M.length vc)
    have BR4:=BR3.kept k4 Yo
    have O4:=oM.bus BX3 k4
    have KB4:=aC KB3 k4 Yo KB3.size
    have hcM:M[i]?=some (M[i]'Yo):=List.getElem?_eq_getElem _
    obtain⟨c,ec⟩:∃c,c=M[i]'Yo:=⟨_,rfl⟩
    rw[←ec] at hcM
    have ecp:c.p=⟨fr,tt,du,se,ds⟩:=by
     have h1:(M.map Lp.p)[i]?=some c.p:=by rw[List.getElem?_map,hcM];rfl
     rw[tM,List.getElem?_map,unhide HC] at h1
     exact (Option.some.inj h1).symm
    obtain⟨cp,ca,cc⟩:=c
    dsimp only at ecp
    subst ecp
    obtain⟨A,rfl⟩:∃A:Nat,a=(A:Int):=⟨a.toNat,by have:=(unhide H1).1;omega⟩
    obtain⟨K,rfl⟩:∃K:Nat,m=(K:Int):=⟨m.toNat,by have:=(unhide H2).1;omega⟩
    have hA:A<ds.length:=by have:=(unhide H1).2;omega
    have hK:K<256:=by have:=(unhide H2).2;omega
    have hB:=O4.2.1 _ (List.mem_of_getElem? hcM)
    obtain⟨gb,rfl⟩:=aBn hB (by show 0<ds.length;omega)
    have vb:Vh 5 w4 gb ds.length cc (bF (gF ds)):=by
     obtain⟨r,cap9,e,hb9,hV⟩:=Vh.of_owns (by show 1≤ds.length;omega) hB
     unfold iG at e
     cases e
     exact hV
    have zz1:=vb.cell hA;have zz2:=vb.free A
    unfold bF bV at zz1
    have hx:gF ds A<256:=aNH (unhide PO).2.2.2.2.1 A
    have hxo:=u8_xor_nat (gF ds A) K hx hK
    have cc2:=m4.cell2
    obtain⟨x2,o2,ea2,hq2⟩:=O4.rd Yo
    cases ea2
    obtain⟨_,_,_,_,q4⟩:=hq2 i _ hcM
    unfold iG at q4
    dsimp only at q4
    simp only[Nat.zero_add] at q4
    have hgb:w2.heap.size≤gb:=(hB.lt gb rfl).1
    have kz:=kept_set w4 gb A (.int .u8 ((gF ds A^^^K:Nat):Int))
    obtain⟨w9,e9⟩:∃w9,w9=w4.setCell ⟨gb,A,none⟩ (.int .u8 ((gF ds A^^^K:Nat):Int)):=⟨_,rfl⟩
    have O9:=O4.turn (a:=A) (m:=K) hcM hA rfl
    rw[←e9] at O9 kz
    have r9:=BR4.kept kz Yo
    have m9:=m4.kept kz Yo
    have v0:=m9.cell0;have v1:=m9.cell1;have v2:=m9.cell2
    have yy0:=r9.cell0;have yy1:=r9.cell1;have yy2:=r9.cell2;have ff0:=r9.free 0;have ff1:=r9.free 1;have ff2:=r9.free 2
    obtain⟨wb,eb,mb,kb,zb⟩:=r9.put N S (.slice (some ⟨gq,0,none⟩) M.length vc)
    have qq0:=mb.cell0;have qq1:=mb.cell1;have qq2:=mb.cell2
    have OB:=aA (O9.bus r9 kb)
    have K9:=aC KB4 kz Yo KB4.size
    have KBB:=aA (aC K9 kb Yo K9.size)
    have E9:=aA e9;have EB:=aA eb;have E4:=aA e4
    have TM:=aA (show These M q from tM.trans (unhide HT))
    have TE:=aA (show turnE ⟨N,S,q⟩ s (A:Int) (K:Int)=0 by
     unfold turnE
     dsimp only
     rw[unhide QI]
     dsimp only
     rw[if_neg (by have:=unhide H1;have:=unhide H2;omega)])
    rw[e4] at cc2 q4 zz1 zz2
    rw[e9,e4] at v0 v1 v2 yy0 yy1 yy2 ff0 ff1 ff2
    have hA':(A:Int)<(ds.length:Nat):=Yo
    have hiM:(i:Int)<(M.length:Int):=Yo
    have hMN:M.length≤2513169434843:=Yo
    clear hq2 kz O9 r9 m9 e9 mb kb zb eb K9 hB vb BX3 BR3 KB3 e4 m4 k4 z4 BR4 O4 KB4 hcM ec tM oM k3 eM z2 hiL hiz
    go_wp2_with fail
    rw[←unhide E4, ←unhide E9, ←unhide EB]
    refine bodyPost_ret (v:=.tuple #[.agg #[.int .i64 N,.int .i64 S,.slice (some ⟨gq,0,none⟩) M.length vc],.int .i64 0]) (by simp[results,Tryz.results19,go_sem,qq0,qq1,qq2]) rfl ?_
    have z2:=unhide Z2
    exact aOw (b:=⟨N,S,q⟩) (unhide TE) (unhide EI).symm (unhide TM) (unhide OB) rfl Yo (unhide KBB)
   ·rw[decide_eq_false h2] at C4
    have H2:=aA h2
    clear h2
    go_wp2_with fail
    refine C4.mono ?_
    rintro e wx ⟨rfl,ex⟩
    obtain rfl:w2=wx:=ex.symm
    clear C4 ex
    go_wp2_with fail
    rw[←unhide E8]
    refine bodyPost_ret (v:=.tuple #[.agg #[.int .i64 0,.int .i64 0,.slice none 0 0],.int .i64 3]) (by simp[results,Tryz.results19,go_sem,q0,q1,q2]) rfl ?_
    refine aEQ (b:=⟨N,S,q⟩) (e:=3) ?_ Yc (unhide K8)
    unfold turnE
    dsimp only
    rw[unhide QI]
    dsimp only
    rw[if_pos (by have:=unhide H2;omega)]
  ·rw[decide_eq_false h1] at C3
   have H1:=aA h1
   clear h1
   go_wp2_with fail
   refine C3.mono ?_
   rintro e wx ⟨rfl,ex⟩
   obtain rfl:w2=wx:=ex.symm
   clear C3 ex
   go_wp2_with fail
   rw[←unhide E8]
   refine bodyPost_ret (v:=.tuple #[.agg #[.int .i64 0,.int .i64 0,.slice none 0 0],.int .i64 3]) (by simp[results,Tryz.results19,go_sem,q0,q1,q2]) rfl ?_
   refine aEQ (b:=⟨N,S,q⟩) (e:=3) ?_ Yc (unhide K8)
   unfold turnE
   dsimp only
   rw[unhide QI]
   dsimp only
   rw[if_pos (by have:=unhide H1;omega)]
 ·have hz:fdZ s q= -1:=by unfold fdZ;rw[if_neg hf]
  rw[hz]
  have HF:=aA hf
  clear BX BR KB hz k2 hf
  go_wp2_with fail
  rw[←unhide E8]
  refine bodyPost_ret (v:=.tuple #[.agg #[.int .i64 0,.int .i64 0,.slice none 0 0],.int .i64 7]) (by simp[results,Tryz.results19,go_sem,q0,q1,q2]) rfl ?_
  refine aEQ (b:=⟨N,S,q⟩) (e:=7) ?_ Yc (unhide K8)
  unfold turnE
  dsimp only
  rw[List.getElem?_eq_none (by have:=unhide HF;omega)]
def aV(g:Nat→Value)(o n:Nat):Value:=.agg ((List.range n).map λj=>g (o+j)).toArray
def fG(g:Nat→Value)(o n:Nat)(f:Nat→Value):Nat→Value:=λj=>if o≤j∧j<o+n then f (j-o) else g j
theorem mE(g:Nat→Value){o n j:Nat}(f:Nat→Value)(h:j<n):fG g o n f (o+j)=f j:=by
 unfold fG
 rw[if_pos Yo,Nat.add_sub_cancel_left]
theorem mD(g:Nat→Value){o n j:Nat}(f:Nat→Value)(h:j<o∨o+n≤j):fG g o n f j=g j:=by
 unfold fG
 rw[if_neg Yo]
theorem add_at(b o i:Nat):(⟨b,o,none⟩:Addr).add i=⟨b,o+i,none⟩:=by unfold Addr.add;split<;>simp_all
section
variable {P:Program}
theorem qK (b o : Nat) (t : TypeId) (N cap : Nat) (f : Nat → Value) : ∀ (n i : Nat) (g : Nat → Value) (w : World), Vh t w b N cap g → o + i + n ≤ N → (∀ j, j < n → (f (i + j)).oneCell' = true) →
  ∃w',(storeCells ⟨b,o,none⟩ ((List.range n).map λj=>f (i+j)) i).run P w=.ok () w'∧Vh t w' b N cap (fG g (o+i) n (λj=>f (i+j)))∧Kept b w w'∧w'.heap.size=w.heap.size
 |0,i,g,w,h,_,_=>⟨w,rfl,h.congr λj _=>(mD _ _ Yo).symm,⟨rfl,rfl,rfl,Nat.le_refl _,λ_ _ _=>rfl⟩,rfl⟩
 |n+1,i,g,w,h,hN,h1=>by
  have hst:(store ((⟨b,o,none⟩:Addr).add i) (f i)).run P w=.ok () (w.setCell ⟨b,o+i,none⟩ (f i)):=by
   rw[add_at,run_store P w _ _ _ (by simpa using h1 0 Yo),h.cell (show o+i<N by omega)]
   simp[h.free]
  have hs:=h.set (o+i) (f i)
  obtain⟨w',e,hv,k,z⟩:=qK b o t N cap f n (i+1) _ _ hs Yo (λj hj=>by have:=h1 (j+1) Yo;rwa [show i+(j+1)=i+1+j by omega] at this)
  have el:((List.range (n+1)).map λj=>f (i+j))=f i::(List.range n).map λj=>f (i+1+j):=by
   rw[List.range_succ_eq_map,List.map_cons,List.map_map]
   congr 1
   apply List.map_congr_left
   intro j _
   show f (i+(j+1))=_
   rw[show i+(j+1)=i+1+j by omega]
  refine⟨w',?_,hv.congr λj hj=>?_,⟨k.os,k.tape,k.output,?_,λm hm hb=>?_⟩,?_⟩
  ·rw[el]
   simp only[storeCells,Sem.run_bind,hst,Result.andThen_ok,e]
  ·by_cases c:o+i≤j∧j<o+i+(n+1)
   ·by_cases d:j=o+i
    ·subst d
     rw[mD _ _ Yo,kF]
     have:=mE g (o:=o+i) (n:=n+1) (j:=0) (λj=>f (i+j)) Yo
     simpa using this.symm
    ·obtain⟨m,rfl⟩:∃m,j=o+(i+1)+m:=⟨j-(o+(i+1)),Yo⟩
     rw[mE _ _ Yo]
     have:=mE g (o:=o+i) (n:=n+1) (j:=m+1) (λj=>f (i+j)) Yo
     rw[show o+(i+1)+m=o+i+(m+1) by omega,this,show i+(m+1)=i+1+m by omega]
   ·rw[mD _ _ Yo,mD _ _ Yo,gT _ _ Yo]
  ·have:(w.setCell ⟨b,o+i,none⟩ (f i)).heap.size=w.heap.size:=by simp[World.setCell]
   omega
  ·rw[k.block m (by simpa [World.setCell] using hm) hb]
   simp[World.setCell,Array.getElem?_modify,Ne.symm hb]
  ·rw[z];simp[World.setCell]
structure Many (P:Program) (ty:TypeId) (n:Nat):Prop where
 agg:∀w,(isAgg ty).run P w=.ok true w
 size:∀w,(sizeOf ty).run P w=.ok n w
theorem Many.of{ty:TypeId}{n:Nat}(d:TypeDesc)(hu:P.underlying ty=some d)(hd:(match d with|.struct _|.array _ _=>true|_=>false)=true)(hi:(P.info? ty).map (·.size)=some n):Many P ty n:=by
 cases hq:P.info? ty with
 |none=>simp[hq] at hi
 |some i=>
  have hs:i.size=n:=by simpa [hq] using hi
  refine⟨λw=>?_,λw=>by simp[sizeOf,typeInfo,hq,hs]⟩
  unfold isAgg
  rw[Sem.run_bind,run_underlying hu w]
  cases d<;>simp_all
theorem aP {f : Operand → Value} {o : Oper} (ty : TypeId) (x : Operand) (ho : o.op = .load ty x) {b k n N cap : Nat} {t : TypeId} {g : Nat → Value} (T : Many P ty n) (hx : f x = .pointer (some ⟨b, k, none⟩)) {w : World} (hm : Vh t w b N cap g) (hn : k + n ≤ N) :
  (execOp f o).run P w=.ok (.value (aV g k n)) w:=by
 have hl:(loadCells ⟨b,k,none⟩ n).run P w=.ok ((List.range n).map λj=>g (k+j)).toArray w:=
  run_loadCells w ⟨b,k,none⟩ n (λj=>g (k+j)) (λj hj=>by rw[add_at];exact hm.cell Yo)
 unfold execOp
 simp only[ho,hx,Instr.loadAt,Instr.sureAddr,loadVar,Sem.run_bind,Sem.run_pure,Result.andThen_ok,T.agg,T.size,hl,if_true]
 rfl
theorem aI {o : Oper} {a : Act} {K : Act → World → Prop} {Q : Exit → Act → World → Prop} (w : World) (ty : TypeId) (x y : Operand) (ho : o.op = .store ty x y) {b k n N cap : Nat} {t : TypeId} {g f : Nat → Value} (T : Many P ty n) (hx : a.eval x = .pointer (some ⟨b, k, none⟩)) (hy : a.eval y = aV f 0 n) (hm : Vh t w b N cap g) (hn : k + n ≤ N)
  (h1:∀j,j<n→(f j).oneCell'=true) (hd:o.dst=none)
  (h:∀w',Vh t w' b N cap (fG g k n f)→Kept b w w'→w'.heap.size=w.heap.size→K a w'):WpI P o a w K Q:=by
 refine⟨?_⟩
 obtain⟨w',e,hv,kk,z⟩:=qK (P:=P) b k t N cap f n 0 g w hm hn (λj hj=>by simpa using h1 j hj)
 have hh:=h w' (by simpa using hv) kk z
 have st:(storeVar ty ⟨b,k,none⟩ (aV f 0 n)).run P w=.ok () w':=by
  unfold storeVar aV
  simp only[Value.cells,Sem.run_bind,T.size,Result.andThen_ok]
  simp only[List.size_toArray,List.length_map,List.length_range,ne_eq,not_true_eq_false,if_false]
  simpa using e
 unfold Oper.wp execOp
 simp only[ho,hx,hy,Instr.storeAt,Instr.sureAddr,Sem.run_bind,Sem.run_pure,Result.andThen_ok,st]
 show K (a.put o.dst undef) w'
 rw[hd]
 exact hh
end
section
variable {P:Program}
structure OneC (P:Program) (ty:TypeId):Prop where
 agg:∀w,(isAgg ty).run P w=.ok false w
 size:∀w,(sizeOf ty).run P w=.ok 1 w
theorem aN {f : Operand → Value} {o : Oper} (ty : TypeId) (x : Operand) (ho : o.op = .load ty x) {b k N cap : Nat} {t : TypeId} {g : Nat → Value} {v : Value} (T : OneC P ty) (hx : f x = .pointer (some ⟨b, k, none⟩)) {w : World} (hm : Vh t w b N cap g) (hn : k < N) (hv : g k = v) :
  (execOp f o).run P w=.ok (.value v) w:=by
 have hc:=hm.cell hn
 rw[hv] at hc
 unfold execOp
 simp only[ho,hx,Instr.loadAt,Instr.sureAddr,loadVar,Sem.run_bind,Sem.run_pure,Result.andThen_ok,T.agg]
 go_simp
theorem iH {o : Oper} {a : Act} {K : Act → World → Prop} {Q : Exit → Act → World → Prop} (w : World) (ty : TypeId) (x y : Operand) (ho : o.op = .store ty x y) {b k N cap : Nat} {t : TypeId} {g : Nat → Value} {v : Value} (T : OneC P ty) (hx : a.eval x = .pointer (some ⟨b, k, none⟩)) (hy : a.eval y = v) (hm : Vh t w b N cap g) (hn : k < N)
  (h1:v.oneCell'=true) (h2:v.cells=#[v]) (hd:o.dst=none)
  (h:∀w',Vh t w' b N cap (iJ g k v)→Kept b w w'→w'.heap.size=w.heap.size→K a w'):WpI P o a w K Q:=by
 refine⟨?_⟩
 have hh:=h _ (hm.set k v) (kept_set w b k v) (by simp)
 have st:(storeVar ty ⟨b,k,none⟩ v).run P w=.ok () (w.setCell ⟨b,k,none⟩ v):=by
  have hst:(store ((⟨b,k,none⟩:Addr).add 0) v).run P w=.ok () (w.setCell ⟨b,k,none⟩ v):=by
   rw[add_at,Nat.add_zero,run_store P w _ _ _ h1,hm.cell hn]
   simp[hm.free]
  unfold storeVar
  simp only[h2,Sem.run_bind,T.size,Result.andThen_ok]
  simp[storeCells,hst]
 unfold Oper.wp execOp
 simp only[ho,hx,hy,Instr.storeAt,Instr.sureAddr,Sem.run_bind,Sem.run_pure,Result.andThen_ok,st]
 show K (a.put o.dst undef) _
 rw[hd]
 exact hh
theorem dP {f : Operand → Value} {o : Oper} (s e : TypeId) (x y : Operand) (ho : o.op = .indexAddr s x y) {len n : Nat} (hu : P.underlying s = some (.array len e)) (hs : ∀ w, (sizeOf e).run P w = .ok n w) {b off i : Nat} {z : Int} (hx : f x = .pointer (some ⟨b, off, none⟩)) (hy : f y = .int .i64 z) (hz : z = (i : Int)) (hi : i < len) (w : World) :
  (execOp f o).run P w=.ok (.value (.pointer (some ⟨b,off+i*n,none⟩))) w:=by
 subst hz
 have h2:(i:Int)<(len:Int):=Yo
 unfold execOp
 simp only[ho,hx,hy,Instr.indexAt,asIntOf,Instr.sureAddr,Sem.run_bind,Sem.run_pure,Result.andThen_ok,run_underlying hu,add_at]
 simp[h2,hs]
theorem dX {o : Oper} {a : Act} {K : Act → World → Prop} {Q : Exit → Act → World → Prop} (w : World) (ty : TypeId) (x : Operand) (ho : o.op = .box ty x) {n : Nat} {f : Nat → Value} (hx : a.eval x = aV f 0 n) (hn : n ≤ maxLen)
  (h:∀w',Vh ty w' w.heap.size n n f→Below w.heap.size w w'→w'.heap.size=w.heap.size+1→K (a.put o.dst (.pointer (some ⟨w.heap.size,0,none⟩))) w'):WpI P o a w K Q:=by
 refine⟨?_⟩
 have hh:=h (w.alloc (.cells ((List.range n).map f).toArray ty)) (Vh.of_row f n hn (by show (w.heap.push _)[w.heap.size]?=_;rw[Array.getElem?_push_size])) (bR _ _) (dC _ _)
 unfold Oper.wp execOp
 simp only[ho,hx,Instr.box,newVar,newRow,newObj,aV,Value.cells,Nat.zero_add]
 go_simp
 exact hh
theorem aT {o : Oper} {a : Act} {K : Act → World → Prop} {Q : Exit → Act → World → Prop} (w : World) (ty : TypeId) (ho : o.op = .alloc ty) {n : Nat} {f : Nat → Value} (hz : ∀ w, (zeroValue ty).run P w = .ok (aV f 0 n) w) (hn : n ≤ maxLen)
  (h:∀w',Vh ty w' w.heap.size n n f→Below w.heap.size w w'→w'.heap.size=w.heap.size+1→K (a.put o.dst (.pointer (some ⟨w.heap.size,0,none⟩))) w'):WpI P o a w K Q:=by
 refine⟨?_⟩
 have hh:=h (w.alloc (.cells ((List.range n).map f).toArray ty)) (Vh.of_row f n hn (by show (w.heap.push _)[w.heap.size]?=_;rw[Array.getElem?_push_size])) (bR _ _) (dC _ _)
 unfold Oper.wp execOp
 simp only[ho,Instr.alloc,newVar,newRow,newObj,Sem.run_bind,hz,Result.andThen_ok,aV,Value.cells,Nat.zero_add]
 go_simp
 exact hh
end
end Go.Proofs.YtdhblehhgpdpdacGreat
namespace Go.Proofs.YtdhblehhgpdpdacGreat
open Go
def aM(A:Act):List (Nat×Value)→Act
 |[]=>A
 |(k,v)::l=>(aM A l).put (some k) v
def aAM(k:Nat):List (Nat×Value)→Option Value
 |[]=>none
 |(j,v)::l=>cond (Nat.beq j k) (some v) (aAM k l)
theorem bZ(A:Act)(l:List (Nat×Value)):(aM A l).tmps.size=A.tmps.size:=by
 induction l with
 |nil=>rfl
 |cons p l ih=>exact (aEk _ _ _).trans ih
theorem aO(A:Act)(l:List (Nat×Value)):(aM A l).defers=A.defers:=by
 induction l with
 |nil=>rfl
 |cons p l ih=>exact ih
theorem aHK{A:Act}{l:List (Nat×Value)}{k:Nat}{v:Value}(h:aAM k l=some v)(hk:k<A.tmps.size):(aM A l).eval (.tmp k)=v:=by
 induction l with
 |nil=>cases h
 |cons p l ih=>
  obtain⟨j,u⟩:=p
  show ((aM A l).put (some j) u).eval (.tmp k)=v
  unfold aAM at h
  cases e:Nat.beq j k with
  |true=>
   rw[e] at h
   obtain rfl:j=k:=Nat.eq_of_beq_eq_true e
   rw[aCn _ _ _ (by rw[bZ];exact hk)]
   exact Option.some.inj h
  |false=>
   rw[e] at h
   rw[vK _ _ (Nat.ne_of_beq_eq_false e)]
   exact ih h
theorem aB{A:Act}{l:List (Nat×Value)}{k:Nat}{v:Value}(h:aAM k l=none)(hb:A.eval (.tmp k)=v):(aM A l).eval (.tmp k)=v:=by
 induction l with
 |nil=>exact hb
 |cons p l ih=>
  obtain⟨j,u⟩:=p
  show ((aM A l).put (some j) u).eval (.tmp k)=v
  unfold aAM at h
  cases e:Nat.beq j k with
  |true=>rw[e] at h;cases h
  |false=>
   rw[e] at h
   rw[vK _ _ (Nat.ne_of_beq_eq_false e)]
   exact ih h
section
variable {P:Program} {ops:Array Oper} {Q:Exit→Act→World→Prop} {A:Act} {l:List (Nat×Value)} {w:World} {rest:List Oper} {o:Oper} {d:Nat} {v:Value}
theorem aJ{l':List Oper}(h:LstI P ops Q l' (aM A []) w):LstI P ops Q l' A w:=h
theorem aHi(hd:o.dst=some d)(hw:Region.wanted o (yielded ops (aM A l).tmps)=true)(hy:(execOp (aM A l).eval o).run P w=.ok (.value v) w)(h:LstI P ops Q rest (aM A ((d,v)::l)) w):LstI P ops Q (o::rest) (aM A l) w:=
 bY hw hy (by rw[hd];exact h)
theorem aJq(hd:o.dst=some d)(hw:Region.wanted o (yielded ops (aM A l).tmps)=false)(h:LstI P ops Q rest (aM A ((d,undef)::l)) w):LstI P ops Q (o::rest) (aM A l) w:=
 pI hw (by rw[hd];exact h)
theorem aS(hd:o.dst=some d)(hw:Region.wanted o (yielded ops (aM A l).tmps)=true)(h:∀K:Act→World→Prop,(∀v w',LstI P ops Q rest (aM A ((d,v)::l)) w'→K ((aM A l).put o.dst v) w')→WpI P o (aM A l) w K Q):LstI P ops Q (o::rest) (aM A l) w:=
 aDN hw (λK hK=>h K (λv _ h1=>by rw[hd];exact hK _ _ h1))
theorem bS(hw:Region.wanted o (yielded ops (aM A l).tmps)=true)(h:∀K:Act→World→Prop,(∀w',LstI P ops Q rest (aM A l) w'→K (aM A l) w')→WpI P o (aM A l) w K Q):LstI P ops Q (o::rest) (aM A l) w:=
 aDN hw (λK hK=>h K (λ_ h1=>hK _ _ h1))
theorem Ye{k:Nat}(h:aAM k l=some v)(hk:k<A.tmps.size:=by omega):(aM A l).eval (.tmp k)=v:=aHK h hk
theorem Yv{p:Prop}(h:p:=by first|exact aHK rfl Yo|exact aB rfl (by assumption)|exact aG _ _):p:=h
theorem Yq(hy:(execOp (aM A l).eval o).run P w=.ok (.value v) w)(h:LstI P ops Q rest (aM A ((d,v)::l)) w)(hd:o.dst=some d:=by rfl)(hw:Region.wanted o (yielded ops (aM A l).tmps)=true:=by first|exact cO rfl|exact bC rfl rfl rfl Yv):LstI P ops Q (o::rest) (aM A l) w:=aHi hd hw hy h
theorem Yp(h:LstI P ops Q rest (aM A ((d,v)::l)) w)(hd:o.dst=some d:=by rfl)(hw:Region.wanted o (yielded ops (aM A l).tmps)=true:=by first|exact cO rfl|exact bC rfl rfl rfl Yv)(hy:(execOp (aM A l).eval o).run P w=.ok (.value v) w:=by first|exact aH _ rfl Yv _|exact jP _ rfl Yv _):LstI P ops Q (o::rest) (aM A l) w:=aHi hd hw hy h
theorem Yu(h:LstI P ops Q rest (aM A ((d,undef)::l)) w)(hd:o.dst=some d:=by rfl)(hw:Region.wanted o (yielded ops (aM A l).tmps)=false:=by exact eB rfl rfl rfl Yv Yc):LstI P ops Q (o::rest) (aM A l) w:=aJq hd hw h
variable {S:World→Prop} {late:Nat→Bool} {i:Nat} {r:PlanJ}
theorem aGq{p:PlanJ}(h:SeqJ P ops Q S late p (aM A []) w):SeqJ P ops Q S late p A w:=h
theorem aBy (ho : ops[i]? = some o) (hd : o.dst = some d) (hQ : ∀ c a w, Q (.panic c) (a.put (some d) v) w → Q (.panic c) a w) (hw : Region.wanted o (yielded ops (aM A l).tmps) = true)
  (hy:∀w,(execOp (aM A l).eval o).run P w=.ok (.value v) w) (h:SeqJ P ops Q S late r (aM A ((d,v)::l)) w):SeqJ P ops Q S late (.mv i r) (aM A l) w:=
 aL ho (by rw[hd];exact hQ) hw hy (by rw[hd];exact h)
theorem aSq (ho : ops[i]? = some o) (hd : o.dst = some d) (hQ : ∀ c a w, Q (.panic c) (a.put (some d) v) w → Q (.panic c) a w) (hw : Region.wanted o (yielded ops (aM A l).tmps) = true) (hS : S w)
  (hy:∀w,S w→(execOp (aM A l).eval o).run P w=.ok (.value v) w) (h:SeqJ P ops Q S late r (aM A ((d,v)::l)) w):SeqJ P ops Q S late (.rd i r) (aM A l) w:=
 fC ho (by rw[hd];exact hQ) hw hS hy (by rw[hd];exact h)
theorem aIf (ho : ops[i]? = some o) (hd : o.dst = some d) (hQ : ∀ c a w, Q (.panic c) (a.put (some d) undef) w → Q (.panic c) a w) (hw : Region.wanted o (yielded ops (aM A l).tmps) = false)
  (h:SeqJ P ops Q S late r (aM A ((d,undef)::l)) w):SeqJ P ops Q S late (.mv i r) (aM A l) w:=
 jU ho (by rw[hd];exact hQ) hw (by rw[hd];exact h)
theorem dI (ho : ops[i]? = some o) (hd : o.dst = some d) (hw : Region.wanted o (yielded ops (aM A l).tmps) = true)
  (h:∀K:Act→World→Prop,(∀v w',(late i=false→S w→S w')→SeqJ P ops Q S late r (aM A ((d,v)::l)) w'→K ((aM A l).put o.dst v) w')→WpI P o (aM A l) w K Q):SeqJ P ops Q S late (.go i r) (aM A l) w:=
 kH ho hw (λK hK=>h K (λv _ h1 h2=>by rw[hd];exact hK _ _ h1 h2))
theorem eU (ho : ops[i]? = some o) (hw : Region.wanted o (yielded ops (aM A l).tmps) = true)
  (h:∀K:Act→World→Prop,(∀w',(late i=false→S w→S w')→SeqJ P ops Q S late r (aM A l) w'→K (aM A l) w')→WpI P o (aM A l) w K Q):SeqJ P ops Q S late (.go i r) (aM A l) w:=
 kH ho hw (λK hK=>h K (λ_ h1 h2=>hK _ _ h1 h2))
theorem Yk(ho:ops[i]?=some o)(hy:∀w,(execOp (aM A l).eval o).run P w=.ok (.value v) w)(h:SeqJ P ops Q S late r (aM A ((d,v)::l)) w)(hd:o.dst=some d:=by rfl)(hQ:∀c a w,Q (.panic c) (a.put (some d) v) w→Q (.panic c) a w:=by exact λ_ _ _ h=>h)(hw:Region.wanted o (yielded ops (aM A l).tmps)=true:=by first|exact cO rfl|exact bC rfl rfl rfl Yv):SeqJ P ops Q S late (.mv i r) (aM A l) w:=aBy ho hd hQ hw hy h
theorem Yj(h:SeqJ P ops Q S late r (aM A ((d,v)::l)) w)(ho:ops[i]?=some o:=by rfl)(hd:o.dst=some d:=by rfl)(hQ:∀c a w,Q (.panic c) (a.put (some d) v) w→Q (.panic c) a w:=by exact λ_ _ _ h=>h)(hw:Region.wanted o (yielded ops (aM A l).tmps)=true:=by first|exact cO rfl|exact bC rfl rfl rfl Yv)(hy:∀w,(execOp (aM A l).eval o).run P w=.ok (.value v) w:=by first|exact λ_=>aH _ rfl Yv _|exact λ_=>jP _ rfl Yv _):SeqJ P ops Q S late (.mv i r) (aM A l) w:=aBy ho hd hQ hw hy h
theorem Yr(ho:ops[i]?=some o)(hS:S w)(hy:∀w,S w→(execOp (aM A l).eval o).run P w=.ok (.value v) w)(h:SeqJ P ops Q S late r (aM A ((d,v)::l)) w)(hd:o.dst=some d:=by rfl)(hQ:∀c a w,Q (.panic c) (a.put (some d) v) w→Q (.panic c) a w:=by exact λ_ _ _ h=>h)(hw:Region.wanted o (yielded ops (aM A l).tmps)=true:=by first|exact cO rfl|exact bC rfl rfl rfl Yv):SeqJ P ops Q S late (.rd i r) (aM A l) w:=aSq ho hd hQ hw hS hy h
theorem aBR{j:Nat}{r':PlanJ}(h:SeqJ P ops Q S late (.go i r) (aM A l) w)(h':SeqJ P ops Q S late (.go j r') (aM A l) w):SeqJ P ops Q S late (.two i j r r') (aM A l) w:=⟨⟨h.out,h'.out⟩⟩
end
end Go.Proofs.YtdhblehhgpdpdacGreat
namespace Go.Proofs.YtdhblehhgpdpdacGreat
open Go.RowKit
section
variable {P:Program} {Q:Exit→Act→World→Prop} {a:Act} {w:World}
theorem bX {f : FuncId} {fn : Func} {c : Code} {args : Array Value} {R : Ending → World → Prop} (hf : P.funcs[f]? = some fn) (hb : fn.body = some c) (n : Nat) (hn : fn.ntmps = n) (hl : args.size ≤ n)
  (h:∀A:Act,A.tmps.size=n→A.defers=[]→(∀k v,args[k]?=some v→A.eval (.tmp k)=v)→CodI P c (bodyPost P fn R) A w):Calls P f args w R:=by
 refine calls_of_wp hf hb (h _ ?_ rfl ?_).out
 ·show (args++Array.replicate (fn.ntmps-args.size) undef).size=n
  rw[Array.size_append,Array.size_replicate,hn];omega
 ·intro k v hk
  show (args++Array.replicate (fn.ntmps-args.size) undef).getD k undef=v
  have hlt:=(Array.getElem?_eq_some_iff.1 hk).1
  rw[Array.getD_eq_getD_getElem?,Array.getElem?_append_left hlt,hk]
  rfl
def Nx(P:Program)(y:Code)(Q:Exit→Act→World→Prop):Exit→Act→World→Prop:=Exit.then (λa' w'=>CodI P y Q a' w') Q
theorem aK{x y:Code}(h:CodI P x (Nx P y Q) a w):CodI P (.seq x y) Q a w:=
 ⟨wp_seq (Code.wp_mono (λe a' w' q=>by
  cases e with
  |normal=>exact (show CodI P y Q a' w' from q).out
  |exit id=>exact q
  |goto l=>exact q
  |ret=>exact q
  |panic ch=>exact q
  |outgrown=>exact q) h.out)⟩
theorem aD{id:Nat}{l:List Oper}{y:Code}(h:LstI P l.toArray (Nx P y Q) l a w):CodI P (.seq (.region id l.toArray false) y) Q a w:=aK (aR h)
theorem aF{ops:Array Oper}{y:Code}(h:CodI P y Q a w):LstI P ops (Nx P y Q) [] a w:=⟨wpList_nil h⟩
theorem bL{y:Code}(h:CodI P y Q a w):CodI P .skip (Nx P y Q) a w:=rA h
theorem fZ {id : Nat} {ops : Array Oper} {S : World → Prop} (l : PlanJ) (lt : List Nat) (hm : P.follows .mixedOrders = true)
  (hb:(Region.noSelect ops&&lt.all (λj=>decide (j<ops.size))&&decide (l.len=ops.size)&&kS .any ops (jL lt) l (Array.replicate ops.size false))=true)
  (h:SeqJ P ops Q S (jL lt) l a w.drew):CodI P (.region id ops true) Q a w:=⟨iQ l lt hm hb h⟩
theorem iA{ops:Array Oper}{S:World→Prop}{late:Nat→Bool}{y:Code}(h:CodI P y Q a w):SeqJ P ops (Nx P y Q) S late .fin a w:=jV h
theorem bD(h:Q .ret a w):CodI P .ret Q a w:=⟨wp_ret h⟩
theorem dS{id:Nat}(h:Q (.exit id) a w):CodI P (.exit id) Q a w:=⟨wp_exit h⟩
theorem aU{id:Nat}{c:Code}(h:CodI P c (Exit.inBlock id Q) a w):CodI P (.block id c) Q a w:=⟨wp_block h.out⟩
theorem dY{c:Code}(I:Nat→Act→World→Prop)(n₀:Nat)(h₀:I n₀ a w)(round:∀n a w,I n a w→CodI P c (Exit.then (λa' w'=>∃n',n'<n∧I n' a' w') Q) a w):CodI P (.loop c) Q a w:=
 ⟨wp_loop_ghost I n₀ h₀ λn a w h=>(round n a w h).out⟩
theorem oW{c:Operand}{x y:Code}{t:Bool}(hc:a.eval c=.bool t)(h1:t=true→CodI P x Q a w)(h2:t=false→CodI P y Q a w):CodI P (.cond c x y) Q a w:=by
 cases t
 ·exact bM hc (h2 rfl)
 ·exact bP hc (h1 rfl)
theorem bB{fn:Func}{R:Ending→World→Prop}{v:Value}(hd:a.defers=[])(hr:(results fn a.tmps).run P w=.ok v w)(h:R (.returned v) w):bodyPost P fn R .ret a w:=⟨hd,v,hr,h⟩
theorem kQ{k:Nat}{v:Value}(h:a.eval (.tmp k)=v):a.tmps.getD k undef=v:=h
theorem nQ{ty:TypeId}{b n N cap:Nat}{t:TypeId}{g:Nat→Value}(T:Many P ty n)(hm:Vh t w b N cap g)(hn:n≤N):(loadVar ty ⟨b,0,none⟩).run P w=.ok (aV g 0 n) w:=by
 have hl:(loadCells ⟨b,0,none⟩ n).run P w=.ok ((List.range n).map λj=>g (0+j)).toArray w:=
  run_loadCells w ⟨b,0,none⟩ n (λj=>g (0+j)) (λj hj=>by rw[add_at,Nat.zero_add];exact hm.cell Yo)
 simp only[loadVar,Sem.run_bind,T.agg,T.size,hl,Result.andThen_ok,if_true]
 rfl
theorem dW{fn:Func}{p:Nat}{v:Value}(h:fn.results=#[.tmp p])(hv:a.eval (.tmp p)=v):(results fn a.tmps).run P w=.ok v w:=by
 have e:=kQ hv
 simp only[Array.getD_eq_getD_getElem?] at e
 simp[results,h,e]
theorem qN{fn:Func}{p:Nat}{ty:TypeId}{b n N cap:Nat}{t:TypeId}{g:Nat→Value}(h:fn.results=#[.cell p ty])(hv:a.eval (.tmp p)=.pointer (some ⟨b,0,none⟩))(T:Many P ty n)(hm:Vh t w b N cap g)(hn:n≤N):(results fn a.tmps).run P w=.ok (aV g 0 n) w:=by
 have e:=kQ hv
 simp only[Array.getD_eq_getD_getElem?] at e
 simp[results,h,e,asAddr,nQ T hm hn]
theorem jC {fn : Func} {p p' : Nat} {ty ty' : TypeId} {b b' n n' N N' cap cap' : Nat} {t t' : TypeId} {g g' : Nat → Value} (h : fn.results = #[.cell p ty, .cell p' ty']) (hv : a.eval (.tmp p) = .pointer (some ⟨b, 0, none⟩)) (hv' : a.eval (.tmp p') = .pointer (some ⟨b', 0, none⟩)) (T : Many P ty n) (T' : Many P ty' n') (hm : Vh t w b N cap g) (hn : n ≤ N) (hm' : Vh t' w b' N' cap' g') (hn' : n' ≤ N') :
  (results fn a.tmps).run P w=.ok (.tuple #[aV g 0 n,aV g' 0 n']) w:=by
 have e:=kQ hv;have e2:=kQ hv'
 simp only[Array.getD_eq_getD_getElem?] at e e2
 simp[results,h,e,e2,asAddr,nQ T hm hn,nQ T' hm' hn']
theorem nW {fn : Func} {p p' : Nat} {ty : TypeId} {b n N cap : Nat} {t : TypeId} {g : Nat → Value} {v : Value} (h : fn.results = #[.cell p ty, .tmp p']) (hv : a.eval (.tmp p) = .pointer (some ⟨b, 0, none⟩)) (hv' : a.eval (.tmp p') = v) (T : Many P ty n) (hm : Vh t w b N cap g) (hn : n ≤ N) :
  (results fn a.tmps).run P w=.ok (.tuple #[aV g 0 n,v]) w:=by
 have e:=kQ hv;have e2:=kQ hv'
 simp only[Array.getD_eq_getD_getElem?] at e e2
 simp[results,h,e,e2,asAddr,nQ T hm hn]
end
section
variable {P:Program} {Q:Exit→Act→World→Prop} {J:Act→World→Prop} {a:Act} {w:World} {ops:Array Oper} {x y:Code} {id:Nat}
theorem iW(h:CodI P y Q a w):CodI P .skip (Exit.inBlock id (Nx P y Q)) a w:=rA h
theorem iE(h:CodI P y Q a w):LstI P ops (Exit.inBlock id (Nx P y Q)) [] a w:=⟨wpList_nil h⟩
theorem yN{S:World→Prop}{late:Nat→Bool}(h:CodI P y Q a w):SeqJ P ops (Exit.inBlock id (Nx P y Q)) S late .fin a w:=jV h
theorem bQ(h:J a w):LstI P ops (Exit.then J Q) [] a w:=⟨wpList_nil h⟩
theorem fU(h:CodI P y Q a w):Nx P x (Exit.then J (Exit.inBlock id (Nx P y Q))) (.exit id) a w:=by
 show (if id=id then _ else _)
 rw[if_pos rfl]
 exact h
end
theorem aSE{P:Program}{Q:Exit→Act→World→Prop}{a:Act}{w:World}{x y:Code}{id:Nat}(h:CodI P y Q a w):Nx P x (Exit.inBlock id (Nx P y Q)) (.exit id) a w:=by
 show (if id=id then _ else _)
 rw[if_pos rfl]
 exact h
theorem aFi{P:Program}{Q:Exit→Act→World→Prop}{J:Act→World→Prop}{a:Act}{w:World}{x y:Code}{id id2:Nat}(h:CodI P y Q a w):Nx P x (Exit.then J (Exit.inBlock id (Exit.inBlock id2 (Nx P y Q)))) (.exit id) a w:=by
 show (if id=id then _ else _)
 rw[if_pos rfl]
 exact h
section
variable {t:TypeId} {B s n z:Nat} {w w':World} {v:Value} {xs:List Value} {r:Option Nat}
theorem bG(h:w.ownsRow B t s v n xs)(k:Below w.heap.size w w'):w'.ownsRow B t s v n xs:=by
 refine⟨h.1,?_⟩
 rcases h.2 with hn|⟨g,cap,cur,rfl,hb,hgg,rest⟩
 ·exact .inl hn
 ·exact .inr ⟨g,cap,cur,rfl,hb,(k.block g (lt_of_block hgg)).trans hgg,rest⟩
theorem bK(h:w.ownsRow B t s v n xs)(k:Kept z w w')(hz:v.ownBlock≠some z):w'.ownsRow B t s v n xs:=by
 refine⟨h.1,?_⟩
 rcases h.2 with hn|⟨g,cap,cur,rfl,hb,hgg,rest⟩
 ·exact .inl hn
 ·exact .inr ⟨g,cap,cur,rfl,hb,(k.block g (lt_of_block hgg) (λe=>hz (by rw[←e];rfl))).trans hgg,rest⟩
theorem iC(h:w.ownsRow B t s v n xs)(k:Kept z w w')(hz:z<B):w'.ownsRow B t s v n xs:=bK h k (λe=>by have:=(h.lt z e).1;omega)
theorem dL{C:Nat}(h:w.ownsRow B t s v n xs)(e:C≤B):w.ownsRow C t s v n xs:=by
 refine⟨h.1,?_⟩
 rcases h.2 with hn|⟨g,cap,cur,rfl,hb,rest⟩
 ·exact .inl hn
 ·exact .inr ⟨g,cap,cur,rfl,Nat.le_trans e hb,rest⟩
theorem gG(h:w.ownsRow B t s v n xs):∃ao cap,v=.slice ao n cap∧n≤cap:=by
 rcases h.2 with ⟨rfl,h0⟩|⟨g,cap,cur,rfl,_,_,hc,_⟩
 ·exact⟨none,0,by rw[h0],Yo⟩
 ·exact⟨_,cap,rfl,hc⟩
end
end Go.Proofs.YtdhblehhgpdpdacGreat
namespace Go.Proofs.YtdhblehhgpdpdacGreat
open Go
theorem jQ (w : World) {P : Program} {Q : Exit → Act → World → Prop} {o : Oper} {a : Act} {K : Act → World → Prop} (n : Nat) (x y z u : Operand) (T : Array TypeId) (ho : o.op = .call { callee := .value (.func n), args := #[x, y, z, u], argTypes := T }) {p q r s : Value} (hx : a.eval x = p) (hy : a.eval y = q) (hz : a.eval z = r) (hu : a.eval u = s) (hf : (callFunc n #[p, q, r, s]).run P w = .ok (.enter n #[p, q, r, s]) w) {R : Ending → World → Prop} (hc : Calls P n #[p, q, r, s] w R)
  (h:∀e w',R e w'→∃r,e=.returned r∧K (a.put o.dst r) w'):WpI P o a w K Q:=by
 refine⟨?_⟩
 have e:(execOp a.eval o).run P w=.ok (.enter n #[p,q,r,s]) w:=by
  unfold execOp
  rw[ho]
  have hv2:a.eval (Operand.func n)=.func (.func n) #[] #[]:=rfl
  simp only[resolve,invoke,Sem.run_bind,List.map_toArray,List.map_cons,List.map_nil,hx,hy,hz,hu,hv2]
  go_simp
 unfold Oper.wp
 rw[e,Oper.upon_enter]
 refine hc.mono ?_
 intro e w' hr
 obtain⟨r,rfl,hk⟩:=h e w' hr
 exact hk
theorem gQ (w : World) {P : Program} {Q : Exit → Act → World → Prop} {o : Oper} {a : Act} {K : Act → World → Prop} (n : Nat) (x y z : Operand) (T : Array TypeId) (ho : o.op = .call { callee := .value (.func n), args := #[x, y, z], argTypes := T }) {p q r : Value} (hx : a.eval x = p) (hy : a.eval y = q) (hz : a.eval z = r) (hf : (callFunc n #[p, q, r]).run P w = .ok (.enter n #[p, q, r]) w) {R : Ending → World → Prop} (hc : Calls P n #[p, q, r] w R)
  (h:∀e w',R e w'→∃r,e=.returned r∧K (a.put o.dst r) w'):WpI P o a w K Q:=by
 refine⟨?_⟩
 have e:(execOp a.eval o).run P w=.ok (.enter n #[p,q,r]) w:=by
  unfold execOp
  rw[ho]
  have hv2:a.eval (Operand.func n)=.func (.func n) #[] #[]:=rfl
  simp only[resolve,invoke,Sem.run_bind,List.map_toArray,List.map_cons,List.map_nil,hx,hy,hz,hv2]
  go_simp
 unfold Oper.wp
 rw[e,Oper.upon_enter]
 refine hc.mono ?_
 intro e w' hr
 obtain⟨r,rfl,hk⟩:=h e w' hr
 exact hk
end Go.Proofs.YtdhblehhgpdpdacGreat
namespace Go.Proofs.YtdhblehhgpdpdacGreat
open Go.RowKit
structure It where
 p:World→Prop
 foot:Nat→Prop
 ok:∀{w w':World},p w→(∀k,k<w.heap.size→foot k→w'.heap[k]?=w.heap[k]?)→p w'
 lt:∀{w:World} {k:Nat},p w→foot k→k<w.heap.size
theorem yC{t:TypeId}{B s n:Nat}{w w':World}{v:Value}{xs:List Value}(h:w.ownsRow B t s v n xs)(e:∀k,v.ownBlock=some k→w'.heap[k]?=w.heap[k]?):w'.ownsRow B t s v n xs:=by
 refine⟨h.1,?_⟩
 rcases h.2 with hn|⟨g,cap,cur,rfl,hb,hgg,rest⟩
 ·exact .inl hn
 ·exact .inr ⟨g,cap,cur,rfl,hb,(e g rfl).trans hgg,rest⟩
def bJ(t:TypeId)(b N cap:Nat)(g:Nat→Value):It:=⟨λw=>Vh t w b N cap g,λk=>k=b,λh e=>Vh.same h (e _ h.lt rfl),λh e=>e ▸ h.lt⟩
def oU(B:Nat)(t:TypeId)(s:Nat)(v:Value)(n:Nat)(xs:List Value):It:=⟨λw=>w.ownsRow B t s v n xs,λk=>v.ownBlock=some k,λh e=>yC h (λk hk=>e k (h.lt k hk).2 hk),λh e=>(h.lt _ e).2⟩
structure Cx (w0 w:World) (l:List It):Prop where
 bel:Below w0.heap.size w0 w
 it:∀x,x∈l→x.p w
 up:∀x,x∈l→∀k,x.foot k→w0.heap.size≤k
 dis:l.Pairwise λx y=>∀k,x.foot k→¬y.foot k
section
variable {w0 w w':World} {l a b:List It} {x y:It}
theorem Cx.start(w0:World):Cx w0 w0 []:=⟨Below.refl _ _,λ_ h=>(by cases h),λ_ h=>(by cases h),List.Pairwise.nil⟩
theorem Cx.size(H:Cx w0 w l):w0.heap.size≤w.heap.size:=H.bel.size
theorem Cx.call(H:Cx w0 w l)(k:Below w.heap.size w w'):Cx w0 w' l:=⟨H.bel.trans (k.mono H.size),λx hx=>x.ok (H.it x hx) (λj hj _=>k.block j hj),H.up,H.dis⟩
theorem Cx.drew(H:Cx w0 w l):Cx w0 w.drew l:=H.call ⟨rfl,rfl,rfl,Nat.le_refl _,λ_ _=>rfl⟩
theorem Cx.add(H:Cx w0 w l)(k:Below w.heap.size w w')(x:It)(hx:x.p w')(hf:∀j,x.foot j→w.heap.size≤j):Cx w0 w' (x::l):=by
 have H':=H.call k
 have hs:=H.size
 refine⟨H'.bel,λy hy=>?_,λy hy j hj=>?_,List.Pairwise.cons (λy hy j h1 h2=>?_) H.dis⟩
 ·rcases List.mem_cons.1 hy with rfl|hy
  ·exact hx
  ·exact H'.it y hy
 ·rcases List.mem_cons.1 hy with rfl|hy
  ·have:=hf j hj;omega
  ·exact H.up y hy j hj
 ·have h3:=hf j h1
  have h4:=y.lt (H.it y hy) h2
  omega
theorem Cx.put(H:Cx w0 w (a++x::b))(os:w'.os=w.os)(tape:w'.tape=w.tape)(output:w'.output=w.output)(size:w.heap.size≤w'.heap.size)(hk:∀k,k<w.heap.size→¬x.foot k→w'.heap[k]?=w.heap[k]?)(y:It)(hy:y.p w')(hf:∀j,y.foot j→x.foot j∨w.heap.size≤j):Cx w0 w' (a++y::b):=by
 have hs:=H.size
 obtain⟨d1,d2,d3⟩:=List.pairwise_append.1 H.dis
 obtain⟨d4,d5⟩:=List.pairwise_cons.1 d2
 have hx:x∈a++x::b:=by simp
 have inA:∀z,z∈a→z∈a++x::b:=λz hz=>List.mem_append_left _ hz
 have inB:∀z,z∈b→z∈a++x::b:=λz hz=>List.mem_append_right _ (List.mem_cons_of_mem _ hz)
 have far:∀z,z∈a++x::b→∀j,z.foot j→¬w.heap.size≤j:=λz hz j h1 h2=>by have:=z.lt (H.it z hz) h1;omega
 refine⟨⟨os.trans H.bel.os,tape.trans H.bel.tape,output.trans H.bel.output,Nat.le_trans H.bel.size size,λk hkk=>(hk k Yo (λe=>by have:=H.up x hx k e;omega)).trans (H.bel.block k hkk)⟩,λz hz=>?_,λz hz j hj=>?_,List.pairwise_append.2 ⟨d1,List.pairwise_cons.2 ⟨λz hz j h1 h2=>?_,d5⟩,λz hz u hu j h1 h2=>?_⟩⟩
 ·rcases List.mem_append.1 hz with hz|hz
  ·exact z.ok (H.it z (inA z hz)) (λk h1 h2=>hk k h1 (λh3=>d3 z hz x (List.mem_cons_self) k h2 h3))
  ·rcases List.mem_cons.1 hz with rfl|hz
   ·exact hy
   ·exact z.ok (H.it z (inB z hz)) (λk h1 h2=>hk k h1 (λh3=>d4 z hz k h3 h2))
 ·rcases List.mem_append.1 hz with hz|hz
  ·exact H.up z (inA z hz) j hj
  ·rcases List.mem_cons.1 hz with rfl|hz
   ·rcases hf j hj with h|h
    ·exact H.up x hx j h
    ·omega
   ·exact H.up z (inB z hz) j hj
 ·rcases hf j h1 with h|h
  ·exact d4 z hz j h h2
  ·exact far z (inB z hz) j h2 h
 ·rcases List.mem_cons.1 hu with rfl|hu
  ·rcases hf j h2 with h|h
   ·exact d3 z hz x (List.mem_cons_self) j h1 h
   ·exact far z (inA z hz) j h1 h
  ·exact d3 z hz u (List.mem_cons_of_mem _ hu) j h1 h2
theorem Cx.sub{m:List It}(H:Cx w0 w l)(h:m.Sublist l):Cx w0 w m:=⟨H.bel,λx hx=>H.it x (h.subset hx),λx hx=>H.up x (h.subset hx),H.dis.sublist h⟩
theorem Cx.perm{m:List It}(H:Cx w0 w l)(h:l.Perm m):Cx w0 w m:=⟨H.bel,λx hx=>H.it x (h.mem_iff.2 hx),λx hx=>H.up x (h.mem_iff.2 hx),H.dis.perm h (λh1 k h2 h3=>h1 k h3 h2)⟩
theorem Cx.base{v0:World}(H:Cx w0 w l)(k:Below v0.heap.size v0 w0)(hs:v0.heap.size≤w0.heap.size):Cx v0 w l:=⟨k.trans (H.bel.mono hs),H.it,λx hx j hj=>Nat.le_trans hs (H.up x hx j hj),H.dis⟩
theorem Cx.tl(H:Cx w0 w (x::l)):Cx w0 w l:=H.sub (List.sublist_cons_self x l)
end
structure Its (l:List It) (w:World):Prop where
 it:∀x,x∈l→x.p w
theorem Its.nil(w:World):Its [] w:=⟨λ_ h=>(by cases h)⟩
theorem Its.cons{w:World}{x:It}{l:List It}(h:x.p w)(t:Its l w):Its (x::l) w:=⟨λy hy=>by
 rcases List.mem_cons.1 hy with rfl|hy
 ·exact h
 ·exact t.it y hy⟩
theorem Its.tl{w:World}{x:It}{l:List It}(h:Its (x::l) w):Its l w:=⟨λy hy=>h.it y (List.mem_cons_of_mem _ hy)⟩
theorem Cx.v0{w0 w:World}{l:List It}{t:TypeId}{b N cap:Nat}{g:Nat→Value}(H:Cx w0 w (bJ t b N cap g::l)):Vh t w b N cap g:=H.it _ (List.mem_cons_self)
theorem Its.v0{w:World}{l:List It}{t:TypeId}{b N cap:Nat}{g:Nat→Value}(H:Its (bJ t b N cap g::l) w):Vh t w b N cap g:=H.it _ (List.mem_cons_self)
theorem Cx.o0{w0 w:World}{l:List It}{x:It}(H:Cx w0 w (x::l)):x.p w:=H.it _ (List.mem_cons_self)
theorem Cx.p0{w0 w w':World}{l:List It}{x:It}(H:Cx w0 w (x::l))(os:w'.os=w.os)(tape:w'.tape=w.tape)(output:w'.output=w.output)(size:w.heap.size≤w'.heap.size)(hk:∀k,k<w.heap.size→¬x.foot k→w'.heap[k]?=w.heap[k]?)(y:It)(hy:y.p w')(hf:∀j,y.foot j→x.foot j∨w.heap.size≤j):Cx w0 w' (y::l):=Cx.put (a:=[]) H os tape output size hk y hy hf
theorem Cx.s0{w0 w w':World}{l:List It}{t:TypeId}{b N cap:Nat}{g g':Nat→Value}(H:Cx w0 w (bJ t b N cap g::l))(k:Kept b w w')(m:Vh t w' b N cap g'):Cx w0 w' (bJ t b N cap g'::l):=Cx.p0 H k.os k.tape k.output k.size (λj h1 h2=>k.block j h1 h2) (bJ t b N cap g') m (λ_ h=>Or.inl h)
theorem Cx.v1{w0 w:World}{x0:It}{l:List It}{t:TypeId}{b N cap:Nat}{g:Nat→Value}(H:Cx w0 w (x0::bJ t b N cap g::l)):Vh t w b N cap g:=H.it _ (List.mem_cons_of_mem _ (List.mem_cons_self))
theorem Its.v1{w:World}{x0:It}{l:List It}{t:TypeId}{b N cap:Nat}{g:Nat→Value}(H:Its (x0::bJ t b N cap g::l) w):Vh t w b N cap g:=H.it _ (List.mem_cons_of_mem _ (List.mem_cons_self))
theorem Cx.o1{w0 w:World}{x0:It}{l:List It}{x:It}(H:Cx w0 w (x0::x::l)):x.p w:=H.it _ (List.mem_cons_of_mem _ (List.mem_cons_self))
theorem Cx.p1{w0 w w':World}{x0:It}{l:List It}{x:It}(H:Cx w0 w (x0::x::l))(os:w'.os=w.os)(tape:w'.tape=w.tape)(output:w'.output=w.output)(size:w.heap.size≤w'.heap.size)(hk:∀k,k<w.heap.size→¬x.foot k→w'.heap[k]?=w.heap[k]?)(y:It)(hy:y.p w')(hf:∀j,y.foot j→x.foot j∨w.heap.size≤j):Cx w0 w' (x0::y::l):=Cx.put (a:=[x0]) H os tape output size hk y hy hf
theorem Cx.s1{w0 w w':World}{x0:It}{l:List It}{t:TypeId}{b N cap:Nat}{g g':Nat→Value}(H:Cx w0 w (x0::bJ t b N cap g::l))(k:Kept b w w')(m:Vh t w' b N cap g'):Cx w0 w' (x0::bJ t b N cap g'::l):=Cx.p1 H k.os k.tape k.output k.size (λj h1 h2=>k.block j h1 h2) (bJ t b N cap g') m (λ_ h=>Or.inl h)
theorem Cx.f1{w0 w:World}{x0:It}{x:It}{l:List It}(H:Cx w0 w (x0::x::l)):Cx w0 w (x::x0::l):=H.perm (List.perm_middle (l₁:=[x0]))
theorem Cx.b1{w0 w:World}{x0:It}{x:It}{l:List It}(H:Cx w0 w (x::x0::l)):Cx w0 w (x0::x::l):=H.perm (List.perm_middle (l₁:=[x0])).symm
theorem Cx.v2{w0 w:World}{x0 x1:It}{l:List It}{t:TypeId}{b N cap:Nat}{g:Nat→Value}(H:Cx w0 w (x0::x1::bJ t b N cap g::l)):Vh t w b N cap g:=H.it _ (List.mem_cons_of_mem _ (List.mem_cons_of_mem _ (List.mem_cons_self)))
theorem Its.v2{w:World}{x0 x1:It}{l:List It}{t:TypeId}{b N cap:Nat}{g:Nat→Value}(H:Its (x0::x1::bJ t b N cap g::l) w):Vh t w b N cap g:=H.it _ (List.mem_cons_of_mem _ (List.mem_cons_of_mem _ (List.mem_cons_self)))
theorem Cx.o2{w0 w:World}{x0 x1:It}{l:List It}{x:It}(H:Cx w0 w (x0::x1::x::l)):x.p w:=H.it _ (List.mem_cons_of_mem _ (List.mem_cons_of_mem _ (List.mem_cons_self)))
theorem Cx.p2{w0 w w':World}{x0 x1:It}{l:List It}{x:It}(H:Cx w0 w (x0::x1::x::l))(os:w'.os=w.os)(tape:w'.tape=w.tape)(output:w'.output=w.output)(size:w.heap.size≤w'.heap.size)(hk:∀k,k<w.heap.size→¬x.foot k→w'.heap[k]?=w.heap[k]?)(y:It)(hy:y.p w')(hf:∀j,y.foot j→x.foot j∨w.heap.size≤j):Cx w0 w' (x0::x1::y::l):=Cx.put (a:=[x0,x1]) H os tape output size hk y hy hf
theorem Cx.s2{w0 w w':World}{x0 x1:It}{l:List It}{t:TypeId}{b N cap:Nat}{g g':Nat→Value}(H:Cx w0 w (x0::x1::bJ t b N cap g::l))(k:Kept b w w')(m:Vh t w' b N cap g'):Cx w0 w' (x0::x1::bJ t b N cap g'::l):=Cx.p2 H k.os k.tape k.output k.size (λj h1 h2=>k.block j h1 h2) (bJ t b N cap g') m (λ_ h=>Or.inl h)
theorem Cx.f2{w0 w:World}{x0 x1:It}{x:It}{l:List It}(H:Cx w0 w (x0::x1::x::l)):Cx w0 w (x::x0::x1::l):=H.perm (List.perm_middle (l₁:=[x0,x1]))
theorem Cx.b2{w0 w:World}{x0 x1:It}{x:It}{l:List It}(H:Cx w0 w (x::x0::x1::l)):Cx w0 w (x0::x1::x::l):=H.perm (List.perm_middle (l₁:=[x0,x1])).symm
theorem Cx.v3{w0 w:World}{x0 x1 x2:It}{l:List It}{t:TypeId}{b N cap:Nat}{g:Nat→Value}(H:Cx w0 w (x0::x1::x2::bJ t b N cap g::l)):Vh t w b N cap g:=H.it _ (List.mem_cons_of_mem _ (List.mem_cons_of_mem _ (List.mem_cons_of_mem _ (List.mem_cons_self))))
theorem Its.v3{w:World}{x0 x1 x2:It}{l:List It}{t:TypeId}{b N cap:Nat}{g:Nat→Value}(H:Its (x0::x1::x2::bJ t b N cap g::l) w):Vh t w b N cap g:=H.it _ (List.mem_cons_of_mem _ (List.mem_cons_of_mem _ (List.mem_cons_of_mem _ (List.mem_cons_self))))
theorem Cx.o3{w0 w:World}{x0 x1 x2:It}{l:List It}{x:It}(H:Cx w0 w (x0::x1::x2::x::l)):x.p w:=H.it _ (List.mem_cons_of_mem _ (List.mem_cons_of_mem _ (List.mem_cons_of_mem _ (List.mem_cons_self))))
theorem Cx.p3{w0 w w':World}{x0 x1 x2:It}{l:List It}{x:It}(H:Cx w0 w (x0::x1::x2::x::l))(os:w'.os=w.os)(tape:w'.tape=w.tape)(output:w'.output=w.output)(size:w.heap.size≤w'.heap.size)(hk:∀k,k<w.heap.size→¬x.foot k→w'.heap[k]?=w.heap[k]?)(y:It)(hy:y.p w')(hf:∀j,y.foot j→x.foot j∨w.heap.size≤j):Cx w0 w' (x0::x1::x2::y::l):=Cx.put (a:=[x0,x1,x2]) H os tape output size hk y hy hf
theorem Cx.s3{w0 w w':World}{x0 x1 x2:It}{l:List It}{t:TypeId}{b N cap:Nat}{g g':Nat→Value}(H:Cx w0 w (x0::x1::x2::bJ t b N cap g::l))(k:Kept b w w')(m:Vh t w' b N cap g'):Cx w0 w' (x0::x1::x2::bJ t b N cap g'::l):=Cx.p3 H k.os k.tape k.output k.size (λj h1 h2=>k.block j h1 h2) (bJ t b N cap g') m (λ_ h=>Or.inl h)
theorem Cx.f3{w0 w:World}{x0 x1 x2:It}{x:It}{l:List It}(H:Cx w0 w (x0::x1::x2::x::l)):Cx w0 w (x::x0::x1::x2::l):=H.perm (List.perm_middle (l₁:=[x0,x1,x2]))
theorem Cx.b3{w0 w:World}{x0 x1 x2:It}{x:It}{l:List It}(H:Cx w0 w (x::x0::x1::x2::l)):Cx w0 w (x0::x1::x2::x::l):=H.perm (List.perm_middle (l₁:=[x0,x1,x2])).symm
theorem Cx.v4{w0 w:World}{x0 x1 x2 x3:It}{l:List It}{t:TypeId}{b N cap:Nat}{g:Nat→Value}(H:Cx w0 w (x0::x1::x2::x3::bJ t b N cap g::l)):Vh t w b N cap g:=H.it _ (List.mem_cons_of_mem _ (List.mem_cons_of_mem _ (List.mem_cons_of_mem _ (List.mem_cons_of_mem _ (List.mem_cons_self)))))
theorem Its.v4{w:World}{x0 x1 x2 x3:It}{l:List It}{t:TypeId}{b N cap:Nat}{g:Nat→Value}(H:Its (x0::x1::x2::x3::bJ t b N cap g::l) w):Vh t w b N cap g:=H.it _ (List.mem_cons_of_mem _ (List.mem_cons_of_mem _ (List.mem_cons_of_mem _ (List.mem_cons_of_mem _ (List.mem_cons_self)))))
theorem Cx.o4{w0 w:World}{x0 x1 x2 x3:It}{l:List It}{x:It}(H:Cx w0 w (x0::x1::x2::x3::x::l)):x.p w:=H.it _ (List.mem_cons_of_mem _ (List.mem_cons_of_mem _ (List.mem_cons_of_mem _ (List.mem_cons_of_mem _ (List.mem_cons_self)))))
theorem Cx.p4{w0 w w':World}{x0 x1 x2 x3:It}{l:List It}{x:It}(H:Cx w0 w (x0::x1::x2::x3::x::l))(os:w'.os=w.os)(tape:w'.tape=w.tape)(output:w'.output=w.output)(size:w.heap.size≤w'.heap.size)(hk:∀k,k<w.heap.size→¬x.foot k→w'.heap[k]?=w.heap[k]?)(y:It)(hy:y.p w')(hf:∀j,y.foot j→x.foot j∨w.heap.size≤j):Cx w0 w' (x0::x1::x2::x3::y::l):=Cx.put (a:=[x0,x1,x2,x3]) H os tape output size hk y hy hf
theorem Cx.s4{w0 w w':World}{x0 x1 x2 x3:It}{l:List It}{t:TypeId}{b N cap:Nat}{g g':Nat→Value}(H:Cx w0 w (x0::x1::x2::x3::bJ t b N cap g::l))(k:Kept b w w')(m:Vh t w' b N cap g'):Cx w0 w' (x0::x1::x2::x3::bJ t b N cap g'::l):=Cx.p4 H k.os k.tape k.output k.size (λj h1 h2=>k.block j h1 h2) (bJ t b N cap g') m (λ_ h=>Or.inl h)
theorem Cx.f4{w0 w:World}{x0 x1 x2 x3:It}{x:It}{l:List It}(H:Cx w0 w (x0::x1::x2::x3::x::l)):Cx w0 w (x::x0::x1::x2::x3::l):=H.perm (List.perm_middle (l₁:=[x0,x1,x2,x3]))
theorem Cx.b4{w0 w:World}{x0 x1 x2 x3:It}{x:It}{l:List It}(H:Cx w0 w (x::x0::x1::x2::x3::l)):Cx w0 w (x0::x1::x2::x3::x::l):=H.perm (List.perm_middle (l₁:=[x0,x1,x2,x3])).symm
theorem Cx.v5{w0 w:World}{x0 x1 x2 x3 x4:It}{l:List It}{t:TypeId}{b N cap:Nat}{g:Nat→Value}(H:Cx w0 w (x0::x1::x2::x3::x4::bJ t b N cap g::l)):Vh t w b N cap g:=H.it _ (List.mem_cons_of_mem _ (List.mem_cons_of_mem _ (List.mem_cons_of_mem _ (List.mem_cons_of_mem _ (List.mem_cons_of_mem _ (List.mem_cons_self))))))
theorem Its.v5{w:World}{x0 x1 x2 x3 x4:It}{l:List It}{t:TypeId}{b N cap:Nat}{g:Nat→Value}(H:Its (x0::x1::x2::x3::x4::bJ t b N cap g::l) w):Vh t w b N cap g:=H.it _ (List.mem_cons_of_mem _ (List.mem_cons_of_mem _ (List.mem_cons_of_mem _ (List.mem_cons_of_mem _ (List.mem_cons_of_mem _ (List.mem_cons_self))))))
theorem Cx.o5{w0 w:World}{x0 x1 x2 x3 x4:It}{l:List It}{x:It}(H:Cx w0 w (x0::x1::x2::x3::x4::x::l)):x.p w:=H.it _ (List.mem_cons_of_mem _ (List.mem_cons_of_mem _ (List.mem_cons_of_mem _ (List.mem_cons_of_mem _ (List.mem_cons_of_mem _ (List.mem_cons_self))))))
theorem Cx.p5{w0 w w':World}{x0 x1 x2 x3 x4:It}{l:List It}{x:It}(H:Cx w0 w (x0::x1::x2::x3::x4::x::l))(os:w'.os=w.os)(tape:w'.tape=w.tape)(output:w'.output=w.output)(size:w.heap.size≤w'.heap.size)(hk:∀k,k<w.heap.size→¬x.foot k→w'.heap[k]?=w.heap[k]?)(y:It)(hy:y.p w')(hf:∀j,y.foot j→x.foot j∨w.heap.size≤j):Cx w0 w' (x0::x1::x2::x3::x4::y::l):=Cx.put (a:=[x0,x1,x2,x3,x4]) H os tape output size hk y hy hf
theorem Cx.s5{w0 w w':World}{x0 x1 x2 x3 x4:It}{l:List It}{t:TypeId}{b N cap:Nat}{g g':Nat→Value}(H:Cx w0 w (x0::x1::x2::x3::x4::bJ t b N cap g::l))(k:Kept b w w')(m:Vh t w' b N cap g'):Cx w0 w' (x0::x1::x2::x3::x4::bJ t b N cap g'::l):=Cx.p5 H k.os k.tape k.output k.size (λj h1 h2=>k.block j h1 h2) (bJ t b N cap g') m (λ_ h=>Or.inl h)
theorem Cx.f5{w0 w:World}{x0 x1 x2 x3 x4:It}{x:It}{l:List It}(H:Cx w0 w (x0::x1::x2::x3::x4::x::l)):Cx w0 w (x::x0::x1::x2::x3::x4::l):=H.perm (List.perm_middle (l₁:=[x0,x1,x2,x3,x4]))
theorem Cx.b5{w0 w:World}{x0 x1 x2 x3 x4:It}{x:It}{l:List It}(H:Cx w0 w (x::x0::x1::x2::x3::x4::l)):Cx w0 w (x0::x1::x2::x3::x4::x::l):=H.perm (List.perm_middle (l₁:=[x0,x1,x2,x3,x4])).symm
theorem Cx.v6{w0 w:World}{x0 x1 x2 x3 x4 x5:It}{l:List It}{t:TypeId}{b N cap:Nat}{g:Nat→Value}(H:Cx w0 w (x0::x1::x2::x3::x4::x5::bJ t b N cap g::l)):Vh t w b N cap g:=H.it _ (List.mem_cons_of_mem _ (List.mem_cons_of_mem _ (List.mem_cons_of_mem _ (List.mem_cons_of_mem _ (List.mem_cons_of_mem _ (List.mem_cons_of_mem _ (List.mem_cons_self)))))))
theorem Its.v6{w:World}{x0 x1 x2 x3 x4 x5:It}{l:List It}{t:TypeId}{b N cap:Nat}{g:Nat→Value}(H:Its (x0::x1::x2::x3::x4::x5::bJ t b N cap g::l) w):Vh t w b N cap g:=H.it _ (List.mem_cons_of_mem _ (List.mem_cons_of_mem _ (List.mem_cons_of_mem _ (List.mem_cons_of_mem _ (List.mem_cons_of_mem _ (List.mem_cons_of_mem _ (List.mem_cons_self)))))))
theorem Cx.o6{w0 w:World}{x0 x1 x2 x3 x4 x5:It}{l:List It}{x:It}(H:Cx w0 w (x0::x1::x2::x3::x4::x5::x::l)):x.p w:=H.it _ (List.mem_cons_of_mem _ (List.mem_cons_of_mem _ (List.mem_cons_of_mem _ (List.mem_cons_of_mem _ (List.mem_cons_of_mem _ (List.mem_cons_of_mem _ (List.mem_cons_self)))))))
theorem Cx.p6{w0 w w':World}{x0 x1 x2 x3 x4 x5:It}{l:List It}{x:It}(H:Cx w0 w (x0::x1::x2::x3::x4::x5::x::l))(os:w'.os=w.os)(tape:w'.tape=w.tape)(output:w'.output=w.output)(size:w.heap.size≤w'.heap.size)(hk:∀k,k<w.heap.size→¬x.foot k→w'.heap[k]?=w.heap[k]?)(y:It)(hy:y.p w')(hf:∀j,y.foot j→x.foot j∨w.heap.size≤j):Cx w0 w' (x0::x1::x2::x3::x4::x5::y::l):=Cx.put (a:=[x0,x1,x2,x3,x4,x5]) H os tape output size hk y hy hf
theorem Cx.s6{w0 w w':World}{x0 x1 x2 x3 x4 x5:It}{l:List It}{t:TypeId}{b N cap:Nat}{g g':Nat→Value}(H:Cx w0 w (x0::x1::x2::x3::x4::x5::bJ t b N cap g::l))(k:Kept b w w')(m:Vh t w' b N cap g'):Cx w0 w' (x0::x1::x2::x3::x4::x5::bJ t b N cap g'::l):=Cx.p6 H k.os k.tape k.output k.size (λj h1 h2=>k.block j h1 h2) (bJ t b N cap g') m (λ_ h=>Or.inl h)
theorem Cx.f6{w0 w:World}{x0 x1 x2 x3 x4 x5:It}{x:It}{l:List It}(H:Cx w0 w (x0::x1::x2::x3::x4::x5::x::l)):Cx w0 w (x::x0::x1::x2::x3::x4::x5::l):=H.perm (List.perm_middle (l₁:=[x0,x1,x2,x3,x4,x5]))
theorem Cx.b6{w0 w:World}{x0 x1 x2 x3 x4 x5:It}{x:It}{l:List It}(H:Cx w0 w (x::x0::x1::x2::x3::x4::x5::l)):Cx w0 w (x0::x1::x2::x3::x4::x5::x::l):=H.perm (List.perm_middle (l₁:=[x0,x1,x2,x3,x4,x5])).symm
theorem Cx.v7{w0 w:World}{x0 x1 x2 x3 x4 x5 x6:It}{l:List It}{t:TypeId}{b N cap:Nat}{g:Nat→Value}(H:Cx w0 w (x0::x1::x2::x3::x4::x5::x6::bJ t b N cap g::l)):Vh t w b N cap g:=H.it _ (List.mem_cons_of_mem _ (List.mem_cons_of_mem _ (List.mem_cons_of_mem _ (List.mem_cons_of_mem _ (List.mem_cons_of_mem _ (List.mem_cons_of_mem _ (List.mem_cons_of_mem _ (List.mem_cons_self))))))))
theorem Its.v7{w:World}{x0 x1 x2 x3 x4 x5 x6:It}{l:List It}{t:TypeId}{b N cap:Nat}{g:Nat→Value}(H:Its (x0::x1::x2::x3::x4::x5::x6::bJ t b N cap g::l) w):Vh t w b N cap g:=H.it _ (List.mem_cons_of_mem _ (List.mem_cons_of_mem _ (List.mem_cons_of_mem _ (List.mem_cons_of_mem _ (List.mem_cons_of_mem _ (List.mem_cons_of_mem _ (List.mem_cons_of_mem _ (List.mem_cons_self))))))))
theorem Cx.o7{w0 w:World}{x0 x1 x2 x3 x4 x5 x6:It}{l:List It}{x:It}(H:Cx w0 w (x0::x1::x2::x3::x4::x5::x6::x::l)):x.p w:=H.it _ (List.mem_cons_of_mem _ (List.mem_cons_of_mem _ (List.mem_cons_of_mem _ (List.mem_cons_of_mem _ (List.mem_cons_of_mem _ (List.mem_cons_of_mem _ (List.mem_cons_of_mem _ (List.mem_cons_self))))))))
theorem Cx.p7{w0 w w':World}{x0 x1 x2 x3 x4 x5 x6:It}{l:List It}{x:It}(H:Cx w0 w (x0::x1::x2::x3::x4::x5::x6::x::l))(os:w'.os=w.os)(tape:w'.tape=w.tape)(output:w'.output=w.output)(size:w.heap.size≤w'.heap.size)(hk:∀k,k<w.heap.size→¬x.foot k→w'.heap[k]?=w.heap[k]?)(y:It)(hy:y.p w')(hf:∀j,y.foot j→x.foot j∨w.heap.size≤j):Cx w0 w' (x0::x1::x2::x3::x4::x5::x6::y::l):=Cx.put (a:=[x0,x1,x2,x3,x4,x5,x6]) H os tape output size hk y hy hf
theorem Cx.s7{w0 w w':World}{x0 x1 x2 x3 x4 x5 x6:It}{l:List It}{t:TypeId}{b N cap:Nat}{g g':Nat→Value}(H:Cx w0 w (x0::x1::x2::x3::x4::x5::x6::bJ t b N cap g::l))(k:Kept b w w')(m:Vh t w' b N cap g'):Cx w0 w' (x0::x1::x2::x3::x4::x5::x6::bJ t b N cap g'::l):=Cx.p7 H k.os k.tape k.output k.size (λj h1 h2=>k.block j h1 h2) (bJ t b N cap g') m (λ_ h=>Or.inl h)
theorem Cx.f7{w0 w:World}{x0 x1 x2 x3 x4 x5 x6:It}{x:It}{l:List It}(H:Cx w0 w (x0::x1::x2::x3::x4::x5::x6::x::l)):Cx w0 w (x::x0::x1::x2::x3::x4::x5::x6::l):=H.perm (List.perm_middle (l₁:=[x0,x1,x2,x3,x4,x5,x6]))
theorem Cx.b7{w0 w:World}{x0 x1 x2 x3 x4 x5 x6:It}{x:It}{l:List It}(H:Cx w0 w (x::x0::x1::x2::x3::x4::x5::x6::l)):Cx w0 w (x0::x1::x2::x3::x4::x5::x6::x::l):=H.perm (List.perm_middle (l₁:=[x0,x1,x2,x3,x4,x5,x6])).symm
theorem Cx.v8{w0 w:World}{x0 x1 x2 x3 x4 x5 x6 x7:It}{l:List It}{t:TypeId}{b N cap:Nat}{g:Nat→Value}(H:Cx w0 w (x0::x1::x2::x3::x4::x5::x6::x7::bJ t b N cap g::l)):Vh t w b N cap g:=H.it _ (List.mem_cons_of_mem _ (List.mem_cons_of_mem _ (List.mem_cons_of_mem _ (List.mem_cons_of_mem _ (List.mem_cons_of_mem _ (List.mem_cons_of_mem _ (List.mem_cons_of_mem _ (List.mem_cons_of_mem _ (List.mem_cons_self)))))))))
theorem Its.v8{w:World}{x0 x1 x2 x3 x4 x5 x6 x7:It}{l:List It}{t:TypeId}{b N cap:Nat}{g:Nat→Value}(H:Its (x0::x1::x2::x3::x4::x5::x6::x7::bJ t b N cap g::l) w):Vh t w b N cap g:=H.it _ (List.mem_cons_of_mem _ (List.mem_cons_of_mem _ (List.mem_cons_of_mem _ (List.mem_cons_of_mem _ (List.mem_cons_of_mem _ (List.mem_cons_of_mem _ (List.mem_cons_of_mem _ (List.mem_cons_of_mem _ (List.mem_cons_self)))))))))
theorem Cx.o8{w0 w:World}{x0 x1 x2 x3 x4 x5 x6 x7:It}{l:List It}{x:It}(H:Cx w0 w (x0::x1::x2::x3::x4::x5::x6::x7::x::l)):x.p w:=H.it _ (List.mem_cons_of_mem _ (List.mem_cons_of_mem _ (List.mem_cons_of_mem _ (List.mem_cons_of_mem _ (List.mem_cons_of_mem _ (List.mem_cons_of_mem _ (List.mem_cons_of_mem _ (List.mem_cons_of_mem _ (List.mem_cons_self)))))))))
theorem Cx.p8{w0 w w':World}{x0 x1 x2 x3 x4 x5 x6 x7:It}{l:List It}{x:It}(H:Cx w0 w (x0::x1::x2::x3::x4::x5::x6::x7::x::l))(os:w'.os=w.os)(tape:w'.tape=w.tape)(output:w'.output=w.output)(size:w.heap.size≤w'.heap.size)(hk:∀k,k<w.heap.size→¬x.foot k→w'.heap[k]?=w.heap[k]?)(y:It)(hy:y.p w')(hf:∀j,y.foot j→x.foot j∨w.heap.size≤j):Cx w0 w' (x0::x1::x2::x3::x4::x5::x6::x7::y::l):=Cx.put (a:=[x0,x1,x2,x3,x4,x5,x6,x7]) H os tape output size hk y hy hf
theorem Cx.s8{w0 w w':World}{x0 x1 x2 x3 x4 x5 x6 x7:It}{l:List It}{t:TypeId}{b N cap:Nat}{g g':Nat→Value}(H:Cx w0 w (x0::x1::x2::x3::x4::x5::x6::x7::bJ t b N cap g::l))(k:Kept b w w')(m:Vh t w' b N cap g'):Cx w0 w' (x0::x1::x2::x3::x4::x5::x6::x7::bJ t b N cap g'::l):=Cx.p8 H k.os k.tape k.output k.size (λj h1 h2=>k.block j h1 h2) (bJ t b N cap g') m (λ_ h=>Or.inl h)
theorem Cx.b8{w0 w:World}{x0 x1 x2 x3 x4 x5 x6 x7:It}{x:It}{l:List It}(H:Cx w0 w (x::x0::x1::x2::x3::x4::x5::x6::x7::l)):Cx w0 w (x0::x1::x2::x3::x4::x5::x6::x7::x::l):=H.perm (List.perm_middle (l₁:=[x0,x1,x2,x3,x4,x5,x6,x7])).symm
theorem Cx.v9{w0 w:World}{x0 x1 x2 x3 x4 x5 x6 x7 x8:It}{l:List It}{t:TypeId}{b N cap:Nat}{g:Nat→Value}(H:Cx w0 w (x0::x1::x2::x3::x4::x5::x6::x7::x8::bJ t b N cap g::l)):Vh t w b N cap g:=H.it _ (List.mem_cons_of_mem _ (List.mem_cons_of_mem _ (List.mem_cons_of_mem _ (List.mem_cons_of_mem _ (List.mem_cons_of_mem _ (List.mem_cons_of_mem _ (List.mem_cons_of_mem _ (List.mem_cons_of_mem _ (List.mem_cons_of_mem _ (List.mem_cons_self))))))))))
theorem Its.v9{w:World}{x0 x1 x2 x3 x4 x5 x6 x7 x8:It}{l:List It}{t:TypeId}{b N cap:Nat}{g:Nat→Value}(H:Its (x0::x1::x2::x3::x4::x5::x6::x7::x8::bJ t b N cap g::l) w):Vh t w b N cap g:=H.it _ (List.mem_cons_of_mem _ (List.mem_cons_of_mem _ (List.mem_cons_of_mem _ (List.mem_cons_of_mem _ (List.mem_cons_of_mem _ (List.mem_cons_of_mem _ (List.mem_cons_of_mem _ (List.mem_cons_of_mem _ (List.mem_cons_of_mem _ (List.mem_cons_self))))))))))
theorem Cx.o9{w0 w:World}{x0 x1 x2 x3 x4 x5 x6 x7 x8:It}{l:List It}{x:It}(H:Cx w0 w (x0::x1::x2::x3::x4::x5::x6::x7::x8::x::l)):x.p w:=H.it _ (List.mem_cons_of_mem _ (List.mem_cons_of_mem _ (List.mem_cons_of_mem _ (List.mem_cons_of_mem _ (List.mem_cons_of_mem _ (List.mem_cons_of_mem _ (List.mem_cons_of_mem _ (List.mem_cons_of_mem _ (List.mem_cons_of_mem _ (List.mem_cons_self))))))))))
theorem Cx.p9{w0 w w':World}{x0 x1 x2 x3 x4 x5 x6 x7 x8:It}{l:List It}{x:It}(H:Cx w0 w (x0::x1::x2::x3::x4::x5::x6::x7::x8::x::l))(os:w'.os=w.os)(tape:w'.tape=w.tape)(output:w'.output=w.output)(size:w.heap.size≤w'.heap.size)(hk:∀k,k<w.heap.size→¬x.foot k→w'.heap[k]?=w.heap[k]?)(y:It)(hy:y.p w')(hf:∀j,y.foot j→x.foot j∨w.heap.size≤j):Cx w0 w' (x0::x1::x2::x3::x4::x5::x6::x7::x8::y::l):=Cx.put (a:=[x0,x1,x2,x3,x4,x5,x6,x7,x8]) H os tape output size hk y hy hf
theorem Cx.s9{w0 w w':World}{x0 x1 x2 x3 x4 x5 x6 x7 x8:It}{l:List It}{t:TypeId}{b N cap:Nat}{g g':Nat→Value}(H:Cx w0 w (x0::x1::x2::x3::x4::x5::x6::x7::x8::bJ t b N cap g::l))(k:Kept b w w')(m:Vh t w' b N cap g'):Cx w0 w' (x0::x1::x2::x3::x4::x5::x6::x7::x8::bJ t b N cap g'::l):=Cx.p9 H k.os k.tape k.output k.size (λj h1 h2=>k.block j h1 h2) (bJ t b N cap g') m (λ_ h=>Or.inl h)
theorem Cx.b9{w0 w:World}{x0 x1 x2 x3 x4 x5 x6 x7 x8:It}{x:It}{l:List It}(H:Cx w0 w (x::x0::x1::x2::x3::x4::x5::x6::x7::x8::l)):Cx w0 w (x0::x1::x2::x3::x4::x5::x6::x7::x8::x::l):=H.perm (List.perm_middle (l₁:=[x0,x1,x2,x3,x4,x5,x6,x7,x8])).symm
class FldK (P:Program) (s:TypeId) (k:Nat) (d:outParam Nat):Prop where
 run:∀{f:Operand→Value} {o:Oper} {x:Operand} {b off:Nat},o.op=.fieldAddr s x k→f x=.pointer (some ⟨b,off,none⟩)→∀w,(execOp f o).run P w=.ok (.value (.pointer (some ⟨b,off+d,none⟩))) w
class ManyK (P:Program) (t:TypeId) (n:outParam Nat):Prop where
 out:Many P t n
class OneK (P:Program) (t:TypeId):Prop where
 out:OneC P t
class SizK (P:Program) (t:TypeId) (n:outParam Nat):Prop where
 out:∀w,(sizeOf t).run P w=.ok n w
class ArrK (P:Program) (s:TypeId) (len:outParam Nat) (e:outParam TypeId):Prop where
 out:P.underlying s=some (.array len e)
class SlcK (P:Program) (s:TypeId) (e:outParam TypeId):Prop where
 out:P.underlying s=some (.slice e)
class ZerK (P:Program) (t:TypeId) (n:outParam Nat) (f:outParam (Nat→Value)):Prop where
 out:∀w,(zeroValue t).run P w=.ok (aV f 0 n) w
class Zer1 (P:Program) (t:TypeId) (v:outParam Value):Prop where
 out:∀w,(zeroValue t).run P w=.ok v w
 one:v.cells=#[v]
class EntK (P:Program) (n:Nat):Prop where
 out:∀args w,(callFunc n args).run P w=.ok (.enter n args) w
class LenK (P:Program) (t:TypeId):Prop where
 run:∀{f:Operand→Value} {o:Oper} {x:Operand} {ao:Option Addr} {n c:Nat},o.op=.call { callee:=.builtin .len,args:=#[x],argTypes:=#[t] }→f x=.slice ao n c→∀w,(execOp f o).run P w=.ok (.value (.int .i64 ((n:Nat):Int))) w
instance {P:Program} {t:TypeId} {n:Nat} [h:ManyK P t n]:SizK P t n:=⟨h.out.size⟩
instance {P:Program} {t:TypeId} [h:OneK P t]:SizK P t 1:=⟨h.out.size⟩
section
variable {P:Program} {f:Operand→Value} {o:Oper}
theorem aDP(x:Operand)(ho:o.op=.nilCheck x){a:Addr}(hx:f x=.pointer (some a))(w:World):(execOp f o).run P w=.ok (.value (.pointer (some a))) w:=by
 unfold execOp
 rw[ho]
 dsimp only
 rw[hx]
 rfl
theorem nL (s e : TypeId) (x y : Operand) (ho : o.op = .indexAddr s x y) {n : Nat} (hu : P.underlying s = some (.slice e)) (hs : ∀ w, (sizeOf e).run P w = .ok n w) {b off i len cap : Nat} {z : Int} (hx : f x = .slice (some ⟨b, off, none⟩) len cap) (hy : f y = .int .i64 z) (hz : z = (i : Int)) (hi : i < len) (w : World) :
  (execOp f o).run P w=.ok (.value (.pointer (some ⟨b,off+i*n,none⟩))) w:=by
 subst hz
 have h2:(i:Int)<(len:Int):=Yo
 unfold execOp
 simp only[ho,hx,hy,Instr.indexAt,asIntOf,Instr.sureAddr,Sem.run_bind,Sem.run_pure,Result.andThen_ok,run_underlying hu,add_at]
 simp[h2,hs]
theorem aAy {ty : TypeId} {x : Operand} {n : Nat} (T : Many P ty n) {b off : Nat} {g : Nat → Value} {w : World} (hc : ∀ k, k < n → w.cell? ⟨b, off + k, none⟩ = some (g k)) (ho : o.op = .load ty x) (hx : f x = .pointer (some ⟨b, off, none⟩)) :
  (execOp f o).run P w=.ok (.value (aV g 0 n)) w:=by
 have hl:(loadCells ⟨b,off,none⟩ n).run P w=.ok ((List.range n).map λj=>g (0+j)).toArray w:=
  run_loadCells w ⟨b,off,none⟩ n (λj=>g (0+j)) (λj hj=>by rw[add_at,Nat.zero_add];exact hc j hj)
 unfold execOp
 simp only[ho,hx,Instr.loadAt,Instr.sureAddr,loadVar,Sem.run_bind,Sem.run_pure,Result.andThen_ok,T.agg,T.size,hl,if_true]
 rfl
theorem aGe(fn:Fn)(xs:Array Operand)(ho:o.op=.makeFunc fn #[] xs){vs:Array Value}(hx:xs.map f=vs)(w:World):(execOp f o).run P w=.ok (.value (.func fn #[] vs)) w:=by
 unfold execOp
 rw[ho]
 dsimp only
 rw[hx]
 go_simp
theorem aPk(a:Act)(n:Nat):a.eval (.func n)=.func (.func n) #[] #[]:=rfl
end
theorem Qv{p:Prop}(h:p:=by first|exact aHK rfl Yo|exact aB rfl (by assumption)|exact aG _ _|exact aPk _ _):p:=h
theorem Qh{p:Prop}(h:p:=by first|exact H.v0|exact H.v1|exact H.v2|exact H.v3|exact H.v4|exact H.v5|exact H.v6|exact H.v7|exact H.v8|exact H.v9|exact Vh.below G0 H.bel|exact Vh.below G1 H.bel|exact Vh.below G2 H.bel|assumption):p:=h
section
variable {P:Program} {ops:Array Oper} {Q:Exit→Act→World→Prop} {A:Act} {L:List (Nat×Value)} {w0 w:World} {rest:List Oper} {o:Oper} {d:Nat} {v:Value} {l:List It}
theorem qa (h : LstI P ops Q rest (aM A ((d, v) :: L)) w) (hd : o.dst = some d := by rfl) (hw : Region.wanted o (yielded ops (aM A L).tmps) = true := by first | exact cO rfl | exact bC rfl rfl rfl Qv)
  (hy:(execOp (aM A L).eval o).run P w=.ok (.value v) w:=by first
   |exact aH _ rfl Qv _
   |exact jP _ rfl Qv _
   |exact FldK.run rfl Qv _
   |exact aN _ _ rfl OneK.out Qv Qh Yo rfl
   |exact aP _ _ rfl ManyK.out Qv Qh Yo
   |exact aDP _ rfl Qv _
   |exact dP _ _ _ _ rfl ArrK.out SizK.out Qv Qv rfl Yo _
   |exact nL _ _ _ _ rfl SlcK.out SizK.out Qv Qv rfl Yo _
   |exact jJ _ _ _ _ rfl ArrK.out ManyK.out Qv rfl Qv rfl Yo _
   |exact mV _ _ _ _ rfl ArrK.out OneK.out Qv Qv rfl Yo _
   |exact LenK.run rfl Qv _
   |exact aZ _ _ rfl Qv Qv rfl _
   |exact kG _ _ rfl Qv Qv rfl _
   |exact dA _ _ rfl Qv Qv rfl _
   |exact eQ _ _ rfl Qv Qv rfl _
   |exact zY _ _ rfl Qv Qv rfl _
   |exact iR _ _ rfl Qv Qv rfl _
   |exact vB _ _ rfl Qv Qv rfl _
   |exact zT _ _ rfl Qv Qv rfl _
   |exact bW _ _ rfl Qv Qv Yo Yo _
   |exact zH _ _ rfl Qv Qv Yo Yo _
   |exact dQ _ _ rfl Qv _
   |exact mX _ rfl Qv _
   |exact mW _ rfl Qv _
   |exact kZ _ rfl Qv _
   |exact kV _ rfl Qv _
   |exact kY _ rfl Qv _):LstI P ops Q (o::rest) (aM A L) w:=aHi hd hw hy h
theorem uZ(h:LstI P ops Q rest (aM A ((d,undef)::L)) w)(hd:o.dst=some d:=by rfl)(hw:Region.wanted o (yielded ops (aM A L).tmps)=false:=by first|exact eB rfl rfl rfl Qv Yc|exact aMf rfl rfl rfl Qv):LstI P ops Q (o::rest) (aM A L) w:=aJq hd hw h
theorem qg(hy:(execOp (aM A L).eval o).run P w=.ok (.value v) w)(h:LstI P ops Q rest (aM A ((d,v)::L)) w)(hd:o.dst=some d:=by rfl)(hw:Region.wanted o (yielded ops (aM A L).tmps)=true:=by first|exact cO rfl|exact bC rfl rfl rfl Qv):LstI P ops Q (o::rest) (aM A L) w:=aHi hd hw hy h
variable {S:World→Prop} {late:Nat→Bool} {i:Nat} {r:PlanJ}
theorem qj (h : SeqJ P ops Q S late r (aM A ((d, v) :: L)) w) (ho : ops[i]? = some o := by rfl) (hd : o.dst = some d := by rfl) (hQ : ∀ c a w, Q (.panic c) (a.put (some d) v) w → Q (.panic c) a w := by exact λ_ _ _ h => h) (hw : Region.wanted o (yielded ops (aM A L).tmps) = true := by first | exact cO rfl | exact bC rfl rfl rfl Qv)
  (hy:∀w,(execOp (aM A L).eval o).run P w=.ok (.value v) w:=by first
   |exact λw=>aH _ rfl Qv w
   |exact λw=>jP _ rfl Qv w
   |exact λw=>FldK.run rfl Qv w
   |exact λw=>aDP _ rfl Qv w
   |exact λw=>dP _ _ _ _ rfl ArrK.out SizK.out Qv Qv rfl Yo w
   |exact λw=>nL _ _ _ _ rfl SlcK.out SizK.out Qv Qv rfl Yo w
   |exact λw=>jJ _ _ _ _ rfl ArrK.out ManyK.out Qv rfl Qv rfl Yo w
   |exact λw=>mV _ _ _ _ rfl ArrK.out OneK.out Qv Qv rfl Yo w
   |exact λw=>LenK.run rfl Qv w
   |exact λw=>aZ _ _ rfl Qv Qv rfl w
   |exact λw=>kG _ _ rfl Qv Qv rfl w
   |exact λw=>dA _ _ rfl Qv Qv rfl w
   |exact λw=>eQ _ _ rfl Qv Qv rfl w
   |exact λw=>zY _ _ rfl Qv Qv rfl w
   |exact λw=>iR _ _ rfl Qv Qv rfl w
   |exact λw=>vB _ _ rfl Qv Qv rfl w
   |exact λw=>zT _ _ rfl Qv Qv rfl w
   |exact λw=>bW _ _ rfl Qv Qv Yo Yo w
   |exact λw=>zH _ _ rfl Qv Qv Yo Yo w
   |exact λw=>dQ _ _ rfl Qv w
   |exact λw=>mX _ rfl Qv w
   |exact λw=>mW _ rfl Qv w
   |exact λw=>kZ _ rfl Qv w
   |exact λw=>kV _ rfl Qv w
   |exact λw=>kY _ rfl Qv w):SeqJ P ops Q S late (.mv i r) (aM A L) w:=aBy ho hd hQ hw hy h
theorem qr (hS : S w) (h : SeqJ P ops Q S late r (aM A ((d, v) :: L)) w) (ho : ops[i]? = some o := by rfl) (hd : o.dst = some d := by rfl) (hQ : ∀ c a w, Q (.panic c) (a.put (some d) v) w → Q (.panic c) a w := by exact λ_ _ _ h => h) (hw : Region.wanted o (yielded ops (aM A L).tmps) = true := by first | exact cO rfl | exact bC rfl rfl rfl Qv)
  (hy:∀w,S w→(execOp (aM A L).eval o).run P w=.ok (.value v) w:=by first
   |exact λ_ H=>aN _ _ rfl OneK.out Qv Qh Yo rfl
   |exact λ_ H=>aP _ _ rfl ManyK.out Qv Qh Yo):SeqJ P ops Q S late (.rd i r) (aM A L) w:=aSq ho hd hQ hw hS hy h
theorem lY (H : Cx w0 w l) {ty : TypeId} {n : Nat} {f : Nat → Value}
  (h:∀w',Cx w0 w' (bJ ty w.heap.size n n f::l)→w'.heap.size=w.heap.size+1→LstI P ops Q rest (aM A ((d,.pointer (some ⟨w.heap.size,0,none⟩))::L)) w')
  (ho:o.op=.alloc ty:=by rfl) (Z:ZerK P ty n f:=by infer_instance) (hn:n≤maxLen:=by exact of_decide_eq_true rfl) (hd:o.dst=some d:=by rfl) (hw:Region.wanted o (yielded ops (aM A L).tmps)=true:=by exact cO rfl):LstI P ops Q (o::rest) (aM A L) w:=
 aS hd hw (λ_ hK=>aT w ty ho Z.out hn (λw' m k z=>hK _ _ (h w' (H.add k _ m (λj (e:j=_)=>Nat.le_of_eq e.symm)) z)))
theorem aIG {a : Act} {K : Act → World → Prop} (w : World) (ty : TypeId) (ho : o.op = .alloc ty) (hz : ∀ w, (zeroValue ty).run P w = .ok v w) (h1 : v.cells = #[v])
  (h:∀w',Vh ty w' w.heap.size 1 1 (λ_=>v)→Below w.heap.size w w'→w'.heap.size=w.heap.size+1→K (a.put o.dst (.pointer (some ⟨w.heap.size,0,none⟩))) w'):WpI P o a w K Q:=by
 refine⟨?_⟩
 have hh:=h (w.alloc (.cells ((List.range 1).map λ_=>v).toArray ty)) (Vh.of_row _ 1 Yc (by show (w.heap.push _)[w.heap.size]?=_;rw[Array.getElem?_push_size])) (bR _ _) (dC _ _)
 unfold Oper.wp execOp
 simp only[ho,Instr.alloc,newVar,newRow,newObj,Sem.run_bind,hz,Result.andThen_ok,h1]
 go_simp
 exact hh
theorem aTn (H : Cx w0 w l) {ty : TypeId}
  (h:∀w',Cx w0 w' (bJ ty w.heap.size 1 1 (λ_=>v)::l)→w'.heap.size=w.heap.size+1→LstI P ops Q rest (aM A ((d,.pointer (some ⟨w.heap.size,0,none⟩))::L)) w')
  (ho:o.op=.alloc ty:=by rfl) (Z:Zer1 P ty v:=by infer_instance) (hd:o.dst=some d:=by rfl) (hw:Region.wanted o (yielded ops (aM A L).tmps)=true:=by exact cO rfl):LstI P ops Q (o::rest) (aM A L) w:=
 aS hd hw (λ_ hK=>aIG w ty ho Z.out Z.one (λw' m k z=>hK _ _ (h w' (H.add k _ m (λj (e:j=_)=>Nat.le_of_eq e.symm)) z)))
theorem oF (H : Cx w0 w l) {ty : TypeId} {x : Operand} {n : Nat} {f : Nat → Value}
  (h:∀w',Cx w0 w' (bJ ty w.heap.size n n f::l)→w'.heap.size=w.heap.size+1→LstI P ops Q rest (aM A ((d,.pointer (some ⟨w.heap.size,0,none⟩))::L)) w')
  (ho:o.op=.box ty x:=by rfl) (hx:(aM A L).eval x=aV f 0 n:=by exact Qv) (hn:n≤maxLen:=by exact of_decide_eq_true rfl) (hd:o.dst=some d:=by rfl) (hw:Region.wanted o (yielded ops (aM A L).tmps)=true:=by exact cO rfl):LstI P ops Q (o::rest) (aM A L) w:=
 aS hd hw (λ_ hK=>dX w ty x ho hx hn (λw' m k z=>hK _ _ (h w' (H.add k _ m (λj (e:j=_)=>Nat.le_of_eq e.symm)) z)))
theorem aNV {a : Act} {K : Act → World → Prop} (w : World) (ty : TypeId) (x : Operand) (ho : o.op = .box ty x) (hx : a.eval x = v) (h1 : v.cells = #[v])
  (h:∀w',Vh ty w' w.heap.size 1 1 (λ_=>v)→Below w.heap.size w w'→w'.heap.size=w.heap.size+1→K (a.put o.dst (.pointer (some ⟨w.heap.size,0,none⟩))) w'):WpI P o a w K Q:=by
 refine⟨?_⟩
 have hh:=h (w.alloc (.cells ((List.range 1).map λ_=>v).toArray ty)) (Vh.of_row _ 1 Yc (by show (w.heap.push _)[w.heap.size]?=_;rw[Array.getElem?_push_size])) (bR _ _) (dC _ _)
 unfold Oper.wp execOp
 simp only[ho,hx,Instr.box,newVar,newRow,newObj,h1]
 go_simp
 exact hh
theorem aRt (H : Cx w0 w l) {ty : TypeId} {x : Operand}
  (h:∀w',Cx w0 w' (bJ ty w.heap.size 1 1 (λ_=>v)::l)→w'.heap.size=w.heap.size+1→LstI P ops Q rest (aM A ((d,.pointer (some ⟨w.heap.size,0,none⟩))::L)) w')
  (ho:o.op=.box ty x:=by rfl) (hx:(aM A L).eval x=v:=by exact Qv) (h1:v.cells=#[v]:=by rfl) (hd:o.dst=some d:=by rfl) (hw:Region.wanted o (yielded ops (aM A L).tmps)=true:=by exact cO rfl):LstI P ops Q (o::rest) (aM A L) w:=
 aS hd hw (λ_ hK=>aNV w ty x ho hx h1 (λw' m k z=>hK _ _ (h w' (H.add k _ m (λj (e:j=_)=>Nat.le_of_eq e.symm)) z)))
theorem mR {ty t : TypeId} {x y : Operand} {b q n N cap : Nat} {g g' f : Nat → Value} (H : Cx w0 w (bJ t b N cap g :: l)) (e : ∀ j, j < N → fG g q n f j = g' j) (h1 : ∀ j, j < n → (f j).oneCell' = true)
  (h:∀w',Cx w0 w' (bJ t b N cap g'::l)→w'.heap.size=w.heap.size→LstI P ops Q rest (aM A L) w')
  (ho:o.op=.store ty x y:=by rfl) (T:ManyK P ty n:=by infer_instance) (hx:(aM A L).eval x=.pointer (some ⟨b,q,none⟩):=by exact Qv) (hy:(aM A L).eval y=aV f 0 n:=by exact Qv) (hn:q+n≤N:=by omega) (hd:o.dst=none:=by rfl) (hw:Region.wanted o (yielded ops (aM A L).tmps)=true:=by exact cO rfl):LstI P ops Q (o::rest) (aM A L) w:=
 bS hw (λ_ hK=>aI w ty x y ho T.out hx hy H.v0 hn h1 hd (λw' m k z=>hK _ (h w' (H.s0 k (m.congr e)) z)))
theorem aTq {ty t : TypeId} {x0 : It} {x y : Operand} {b q N cap : Nat} {g g' : Nat → Value} {u : Value} (H : Cx w0 w (x0 :: bJ t b N cap g :: l)) (e : ∀ j, j < N → iJ g q u j = g' j)
  (h:∀w',Cx w0 w' (x0::bJ t b N cap g'::l)→w'.heap.size=w.heap.size→LstI P ops Q rest (aM A L) w')
  (ho:o.op=.store ty x y:=by rfl) (T:OneK P ty:=by infer_instance) (hx:(aM A L).eval x=.pointer (some ⟨b,q,none⟩):=by exact Qv) (hy:(aM A L).eval y=u:=by exact Qv) (hn:q<N:=by omega) (h1:u.oneCell'=true:=by rfl) (h2:u.cells=#[u]:=by rfl) (hd:o.dst=none:=by rfl) (hw:Region.wanted o (yielded ops (aM A L).tmps)=true:=by exact cO rfl):LstI P ops Q (o::rest) (aM A L) w:=
 bS hw (λ_ hK=>iH w ty x y ho T.out hx hy H.v1 hn h1 h2 hd (λw' m k z=>hK _ (h w' (H.s1 k (m.congr e)) z)))
theorem aSS {ty t : TypeId} {x0 : It} {x y : Operand} {b q n N cap : Nat} {g g' f : Nat → Value} (H : Cx w0 w (x0 :: bJ t b N cap g :: l)) (e : ∀ j, j < N → fG g q n f j = g' j) (h1 : ∀ j, j < n → (f j).oneCell' = true)
  (h:∀w',Cx w0 w' (x0::bJ t b N cap g'::l)→w'.heap.size=w.heap.size→LstI P ops Q rest (aM A L) w')
  (ho:o.op=.store ty x y:=by rfl) (T:ManyK P ty n:=by infer_instance) (hx:(aM A L).eval x=.pointer (some ⟨b,q,none⟩):=by exact Qv) (hy:(aM A L).eval y=aV f 0 n:=by exact Qv) (hn:q+n≤N:=by omega) (hd:o.dst=none:=by rfl) (hw:Region.wanted o (yielded ops (aM A L).tmps)=true:=by exact cO rfl):LstI P ops Q (o::rest) (aM A L) w:=
 bS hw (λ_ hK=>aI w ty x y ho T.out hx hy H.v1 hn h1 hd (λw' m k z=>hK _ (h w' (H.s1 k (m.congr e)) z)))
theorem aTy {ty t : TypeId} {x0 x1 : It} {x y : Operand} {b q N cap : Nat} {g g' : Nat → Value} {u : Value} (H : Cx w0 w (x0 :: x1 :: bJ t b N cap g :: l)) (e : ∀ j, j < N → iJ g q u j = g' j)
  (h:∀w',Cx w0 w' (x0::x1::bJ t b N cap g'::l)→w'.heap.size=w.heap.size→LstI P ops Q rest (aM A L) w')
  (ho:o.op=.store ty x y:=by rfl) (T:OneK P ty:=by infer_instance) (hx:(aM A L).eval x=.pointer (some ⟨b,q,none⟩):=by exact Qv) (hy:(aM A L).eval y=u:=by exact Qv) (hn:q<N:=by omega) (h1:u.oneCell'=true:=by rfl) (h2:u.cells=#[u]:=by rfl) (hd:o.dst=none:=by rfl) (hw:Region.wanted o (yielded ops (aM A L).tmps)=true:=by exact cO rfl):LstI P ops Q (o::rest) (aM A L) w:=
 bS hw (λ_ hK=>iH w ty x y ho T.out hx hy H.v2 hn h1 h2 hd (λw' m k z=>hK _ (h w' (H.s2 k (m.congr e)) z)))
theorem aNN {ty t : TypeId} {x0 x1 : It} {x y : Operand} {b q n N cap : Nat} {g g' f : Nat → Value} (H : Cx w0 w (x0 :: x1 :: bJ t b N cap g :: l)) (e : ∀ j, j < N → fG g q n f j = g' j) (h1 : ∀ j, j < n → (f j).oneCell' = true)
  (h:∀w',Cx w0 w' (x0::x1::bJ t b N cap g'::l)→w'.heap.size=w.heap.size→LstI P ops Q rest (aM A L) w')
  (ho:o.op=.store ty x y:=by rfl) (T:ManyK P ty n:=by infer_instance) (hx:(aM A L).eval x=.pointer (some ⟨b,q,none⟩):=by exact Qv) (hy:(aM A L).eval y=aV f 0 n:=by exact Qv) (hn:q+n≤N:=by omega) (hd:o.dst=none:=by rfl) (hw:Region.wanted o (yielded ops (aM A L).tmps)=true:=by exact cO rfl):LstI P ops Q (o::rest) (aM A L) w:=
 bS hw (λ_ hK=>aI w ty x y ho T.out hx hy H.v2 hn h1 hd (λw' m k z=>hK _ (h w' (H.s2 k (m.congr e)) z)))
theorem aTu {ty t : TypeId} {x0 x1 x2 : It} {x y : Operand} {b q n N cap : Nat} {g g' f : Nat → Value} (H : Cx w0 w (x0 :: x1 :: x2 :: bJ t b N cap g :: l)) (e : ∀ j, j < N → fG g q n f j = g' j) (h1 : ∀ j, j < n → (f j).oneCell' = true)
  (h:∀w',Cx w0 w' (x0::x1::x2::bJ t b N cap g'::l)→w'.heap.size=w.heap.size→LstI P ops Q rest (aM A L) w')
  (ho:o.op=.store ty x y:=by rfl) (T:ManyK P ty n:=by infer_instance) (hx:(aM A L).eval x=.pointer (some ⟨b,q,none⟩):=by exact Qv) (hy:(aM A L).eval y=aV f 0 n:=by exact Qv) (hn:q+n≤N:=by omega) (hd:o.dst=none:=by rfl) (hw:Region.wanted o (yielded ops (aM A L).tmps)=true:=by exact cO rfl):LstI P ops Q (o::rest) (aM A L) w:=
 bS hw (λ_ hK=>aI w ty x y ho T.out hx hy H.v3 hn h1 hd (λw' m k z=>hK _ (h w' (H.s3 k (m.congr e)) z)))
theorem aNm {ty t : TypeId} {x0 x1 x2 x3 : It} {x y : Operand} {b q n N cap : Nat} {g g' f : Nat → Value} (H : Cx w0 w (x0 :: x1 :: x2 :: x3 :: bJ t b N cap g :: l)) (e : ∀ j, j < N → fG g q n f j = g' j) (h1 : ∀ j, j < n → (f j).oneCell' = true)
  (h:∀w',Cx w0 w' (x0::x1::x2::x3::bJ t b N cap g'::l)→w'.heap.size=w.heap.size→LstI P ops Q rest (aM A L) w')
  (ho:o.op=.store ty x y:=by rfl) (T:ManyK P ty n:=by infer_instance) (hx:(aM A L).eval x=.pointer (some ⟨b,q,none⟩):=by exact Qv) (hy:(aM A L).eval y=aV f 0 n:=by exact Qv) (hn:q+n≤N:=by omega) (hd:o.dst=none:=by rfl) (hw:Region.wanted o (yielded ops (aM A L).tmps)=true:=by exact cO rfl):LstI P ops Q (o::rest) (aM A L) w:=
 bS hw (λ_ hK=>aI w ty x y ho T.out hx hy H.v4 hn h1 hd (λw' m k z=>hK _ (h w' (H.s4 k (m.congr e)) z)))
theorem aTc {ty t : TypeId} {x0 x1 x2 x3 x4 : It} {x y : Operand} {b q n N cap : Nat} {g g' f : Nat → Value} (H : Cx w0 w (x0 :: x1 :: x2 :: x3 :: x4 :: bJ t b N cap g :: l)) (e : ∀ j, j < N → fG g q n f j = g' j) (h1 : ∀ j, j < n → (f j).oneCell' = true)
  (h:∀w',Cx w0 w' (x0::x1::x2::x3::x4::bJ t b N cap g'::l)→w'.heap.size=w.heap.size→LstI P ops Q rest (aM A L) w')
  (ho:o.op=.store ty x y:=by rfl) (T:ManyK P ty n:=by infer_instance) (hx:(aM A L).eval x=.pointer (some ⟨b,q,none⟩):=by exact Qv) (hy:(aM A L).eval y=aV f 0 n:=by exact Qv) (hn:q+n≤N:=by omega) (hd:o.dst=none:=by rfl) (hw:Region.wanted o (yielded ops (aM A L).tmps)=true:=by exact cO rfl):LstI P ops Q (o::rest) (aM A L) w:=
 bS hw (λ_ hK=>aI w ty x y ho T.out hx hy H.v5 hn h1 hd (λw' m k z=>hK _ (h w' (H.s5 k (m.congr e)) z)))
theorem aRR {n : Nat} {T : Array TypeId} [E : EntK P n] {R : Ending → World → Prop} (hc : Calls P n #[] w R)
  (h:∀e w',R e w'→∃r,e=.returned r∧LstI P ops Q rest (aM A ((d,r)::L)) w') (ho:o.op=.call { callee:=.value (.func n),args:=#[],argTypes:=T }:=by rfl) (hd:o.dst=some d:=by rfl) (hw:Region.wanted o (yielded ops (aM A L).tmps)=true:=by exact cO rfl):LstI P ops Q (o::rest) (aM A L) w:=
 aS hd hw (λ_ hK=>aBl w n T ho (E.out _ _) hc (λe w' hr=>by obtain⟨r,h1,h2⟩:=h e w' hr;exact⟨r,h1,hK _ _ h2⟩))
theorem xU {n : Nat} {x : Operand} {T : Array TypeId} [E : EntK P n] {u : Value} {R : Ending → World → Prop} (hc : Calls P n #[u] w R)
  (h:∀e w',R e w'→∃r,e=.returned r∧LstI P ops Q rest (aM A ((d,r)::L)) w') (ho:o.op=.call { callee:=.value (.func n),args:=#[x],argTypes:=T }:=by rfl) (hx:(aM A L).eval x=u:=by exact Qv) (hd:o.dst=some d:=by rfl) (hw:Region.wanted o (yielded ops (aM A L).tmps)=true:=by exact cO rfl):LstI P ops Q (o::rest) (aM A L) w:=
 aS hd hw (λ_ hK=>bN w n x T ho hx (E.out _ _) hc (λe w' hr=>by obtain⟨r,h1,h2⟩:=h e w' hr;exact⟨r,h1,hK _ _ h2⟩))
theorem uB {n : Nat} {x y : Operand} {T : Array TypeId} [E : EntK P n] {u u2 : Value} {R : Ending → World → Prop} (hc : Calls P n #[u, u2] w R)
  (h:∀e w',R e w'→∃r,e=.returned r∧LstI P ops Q rest (aM A ((d,r)::L)) w') (ho:o.op=.call { callee:=.value (.func n),args:=#[x,y],argTypes:=T }:=by rfl) (hx:(aM A L).eval x=u:=by exact Qv) (hy:(aM A L).eval y=u2:=by exact Qv) (hd:o.dst=some d:=by rfl) (hw:Region.wanted o (yielded ops (aM A L).tmps)=true:=by exact cO rfl):LstI P ops Q (o::rest) (aM A L) w:=
 aS hd hw (λ_ hK=>dB w n x y T ho hx hy (E.out _ _) hc (λe w' hr=>by obtain⟨r,h1,h2⟩:=h e w' hr;exact⟨r,h1,hK _ _ h2⟩))
theorem aQZ {n : Nat} {x y z : Operand} {T : Array TypeId} [E : EntK P n] {u u2 u3 : Value} {R : Ending → World → Prop} (hc : Calls P n #[u, u2, u3] w R)
  (h:∀e w',R e w'→∃r,e=.returned r∧LstI P ops Q rest (aM A ((d,r)::L)) w') (ho:o.op=.call { callee:=.value (.func n),args:=#[x,y,z],argTypes:=T }:=by rfl) (hx:(aM A L).eval x=u:=by exact Qv) (hy:(aM A L).eval y=u2:=by exact Qv) (hz:(aM A L).eval z=u3:=by exact Qv) (hd:o.dst=some d:=by rfl) (hw:Region.wanted o (yielded ops (aM A L).tmps)=true:=by exact cO rfl):LstI P ops Q (o::rest) (aM A L) w:=
 aS hd hw (λ_ hK=>gQ w n x y z T ho hx hy hz (E.out _ _) hc (λe w' hr=>by obtain⟨r,h1,h2⟩:=h e w' hr;exact⟨r,h1,hK _ _ h2⟩))
end
section
variable {P:Program} {Q:Exit→Act→World→Prop} {a:Act} {w:World} {y:Code} {J:Act→World→Prop} {id:Nat}
theorem uT(h:Q .ret a w):Nx P y Q .ret a w:=h
theorem aTX(h:Q .ret a w):Exit.then J Q .ret a w:=h
theorem aSu(h:Q .ret a w):Exit.inBlock id Q .ret a w:=h
end
theorem lK{P:Program}{Q:Exit→Act→World→Prop}{A:Act}{L:List (Nat×Value)}{w:World}{c:Operand}{x y:Code}{t:Bool}(h1:t=true→CodI P x Q (aM A L) w)(h2:t=false→CodI P y Q (aM A L) w)(hc:(aM A L).eval c=.bool t:=by exact Qv):CodI P (.cond c x y) Q (aM A L) w:=oW hc h1 h2
theorem aAO{P:Program}{Q:Exit→Act→World→Prop}{A:Act}{L:List (Nat×Value)}{w:World}{c:Operand}{x y:Code}{t:Bool}(ht:t=true)(h:CodI P x Q (aM A L) w)(hc:(aM A L).eval c=.bool t:=by exact Qv):CodI P (.cond c x y) Q (aM A L) w:=oW hc (λ_=>h) (λe=>by rw[ht] at e;cases e)
theorem aEC{P:Program}{Q:Exit→Act→World→Prop}{A:Act}{L:List (Nat×Value)}{w:World}{c:Operand}{x y:Code}{t:Bool}(ht:t=false)(h:CodI P y Q (aM A L) w)(hc:(aM A L).eval c=.bool t:=by exact Qv):CodI P (.cond c x y) Q (aM A L) w:=oW hc (λe=>by rw[ht] at e;cases e) (λ_=>h)
class InfK (P:Program) (t:TypeId) (e:outParam TypeId) (size bytes:outParam Nat):Prop where
 sl:P.underlying t=some (.slice e)
 inf:∃i z,P.info? e=some i∧i.zero=some z∧i.size=size∧i.bytes=bytes∧z.cells.size=size
 pos:0<size
def Rdc(w:World)(size:Nat)(x:Value)(m:Nat)(news:List Value):Prop:=(x=.slice none 0 0∧m=0∧news=[])∨∃ad c,x=.slice (some ad) m c∧news.length=m*size∧∀j u,news[j]?=some u→w.cell? (ad.add j)=some u
section
variable {P:Program} {t e:TypeId} {size bytes:Nat} {w:World}
theorem aGr{B:Nat}{v:Value}{n:Nat}{xs:List Value}(h:w.ownsRow B e size v n xs):Rdc w size v n xs:=by
 have hl:=h.1
 rcases h.2 with ⟨rfl,rfl⟩|⟨g,cap,cur,rfl,hb,hg,hc,hm,hsz,hcur⟩
 ·exact Or.inl ⟨rfl,rfl,by simpa using hl⟩
 ·exact Or.inr ⟨⟨g,0,none⟩,cap,rfl,hl,λj u hj=>h.cells (g:=g) rfl j u hj⟩
theorem aMC (I : InfK P t e size bytes) {B : Nat} (hB : B ≤ w.heap.size) (ty : TypeId) {v x : Value} {n m : Nat} {xs news : List Value} (hown : w.ownsRow B e size v n xs) (hx : Rdc w size x m news) (h1 : ∀ u ∈ news, u.oneCell' = true) (h63 : n + m ≤ maxLen) (hby : (n + m) * bytes ≤ 140737488355328) :
  ∃v' w',(Builtin.append_ #[t,t] ty #[v,x]).run P w=.ok v' w'∧w'.ownsRow B e size v' (n+m) (xs++news)∧w.grownBy w' v.ownBlock∧∀k,v'.ownBlock=some k→v.ownBlock=some k∨w.heap.size≤k:=by
 obtain⟨i0,z,hi,hz0,hz1,hz2,hz3⟩:=I.inf
 rcases hx with ⟨rfl,rfl,rfl⟩|⟨ad,c,rfl,hl,hnews⟩
 ·have hrun:=run_append_owned_none (P:=P) (w:=w) B t ty e i0 size I.sl hi v n xs hown
  exact⟨v,w,hrun,by simpa using hown,⟨rfl,rfl,rfl,Nat.le_refl _,λ_ _ _=>rfl⟩,λk hk=>Or.inl hk⟩
 ·rcases hown.2 with ⟨rfl,rfl⟩|⟨r,cap,cur,rfl,hb,hg,hc,hm,hsz,hcur⟩
  ·obtain rfl:xs=[]:=by simpa using hown.1
   obtain⟨v',w2,hrun,ho2,hgr,_⟩:=run_append_own (P:=P) w w.heap.size t ty e i0 z size bytes I.sl hi hz0 hz1 hz2 hz3 I.pos (.slice none 0 0) 0 [] (World.ownsRow_nil _ _ _ _) ad m c news hl hnews h1 h63 hby (Nat.le_refl _)
   exact⟨v',w2,hrun,dL ho2 hB,hgr,λk hk=>Or.inr (ho2.lt k hk).1⟩
  ·by_cases hfit:n+m≤cap
   ·obtain⟨w2,hrun,ho2,hgr⟩:=run_append_fits (P:=P) w B t ty e i0 size I.sl hi hz1 r n cap xs hown ad m c news hl hnews h1 hfit
    exact⟨_,w2,hrun,ho2,hgr,λk hk=>Or.inl hk⟩
   ·obtain⟨v',w2,hrun,ho2,hgr⟩:=run_append_arg_grows (P:=P) w t ty e i0 z size bytes I.sl hi hz0 hz1 hz2 hz3 I.pos ⟨r,0,none⟩ n cap xs hown.1 (λj u hj=>hown.cells (g:=r) rfl j u hj) ad m c news hl hnews Yo h63 hby
    exact⟨v',w2,hrun,dL ho2 hB,⟨hgr.os,hgr.tape,hgr.output,hgr.size,λk hk _=>hgr.block k hk (by simp)⟩,λk hk=>Or.inr (ho2.lt k hk).1⟩
variable {o:Oper} {a:Act} {K:Act→World→Prop} {Q:Exit→Act→World→Prop}
theorem aBh {s x : Operand} (ho : o.op = .call { callee := .builtin .append, args := #[s, x], argTypes := #[t, t] }) (I : InfK P t e size bytes) {B : Nat} (hB : B ≤ w.heap.size) {v u : Value} {n m : Nat} {xs news : List Value} (hs : a.eval s = v) (hx : a.eval x = u) (hown : w.ownsRow B e size v n xs) (hr : Rdc w size u m news) (h1 : ∀ u ∈ news, u.oneCell' = true) (h63 : n + m ≤ maxLen) (hby : (n + m) * bytes ≤ 140737488355328)
  (h:∀v' w',w'.ownsRow B e size v' (n+m) (xs++news)→w.grownBy w' v.ownBlock→(∀k,v'.ownBlock=some k→v.ownBlock=some k∨w.heap.size≤k)→K (a.put o.dst v') w'):WpI P o a w K Q:=by
 obtain⟨v',w',hrun,h2,h3,h4⟩:=aMC (P:=P) I hB o.type hown hr h1 h63 hby
 refine⟨?_⟩
 unfold Oper.wp execOp
 simp only[ho,resolve,invoke,builtin,Sem.run_bind,Sem.run_pure,Result.andThen_ok,List.map_toArray,List.map_cons,List.map_nil,hs,hx,hrun]
 exact h v' w' h2 h3 h4
end
def It.and(x y:It):It:=⟨λw=>x.p w∧y.p w,λk=>x.foot k∨y.foot k,λh e=>⟨x.ok h.1 (λk h1 h2=>e k h1 (Or.inl h2)),y.ok h.2 (λk h1 h2=>e k h1 (Or.inr h2))⟩,λh e=>by
 rcases e with e|e
 ·exact x.lt h.1 e
 ·exact y.lt h.2 e⟩
theorem Cx.merge{w0 w:World}{x y:It}{l:List It}(H:Cx w0 w (x::y::l)):Cx w0 w (x.and y::l):=by
 obtain⟨d1,d2⟩:=List.pairwise_cons.1 H.dis
 obtain⟨d3,d4⟩:=List.pairwise_cons.1 d2
 refine⟨H.bel,λz hz=>?_,λz hz j hj=>?_,List.pairwise_cons.2 ⟨λz hz j h1 h2=>?_,d4⟩⟩
 ·rcases List.mem_cons.1 hz with rfl|hz
  ·exact⟨H.o0,H.o1⟩
  ·exact H.it z (List.mem_cons_of_mem _ (List.mem_cons_of_mem _ hz))
 ·rcases List.mem_cons.1 hz with rfl|hz
  ·rcases hj with hj|hj
   ·exact H.up x List.mem_cons_self j hj
   ·exact H.up y (List.mem_cons_of_mem _ List.mem_cons_self) j hj
  ·exact H.up z (List.mem_cons_of_mem _ (List.mem_cons_of_mem _ hz)) j hj
 ·rcases h1 with h1|h1
  ·exact d1 z (List.mem_cons_of_mem _ hz) j h1 h2
  ·exact d3 z hz j h1 h2
section
variable {P:Program} {ops:Array Oper} {Q:Exit→Act→World→Prop} {A:Act} {L:List (Nat×Value)} {w0 w:World} {rest:List Oper} {o:Oper} {d:Nat} {l:List It} {x0 x1 x2 x3 x4 x5:It} {t e:TypeId} {size bytes n m:Nat} {v u:Value} {xs news:List Value} {s x:Operand}
end
end Go.Proofs.YtdhblehhgpdpdacGreat
