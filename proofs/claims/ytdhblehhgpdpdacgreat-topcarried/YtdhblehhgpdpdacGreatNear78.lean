import Derived.Test.YtdhblehhgpdpdacGreatRefSeal
namespace Go.Proofs.YtdhblehhgpdpdacGreat
open Go.RowKit
theorem aLI(K F R:Int)(n:Nat)(f:Nat→Int)(i:Nat)(hi:i<3):#[Value.int .u8 87,.int .u8 (K%256),.int .u8 (F%256)][i]?=some (bF (enF K F R n f) i):=by
 have:i=0∨i=1∨i=2:=Yo
 rcases this with rfl|rfl|rfl
 ·rfl
 ·show some (Value.int .u8 (K%256))=some (Value.int .u8 (((K%256).toNat:Nat):Int));congr 2;omega
 ·show some (Value.int .u8 (F%256))=some (Value.int .u8 (((F%256).toNat:Nat):Int));congr 2;omega
theorem aKP(K F R:Int)(n:Nat)(f:Nat→Int):rowV (bF (enF K F R n f)) 3++rowV (bF (bt R 4)) 4=rowV (bF (enF K F R n f)) 7:=by
 rw[lM]
 refine iB (λi hi=>?_)
 by_cases h:i<3
 ·rw[if_pos h]
 ·rw[if_neg h]
  unfold bF
  congr 1
  unfold enF
  rw[if_neg Yo,if_neg Yo,if_neg Yo,if_pos Yo]
theorem aLz(K F R:Int)(n:Nat)(f:Nat→Int)(u:Nat→Value)(hu:u 0=.int .u8 (n:Int))(hn:n≤24):rowV (bF (enF K F R n f)) 7++rowV u 1=rowV (bF (enF K F R n f)) 8:=by
 rw[lM]
 refine iB (λi hi=>?_)
 by_cases h:i<7
 ·rw[if_pos h]
 ·rw[if_neg h]
  have:i=7:=Yo
  subst this
  show u 0=Value.int .u8 ((n%256:Nat):Int)
  rw[hu];congr 1;omega
theorem aPL(K F R:Int)(n:Nat)(f:Nat→Int)(j:Nat):rowV (bF (enF K F R n f)) (8+8*j)++rowV (bF (bt (f j) 8)) 8=rowV (bF (enF K F R n f)) (8+8*(j+1)):=by
 rw[lM]
 refine iB (λi hi=>?_)
 by_cases h:i<8+8*j
 ·rw[if_pos h]
 ·rw[if_neg h]
  unfold bF
  congr 1
  have:=aGn K F R n f j (i-(8+8*j)) Yo
  rw[show 8+8*j+(i-(8+8*j))=i by omega] at this
  exact this.symm
set_option maxHeartbeats 1000000 in
theorem aAx (K F R : Int) (ao : Option Addr) (n cap : Nat) (w : World) :
  Calls Tryz.prog 22 #[kX K F R (.slice ao n cap)] w λe w'=>e=.returned (.int .i64 (dD K F R n))∧Below w.heap.size w w':=by
 obtain⟨w1,e1,m1,k1,_⟩:=sH w K F R (.slice ao n cap)
 have c0:=m1.cell0;have c1:=m1.cell1;have c2:=m1.cell2;have c3:=m1.cell3
 have E1:=aA e1;have K1:=aA k1
 clear e1 m1 k1
 unfold kX
 by_cases h1:K<1
 ·have G:=aA (show dD K F R n=4 by unfold dD;rw[if_pos Yo])
  go_enter Tryz.func22,Tryz.ntmps22
  go_wp2_with fail
  rw[←unhide E1]
  go_wp2_with fail
  go_ret
  exact⟨by rw[unhide G];rfl,unhide K1⟩
 ·skip
  by_cases h2:5<K
  ·have G:=aA (show dD K F R n=4 by unfold dD;rw[if_pos Yo])
   go_enter Tryz.func22,Tryz.ntmps22
   go_wp2_with fail
   rw[←unhide E1]
   go_wp2_with fail
   go_ret
   exact⟨by rw[unhide G];rfl,unhide K1⟩
  ·skip
   by_cases h3:F<0
   ·have G:=aA (show dD K F R n=3 by unfold dD;rw[if_neg Yo,if_pos Yo])
    go_enter Tryz.func22,Tryz.ntmps22
    go_wp2_with fail
    rw[←unhide E1]
    go_wp2_with fail
    go_ret
    exact⟨by rw[unhide G];rfl,unhide K1⟩
   ·skip
    by_cases h4:4≤F
    ·have G:=aA (show dD K F R n=3 by unfold dD;rw[if_neg Yo,if_pos Yo])
     go_enter Tryz.func22,Tryz.ntmps22
     go_wp2_with fail
     rw[←unhide E1]
     go_wp2_with fail
     go_ret
     exact⟨by rw[unhide G];rfl,unhide K1⟩
    ·skip
     by_cases h5:R<0
     ·have G:=aA (show dD K F R n=3 by unfold dD;rw[if_neg Yo,if_pos Yo])
      go_enter Tryz.func22,Tryz.ntmps22
      go_wp2_with fail
      rw[←unhide E1]
      go_wp2_with fail
      go_ret
      exact⟨by rw[unhide G];rfl,unhide K1⟩
     ·skip
      by_cases h6:2147483647<R
      ·have G:=aA (show dD K F R n=3 by unfold dD;rw[if_neg Yo,if_pos Yo])
       go_enter Tryz.func22,Tryz.ntmps22
       go_wp2_with fail
       rw[←unhide E1]
       go_wp2_with fail
       go_ret
       exact⟨by rw[unhide G];rfl,unhide K1⟩
      ·skip
       by_cases h7:(24:Int)<(n:Int)
       ·have G:=aA (show dD K F R n=6 by unfold dD;rw[if_neg Yo,if_neg Yo,if_pos Yo])
        go_enter Tryz.func22,Tryz.ntmps22
        go_wp2_with fail
        rw[←unhide E1]
        go_wp2_with fail
        go_ret
        exact⟨by rw[unhide G];rfl,unhide K1⟩
       ·have G:=aA (show dD K F R n=0 by unfold dD;rw[if_neg Yo,if_neg Yo,if_neg Yo])
        go_enter Tryz.func22,Tryz.ntmps22
        go_wp2_with fail
        rw[←unhide E1]
        go_wp2_with fail
        go_ret
        exact⟨by rw[unhide G];rfl,unhide K1⟩
theorem aBN (n : Nat) (w : World) (h : n ≤ 255) :
  Calls Tryz.prog 23 #[.int .i64 (n:Int)] w λe w'=>e=.returned (.int .i64 ((8+8*n:Nat):Int))∧w'=w:=by
 go_enter Tryz.func23,Tryz.ntmps23
 go_wp2_with fail
 go_ret
 exact⟨by go_num,rfl⟩
theorem aLK(V:Int)(j:Nat)(hj:j<8):IntKind.u64.wrap V/2^(8*j)%256=V/256^j%256:=by
 have e:IntKind.u64.wrap V=V%18446744073709551616:=rfl
 rw[e]
 clear e
 have:j=0∨j=1∨j=2∨j=3∨j=4∨j=5∨j=6∨j=7:=Yo
 rcases this with e|e|e|e|e|e|e|e<;>subst e<;>simp<;>omega
theorem aNf(V:Int)(N k:Nat)(hk:k<N)(y:Int)(hy:y=V/256^(N-1-k)%256):rowV (bF (bt V N)) k++rowV (λ_=>Value.int .u8 y) 1=rowV (bF (bt V N)) (k+1):=by
 rw[lM]
 refine iB (λi hi=>?_)
 by_cases h:i<k
 ·rw[if_pos h]
 ·rw[if_neg h]
  have:i=k:=Yo
  subst this
  show Value.int .u8 y=Value.int .u8 ((bt V N i:Nat):Int)
  rw[aJO,hy]
set_option maxHeartbeats 1000000 in
theorem aCZ (B : Nat) (ao : Option Addr) (n cap : Nat) (xs : List Value) (V : Int) (N : Nat) (w : World) (hv : R64 V) (hN : N ≤ 8) (hB : B ≤ w.heap.size) (hn : n ≤ 1000) (ho : w.ownsRow B 5 1 (.slice ao n cap) n xs) :
  Calls Tryz.prog 24 #[.slice ao n cap,.int .i64 V,.int .i64 (N:Int)] w λe w'=>∃v,e=.returned v∧w'.ownsRow B 5 1 v (n+N) (xs++rowV (bF (bt V N)) N)∧Below B w w':=by
 have HV:=aA hv;have HO:=aA ho;have HB:=aA hB
 clear hv ho hB
 go_enter Tryz.func24,Tryz.ntmps24
 go_wp2_with fail
 go_loopw [0,7] (λbs is wr=>∃(k c:Nat) (ao:Option Addr),k≤N∧is=.int .i64 ((N:Int)-1-k)∧bs=.slice ao (n+k) c∧wr.ownsRow B 5 1 (.slice ao (n+k) c) (n+k) (xs++rowV (bF (bt V N)) k)∧Below B w wr)
  (λ_ is _=>(intOf is+1).toNat)
 case atStart=>exact⟨0,cap,ao,Nat.zero_le _,by go_num,rfl,by simpa [rowV] using unhide HO,Below.refl _ _⟩
 case round=>
  obtain⟨k,c,ai,hk,rfl,rfl,ho,hK⟩:=hrel
  rename World=>wr
  by_cases hin:k<N
  ·obtain⟨j,ej⟩:∃j:Nat,(N:Int)-1-k=j:=⟨N-1-k,Yo⟩
   rw[ej]
   obtain⟨x,ex⟩:∃x,x=IntKind.u64.wrap V/2^(8*j)%256:=⟨_,rfl⟩
   have ey:x=V/256^(N-1-k)%256:=by rw[ex,aLK V j Yo,show N-1-k=j by omega]
   have BR:=aA (aNf V N k hin x ey)
   have A:=bR wr (.cells #[.int .u8 x] 5)
   have hv:Vh 5 (wr.alloc (.cells #[.int .u8 x] 5)) wr.heap.size 1 1 (λ_=>.int .u8 x):=Vh.new wr 5 #[.int .u8 x] _ (by show 1≤maxLen;decide) (λi hi=>by
    have:i=0:=by simp at hi;omega
    subst this;rfl)
   have kB:=hK.trans (A.mono (Nat.le_trans (unhide HB) hK.size))
   have O1:=aA (vJ ho A);have KB:=aA kB;have ZB:=aA (Nat.le_trans (unhide HB) kB.size)
   have R1:=aA (show Sr (wr.alloc (.cells #[.int .u8 x] 5)) (some ⟨wr.heap.size,0,none⟩) 1 1 (λ_=>.int .u8 x) from Or.inr ⟨_,rfl,λi hi=>by rw[Addr.add_lit,Nat.zero_add];exact hv.cell hi⟩)
   have EJ:=aA ej
   obtain⟨w1,e1⟩:∃w1,w1=wr.alloc (.cells #[.int .u8 x] 5):=⟨_,rfl⟩
   rw[←e1] at O1 KB ZB R1
   rw[ex] at e1
   have E1:=aA e1
   have j1:(j:Int)<8:=Yo
   clear ho hK hv kB A ex ey e1
   have EK:=aA (show (N:Int)-1-((k+1:Nat):Int)=(j:Int)-1 by have:=unhide EJ;omega)
   clear ej
   go_wp2_with (at_builtin;rw[←unhide E1];refine wpList_join _ rfl _ _ rfl B (unhide ZB) _ (n+k) (xs++rowV (bF (bt V N)) k) rfl (unhide O1) (some ⟨wr.heap.size,0,none⟩) 1 1 (λ_=>.int .u8 x) rfl (unhide R1) (λi _=>rfl) Yo ?_)
   intro v2 w2 h2 k2
   have h3:w2.ownsRow B 5 1 v2 (n+(k+1)) (xs++rowV (bF (bt V N)) (k+1)):=by rw[←unhide BR];exact h2
   clear h2
   rename w2.ownsRow B 5 1 v2 (n+(k+1)) (xs++rowV (bF (bt V N)) (k+1))=>h2
   obtain⟨a2,c2,rfl⟩:=jO h2
   have H2:=aA h2;have K2:=aA ((unhide KB).trans k2)
   clear h2 k2
   go_wp2_with fail
   go_roundw
   case rel=>exact⟨k+1,c2,a2,Yo,by rw[unhide EK],rfl,unhide H2,unhide K2⟩
   case measure=>simp[intOf]<;>omega
  ·have:k=N:=Yo
   subst this
   have HO1:=aA ho;have HK:=aA hK
   clear ho hK
   go_wp2_with fail
   go_ret
   exact⟨_,rfl,unhide HO1,unhide HK⟩
set_option maxHeartbeats 1000000 in
theorem aBm (K F R : Int) (ao : Option Addr) (n cap : Nat) (w : World) (hw : dD K F R n ≠ 0) :
  Calls Tryz.prog 15 #[kX K F R (.slice ao n cap)] w λe w'=>e=.returned (.tuple #[.slice none 0 0,.int .i64 (dD K F R n)])∧Below w.heap.size w w':=by
 obtain⟨w1,e1,m1,k1,s1⟩:=sH w K F R (.slice ao n cap)
 have c0:=m1.cell0;have c1:=m1.cell1;have c2:=m1.cell2;have c3:=m1.cell3
 have E1:=aA e1;have K1:=aA k1;have S1:=aA s1
 clear e1 m1 k1 s1
 unfold kX
 go_enter Tryz.func15,Tryz.ntmps15
 go_wp2_with fail
 rw[←unhide E1]
 go_wp2_with fail
 refine (aAx K F R ao n cap _).mono ?_
 rintro e w2 ⟨rfl,k2⟩
 obtain⟨x,ex⟩:∃x,x=dD K F R n:=⟨_,rfl⟩
 rw[←ex] at hw ⊢
 have tw:(x !=0)=true:=by simp[hw]
 have K2:=aA (show Below w.heap.size w w2 from (unhide K1).trans (k2.mono (unhide K1).size))
 have EX:=aA ex
 clear k2 ex
 go_wp2_with fail
 go_ret2
 exact⟨by rw[←unhide EX];rfl,unhide K2⟩
set_option maxHeartbeats 2000000 in
theorem aBu (K F R : Int) (ao : Option Addr) (n cap : Nat) (f : Nat → Int) (w : World) (hR : R64 R) (hf : ∀ i, R64 (f i)) (hr : Rd w ao n (iF f)) (hw : dD K F R n = 0) :
  Calls Tryz.prog 15 #[kX K F R (.slice ao n cap)] w λe w'=>∃v,e=.returned (.tuple #[v,.int .i64 0])∧w'.ownsRow w.heap.size 5 1 v (12+8*n) (rowV (bF (enS K F R n f)) (12+8*n))∧Below w.heap.size w w':=by
 have hn:=(nV hw).2.2.2.2.2.2
 obtain⟨w1,e1,m1,k1,s1⟩:=sH w K F R (.slice ao n cap)
 have c0:=m1.cell0;have c1:=m1.cell1;have c2:=m1.cell2;have c3:=m1.cell3
 have E1:=aA e1;have M1:=aA m1;have K1:=aA k1;have S1:=aA s1;have HW:=aA hw;have HF:=aA hf;have HR:=aA hr;have H64:=aA hR
 clear e1 m1 k1 s1 hw hf hr hR
 unfold kX
 go_enter Tryz.func15,Tryz.ntmps15
 go_wp2_with fail
 rw[←unhide E1]
 go_wp2_with fail
 refine (aAx K F R ao n cap _).mono ?_
 rintro e w2 ⟨rfl,k2⟩
 rw[unhide HW]
 have S2:=aA (show w.heap.size+1≤w2.heap.size by have:=unhide S1;have:=k2.size;omega)
 have K2:=aA (show Below w.heap.size w w2 from (unhide K1).trans (k2.mono (unhide K1).size))
 have m2:=(unhide M1).below k2
 have M2:=aA m2
 clear k2 c0 c1 c2 c3 K1 M1 S1
 have c3:=m2.cell3
 clear m2
 go_wp2_with fail
 refine (aBN n _ Yo).mono ?_
 rintro e w2' ⟨rfl,rfl⟩
 clear c3
 go_wp2_with (at_make;refine wpList_makeC _ rfl _ _ rfl 0 (8+8*n) rfl rfl Yo Yo ?_)
 intro w3 z3 v3 k3
 have O3:=aA (v3.owns (base:=w.heap.size+1) (unhide S2));have K3:=aA (show Below w.heap.size w w3 from (unhide K2).trans (k3.mono (unhide K2).size));have m3:=(unhide M2).below k3;have S3:=aA (show w.heap.size+1≤w3.heap.size by have:=unhide S2;omega)
 clear v3 k3 z3 M2 K2 S2
 have A4:=bR w3 (.cells #[.int .u8 87,.int .u8 (K%256),.int .u8 (F%256)] 5)
 have V4:=Vh.new w3 5 #[.int .u8 87,.int .u8 (K%256),.int .u8 (F%256)] (bF (enF K F R n f)) (by show 3≤maxLen;decide) (λi hi=>aLI K F R n f i (by simpa using hi))
 have O4:=aA (vJ (unhide O3) A4)
 have R4:=aA (show Sr (w3.alloc (.cells #[.int .u8 87,.int .u8 (K%256),.int .u8 (F%256)] 5)) (some ⟨w3.heap.size,0,none⟩) 3 3 (bF (enF K F R n f)) from Or.inr ⟨_,rfl,λi hi=>by rw[Addr.add_lit,Nat.zero_add];exact V4.cell hi⟩)
 have K4:=aA (show Below w.heap.size w (w3.alloc (.cells #[.int .u8 87,.int .u8 (K%256),.int .u8 (F%256)] 5)) from (unhide K3).trans (A4.mono (unhide K3).size));have S4:=aA (show w.heap.size+1≤(w3.alloc (.cells #[.int .u8 87,.int .u8 (K%256),.int .u8 (F%256)] 5)).heap.size by have:=unhide S3;have:=A4.size;omega)
 have M4:=aA (m3.below A4)
 have c0:=m3.cell0;have c1:=m3.cell1
 clear A4 V4 m3 O3 K3 S3
 go_wp2_with (at_builtin;refine wpList_join _ rfl _ _ rfl (w.heap.size+1) (unhide S4) _ 0 (rowV (bF (λ_=>0)) 0) rfl (unhide O4) (some ⟨w3.heap.size,0,none⟩) 3 3 (bF (enF K F R n f)) rfl (unhide R4) (λi _=>rfl) Yo ?_)
 intro v5 w5 o5 k5
 have o5':w5.ownsRow (w.heap.size+1) 5 1 v5 3 (rowV (bF (enF K F R n f)) 3):=o5
 clear o5 c0 c1
 obtain⟨a5,l5,rfl⟩:=jO o5'
 have m5:=(unhide M4).under k5 Yo
 have c2:=m5.cell2
 have O5:=aA o5';have K5:=aA (show Below w.heap.size w w5 from (unhide K4).trans (k5.mono Yo));have S5:=aA (show w.heap.size+1≤w5.heap.size by have:=unhide S4;have:=k5.size;omega);have M5:=aA m5
 clear o5' k5 m5 O4 R4 M4 K4 S4
 go_wp2_with fail
 clear c2
 refine (aCZ (w.heap.size+1) a5 3 l5 _ R 4 _ (unhide H64) Yo (unhide S5) Yo (unhide O5)).mono ?_
 rintro e w6 ⟨v6,rfl,o6,k6⟩
 rw[aKP] at o6
 obtain⟨a6,l6,rfl⟩:=jO o6
 have m6:=(unhide M5).under k6 Yo
 have A7:=bR w6 (.cells #[.int .u8 (n:Int)] 5)
 have V7:=Vh.new w6 5 #[.int .u8 (n:Int)] (λ_=>.int .u8 (n:Int)) (by show 1≤maxLen;decide) (λi hi=>by
  have:i=0:=by simp at hi;omega
  subst this;rfl)
 have S6:w.heap.size+1≤w6.heap.size:=by have:=unhide S5;have:=k6.size;omega
 have c3:=m6.cell3
 have O7:=aA (vJ o6 A7);have R7:=aA (show Sr (w6.alloc (.cells #[.int .u8 (n:Int)] 5)) (some ⟨w6.heap.size,0,none⟩) 1 1 (λ_=>.int .u8 (n:Int)) from Or.inr ⟨_,rfl,λi hi=>by rw[Addr.add_lit,Nat.zero_add];exact V7.cell hi⟩)
 have M7:=aA (m6.below A7);have K7:=aA (show Below w.heap.size w (w6.alloc (.cells #[.int .u8 (n:Int)] 5)) from ((unhide K5).trans (k6.mono Yo)).trans (A7.mono Yo));have S7:=aA (show w.heap.size+1≤(w6.alloc (.cells #[.int .u8 (n:Int)] 5)).heap.size by have:=A7.size;omega)
 clear o6 k6 m6 A7 V7 S6 O5 M5 K5 S5
 go_wp2_with (at_builtin;refine wpList_join _ rfl _ _ rfl (w.heap.size+1) (unhide S7) _ 7 (rowV (bF (enF K F R n f)) 7) rfl (unhide O7) (some ⟨w6.heap.size,0,none⟩) 1 1 (λ_=>.int .u8 (n:Int)) rfl (unhide R7) (λi _=>rfl) Yo ?_)
 intro v8 w8 o8 k8
 rw[aLz K F R n f _ rfl hn] at o8
 obtain⟨a8,l8,rfl⟩:=jO o8
 have m8:=(unhide M7).under k8 Yo
 clear c3
 have c3:=m8.cell3
 have O8:=aA o8;have K8:=aA (show Below w.heap.size w w8 from (unhide K7).trans (k8.mono Yo));have S8:=aA (show w.heap.size+1≤w8.heap.size by have:=unhide S7;have:=k8.size;omega)
 clear o8 k8 m8 O7 R7 M7 K7 S7
 go_wp2_with fail
 go_loopw [5,7,41] (λbs _ is wr=>∃(j c:Nat) (at_:Option Addr),is=.int .i64 j∧j≤n∧bs=.slice at_ (8+8*j) c∧wr.ownsRow (w.heap.size+1) 5 1 (.slice at_ (8+8*j) c) (8+8*j) (rowV (bF (enF K F R n f)) (8+8*j))∧w.heap.size+1≤wr.heap.size∧Below w.heap.size w wr)
  (λ_ _ is _=>n-(intOf is).toNat)
 case atStart=>exact⟨0,l8,a8,rfl,Nat.zero_le _,rfl,unhide O8,unhide S8,unhide K8⟩
 case round=>
  obtain⟨j,c,at_,rfl,hj,rfl,ho,hs,hK⟩:=hrel
  rename World=>wr
  by_cases hin:j<n
  ·obtain⟨b,o,rfl,hc⟩:=unhide HR Yo
   have cj:wr.cell? ⟨b,o+j,none⟩=some (.int .i64 (f j)):=bE (hc j hin) hK
   have HO:=aA ho;have HS:=aA hs;have HK:=aA hK
   clear ho hs hK hc
   go_wp2_with fail
   refine (aCZ (w.heap.size+1) at_ (8+8*j) c _ (f j) 8 _ (unhide HF j) Yo (unhide HS) Yo (unhide HO)).mono ?_
   rintro e w9 ⟨v9,rfl,o9,k9⟩
   rw[aPL,show 8+8*j+8=8+8*(j+1) by omega] at o9
   obtain⟨a9,l9,rfl⟩:=jO o9
   have O9:=aA o9;have K9:=aA (show Below w.heap.size w w9 from (unhide HK).trans (k9.mono Yo));have S9:=aA (show w.heap.size+1≤w9.heap.size by have:=unhide HS;have:=k9.size;omega)
   clear o9 k9 HO HS HK cj
   go_wp2_with fail
   go_roundw
   case rel=>exact⟨j+1,l9,a9,by go_num,Yo,rfl,unhide O9,unhide S9,unhide K9⟩
   case measure=>simp[intOf]<;>omega
  ·have:j=n:=Yo
   subst this
   have rd:=aAN ho
   have HO:=aA rd;have HK:=aA hK
   clear ho hs hK rd
   go_wp2_with fail
   refine (aMp at_ (8+8*j) c (enF K F R j f) _ (aEz K F R j f) Yo (unhide HO)).mono ?_
   rintro e w9 ⟨v9,rfl,o9,k9⟩
   rw[show 8+8*j+4=12+8*j by omega] at o9
   have O9:=aA o9;have K9:=aA (show Below w.heap.size w w9 from (unhide HK).trans (k9.mono (unhide HK).size));have Z9:=aA (unhide HK).size
   clear o9 k9
   go_wp2_with fail
   go_ret2
   exact⟨_,rfl,zJ (unhide O9) (unhide Z9),unhide K9⟩
theorem aAk:aTA 15:=by
 intro K F R ao n cap f w _ _ hR hf _ _ hr
 by_cases h:dD K F R n=0
 ·refine (aBu K F R ao n cap f w hR hf hr.rd h).mono ?_
  rintro e w' ⟨v,rfl,o,k⟩
  refine⟨v,by rw[h],?_,k⟩
  unfold enL
  rw[if_pos h]
  exact o
 ·refine (aBm K F R ao n cap w h).mono ?_
  rintro e w' ⟨rfl,k⟩
  refine⟨_,rfl,?_,k⟩
  unfold enL
  rw[if_neg h]
  exact World.ownsRow_nil _ _ _ _
end Go.Proofs.YtdhblehhgpdpdacGreat
